import Derived.Great.Walk
import Derived.Test.YtmdnjgihooflfaaGreatDoorB03
import Derived.Test.YtmdnjgihooflfaaGreatDoorB04
namespace Go.Proofs.YtmdnjgihooflfaaGreatDoor
open Go.RowKit
open Go.Value (int)
open Go.IntKind (i64)
open _root_.Go.Proofs.Tryz
set_option maxHeartbeats 64000000
set_option maxRecDepth 1000000
variable{a:Act}{w:World}{g t r k n j:Nat}{u0 u1 u2 u3 u4 u5 u6 u7:Value}{s:qe}{x:zw}{len hei now:Int}{F:Nat->Int}{o:zY}{P:Nat->Prop}{b:zA}
theorem Ka {P:Program}{c:Array Oper}{o:Oper}{K:Act->World->Prop}{Q:Exit->Act->World->Prop}{E:Prop}(g:o.guard=none)(t e:TypeId)(len:Nat)(parts:Array (Nat × Operand))(h:o.op=.buildSlice t len parts)(j:P.underlying t=some (.slice e))(cells:Array Value)
  (b:P.builtSlice e len (parts.map λ(i,x)=>(i,a.eval x)).toList=some cells) (f:K (a.put o.dst (some (w.heap.size,0),len,len)) (w.alloc (.cells cells e))) :
  if Region.wanted o (yielded c a.tmps)=true then Oper.wp P o a w K Q else E:=by
 have k:Region.wanted o (yielded c a.tmps)=true:=by simp[Region.wanted,g]
 rw[Jf k];unfold Program.builtSlice at b
 cases hie:P.info? e with
 |none=>simp[hie] at b
 |some ie =>
  simp only[hie] at b
  cases hz:ie.zero with
  |none=>simp[hz] at b
  |some z =>
   simp only[hz] at b
   by_cases hc:len*ie.size > 2 ^ 24∨len*ie.size=0
   ·simp[hc] at b
   ·rw[Je hc] at b
    exact wp_buildSlice t e len _ h _ ie z j hie hz (λd=>hc (Or.inl d)) (λd=>hc (Or.inr d)) b f
theorem KO {u8 u9 u10 u11 u12:Value}(h:w.heap[g]?=some (.cells #[u0,u1,u2,u3,u4,u5,u6,u7,u8,u9,u10,u11,u12] t (0,0)))(v0 v1 v2 v3 v4 v5 v6 v7 d e a b c:Value) :
  (((((((((((((w.setCell (g,0) v0).setCell (g,1) v1).setCell (g,2) v2).setCell (g,3) v3).setCell (g,4) v4).setCell (g,5) v5).setCell (g,6) v6).setCell (g,7) v7).setCell (g,8) d).setCell (g,9) e).setCell (g,10) a).setCell (g,11) b).setCell (g,12) c).heap[g]?=some (.cells #[v0,v1,v2,v3,v4,v5,v6,v7,d,e,a,b,c] t (0,0)):=by
 simpa using zk (zk (zk (zk (zk (zk (zk (zk (zk (zk (zk (zk (zk h 0 v0) 1 v1) 2 v2) 3 v3) 4 v4) 5 v5) 6 v6) 7 v7) 8 d) 9 e) 10 a) 11 b) 12 c
theorem KQ {W:World}{b:Nat}(h:Below W W w)(a:W.heap.size<=b)(v0 v1 v2 v3 v4 v5 v6 v7 f g c d e:Value) :
  Below W W (((((((((((((w.setCell (b,0) v0).setCell (b,1) v1).setCell (b,2) v2).setCell (b,3) v3).setCell (b,4) v4).setCell (b,5) v5).setCell (b,6) v6).setCell (b,7) v7).setCell (b,8) f).setCell (b,9) g).setCell (b,10) c).setCell (b,11) d).setCell (b,12) e):=by
 exact(Below.setCell (Below.setCell (Below.setCell (Below.setCell (Below.setCell (Below.setCell (Below.setCell (Below.setCell (Below.setCell (Below.setCell (Below.setCell (Below.setCell (Below.setCell h a v0) a v1) a v2) a v3) a v4) a v5) a v6) a v7) a f) a g) a c) a d) a e)
theorem He (w:World)(b:Nat)(v0 v1 v2 v3 v4 v5 v6 v7 e f a c d:Value) :
  zl w (((((((((((((w.setCell (b,0) v0).setCell (b,1) v1).setCell (b,2) v2).setCell (b,3) v3).setCell (b,4) v4).setCell (b,5) v5).setCell (b,6) v6).setCell (b,7) v7).setCell (b,8) e).setCell (b,9) f).setCell (b,10) a).setCell (b,11) c).setCell (b,12) d) (λx=>x=b):=by
 exact((((((((((((((zl.refl w (λx=>x=b)).set rfl v0).set rfl v1).set rfl v2).set rfl v3).set rfl v4).set rfl v5).set rfl v6).set rfl v7).set rfl e).set rfl f).set rfl a).set rfl c).set rfl d)
section
section
variable {P : Program} {ops : Array Oper} {Q : Exit -> Act -> World -> Prop} {md : Region.Mode} {S : World -> Prop} {z : Nat}
theorem LY {i:Nat}{q:Oper}{v:Value}(C:ops[i]?=some q)(hz:z=ops.size)(n:∀ (j:Nat)(o:Oper) cs b,ops[j]?=some o->o.op≠.select cs b)
  (J:∀ c a w,Q (.panic c) (a.put q.dst v) w->Q (.panic c) a w) :
  ∀ (fuel:Nat) (d:Array Bool) (a:Act) (w:World),
   (∀ j p,ops[j]?=some p->j≠i->d.getD j true=false->(∀ e ∈ p.after,Region.binds md e=true->e.on≠i)->q.apart ops p=true) ->
   i ∈ Region.ready md ops d->YieldsIf P ops S q v a->S w ->
   Zf P md ops Q S z fuel (d.setIfInBounds i true) (a.put q.dst v) w->Zf P md ops Q S z (fuel+1) d a w:=by
 intro fuel
 induction fuel with
 |zero =>
  intro d a w _ hr y r H;refine⟨λh=>(by rw[h] at hr;cases hr),λj x=>?_⟩
  by_cases hji:j=i
  ·subst hji;exact y.wpOp C r ⟨λ_=>r,H⟩
  ·have:=ready_mono x hji
   rw[H.1] at this
   cases this
 |succ fuel ih =>
  intro d a w f hr y r H;refine⟨λh=>(by rw[h] at hr;cases hr),λj x=>?_⟩
  by_cases hji:j=i
  ·subst hji;exact y.wpOp C r ⟨λ_=>r,H⟩
  ·have h1:=H.2 j (ready_mono x hji)
   obtain⟨m,p,l,s⟩:=mem_ready.1 x;have D:j≠z:=λe=>by
    have:=(Array.getElem?_eq_some_iff.1 l).1
    omega
   have t:∀ e ∈ p.after,_->e.on≠i:=λe L K B=>by
    have h1:=s e L K;have G:=(mem_ready.1 hr).1;rw[B] at h1
    rcases Nat.lt_or_ge i d.size with A|A
    ·simp[A] at G h1;rw[G] at h1;cases h1
    ·simp[Array.getElem?_eq_none A] at h1
   have h2:=wpOp_putIf l (f j p l hji m t) (λcs b=>n i q cs b C) (λcs b=>n j p cs b l) J y h1
   have g:∀ k ok,_->_->(d.setIfInBounds j _).getD k _=false ->
     _:=λk ok M E u F=>by
    refine f k ok M E ?_ F
    by_cases hjk:j=k
    ·subst hjk;exact m
    ·rw[getD_set_ne _ hjk] at u;exact u
   refine wpOp_mono (λI w' h3=>⟨h3.2.1,ih _ I w' g (ready_mono hr (Ne.symm hji)) h3.1 (h3.2.1 D) ?_⟩) h2
   rw[Array.setIfInBounds_comm _ _ hji];exact h3.2.2
end
section
variable {P : Program} {l : List Oper} {Q : Exit -> Act -> World -> Prop} {md : Region.Mode} {S : World -> Prop} {z : Nat}
theorem En {i:Nat}{e:Oper}{v:Value}{fuel:Nat}{b:List Bool}{a:Act}{w:World}(f:l[i]?=some e)
  (d:(Region.noSelect l.toArray && Region.free md l.toArray b.toArray i && (Region.ready md l.toArray b.toArray).contains i && (z == l.toArray.size))=true)
  (g:∀ c a w,Q (.panic c) (a.put e.dst v) w->Q (.panic c) a w) (k:YieldsIf P l.toArray S e v a) (j:S w)
  (h:Zf P md l.toArray Q S z fuel (b.set i true).toArray (a.put e.dst v) w):Zf P md l.toArray Q S z (fuel+1) b.toArray a w:=by
 rw[Bool.and_eq_true,Bool.and_eq_true,Bool.and_eq_true] at d;exact LY (by simpa using f) (by simpa using d.2) (Region.noSelect_spec d.1.1.1) g _ _ a w (Region.free_spec (by simpa using f) d.1.1.2) (by simpa using d.1.2) k j (by simpa using h)
end
theorem Tr {P:Program}{l:List Oper}{Q:Exit->Act->World->Prop}{e:Region.Mode}{S:World->Prop}{z:Nat}(i:Nat){d:Oper}{v:Value}{fuel:Nat}{b:List Bool}{a:Act}{w:World}(j:l[i]?=some d)
  (k:(Region.noSelect l.toArray && Region.free e l.toArray b.toArray i && (Region.ready e l.toArray b.toArray).contains i && (z == l.toArray.size))=true)
  (f:∀ c a w,Q (.panic c) (a.put d.dst v) w->Q (.panic c) a w) (m:Region.wanted d (yielded l.toArray a.tmps)=true) (g:S w) (n:∀ w,S w->(execOp a.eval d).run P w=.ok (.value v) w)
  (h:Zf P e l.toArray Q S z fuel (b.set i true).toArray (a.put d.dst v) w):Zf P e l.toArray Q S z (fuel+1) b.toArray a w:=En j k f (Or.inl ⟨m,n⟩) g h
end
section
def fs:List Oper->List Bool->Nat->Option (Nat × Oper)
 |o :: _,false :: _,i=>some (i,o)
 |_ :: l,true :: b,i=>fs l b (i+1)
 |_,_,_=>none
theorem ft:∀ (l:List Oper)(b:List Bool)(s i:Nat)(o:Oper),fs l b s=some (i,o)->∃ j,i=s+j/\l[j]?=some o
 |o' :: l,false :: b,s,i,o,h=>by simp only[fs,Option.some.injEq,Prod.mk.injEq] at h;obtain⟨rfl,rfl⟩:=h;exact⟨0,rfl,rfl⟩
 |o' :: l,true :: b,s,i,o,h=>by
  obtain⟨j,h1,h2⟩:=ft l b (s+1) i o (by simpa only [fs] using h)
  exact⟨j+1,by omega,by simpa using h2⟩
 |[],b,s,i,o,h=>by simp[fs] at h
 |_ :: _,[],s,i,o,h=>by simp[fs] at h
theorem Kj {l:List Oper}{b:List Bool}{k i:Nat}{o:Oper}(h:fs (l.drop k) (b.drop k) k=some (i,o)):l[i]?=some o:=by
 obtain⟨j,rfl,h2⟩:=ft _ _ _ _ _ h;rw[List.getElem?_drop] at h2;exact h2
section
variable {P : Program} {l : List Oper} {Q : Exit -> Act -> World -> Prop} {md : Region.Mode} {S : World -> Prop} {z : Nat}
theorem tFL (k:Nat){i:Nat}{d:Oper}{v:Value}{fuel:Nat}{b:List Bool}{a:Act}{w:World}(g:fs (l.drop k) (b.drop k) k=some (i,d))
  (j:(Region.noSelect l.toArray && Region.free md l.toArray b.toArray i && (Region.ready md l.toArray b.toArray).contains i && (!(i == z) && Dw md l.toArray z && KN md l.toArray b.toArray && (z+1 == l.toArray.size)))=true)
  (e:∀ c a w,Q (.panic c) (a.put d.dst v) w->Q (.panic c) a w) (m:Region.wanted d (yielded l.toArray a.tmps)=true) (f:S w) (n:∀ w,S w->(execOp a.eval d).run P w=.ok (.value v) w)
  (h:Zf P md l.toArray Q S z fuel (b.set i true).toArray (a.put d.dst v) w):Zf P md l.toArray Q S z (fuel+1) b.toArray a w:=Em (Kj g) j e (Or.inl ⟨m,n⟩) f h
theorem tFN (k:Nat){i:Nat}{d:Oper}{v:Value}{fuel:Nat}{b:List Bool}{a:Act}{w:World}(g:fs (l.drop k) (b.drop k) k=some (i,d))
  (j:(Region.noSelect l.toArray && Region.free md l.toArray b.toArray i && (Region.ready md l.toArray b.toArray).contains i && (z == l.toArray.size))=true)
  (e:∀ c a w,Q (.panic c) (a.put d.dst v) w->Q (.panic c) a w) (m:Region.wanted d (yielded l.toArray a.tmps)=true) (f:S w) (n:∀ w,S w->(execOp a.eval d).run P w=.ok (.value v) w)
  (h:Zf P md l.toArray Q S z fuel (b.set i true).toArray (a.put d.dst v) w):Zf P md l.toArray Q S z (fuel+1) b.toArray a w:=En (Kj g) j e (Or.inl ⟨m,n⟩) f h
end
end
section
theorem ny {α:Type _}(l:List α)(i:Nat)(a:α):l.toArray.setIfInBounds i a=(l.set i a).toArray:=sB ..
theorem nz {α:Type _}(x a:α)(l:List α):(x :: l).set 0 a=a :: l:=rfl
theorem oc {α:Type _}(x a:α)(l:List α)(n:Nat):(x :: l).set (n+1) a=x :: l.set n a:=rfl
section
variable {P : Program} {l : List Oper} {Q : Exit -> Act -> World -> Prop} {md : Region.Mode} {S : World -> Prop} {z : Nat} (k : Nat) {i : Nat} {oi : Oper} {v : Value} {fuel : Nat} {listed : List Bool} {a : Act} {w : World} {R : Prop}
theorem QD (h:R)(f:fs (l.drop k) (listed.drop k) k=some (i,oi):=by rfl)
  (g:(Region.noSelect l.toArray && Region.free md l.toArray listed.toArray i && (Region.ready md l.toArray listed.toArray).contains i && (z == l.toArray.size))=true:=by kernel_rfl)
  (b:∀ c a w,Q (.panic c) (a.put oi.dst v) w->Q (.panic c) a w:=by exact λ_ _ _ h=>h) (j:Region.wanted oi (yielded l.toArray a.tmps)=true:=by rfl) (e:S w:=by assumption) (m:∀ w,S w->(execOp a.eval oi).run P w=.ok (.value v) w:=by intro w' h;(try dsimp only at h);go_simp;try with_reducible rfl)
  (d:R->Zf P md l.toArray Q S z fuel (listed.set i true).toArray (a.put oi.dst v) w:=by intro h;simp only[Act.put,ny,nz,oc];exact h):Zf P md l.toArray Q S z (fuel+1) listed.toArray a w:=En (Kj f) g b (Or.inl ⟨j,m⟩) e (d h)
theorem Ax (h:R)(f:fs (l.drop k) (listed.drop k) k=some (i,oi):=by rfl)
  (g:(Region.noSelect l.toArray && Region.free md l.toArray listed.toArray i && (Region.ready md l.toArray listed.toArray).contains i && (!(i == z) && Dw md l.toArray z && KN md l.toArray listed.toArray && (z+1 == l.toArray.size)))=true:=by kernel_rfl)
  (b:∀ c a w,Q (.panic c) (a.put oi.dst v) w->Q (.panic c) a w:=by exact λ_ _ _ h=>h) (j:Region.wanted oi (yielded l.toArray a.tmps)=true:=by rfl) (e:S w:=by assumption) (m:∀ w,S w->(execOp a.eval oi).run P w=.ok (.value v) w:=by intro w' h;(try dsimp only at h);go_simp;try with_reducible rfl)
  (d:R->Zf P md l.toArray Q S z fuel (listed.set i true).toArray (a.put oi.dst v) w:=by intro h;simp only[Act.put,ny,nz,oc];exact h):Zf P md l.toArray Q S z (fuel+1) listed.toArray a w:=Em (Kj f) g b (Or.inl ⟨j,m⟩) e (d h)
end
end
section
section
variable {P : Program} {md : Region.Mode} {l : List Oper} {Q : Exit -> Act -> World -> Prop} {S : World -> Prop} {z : Nat}
abbrev TI (P:Program)(c:Region.Mode)(l:List Oper)(Q:Exit->Act->World->Prop)(S:World->Prop)(z fuel:Nat)(b:List Bool)(a:Act)(w:World)(i:Nat)(o:Oper):Prop :=
 ∀ K':Act->World->Prop,Shut (∀ a w,S w->(S w->Zf P c l.toArray Q S z fuel (b.set i true).toArray a w)->K' a w)->if Region.wanted o (yielded l.toArray a.tmps)=true then Oper.wp P o a w K' Q else K' (a.put o.dst undef) w
variable {fuel : Nat} {listed : List Bool} {a : Act} {w : World} {o o2 o3 : Oper}
theorem Ay (i:Nat)(h:TI P md l Q S z fuel listed a w i o)(b:l[i]?=some o:=by rfl)(hr:Region.ready md l.toArray listed.toArray=[i]:=by kernel_rfl):Zf P md l.toArray Q S z (fuel+1) listed.toArray a w:=zB hr (by simp) (zj.consL b h zj.nil)
theorem eq (i j:Nat)(h:TI P md l Q S z fuel listed a w i o)(h2:TI P md l Q S z fuel listed a w j o2)(c:l[i]?=some o:=by rfl)(b:l[j]?=some o2:=by rfl)(hr:Region.ready md l.toArray listed.toArray=[i,j]:=by kernel_rfl):Zf P md l.toArray Q S z (fuel+1) listed.toArray a w:=zB hr (by simp) (zj.consL c h (zj.consL b h2 zj.nil))
theorem rj (i j k:Nat)(h:TI P md l Q S z fuel listed a w i o)(h2:TI P md l Q S z fuel listed a w j o2)(h3:TI P md l Q S z fuel listed a w k o3)(d:l[i]?=some o:=by rfl)(b:l[j]?=some o2:=by rfl)(c:l[k]?=some o3:=by rfl)(hr:Region.ready md l.toArray listed.toArray=[i,j,k]:=by kernel_rfl):Zf P md l.toArray Q S z (fuel+1) listed.toArray a w:=zB hr (by simp) (zj.consL d h (zj.consL b h2 (zj.consL c h3 zj.nil)))
theorem kc (h:∀ K':Act->World->Prop,Shut (∀ a w,Zf P md l.toArray Q S z fuel (listed.set z true).toArray a w->K' a w)->if Region.wanted o (yielded l.toArray a.tmps)=true then Oper.wp P o a w K' Q else K' (a.put o.dst undef) w)(b:l[z]?=some o:=by rfl)(hr:Region.ready md l.toArray listed.toArray=[z]:=by kernel_rfl):Zf P md l.toArray Q S z (fuel+1) listed.toArray a w:=zB hr (by simp) (zj.lastL b h)
end
end
def zw.noStay (x:zw)(r:Nat):zw:={ x with r:=x.r - 1,K:=ZN x.K r }
def zw.noRoom (x:zw)(r:Nat):zw:={ x with m:=x.m - 1,I:=ZG x.I r }
def zw.noSeat (x:zw)(r:Nat):zw:={ x with t:=x.t - 1,L:=ZG x.L r }
def zw.k2 (x:zw)(s:ql):zw:={ x with r:=x.r+1,K:=QB x.K x.r (λ_=>s) }
def zw.j6 (x:zw)(s:zU):zw:={ x with m:=x.m+1,I:=Zu x.I x.m (λ_=>s) }
def zw.k0 (x:zw)(s:qO):zw:={ x with t:=x.t+1,L:=Ak x.L x.t (λ_=>s) }
theorem qf.noStay (h:qf s x)(hr:r<x.r):qf s (x.noStay r):=by
 obtain⟨h1,h2,h3⟩:=h;refine⟨?_,h2,h3⟩
 show Tt _ (x.r - 1) (ZN _ r)
 have e:x.r=x.r - 1+1:=oM;rw[e] at h1;exact(QQ _ _ _).2 (NY ((QQ _ _ _).1 h1) oM)
theorem qf.noRoom (h:qf s x)(hr:r<x.m):qf s (x.noRoom r):=by
 obtain⟨h1,h2,h3⟩:=h;refine⟨h1,?_,h3⟩
 show QF _ (x.m - 1) (ZG _ r)
 have e:x.m=x.m - 1+1:=oM;rw[e] at h2;exact TK h2 oM
theorem qf.noSeat (h:qf s x)(hr:r<x.t):qf s (x.noSeat r):=by
 obtain⟨h1,h2,h3⟩:=h;refine⟨h1,h2,?_⟩
 show An _ (x.t - 1) (ZG _ r)
 have e:x.t=x.t - 1+1:=oM;rw[e] at h3;exact TL h3 oM
theorem qf.k2 {who:Int}(h:qf s x)(a:De s.la x.r x.K who len hei k):qf s (x.k2 ⟨who,(k:Int),len,hei⟩) :=
 ⟨(QQ _ _ _).2 (Sf a).1,h.2.1,h.2.2⟩
theorem qf.j6 {r:zU}(h:qf s x)(c:In r.e 1 9999)(a:¬ Qh (Zl x.I) x.m r.e)(b:Bh s.M (qZ s.M x.I x.m) r):qf s (x.j6 r) :=
 ⟨h.1,Sh h.2.1 c a b,h.2.2⟩
theorem Dk {S:Nat->qO}{r:qO}(h:j<n):Ak S n (λ_=>r) j=S j:=by unfold Ak;rw[Jf h]
theorem Ev {S:Nat->qO}{r:qO}:Ak S n (λ_=>r) n=r:=by unfold Ak;rw[Je (Nat.lt_irrefl _)]
theorem Si {most:Int}{S:Nat->qO}{r:qO}(h:An most n S)(hn:n≠60)(q:In r.e 1 9999)(o:In r.z 1 20)(l:¬ Qh (ZZ S) n r.e)(p:Z0 S n+r.z<=most):An most (n+1) (Ak S n (λ_=>r)):=by
 obtain⟨k,h1,h2,h3⟩:=h;have g:∀ i,i<=n->∀ x,Qh (ZZ (Ak S n (λ_=>r))) i x->Qh (ZZ S) i x:=by
  rintro i m x ⟨j,f,e⟩;refine⟨j,f,?_⟩;rw[← e];unfold ZZ;rw[Dk oM]
 refine⟨k,by omega,λi m=>?_,?_⟩
 ·by_cases e:i=n
  ·subst e
   rw[Ev];exact⟨q,λc=>l (g i (Jr _) _ c),o⟩
  ·rw[Dk oM]
   obtain⟨a,b,c⟩:=h2 i oM;exact⟨a,λd=>b (g i oM _ d),c⟩
 ·rw[Z0,Gg n (λj f=>Dk f),Ev]
  exact p
theorem qf.k0 {r:qO}(h:qf s x)(c:x.t≠60)(e:In r.e 1 9999)(b:In r.z 1 20)(a:¬ Qh (ZZ x.L) x.t r.e)(d:Z0 x.L x.t+r.z<=s.N):qf s (x.k0 r) :=
 ⟨h.1,h.2.1,Si h.2.2 c e b a d⟩
def Eb (x:zw)(res:Nat)(who:Int):Prop :=
 if res=0 then Qh (Zm x.K) x.r who else if res=1 then Qh (Zl x.I) x.m who else Qh (ZZ x.L) x.t who
inductive Bz (s:qe) (w:Wk) (x:zw):zw->Prop
 |noStay (r:Nat) (e:w.j3=0) (g:w.E=true) (h:r<x.r) (q:(x.K r).e=w.e):Bz s w x (x.noStay r)
 |noRoom (r:Nat) (e:w.j3=1) (g:w.E=true) (h:r<x.m) (q:(x.I r).e=w.e):Bz s w x (x.noRoom r)
 |noSeat (r:Nat) (e:w.j3=2) (g:w.E=true) (h:r<x.t) (q:(x.L r).e=w.e):Bz s w x (x.noSeat r)
 |addStay (k:Nat) (e:w.j3=0) (g:w.E=false) (h:De s.la x.r x.K w.e w.p.f w.p.j k):Bz s w x (x.k2 ⟨w.e,(k:Int),w.p.f,w.p.j⟩)
 |addRoom (r:zU) (e:w.j3=1) (g:w.E=false) (q:r.e=w.e) (c:In r.e 1 9999) (a:¬ Qh (Zl x.I) x.m r.e) (b:Bh s.M (qZ s.M x.I x.m) r):Bz s w x (x.j6 r)
 |addSeat (r:qO) (e:w.j3=2) (g:w.E=false) (q:r.e=w.e) (hn:x.t≠60) (c:In r.e 1 9999) (hm:In r.z 1 20) (a:¬ Qh (ZZ x.L) x.t r.e) (b:Z0 x.L x.t+r.z<=s.N):Bz s w x (x.k0 r)
theorem Bz.good {w:Wk}{b:zw}(h:Bz s w x b)(a:qf s x):qf s b:=by
 cases h with
 |noStay r e g h q=>exact a.noStay h
 |noRoom r e g h q=>exact a.noRoom h
 |noSeat r e g h q=>exact a.noSeat h
 |addStay k e g h=>exact a.k2 h
 |addRoom r e g q hw hh hs=>exact a.j6 hw hh hs
 |addSeat r e g q hn hw hm hh hs=>exact a.k0 hn hw hm hh hs
theorem Lj {G:Nat->Int}{x:Int}(h:∀ j,j<n->G j=F j)(b:G n≠x):Qh G (n+1) x↔Qh F n x:=by
 constructor
 ·rintro⟨j,a,e⟩
  by_cases c:j=n
  ·subst c;exact absurd e b
  ·exact⟨j,by omega,by rw[← h j oM];exact e⟩
 ·rintro⟨j,a,e⟩
  exact⟨j,by omega,by rw[h j a];exact e⟩
theorem Bz.others {w:Wk}{i:zw}(h:Bz s w x i){res:Nat}{who:Int}(hr:res<3)(b:res≠w.j3∨who≠w.e):Eb i res who↔Eb x res who:=by
 obtain rfl|rfl|rfl:res=0∨res=1∨res=2:=by omega
 all_goals
  cases h with
  |noStay r e g h q =>
   first
   |exact Iff.rfl
   |(have a:(x.K r).e≠who:=λc=>by rcases b with d | d;exact d e.symm;exact d (by rw[← c,q])
      have:=Mf (n:=x.r - 1) oM a;rw[show x.r - 1+1=x.r by omega] at this
      exact this)
  |noRoom r e g h q =>
   first
   |exact Iff.rfl
   |(have a:Zl _ r≠who:=λc=>by rcases b with d | d;exact d e.symm;exact d (by rw[← c];exact q)
      have:=Hg (n:=x.m - 1) oM a;rw[show x.m - 1+1=x.m by omega,← KV] at this
      exact this)
  |noSeat r e g h q =>
   first
   |exact Iff.rfl
   |(have a:ZZ _ r≠who:=λc=>by rcases b with d | d;exact d e.symm;exact d (by rw[← c];exact q)
      have:=Hg (n:=x.t - 1) oM a;rw[show x.t - 1+1=x.t by omega,← KW] at this
      exact this)
  |addStay k e g h =>
   first
   |exact Iff.rfl
   |(have a:w.e≠who:=λc=>by rcases b with d | d;exact d e.symm;exact d c.symm
      exact Lj (λj f=>by unfold Zm zw.k2;dsimp only;rw[Lg f]) (by unfold Zm zw.k2;dsimp only;rw[gf];exact a))
  |addRoom r e g q hw hh hs =>
   first
   |exact Iff.rfl
   |(have a:r.e≠who:=λc=>by rcases b with d | d;exact d e.symm;exact d (by rw[← c,q])
      exact Lj (λj f=>by unfold Zl zw.j6;dsimp only;rw[Dj f]) (by unfold Zl zw.j6;dsimp only;rw[Li];exact a))
  |addSeat r e g q hn hw hm hh hs =>
   first
   |exact Iff.rfl
   |(have a:r.e≠who:=λc=>by rcases b with d | d;exact d e.symm;exact d (by rw[← c,q])
      exact Lj (λj f=>by unfold ZZ zw.k0;dsimp only;rw[Dk f]) (by unfold ZZ zw.k0;dsimp only;rw[Ev];exact a))
def ex (o:zY)(L:Nat->zw)(w:Wk):Prop:=w.j3<3/\∀ k,k<o.i->(o.G k).S=w.j5->if w.E=true then Eb (L k) w.j3 w.e else ¬ Eb (L k) w.j3 w.e
def DN (a b:Wk):Prop:=a.j5≠b.j5∨a.j3≠b.j3∨a.e≠b.e
def Ew (L:Nat->zw)(k:Nat)(x:zw)(j:Nat):zw:=if j=k then x else L j
theorem ex.after {L:Nat->zw}{w v:Wk}(h:ex o L v)(i:(o.G k).S=w.j5)(l:Bz (o.G k) w (L k) x)(f:DN v w):ex o (Ew L k x) v:=by
 refine⟨h.1,λj g e=>?_⟩
 have a:=h.2 j g e;unfold Ew
 by_cases c:j=k
 ·subst c
  rw[Jf rfl];have b:v.j3≠w.j3∨v.e≠w.e:=by
   rcases f with d|d
   ·exact absurd (by rw[← e,i]) d
   ·exact d
  rw[l.others h.1 b];exact a
 ·rw[Je c]
  exact a
theorem Sj {L:Nat->zw}{w:Wk}(h:∀ j,j<o.i->qf (o.G j) (L j))(b:Bz (o.G k) w (L k) x):∀ j,j<o.i->qf (o.G j) (Ew L k x j):=by
 intro j a;unfold Ew
 by_cases c:j=k
 ·subst c;rw[Jf rfl];exact b.good (h j a)
 ·rw[Je c];exact h j a
theorem FQ (goes:Bool)(who:Int)(p:ZP)(leg:Int):∀ j,(qM goes who p leg j).Pairwise DN
 |0=>List.Pairwise.nil
 |j+1=>by
  have d:=FQ goes who p leg j;unfold qM
  split
  ·refine List.pairwise_append.2 ⟨d,List.pairwise_singleton _ _,λa e b c=>?_⟩
   have:=(Dg e).2.1;simp at c;subst c;exact .inr (.inl (by show a.j3≠j;omega))
  ·exact d
theorem BA (goes:Bool)(who:Int)(p:ZP)(F:Nat->Int):∀ k,(∀ i,i<k->∀ j,j<i->F j≠F i)->(Za goes who p F k).Pairwise DN
 |0,_=>List.Pairwise.nil
 |k+1,h=>by
  unfold Za;refine List.pairwise_append.2 ⟨BA _ who p F k (λi c=>h i oM),FQ _ _ _ _ _,λa f b g=>?_⟩
  obtain⟨⟨i,c,e⟩,_⟩:=Bm f;have d:=(Dg g).1;exact .inl (by rw[e,d];exact h k oM i c)
theorem NZ {g h:Int}{n o:ZP}{c d:Nat->Int}{e f:Nat}(h1:∀ i,i<e->∀ j,j<i->c j≠c i)(h2:∀ i,i<f->∀ j,j<i->d j≠d i)(m:g≠h):(Za true g n c e++Za false h o d f).Pairwise DN:=by
 refine List.pairwise_append.2 ⟨BA _ _ _ _ _ h1,BA _ _ _ _ _ h2,λa k b l=>?_⟩
 exact .inr (.inr (by rw[(Bm k).2.2.2.1,(Bm l).2.2.2.1];exact m))
theorem Oa (L bo:Option Addr)(m mc n c:Nat)(p:zv)(S:Nat->ql)(w:World)(A:p.n=m)(hm:m<=1048576)(hn:n<=1048576)(hc:n<=c)(hx:zJ w L p)(hz:qx w bo n S) :
  Calls prog 82 #[(L,m,mc),(bo,n,c)] w λe w'=>qH (Tt p n S) e/\Below w w w':=by
 have u:=hI A;have Y:=hI hx;have K:=hI hz;clear A hx hz;go_enter func82,ntmps82;go_wp2_with fail;refine(PJ L m mc p _ u hm Y).mono ?_;rintro e w1 ⟨⟨q,rfl,P⟩,t⟩
 cases q with
 |false =>
  have D:Hid (¬ _):=λh=>by have:=P.2 h;cases this
  clear P;go_wp2;go_ret;exact⟨zh (λh=>D h.1),t⟩
 |true =>
  have D:=hI (P.1 rfl);have a3:m<=4:=by rw[← u.out];exact D.1
  clear P
  by_cases h60:n<=60
  ·have d0:decide (60<n)=false:=by simp;omega
   have a5:IntKind.i64.wrap ((m:Int) - 1)=(m:Int) - 1:=by rw[Jk];omega
   go_wp2;go_loopw [5,6,19] (λ_ _ i wr=>∃ k,k<=n/\i=int i64 k/\(∀ j,j<k->od p S j)/\Below w w wr) (λ_ _ i _=>n - (intOf i).toNat)
   case atStart=>exact⟨0,Jq _,rfl,λj x=>by omega,t⟩
   case round =>
    obtain⟨i,O,rfl,o,a⟩:=hrel;have V:=hI o;clear o t
    by_cases hlt:i<n
    ·obtain⟨b,off,rfl,N,h1,h2,h3⟩:=K i hlt
     have hb:=Ja w _ N;obtain⟨c0,c1,c2,c3⟩:=OP a N h1 h2 h3 hb;have d:=Jb wr (.cells #[(S i).e,(S i).ln,(S i).f,(S i).j] 220);have f:=zd a (.cells #[(S i).e,(S i).ln,(S i).f,(S i).j] 220);clear N h1 h2 h3;go_upto_region 6 with fail;generalize hW:wr.alloc _=W at d f ⊢;clear hW;have a4:=zD d;have z0:=gC d 0;have z1:=gC d 1;have z2:=gC d 2;have z3:=gC d 3;have i1:=n0 i;have i2:(i:Int)<=(c:Int):=oM;clear c0 c1 c2 c3 d a
     by_cases g1:In (S i).e 1 9999
     ·have s:=Jd g1
      have Q:=hI g1;clear g1
      by_cases g2:In (S i).ln 0 ((m:Int) - 1)
      ·have R:Hid (In (S i).ln 0 ((p.n:Int) - 1)):=by rw[u.out];exact g2
       obtain⟨l,A⟩:∃ l:Nat,(S i).ln=l:=⟨(S i).ln.toNat,by unfold In at g2;omega⟩
       have a0:l<m:=by unfold In at g2;omega
       have E:=hI A;have B:decide (In (l:Int) 0 _)=true:=Jd (by rw[← A];exact g2)
       have a6:∀ g:zy W,g.val.cell? _=_:=λg=>by rw[z1 g,A]
       obtain⟨b',a1,rfl,k1,k2⟩:=Y l (by rw[u.out];exact a0)
       have Z:=Ja w _ k1;have y2:=gW f k2 Z;have l1:=n0 l;have l2:(l:Int)<(m:Int):=oM;clear g2 z1 A k1 k2
       by_cases g3:In (S i).f 1 2000
       ·have F:=Jd g3
        have T:=hI g3;clear g3
        by_cases g4:In (S i).j 1 (p.B l)
        ·have M:=Jd g4
         have U:=hI g4;clear g4
         by_cases g5:Qh (Zm S) i (S i).e
         ·have C:=hI g5
          clear g5;refine ze kR kR ?_
          repeat(go_big_quiet_step ((rename_i g;first|(go_at_call 89;refine gE (v:=.bool true) (Qt _ _) (by rw[s]))|(go_at_call 148;first|(refine gE (v:=.bool true) (zt _ _ _ _) (by rw[B]))|(refine gE (v:=.bool true) (zt _ _ _ _) (by rw[F]))|(refine gE (v:=.bool true) (zt _ _ _ _) (by rw[M])))|(go_at_call 149;refine zr (v:=.bool true) ((Nf _ i c S _ _ oM ((K.j9 oM).j0 (zb f g.o))).mono ?_);rintro e w4 ⟨⟨bb,rfl,O⟩,z⟩;obtain rfl:=O.2 C;exact⟨rfl,z⟩))))
          refine Jl ?_;rintro _ ⟨g,rfl⟩;go_wp2;go_ret;exact⟨zh (λh=>(h.2.2.1 i hlt).2.2.2.2 C),zb f g.o⟩
         ·have C:=hI g5
          clear g5;refine ze kR kR ?_
          repeat(go_big_quiet_step ((rename_i g;first|(go_at_call 89;refine gE (v:=.bool true) (Qt _ _) (by rw[s]))|(go_at_call 148;first|(refine gE (v:=.bool true) (zt _ _ _ _) (by rw[B]))|(refine gE (v:=.bool true) (zt _ _ _ _) (by rw[F]))|(refine gE (v:=.bool true) (zt _ _ _ _) (by rw[M])))|(go_at_call 149;refine zr (v:=.bool false) ((Nf _ i c S _ _ oM ((K.j9 oM).j0 (zb f g.o))).mono ?_);rintro e w4 ⟨⟨bb,rfl,O⟩,z⟩;obtain rfl:=Bool.eq_false_iff.2 (λe=>C (O.1 e));exact⟨rfl,z⟩))))
          refine Jl ?_;rintro _ ⟨g,rfl⟩;go_wp2;have X:Hid (∀ j,j<i+1->od p S j):=λj x=>by
           by_cases e:j=i
           ·subst e;exact⟨Q,R,T,by rw[E.out];exact U,C⟩
           ·exact V j oM
          go_roundw
          case rel=>exact⟨_,by omega,by go_num,X,zb f g.o⟩
          case measure=>simp[intOf];omega
        ·have M:=Jc g4
         have U:=hI g4;clear g4;refine ze kR kR ?_
         repeat(go_big_quiet_step ((first|(go_at_call 89;refine gE (v:=.bool true) (Qt _ _) (by rw[s]))|(go_at_call 148;first|(refine gE (v:=.bool true) (zt _ _ _ _) (by rw[B]))|(refine gE (v:=.bool true) (zt _ _ _ _) (by rw[F]))|(refine gE (v:=.bool false) (zt _ _ _ _) (by rw[M]))))))
         refine Jl ?_;rintro _ ⟨g,rfl⟩;go_wp2;go_ret;exact⟨zh (λh=>U (by have:=(h.2.2.1 i hlt).2.2.2.1;rw[E.out] at this;exact this)),zb f g.o⟩
       ·have F:=Jc g3
        have T:=hI g3;clear g3;refine ze kR kR ?_
        repeat(go_big_quiet_step ((first|(go_at_call 89;refine gE (v:=.bool true) (Qt _ _) (by rw[s]))|(go_at_call 148;first|(refine gE (v:=.bool true) (zt _ _ _ _) (by rw[B]))|(refine gE (v:=.bool false) (zt _ _ _ _) (by rw[F]))))))
        refine Jl ?_;rintro _ ⟨g,rfl⟩;go_wp2;go_ret;exact⟨zh (λh=>T (h.2.2.1 i hlt).2.2.1),zb f g.o⟩
      ·have B:=Jc g2
       have R:Hid (¬ In (S i).ln 0 ((p.n:Int) - 1)):=by rw[u.out];exact g2
       clear g2;refine ze kR kR ?_
       repeat(go_big_quiet_step ((first|(go_at_call 89;refine gE (v:=.bool true) (Qt _ _) (by rw[s]))|(go_at_call 148;first|(refine gE (v:=.bool false) (zt _ _ _ _) (by rw[B]))))))
       refine Jl ?_;rintro _ ⟨g,rfl⟩;go_wp2;go_ret;exact⟨zh (λh=>R (h.2.2.1 i hlt).2.1),zb f g.o⟩
     ·have s:=Jc g1
      have Q:=hI g1;clear g1;refine ze kR kR ?_
      repeat(go_big_quiet_step ((first|(go_at_call 89;refine gE (v:=.bool false) (Qt _ _) (by rw[s])))))
      refine Jl ?_;rintro _ ⟨g,rfl⟩;go_wp2;go_ret;exact⟨zh (λh=>Q (h.2.2.1 i hlt).1),zb f g.o⟩
    ·obtain rfl:i=n:=by omega
     go_wp2_with fail;refine(Lk L bo m mc i c p S _ u D h60 (λj x=>(V j x).2.2.1) (Y.j0 a) (K.j0 a)).mono ?_
     rintro e w2 ⟨⟨v,rfl,r⟩,G⟩;obtain⟨aw,cw,rfl,_⟩:=zn r;have HI:=hI (Bo r);have H:=zb a G;clear r G a;go_wp2;go_loopw [8,68] (λ_ j wr=>∃ k,k<=m/\j=int i64 k/\(∀ j,j<k->0<=left p S i j)/\wr=w2) (λ_ j _=>m - (intOf j).toNat)
     case atStart=>exact⟨0,Jq _,rfl,λj x=>by omega,rfl⟩
     case round =>
      obtain⟨k,hk,rfl,o,I⟩:=hrel;have J:=I.symm;subst J;clear I;have HK:=hI o;clear o
      by_cases hlt3:k<m
      ·obtain⟨b3,a2,rfl,N⟩:=HI k hlt3
       by_cases hneg:left p S i k<0
       ·have s:=Jd hneg
        have y:=hI hneg;clear hneg;go_wp2;go_ret;exact⟨zh (λh=>by have:=h.2.2.2 k (by rw[u.out];exact hlt3);have:=y.out;omega),H⟩
       ·have s:=Jc hneg
        have y:=hI hneg;clear hneg;go_wp2;go_roundw
        case rel=>exact⟨k+1,by omega,by go_num,λj x=>by
         by_cases e:j=k
         ·subst e;have:=y.out;omega
         ·exact HK j oM,by trivial⟩
        case measure=>simp[intOf];omega
      ·obtain rfl:k=m:=by omega
       go_wp2;go_ret;exact⟨zN ⟨D,h60,V,λj x=>HK j (by rw[u.out] at x;exact x)⟩,H⟩
  ·have d0:decide (60<n)=true:=by simp;omega
   go_wp2;go_ret;exact⟨zh (λh=>h60 h.2.1),t⟩
def Ex (p:zv)(n:Nat)(S:Nat->ql)(len hei:Int)(r:Int):Prop :=
 (∃ k:Nat,r=(k:Int)/\n≠60/\Bl p (left p S n) len hei k)∨(r=-1/\(n=60∨∀ k,¬ Bl p (left p S n) len hei k))
theorem PK (x bo:Option Addr)(m J n c:Nat)(p:zv)(S:Nat->ql)(len hei:Int)(w:World)(B:p.n=m)(u:EM p n S)(H:zJ w x p)(I:qx w bo n S) :
  Calls prog 166 #[(x,m,J),(bo,n,c),len,hei] w λe w'=>(∃ r:Int,e=.returned r/\Ex p n S len hei r)/\Below w w w':=by
 have t:=hI B;have D:=hI u;have E:=hI H;have M:=hI I;have P:m<=4:=by rw[← B];exact u.1.1
 have q:=u.2.1;clear B u H I
 by_cases h60:n=60
 ·have y:(n == 60)=true:=by simpa using h60
  have z:((n:Int) == 60)=true:=by simp;omega
  have l:=hI h60;clear h60;go_enter func166,ntmps166;go_wp2;go_ret;exact⟨⟨_,rfl,.inr ⟨rfl,.inl l⟩⟩,bZ⟩
 ·have y:(n == 60)=false:=by simpa using h60
  have z:((n:Int) == 60)=false:=by simp;omega
  have l:Hid (n≠60):=h60;clear h60;go_enter func166,ntmps166;go_wp2_with fail;refine(Lk x bo m J n c p S _ t D.1 q D.lens E M).mono ?_;rintro e C ⟨⟨v,rfl,d⟩,f⟩;obtain⟨aw,cw,rfl,_⟩:=zn d;have L:=hI (Bo d);clear d;go_wp2;go_loopw [10,11,20] (λ_ _ i wr=>∃ k,k<=m/\i=int i64 k/\(∀ j,j<k->¬ (hei<=p.B j/\len<=left p S n j))/\Below C C wr) (λ_ _ i _=>m - (intOf i).toNat)
  case atStart=>exact⟨0,Jq _,rfl,λj G=>by omega,bZ⟩
  case round =>
   obtain⟨k,hk,rfl,g,a⟩:=hrel;have s:=hI g;clear g
   by_cases hlt:k<m
   ·obtain⟨b,off,rfl,h1,h2⟩:=E k (by rw[t.out];exact hlt)
    have F:=Ja w _ h1;have c1:=tR (zb f a) h1 F;have c2:=tR (zb f a) h2 F;obtain⟨b3,K,rfl,h3⟩:=L k hlt;have A:=Ja C _ h3;have c3:(wr.alloc (.cells #[(p.A k),(p.B k)] 223)).cell? _=_:=tR (zd a _) h3 A;have i1:=n0 k;have i2:(k:Int)<(m:Int):=oM;clear h1 h2 h3
    by_cases g1:hei<=p.B k
    ·have N:=Jd g1
     by_cases g2:len<=left p S n k
     ·have O:=Jd g2
      have o:Hid (Bl p _ len hei k):=⟨by rw[t.out];exact hlt,⟨g1,g2⟩,s⟩
      clear g1 g2;go_wp2;go_ret;exact⟨⟨_,rfl,.inl ⟨k,rfl,l,o⟩⟩,zb f (zd a _)⟩
     ·have O:=Jc g2
      have o:Hid (¬ (hei<=p.B k/\_)):=λh=>g2 h.2
      clear g1 g2;go_wp2;go_roundw
      case rel=>exact⟨k+1,by omega,by go_num,λj G=>by
       by_cases e:j=k
       ·subst e;exact o
       ·exact s j oM,zd a _⟩
      case measure=>simp[intOf];omega
    ·have N:=Jc g1
     have o:Hid (¬ (_/\len<=left p S n k)):=λh=>g1 h.1
     clear g1;go_wp2;go_roundw
     case rel=>exact⟨k+1,by omega,by go_num,λj G=>by
      by_cases e:j=k
      ·subst e;exact o
      ·exact s j oM,zd a _⟩
     case measure=>simp[intOf];omega
   ·obtain rfl:k=m:=by omega
    go_wp2;go_ret;exact⟨⟨_,rfl,.inr ⟨rfl,.inr (λj h=>s j (by have:=h.1;rw[t.out] at this;exact this) h.2.1)⟩⟩,zb f a⟩
inductive qE (s:qe) (w:Wk) (x:zw):Int->zw->Prop
 |noStay (r:Nat) (e:w.j3=0) (g:w.E=true) (h:r<x.r) (q:(x.K r).e=w.e):qE s w x 0 (x.noStay r)
 |noRoom (r:Nat) (e:w.j3=1) (g:w.E=true) (h:r<x.m) (q:(x.I r).e=w.e):qE s w x 0 (x.noRoom r)
 |noSeat (r:Nat) (e:w.j3=2) (g:w.E=true) (h:r<x.t) (q:(x.L r).e=w.e):qE s w x 0 (x.noSeat r)
 |addStay (k:Nat) (e:w.j3=0) (g:w.E=false) (h:Ex s.la x.r x.K w.p.f w.p.j (k:Int)):qE s w x 0 (x.k2 ⟨w.e,(k:Int),w.p.f,w.p.j⟩)
 |deck (e:w.j3=0) (g:w.E=false) (h:Ex s.la x.r x.K w.p.f w.p.j (-1)):qE s w x 5 x
 |addWhole (k:Nat) (e:w.j3=1) (g:w.E=false) (a:w.p.h=true) (h:js x.m s.M.n (BL s.M x.m x.I w.p.w w.p.v) (k:Int)):qE s w x 0 (x.j6 ⟨w.e,(k:Int),s.M.B k,true⟩)
 |Zw (e:w.j3=1) (g:w.E=false) (a:w.p.h=true) (h:js x.m s.M.n (BL s.M x.m x.I w.p.w w.p.v) (-1)):qE s w x 6 x
 |addBerth (k:Nat) (e:w.j3=1) (g:w.E=false) (a:w.p.h=false) (h:js x.m s.M.n (BM s.M x.m x.I w.p.w w.p.x) (k:Int)):qE s w x 0 (x.j6 ⟨w.e,(k:Int),w.p.x,false⟩)
 |berth (e:w.j3=1) (g:w.E=false) (a:w.p.h=false) (h:js x.m s.M.n (BM s.M x.m x.I w.p.w w.p.x) (-1)):qE s w x 6 x
 |addSeat (e:w.j3=2) (g:w.E=false) (hn:x.t≠60) (hs:Z0 x.L x.t+w.p.v<=s.N):qE s w x 0 (x.k0 ⟨w.e,w.p.v⟩)
 |seats (e:w.j3=2) (g:w.E=false) (h:x.t=60∨s.N<Z0 x.L x.t+w.p.v):qE s w x 7 x
theorem Sk {m:Nat}(h:js n m P (k:Int)):n≠60/\ZC m P k:=by
 rcases h with⟨j,e,a,b⟩|⟨e,_⟩
 ·obtain rfl:k=j:=by omega
  exact⟨a,b⟩
 ·omega
theorem Sl {p:zv}{S:Nat->ql}(h:Ex p n S len hei (k:Int)):n≠60/\Bl p (left p S n) len hei k:=by
 rcases h with⟨j,e,a,b⟩|⟨e,_⟩
 ·obtain rfl:k=j:=by omega
  exact⟨a,b⟩
 ·omega
theorem CF {m:Nat}{r g:Int}(h:js n m P r)(i:js n m P g):r=g:=by
 rcases h with⟨j,e,a,b⟩|⟨e,a⟩ <;> rcases i with⟨k,f,d,b'⟩|⟨f,d⟩
 ·rw[e,f,Io b b']
 ·rcases d with c|c
  ·exact absurd c a
  ·exact absurd b (c j)
 ·rcases a with c|c
  ·exact absurd c d
  ·exact absurd b' (c k)
 ·rw[e,f]
theorem Ll (n m:Nat)(P:Nat->Prop):∃ r,js n m P r:=by
 by_cases h:n≠60/\∃ k,ZC m P k
 ·obtain⟨h1,k,h2⟩:=h
  exact⟨k,.inl ⟨k,rfl,h1,h2⟩⟩
 ·refine⟨-1,.inr ⟨rfl,?_⟩⟩
  by_cases c:n=60
  ·exact .inl c
  ·exact .inr (λk a=>h ⟨c,k,a⟩)
theorem DF {p:zv}{S:Nat->ql}{r g:Int}(h:Ex p n S len hei r)(i:Ex p n S len hei g):r=g:=by
 rcases h with⟨j,e,a,b⟩|⟨e,a⟩ <;> rcases i with⟨k,f,d,b'⟩|⟨f,d⟩
 ·rw[e,f,FO b b']
 ·rcases d with c|c
  ·exact absurd c a
  ·exact absurd b (c j)
 ·rcases a with c|c
  ·exact absurd c d
  ·exact absurd b' (c k)
 ·rw[e,f]
theorem Oc (p:zv)(n:Nat)(S:Nat->ql)(len hei:Int):∃ r,Ex p n S len hei r:=by
 by_cases h:n≠60/\∃ k,Bl p (left p S n) len hei k
 ·obtain⟨h1,k,h2⟩:=h
  exact⟨k,.inl ⟨k,rfl,h1,h2⟩⟩
 ·refine⟨-1,.inr ⟨rfl,?_⟩⟩
  by_cases c:n=60
  ·exact .inl c
  ·exact .inr (λk a=>h ⟨c,k,a⟩)
def Tw (w:Wk)(x:zw):Prop:=w.E=false->In w.e 1 9999/\Zc w.p/\Q1 w.p.f w.p.w w.j3=true/\¬ Eb x w.j3 w.e
theorem qE.on {w:Wk}{y:zw}{b:Int}(h:qE s w x b y)(n:qf s x)(j:Tw w x):(b=0/\Bz s w x y)∨(In b 5 7/\y=x):=by
 cases h with
 |noStay r e g h q=>exact .inl ⟨rfl,.noStay r e g h q⟩
 |noRoom r e g h q=>exact .inl ⟨rfl,.noRoom r e g h q⟩
 |noSeat r e g h q=>exact .inl ⟨rfl,.noSeat r e g h q⟩
 |deck e g h=>exact .inr ⟨by unfold In;omega,rfl⟩
 |Zw e g a h=>exact .inr ⟨by unfold In;omega,rfl⟩
 |berth e g a h=>exact .inr ⟨by unfold In;omega,rfl⟩
 |seats e g h=>exact .inr ⟨by unfold In;omega,rfl⟩
 |addStay k e g h =>
  obtain⟨h1,h2,h3,d⟩:=j g;have l:=Sl h;rw[e] at h3 d;have m:=by simpa [Q1] using h3
  have i:Ce w.p.f w.p.j:=by rcases h2.2.1 with c|c;omega;exact c
  exact .inl ⟨rfl,.addStay k e g ⟨(QQ _ _ _).1 n.1,l.1,d,h1,i.1,i.2,l.2⟩⟩
 |addWhole k e g a h =>
  obtain⟨h1,h2,h3,d⟩:=j g;obtain⟨o,f⟩:=Sk h;rw[e] at h3 d;refine .inl ⟨rfl,.addRoom _ e g rfl h1 d ⟨?_,λ_=>⟨f.2.1.2.1,rfl⟩,λh=>(by cases h)⟩⟩
  have:=f.1;unfold In
  show _<=(k:Int)/\(k:Int)<=_
  omega
 |addBerth k e g a h =>
  obtain⟨h1,h2,h3,d⟩:=j g;obtain⟨o,f⟩:=Sk h;rw[e] at h3 d;have m:=by simpa [Q1] using h3
  have i:Fb w.p.w w.p.h w.p.x:=by rcases h2.2.2 with c|c;omega;exact c
  refine .inl ⟨rfl,.addRoom _ e g rfl h1 d ⟨?_,λh=>(by cases h),λ_=>?_⟩⟩
  ·have:=f.1
   unfold In
   show _<=(k:Int)/\(k:Int)<=_
   omega
  ·rcases i.2 with⟨c,_⟩|⟨_,c⟩
   ·rw[a] at c;cases c
   ·exact⟨c.1,f.2.1.2⟩
 |addSeat e g hn hs =>
  obtain⟨h1,h2,h3,d⟩:=j g;rw[e] at h3 d;exact .inl ⟨rfl,.addSeat _ e g rfl hn h1 h2.1 d hs⟩
theorem ID (c d f g x:Int)(a:Nat)(w:World)(i:w.cell? (a,0)=some (int i64 x)) :
  Calls prog 270 #[.agg #[c,d,f,g],.pointer (some (a,0))] w λe w'=>e=.returned (.bool (c == x))/\Below w w w':=by
 have b:=Ja w _ i;have h:¬ a=w.heap.size:=by have:a<w.heap.size:=b;omega
 go_enter func270,ntmps270;go_wp2;go_ret;exact⟨rfl,zd bZ _⟩
theorem Mh (r:Option Addr)(n c:Nat)(S:Nat->ql)(x:Int)(g:Nat)(w:World)(hn:n<=1048576)(y:qx w r n S)(p:w.cell? (g,0)=some (int i64 x)) :
  Calls prog 269 #[(r,n,c),.func (.func 270) #[] #[.pointer (some (g,0))]] w λe w'=>e=.returned (Zt (Zm S) x n)/\Below w w w':=by
 have o:=Ja w _ p;go_enter func269,ntmps269;go_wp2;go_loopw [5,8] (λ_ i wr=>∃ k,k<=n/\i=int i64 k/\(∀ j,j<k->Zm S j≠x)/\Below w w wr) (λ_ i _=>n - (intOf i).toNat)
 case atStart=>exact⟨0,Jq _,rfl,λj v=>by omega,bZ⟩
 case round =>
  obtain⟨k,hk,rfl,d,a⟩:=hrel;have h:=hI d;clear d
  by_cases hlt2:k<n
  ·obtain⟨b,off,rfl,m,h1,h2,h3⟩:=y k hlt2
   have u:=Ja w _ m;obtain⟨c0,c1,c2,c3⟩:=OP a m h1 h2 h3 u;have q:=hI (tR a p o);clear m h1 h2 h3 p
   by_cases he:Zm S k=x
   ·have t:((S k).e == x)=true:=by unfold Zm at he;simpa using he
    have l:Hid (Zt (Zm S) x n=k):=by
     have:=Fv hlt2 he h;unfold Zt Hid;rw[this,Jf hlt2]
    clear he;go_wp2_with (first|(go_at_call 270;refine bM (ID _ _ _ _ x g _ q) λz f=>?_))
    go_ret;exact⟨by rw[l.out];rfl,zb a f⟩
   ·have t:((S k).e == x)=false:=by unfold Zm at he;simpa using he
    have s:Hid (_≠x):=he;clear he;go_wp2_with (first|(go_at_call 270;refine bM (ID _ _ _ _ x g _ q) λz f=>?_))
    go_roundw
    case rel=>exact⟨k+1,by omega,by go_num,λj v=>by
     by_cases e:j=k
     ·subst e;exact s
     ·exact h j oM,zb a f⟩
    case measure=>simp[intOf];omega
  ·obtain rfl:k=n:=by omega
   have l:=hI (Cf (DC h));go_wp2;go_ret;exact⟨by rw[l.out];rfl,a⟩
/-- stayOf: where the stay of the by stands, -1 ZN one. -/
theorem BP (b:Option Addr)(n c:Nat)(S:Nat->ql)(x:Int)(w:World)(i:n<=1048576)(j:qx w b n S) :
  Calls prog 243 #[(b,n,c),x] w λe w'=>e=.returned (Zt (Zm S) x n)/\Below w w w':=by
 have a:Below _ w (w.alloc (.cells #[x] 3)):=zd bZ _;have g:=hI (j.j0 a);have f:Hid ((w.alloc (.cells #[_] 3)).cell? _=some (int i64 x)):=bC (Jb w _) 0;have h:∀ (fn) (first cap) (w),(Instr.makeFunc fn _ cap).run prog w=.ok (.func fn first cap) w:=λ_ _ _ _=>rfl
 go_enter func243,ntmps243;go_wp2_with (first|(go_at_call 269;refine bM (Mh b n c S x _ _ i g f) λw2 d=>?_))
 go_ret;exact⟨rfl,zb a d⟩
section
open Go.RowKit Classical
noncomputable def Cn (P:Nat->Prop):Nat->List Nat
 |0=>[]
 |n+1=>if P n then Cn P n++[n] else Cn P n
theorem Ca (h:P n):Cn P (n+1)=Cn P n++[n]:=by rw[Cn,Jf h]
theorem Fk (h:¬ P n):Cn P (n+1)=Cn P n:=by rw[Cn,Je h]
noncomputable def Oj (P:Nat->Prop)(n j:Nat):Nat:=(Cn P n).getD j 0
theorem Ec (P:Nat->Prop)(h:P n):Oj P (n+1) (Cn P n).length=n:=by unfold Oj;rw[Ca h];simp
theorem CG (P:Nat->Prop)(a:j<(Cn P n).length):Oj P (n+1) j=Oj P n j:=by
 unfold Oj
 by_cases h:P n
 ·rw[Ca h,List.getD_eq_getElem?_getD,List.getD_eq_getElem?_getD,List.getElem?_append_left a]
 ·rw[Fk h]
theorem Km (P:Nat->Prop)(n:Nat):(Cn P n).length=EW P n:=by
 induction n with
 |zero=>rfl
 |succ n ih =>
  by_cases h:P n
  ·rw[Ca h,Qs h,List.length_append,ih];rfl
  ·rw[Fk h,QG h,ih]
theorem Ok (P:Nat->Prop)(n:Nat):∀ j,j<(Cn P n).length->Oj P n j<n/\P (Oj P n j):=by
 induction n with
 |zero=>intro j a;simp[Cn] at a
 |succ n ih =>
  intro j a
  by_cases h:P n
  ·rw[Ca h,List.length_append] at a
   by_cases e:j=(Cn P n).length
   ·subst e;rw[Ec P h];exact⟨by omega,h⟩
   ·have b:j<(Cn P n).length:=by simp at a;omega
    rw[CG P b];have:=ih j b;exact⟨by omega,this.2⟩
  ·rw[Fk h] at a
   rw[CG P a];have:=ih j a;exact⟨by omega,this.2⟩
theorem kq (P:Nat->Prop)(n:Nat):∀ i,i<n->P i->∃ j,j<(Cn P n).length/\Oj P n j=i:=by
 induction n with
 |zero=>intro i c;omega
 |succ n ih =>
  intro i c a
  by_cases e:i=n
  ·subst e
   exact⟨_,by rw[Ca a];simp,Ec P a⟩
  ·obtain⟨j,b,d⟩:=ih i oM a
   refine⟨j,?_,by rw[CG P b];exact d⟩
   by_cases h:P n
   ·rw[Ca h,List.length_append];omega
   ·rw[Fk h];exact b
theorem FD {Q:Nat->Prop}(h:∀ i,i<n->(P i↔Q i)):EW P n=EW Q n:=by
 induction n with
 |zero=>rfl
 |succ n ih =>
  have i1:=ih (λi hi=>h i oM)
  have h1:=h n oM
  by_cases c:P n
  ·rw[Qs c,Qs (h1.1 c),i1]
  ·rw[QG c,QG (λq=>c (h1.2 q)),i1]
theorem gn (P Q:Nat->Prop)(n:Nat):EW (λj=>Q (Oj P n j)) (Cn P n).length=EW (λi=>P i/\Q i) n:=by
 induction n with
 |zero=>rfl
 |succ n ih =>
  have a:EW (λj=>Q (Oj P (n+1) j)) (Cn P n).length=EW (λi=>P i/\Q i) n:=by
   rw[← ih];exact FD (λj b=>by rw[CG P b])
  by_cases h:P n
  ·rw[show(Cn P (n+1)).length=(Cn P n).length+1 by rw[Ca h];simp]
   by_cases q:Q n
   ·rw[Qs (by rw[Ec P h];exact q),Qs ⟨h,q⟩,a]
   ·rw[QG (by rw[Ec P h];exact q),QG (λc=>q c.2),a]
  ·rw[Fk h,QG (λc=>h c.1)]
   rw[← ih];exact FD (λj b=>by rw[CG P b])
def EN (b:zA):Prop:=b.f=0/\b.j=0
instance (b:zA):Decidable (EN b):=by unfold EN;exact inferInstance
def EO (b:zA):Prop:=b.w=0/\b.h=false/\b.x=0
instance (b:zA):Decidable (EO b):=by unfold EO;exact inferInstance
def IJ (l:zw)(b:zA):Prop:=EN b∨(Qb (Zm l.K) b.e l.r<l.r/\(l.K (Qb (Zm l.K) b.e l.r)).f=b.f/\(l.K (Qb (Zm l.K) b.e l.r)).j=b.j)
def FU (s:qe)(l:zw)(b:zA):Prop:=EO b∨(Qb (Zl l.I) b.e l.m<l.m/\(l.I (Qb (Zl l.I) b.e l.m)).h=b.h/\(b.h=true∨(l.I (Qb (Zl l.I) b.e l.m)).z=b.x)/\s.M.A (l.I (Qb (Zl l.I) b.e l.m)).H.toNat=b.w)
def IK (l:zw)(b:zA):Prop:=Qb (ZZ l.L) b.e l.t<l.t/\(l.L (Qb (ZZ l.L) b.e l.t)).z=b.v
def Ty (s:qe)(l:zw)(b:zA):Prop:=IJ l b/\FU s l b/\IK l b
def ES (s:qe)(l:zw)(m:Nat)(B:Nat->zA):Prop :=
 (∀ j,j<m->Ty s l (B j))/\l.r=EW (λj=>¬ EN (B j)) m/\l.m=EW (λj=>¬ EO (B j)) m/\l.t=m
theorem mr (h:∀ i,i<n->¬ Qh F i (F i)){x:Nat}(a:j<n)(b:x<n)(e:F j=F x):j=x:=by
 by_cases c:j<x
 ·exact absurd ⟨j,c,e⟩ (h x b)
 ·by_cases c2:x<j
  ·exact absurd ⟨x,c2,e.symm⟩ (h j a)
  ·omega
theorem Fl (h:∀ i,i<n->¬ Qh F i (F i)){q:Int}(b:j<n)(e:F j=q):Qb F q n=j:=by
 have a:=(DB F n q).1 ⟨j,b,e⟩;exact(mr h b a (e.trans (DA F q n a).symm)).symm
theorem Nl (h:Zc b.p):EN b↔b.f=0:=by
 unfold EN
 constructor
 ·exact λh=>h.1
 ·intro e
  rcases h.2.1 with c|c
  ·exact c
  ·have:=c.1;unfold In zA.p at this;simp at this;omega
theorem St (h:Zc b.p):¬ EN b↔0<b.f:=by
 rw[Nl h]
 rcases h.2.1 with c|c
 ·have:=c.1;unfold zA.p at this;simp at this;omega
 ·have:=c.1;unfold In zA.p at this;simp at this;omega
theorem Nm (h:Zc b.p):EO b↔b.w=0:=by
 unfold EO
 constructor
 ·exact λh=>h.1
 ·intro e
  rcases h.2.2 with c|c
  ·exact c
  ·have:=c.1;unfold In zA.p at this;simp at this;omega
theorem Su (h:Zc b.p):¬ EO b↔0<b.w:=by
 rw[Nm h]
 rcases h.2.2 with c|c
 ·have:=c.1;unfold zA.p at this;simp at this;omega
 ·have:=c.1;unfold In zA.p at this;simp at this;omega
theorem Nn {l:zw}(m:qf s l)(d:Zc b.p):Ty s l b↔CD s l b:=by
 obtain⟨k,hr,n⟩:=m;have u1:∀ i,_->¬ Qh _ i (Zm _ i):=λi a=>(k.2.2.1 i a).2.2.2.2
 have u2:∀ i,_->¬ Qh _ i (Zl _ i):=λi a=>(hr.2.2.1 i a).1.2.1
 have u3:∀ i,_->¬ Qh _ i (ZZ _ i):=λi a=>(n.2.2.1 i a).2.1
 unfold Ty CD IJ FU IK;rw[Nl d,Nm d]
 constructor
 ·rintro⟨h1,h2,h3⟩
  refine⟨⟨_,h3.1,DA _ _ _ h3.1,h3.2⟩,?_,?_⟩
  ·rcases h1 with h|h
   ·exact .inl h
   ·exact .inr ⟨_,h.1,DA _ _ _ h.1,h.2.1,h.2.2⟩
  ·rcases h2 with h|h
   ·exact .inl h
   ·exact .inr ⟨_,h.1,DA _ _ _ h.1,h.2.1,h.2.2.2,h.2.2.1⟩
 ·rintro⟨⟨j,c,f,g⟩,h2,h3⟩
  refine⟨?_,?_,?_⟩
  ·rcases h2 with h|⟨i,a,c1,c2,c3⟩
   ·exact .inl h
   ·have e:=Fl u1 a c1
    rw[e];exact .inr ⟨a,c2,c3⟩
  ·rcases h3 with h|⟨i,a,c1,c2,c3,c4⟩
   ·exact .inl h
   ·have e:=Fl u2 a c1
    rw[e];exact .inr ⟨a,c2,c4,c3⟩
  ·have e:=Fl u3 c f
   rw[e];exact⟨c,g⟩
theorem gp (c:qf (o.G k) (o.F k))(d:∀ i,i<o.g->Zc (o.u i).p) :
  ES (o.G k) (o.F k) (Cn (On o k) o.g).length (λj=>o.u (Oj (On o k) o.g j))↔CE o k:=by
 have b:=λj a=>d _ (Ok (On o k) _ j a).1
 have c1:EW (λj=>¬ EN (o.u (Oj (On o k) o.g j))) (Cn (On o k) o.g).length=EW (λi=>On o k i/\0<(o.u i).f) o.g:=by
  rw[← gn _ _ _];exact FD (λj a=>St (b j a))
 have c2:EW (λj=>¬ EO (o.u (Oj (On o k) o.g j))) (Cn (On o k) o.g).length=EW (λi=>On o k i/\0<(o.u i).w) o.g:=by
  rw[← gn _ _ _];exact FD (λj a=>Su (b j a))
 unfold ES CE;rw[c1,c2,Km]
 constructor
 ·rintro⟨h,r⟩
  refine⟨λi e f=>?_,r⟩
  obtain⟨j,a,rfl⟩:=kq _ _ i e f;exact(Nn c (b j a)).1 (h j (by rw[← Km];exact a))
 ·rintro⟨h,r⟩
  refine⟨λj a=>?_,r⟩
  rw[← Km] at a;have:=Ok _ _ j a;exact(Nn c (b j a)).2 (h _ this.1 this.2)
end
theorem Ol (g:Option Addr)(n c:Nat)(G:Nat->Int)(x:Int)(w:World)(hn:n<=1048576)(p:zS w g n G) :
  Calls prog 246 #[(g,n,c),x] w λe w'=>e=.returned (Zt G x n)/\w'=w:=by
 go_enter func246,ntmps246;go_wp2;go_loopw [5,8] (λ_ i wr=>∃ k,k<=n/\i=int i64 k/\(∀ j,j<k->G j≠x)/\wr=w) (λ_ i _=>n - (intOf i).toNat)
 case atStart=>exact⟨0,Jq _,rfl,λj o=>by omega,rfl⟩
 case round =>
  obtain⟨k,hk,rfl,a,rfl⟩:=hrel;have d:=hI a;clear a
  by_cases hlt2:k<n
  ·obtain⟨b,off,rfl,h0⟩:=p k hlt2
   by_cases he:G k=x
   ·have m:(x == G k)=true:=by rw[he];simp
    have f:Hid (Zt G x n=k):=by
     have:=Fv hlt2 he d;unfold Zt Hid;rw[this,Jf hlt2]
    clear he;go_wp2;go_ret;exact⟨by rw[f.out];rfl,rfl⟩
   ·have m:(x == G k)=false:=by simpa using λh=>he h.symm
    have l:Hid (G k≠x):=he;clear he;go_wp2;go_roundw
    case rel=>exact⟨k+1,by omega,by go_num,λj o=>by
     by_cases e:j=k
     ·subst e;exact l
     ·exact d j oM,trivial⟩
    case measure=>simp[intOf];omega
  ·obtain rfl:k=n:=by omega
   have f:=hI (Cf (DC d));go_wp2;go_ret;exact⟨by rw[f.out];rfl,rfl⟩
theorem Sv (d:Option Addr)(n c:Nat)(G:Nat->Int)(x:Int)(w:World)(i:n<=1048576)(j:zS w d n G) :
  Calls prog 190 #[(d,n,c),x] w λe w'=>qH (Qh G n x) e/\w'=w:=by
 obtain⟨r,hr⟩:=nM (Zt G x n);have b:=hI hr;clear hr;go_enter func190,ntmps190;go_wp2_with fail;refine(Ol d n c G x _ i j).mono ?_;rw[← b.out];rintro e w1 ⟨rfl,f⟩;have f:=f.symm;subst f
 by_cases h:Qh G n x
 ·have g:decide (0<=r)=true:=by rw[b.out];unfold Zt;rw[Jf ((DB _ _ _).1 h)];simp
  have a:=hI h;clear h;go_wp2;go_ret;exact⟨zN a,rfl⟩
 ·have g:decide (0<=r)=false:=by rw[b.out,Cf h];rfl
  have a:=hI h;clear h;go_wp2;go_ret;exact⟨zh a,rfl⟩
theorem Lo (b:zA)(c:Option Addr)(d:Nat)(w:World) :
  Calls prog 189 #[.agg (b,c,d)] w λe w'=>qH (CB b) e/\Below w w w':=by
 by_cases s1:b.C=1
 ·have f:(b.C == 1)=true:=by simpa using s1
  have a:Hid (CB b):=.inl s1;clear s1;go_enter func189,ntmps189;go_wp2;go_ret;exact⟨zN a,zd bZ _⟩
 ·have f:(b.C == 1)=false:=by simpa using s1
  by_cases s2:b.C=2
  ·have g:(b.C == 2)=true:=by simpa using s2
   have a:Hid (CB b):=.inr s2;clear s1 s2;go_enter func189,ntmps189;go_wp2;go_ret;exact⟨zN a,zd bZ _⟩
  ·have g:(b.C == 2)=false:=by simpa using s2
   have a:Hid (¬ CB b):=by intro h;rcases h with h|h;exact s1 h;exact s2 h
   clear s1 s2;go_enter func189,ntmps189;go_wp2;go_ret;exact⟨zh a,zd bZ _⟩
def Fm (k:Int)(b:zA)(now:Int):Prop:=if k=4 then b.C=1 else if k=8 then b.C=1/\b.y<now else CB b
theorem py {k:Int}(h:k=4):Fm k b now↔b.C=1:=by unfold Fm;rw[Jf h]
theorem rd {k:Int}(h:k=8):Fm k b now↔b.C=1/\b.y<now:=by unfold Fm;rw[Je oM,Jf h]
theorem re {k:Int}(a:k≠4)(h8:k≠8):Fm k b now↔CB b:=by unfold Fm;rw[Je a,Je h8]
theorem No (x:qD)(i:Option Addr)(j:Nat)(b:zA)(d:Option Addr)(f:Nat)(w:World) :
  Calls prog 196 #[.agg (x,i,j),.agg (b,d,f)] w λe w'=>qH (Fm x.d b x.D) e/\Below w w w':=by
 by_cases k4:x.d=4
 ·have k:(x.d == 4)=true:=by simpa using k4
  have a:Hid (Fm _ b x.D↔_):=py k4;clear k4
  by_cases s1:b.C=1
  ·have g:(b.C == 1)=true:=by simpa using s1
   have c:=hI (a.2 s1);clear s1 a;go_enter func196,ntmps196;go_wp2;go_ret;exact⟨zN c,zd (zd bZ _) _⟩
  ·have g:(b.C == 1)=false:=by simpa using s1
   have c:Hid (¬ _):=λh=>s1 (a.1 h)
   clear s1 a;go_enter func196,ntmps196;go_wp2;go_ret;exact⟨zh c,zd (zd bZ _) _⟩
 ·have k:(x.d == 4)=false:=by simpa using k4
  by_cases k8:x.d=8
  ·have l:(x.d == 8)=true:=by simpa using k8
   have a:Hid (_↔_/\b.y<x.D):=rd k8;clear k4 k8
   by_cases s1:b.C=1
   ·have g:(b.C == 1)=true:=by simpa using s1
    by_cases u1:b.y<x.D
    ·have m:=Jd u1
     have c:=hI (a.2 ⟨s1,u1⟩);clear s1 a u1;go_enter func196,ntmps196;go_wp2;go_ret;exact⟨zN c,zd (zd bZ _) _⟩
    ·have m:=Jc u1
     have c:Hid (¬ _):=λh=>u1 (a.1 h).2
     clear s1 a u1;go_enter func196,ntmps196;go_wp2;go_ret;exact⟨zh c,zd (zd bZ _) _⟩
   ·have g:(b.C == 1)=false:=by simpa using s1
    have c:Hid (¬ _):=λh=>s1 (a.1 h).1
    clear s1 a;go_enter func196,ntmps196;go_wp2;go_ret;exact⟨zh c,zd (zd bZ _) _⟩
  ·have l:(x.d == 8)=false:=by simpa using k8
   have a:Hid (Fm _ b x.D↔_):=re k4 k8;clear k4 k8;go_enter func196,ntmps196;go_wp2_with (go_at_call 189;refine(Lo b d f _).mono ?_;rintro e w1 ⟨⟨v,rfl,n⟩,o⟩);go_ret;exact⟨⟨v,rfl,n.trans a.symm⟩,zb (zd (zd bZ _) _) o⟩
/-- There is room for one booking more, or none is added. -/
theorem Om (x:qD)(b:Option Addr)(d:Nat)(a:Option Addr)(n c:Nat)(pe:Nat->Addr)(w:World)(j:qI w pe)(h:¬ (x.d=2∨x.d=3)∨n<30) :
  Calls prog 110 #[(a,n,c),.agg (x,b,d)] w λe w'=>e=.returned (.tuple #[])/\Below w w w':=by
 have e8:=(qI.j0 j (zd bZ (.cells (x,b,d) 47))).c8
 by_cases k2:x.d=2
 ·have g:(x.d == 2)=true:=by simpa using k2
  have k:decide ((n:Int)<30)=true:=dT;clear h k2;go_enter func110,ntmps110;go_wp2_with (go_at_call 193;refine(ZO _ _).mono ?_;rintro e f ⟨rfl,rfl⟩);go_end0;exact⟨rfl,zd bZ _⟩
 ·have g:(x.d == 2)=false:=by simpa using k2
  by_cases k3:x.d=3
  ·have i:(x.d == 3)=true:=by simpa using k3
   have k:decide ((n:Int)<30)=true:=dT;clear h k2 k3;go_enter func110,ntmps110;go_wp2_with (go_at_call 193;refine(ZO _ _).mono ?_;rintro e f ⟨rfl,rfl⟩);go_end0;exact⟨rfl,zd bZ _⟩
  ·have i:(x.d == 3)=false:=by simpa using k3
   clear h k2 k3;go_enter func110,ntmps110;go_wp2_with (go_at_call 193;refine(ZO _ _).mono ?_;rintro e f ⟨rfl,rfl⟩);go_end0;exact⟨rfl,zd bZ _⟩
/-- One is added, and there is no room. -/
theorem Mq (x:qD)(d:Option Addr)(f:Nat)(a:Option Addr)(n c:Nat)(pe:Nat->Addr)(w:World)(i:qI w pe)(h:x.d=2∨x.d=3)(b:30<=n) :
  Calls prog 110 #[(a,n,c),.agg (x,d,f)] w λe w'=>e=.panicked [{ v:=.iface 96 (.agg #[.iface 391 (.pointer (some (pe 8)))]),recovered:=false }]/\Below w w w':=by
 have e8:=(qI.j0 i (zd bZ (.cells (x,d,f) 47))).c8;have hn:decide ((n:Int)<30)=false:=dF
 by_cases k2:x.d=2
 ·have g:(x.d == 2)=true:=by simpa using k2
  clear h k2 b;go_enter func110,ntmps110;go_wp2_with (go_at_call 193;refine(AK _ _ _).mono ?_;rintro e j ⟨rfl,rfl⟩);exact⟨rfl,rfl,zd bZ _⟩
 ·have g:(x.d == 2)=false:=by simpa using k2
  have d3:(x.d == 3)=true:=by simpa using h.resolve_left k2
  clear h k2 b;go_enter func110,ntmps110;go_wp2_with (go_at_call 193;refine(AK _ _ _).mono ?_;rintro e j ⟨rfl,rfl⟩);exact⟨rfl,rfl,zd bZ _⟩
theorem BB (h:Option Addr)(N c:Nat)(S:Nat->qe)(x:Int)(w:World)(hN:N<=1048576)(u:qy w h N S) :
  Calls prog 161 #[.slice h N c,int i64 x] w λe w'=>((zX S x N<N/\e=.returned (int i64 (zX S x N)))∨(zX S x N=N/\e=.returned (int i64 (-1))))/\Below w w w':=by
 go_enter func161,ntmps161;go_wp2;go_loopw [5,6,9] (λ_ _ i wr=>∃ k,k<=N/\i=int i64 k/\(∀ j,j<k->(S j).S≠x)/\Below w w wr) (λ_ _ i _=>N - (intOf i).toNat)
 case atStart=>exact⟨0,Jq _,rfl,λj t=>by omega,bZ⟩
 case round =>
  obtain⟨k,hk,rfl,d,a⟩:=hrel;have g:=hI d;clear d
  by_cases hlt:k<N
  ·obtain⟨b,off,la,lc,ca,cc,rfl,l,h1,h2,h3,m,n,o,p,_,_,_,_⟩:=u k hlt
   have s:=Ja w _ h1;obtain⟨c0,c1,c2,c3,c4,c5,c6,c7⟩:=OR a l h1 h2 h3 m n o p s;clear l h1 h2 h3 m n o p
   by_cases he:(S k).S=x
   ·have r:((S k).S == x)=true:=by simpa using he
    have f:=hI (MZ hlt he g);clear he;go_wp2;go_ret;exact⟨.inl ⟨by rw[f.out];exact hlt,by rw[f.out];rfl⟩,zd a _⟩
   ·have r:((S k).S == x)=false:=by simpa using he
    have q:Hid (_≠x):=he;clear he;go_wp2;go_roundw
    case rel=>exact⟨k+1,by omega,by go_num,λj t=>by
     by_cases e:j=k
     ·subst e;exact q
     ·exact g j oM,zd a _⟩
    case measure=>simp[intOf];omega
  ·obtain rfl:k=N:=by omega
   have f:=hI (Iw g);go_wp2;go_ret;exact⟨.inr ⟨f,rfl⟩,a⟩
theorem Np (D bo:Option Addr)(N n c c':Nat)(S:Nat->qe)(G:Nat->Int)(w:World)(Z:N<=1048576)(hn:n<=1048576)(E:qy w D N S)(hy:zS w bo n G) :
  Calls prog 157 #[(D,N,c),(bo,n,c')] w λe w'=>qH (Q6 N S n G) e/\Below w w w':=by
 by_cases o:In (n:Int) 1 3
 case neg =>
  have R:=Jc o;have HN:Hid (¬ Q6 N S n G):=λh=>o ⟨by have:=h.1;omega,by have:=h.2.1;omega⟩
  clear o;go_enter func157,ntmps157;go_wp2_with (first|(go_at_call 148;refine bM (zt _ _ _ _) λw' f=>?_;have f:=f.symm;subst f))
  go_ret;exact⟨zh HN,bZ⟩
 have R:=Jd o;have F:Hid (1<=n/\n<=3):=⟨by have:=o.1;omega,by have:=o.2;omega⟩
 have a5:=F.2;clear o;go_enter func157,ntmps157;go_wp2_with (first|(go_at_call 148;refine bM (zt _ _ _ _) λw' f=>?_;have f:=f.symm;subst f))
 go_loopw [5,6,7,8,15] (λ_ _ _ _ i wr=>∃ k,k<=n/\i=int i64 k/\(∀ j,j<k->KZ N S G j)/\Below w w wr) (λ_ _ _ _ i _=>n - (intOf i).toNat)
 case atStart=>exact⟨0,Jq _,rfl,λj hj=>by omega,bZ⟩
 case round =>
  obtain⟨k,hk,rfl,p,d⟩:=hrel;have H:=hI p;clear p R
  by_cases hlt:k<n
  ·have P:Hid (0<k->∀ b off,bo=some ⟨b,off,none⟩->w.cell? ⟨b,off+(k - 1),none⟩=some (int i64 (G (k - 1)))):=by
    intro h b off e;obtain⟨b',C,v,g⟩:=hy (k - 1) oM;rw[e] at v;simp only[Option.some.injEq,Addr.mk.injEq,and_true] at v;obtain⟨rfl,rfl⟩:=v;exact g
   obtain⟨qb,a0,rfl,O⟩:=hy k hlt;have I:=hI (λh=>P h qb _ rfl)
   clear P;have B:=Ja w _ O;have p0:=tR d O B;clear O;go_wp2_with fail;refine(BB D N c S _ _ Z (E.j0 d)).mono ?_;rintro e w2 ⟨hr,z⟩;have a:=zb d z;clear z d p0
   rcases hr with⟨r,rfl⟩|⟨r,rfl⟩
   ·obtain⟨x,t⟩:=nM (zX S (G k) N)
    rw[← t] at r ⊢;have Q:=hI t;clear t
    by_cases k0:k=0
    ·subst k0
     have L:decide ((x:Int)<0)=false:=sM;go_wp2;go_roundw
     case rel=>exact⟨1,by omega,by go_num,λj hj=>by
      obtain rfl:j=0:=by omega
      exact⟨by rw[← Q.out];exact r,λh=>by omega⟩,a⟩
     case measure=>simp[intOf];omega
    ·have L:decide ((x:Int)<0)=false:=sM
     have d0:decide (0<k)=true:=by simp;omega
     have a1:((k:Int) - 1).toNat=k - 1:=oM;have a2:(k:Int) - 1<(n:Int):=oM;have a3:(0:Int)<=(k:Int) - 1:=oM;have a4:IntKind.i64.wrap ((k:Int) - 1)=(k:Int) - 1:=by rw[Jk];omega
     have y0:=tR a (I oM) B;go_wp2_with fail;refine(BB D N c S _ _ Z (E.j0 a)).mono ?_;rintro e w3 ⟨hr,A⟩;have l:=zb a A;have HP:=hI (H (k - 1) oM).1;clear A a y0 L d0
     rcases hr with⟨s,rfl⟩|⟨s,rfl⟩
     ·obtain⟨y,u⟩:=nM (zX S (G (k - 1)) N)
      rw[← u] at s ⊢;have HY:=hI u;clear u;have x1:(x:Int)<(N:Int):=oM;have x0:=n0 x;have y1:(y:Int)<(N:Int):=oM;have y0:=n0 y;have J:=E x r;obtain⟨b,off,la,lc,ca,cc,rfl,U,h1,h2,h3,V,W,X,Y,_,_,_,_⟩:=E y s;obtain⟨b',C,_,_,_,_,v,g0,T,g2,o,_⟩:=J;simp only[Option.some.injEq,Addr.mk.injEq,and_true] at v;obtain⟨rfl,rfl⟩:=v;have M:=Ja w _ h1;obtain⟨c0,c1,c2,c3,c4,c5,c6,c7⟩:=OR l U h1 h2 h3 V W X Y M;have m:=zd l (.cells (S y,la,lc,ca,cc) 140);have q1:=tR m T M;have q3:=tR m o M;clear U h1 h2 h3 V W X Y g0 T g2 o;have q:Hid (((S y).dst=(S x).U/\(S y).T<=(S x).O)↔KZ N S G k):=by
       unfold KZ;rw[← Q.out,← HY.out];exact⟨λh=>⟨r,λ_=>h⟩,λh=>h.2 oM⟩
      by_cases m1:(S y).dst=(S x).U
      ·have e1:=Fa.2 m1
       have K:=hI m1;clear m1
       by_cases m2:(S y).T<=(S x).O
       ·have e2:decide ((S x).O<(S y).T)=false:=by simpa using m2
        go_wp2;go_quiet (fail);go_wp2;go_roundw
        case rel=>exact⟨k+1,by omega,by go_num,λj hj=>by
         by_cases e:j=k
         ·subst e;exact q.1 ⟨K,m2⟩
         ·exact H j oM,dN m _⟩
        case measure=>simp[intOf];omega
       ·have e2:decide ((S x).O<(S y).T)=true:=by simpa using m2
        go_wp2;go_quiet (fail);go_wp2;go_ret;exact⟨zh (λh=>by have:=(q.2 (h.2.2 k hlt)).2;omega),dN m _⟩
      ·have e1:=Gu.2 m1
       have K:=hI m1;clear m1;go_wp2;go_quiet (fail);go_wp2;go_ret;exact⟨zh (λh=>K (q.2 (h.2.2 k hlt)).1),dN m _⟩
     ·exfalso
      have:=HP.out
      omega
   ·have L:decide ((-1:Int)<0)=true:=rfl
    have HF:=hI r;clear r;go_wp2;go_ret;exact⟨zh (λh=>by have:=(h.2.2 k hlt).1;have:=HF.out;omega),a⟩
  ·obtain rfl:k=n:=by omega
   go_wp2;go_ret;exact⟨zN ⟨F.1,F.2,H⟩,d⟩
section
theorem AV (L:Nat->zw)(k:Nat)(x:zw):Ew L k x k=x:=Jf rfl
theorem AW (L:Nat->zw)(k:Nat)(x:zw){j:Nat}(h:j≠k):Ew L k x j=L j:=Je h
theorem aj (L:Nat->zw)(k:Nat):Ew L k (L k)=L:=by
 funext j
 unfold Ew
 by_cases c:j=k
 ·subst c;rw[Jf rfl]
 ·rw[Je c]
theorem Kb.put {A:Nat->Value}{N k lim:Nat}{a:Value}(h:Kb N A)(h1:∀ i,i<N->∀ b,(A i).ownBlock=some b->b<lim)(h2:∀ b,a.ownBlock=some b->lim<=b):Kb N (AP A k a):=λi j f g e b d c=>by
 by_cases ei:i=k
 ·subst ei
  rw[qg] at d;rw[zV _ _ _ _ (λh=>e h.symm)] at c
  have:=h1 j g b c;have:=h2 b d
  omega
 ·rw[zV _ _ _ _ ei] at d
  by_cases ej:j=k
  ·subst ej
   rw[qg] at c;have:=h1 i f b d;have:=h2 b c
   omega
  ·rw[zV _ _ _ _ ej] at c
   exact h i j f g e b d c
section
variable {w w' : World} {base g c k N n lim : Nat} {S : Nat -> zw} {A B C : Nat -> Value} {u : Value}
theorem SC (h:w.ownsRow base 145 3 (some (g,0),N,c) N (Dz A B C N)):(w.setCell (g,k*3+0) u).ownsRow base 145 3 (some (g,0),N,c) N (Dz (AP A k u) B C N):=by
 refine qX (zI h _ u) (λj hj=>?_)
 by_cases h2:j=k*3+0
 ·subst h2
  rw[Jf rfl,zO 3 _ k 0 dC];unfold MV;rw[qg]
  rfl
 ·rw[Je h2]
  unfold qd MV
  by_cases e:j / 3=k
  ·have a:j % 3=1∨j % 3=2:=oM
   rcases a with a|a <;> rw[a] <;> rfl
  ·rw[zV _ _ _ _ e]
theorem SD (h:w.ownsRow base 145 3 (some (g,0),N,c) N (Dz A B C N)):(w.setCell (g,k*3+1) u).ownsRow base 145 3 (some (g,0),N,c) N (Dz A (AP B k u) C N):=by
 refine qX (zI h _ u) (λj hj=>?_)
 by_cases h2:j=k*3+1
 ·subst h2
  rw[Jf rfl,zO 3 _ k 1 dC];unfold MV;rw[qg]
  rfl
 ·rw[Je h2]
  unfold qd MV
  by_cases e:j / 3=k
  ·have a:j % 3=0∨j % 3=2:=oM
   rcases a with a|a <;> rw[a] <;> rfl
  ·rw[zV _ _ _ _ e]
theorem SE (h:w.ownsRow base 145 3 (some (g,0),N,c) N (Dz A B C N)):(w.setCell (g,k*3+2) u).ownsRow base 145 3 (some (g,0),N,c) N (Dz A B (AP C k u) N):=by
 refine qX (zI h _ u) (λj hj=>?_)
 by_cases h2:j=k*3+2
 ·subst h2
  rw[Jf rfl,zO 3 _ k 2 dC];unfold MV;rw[qg]
  rfl
 ·rw[Je h2]
  unfold qd MV
  by_cases e:j / 3=k
  ·have a:j % 3=0∨j % 3=1:=oM
   rcases a with a|a <;> rw[a] <;> rfl
  ·rw[zV _ _ _ _ e]
theorem qw.k5 {T:Nat->ql}(h:qw w base (some (g,0),N,c) N S A B C)(f:∀ i,i<N->∀ b,(A i).ownBlock=some b->b<lim)(o:w.ownsRow lim 220 4 u n (zH T n))(j:base<=lim) :
  qw (w.setCell (g,k*3+0) u) base (some (g,0),N,c) N (Ew S k { S k with r:=n,K:=T }) (AP A k u) B C:=by
 have r:zl w (w.setCell _ u) _:=(zl.refl w (λx=>x=g)).set (a:=(g,k*3+0)) rfl _
 have far:∀ {t sz n:Nat} {v} {xs},_->145≠t->(w.setCell _ u).ownsRow base t sz v n xs:=λp s=>r.j1 p (λq l m=>zE h.row p s q (by rw[m];rfl) l)
 refine⟨SC h.row,λi d=>?_,λi d=>?_,λi d=>?_,h.Q.1.put f (λb e=>(o.lt b e).1),h.Q.2.1,h.Q.2.2⟩
 ·by_cases e:i=k
  ·subst e;rw[qg,AV];exact far (zo o j) dC
  ·rw[zV _ _ _ _ e,AW _ _ _ e];exact far (h.K i d) dC
 ·by_cases e:i=k
  ·subst e;rw[AV];exact far (h.I i d) dC
  ·rw[AW _ _ _ e];exact far (h.I i d) dC
 ·by_cases e:i=k
  ·subst e;rw[AV];exact far (h.L i d) dC
  ·rw[AW _ _ _ e];exact far (h.L i d) dC
theorem qw.k6 {T:Nat->zU}(h:qw w base (some (g,0),N,c) N S A B C)(f:∀ i,i<N->∀ b,(B i).ownBlock=some b->b<lim)(o:w.ownsRow lim 228 4 u n (zF T n))(j:base<=lim) :
  qw (w.setCell (g,k*3+1) u) base (some (g,0),N,c) N (Ew S k { S k with m:=n,I:=T }) A (AP B k u) C:=by
 have r:zl w (w.setCell _ u) _:=(zl.refl w (λx=>x=g)).set (a:=(g,k*3+1)) rfl _
 have far:∀ {t sz n:Nat} {v} {xs},_->145≠t->(w.setCell _ u).ownsRow base t sz v n xs:=λp s=>r.j1 p (λq l m=>zE h.row p s q (by rw[m];rfl) l)
 refine⟨SD h.row,λi d=>?_,λi d=>?_,λi d=>?_,h.Q.1,h.Q.2.1.put f (λb e=>(o.lt b e).1),h.Q.2.2⟩
 ·by_cases e:i=k
  ·subst e;rw[AV];exact far (h.K i d) dC
  ·rw[AW _ _ _ e];exact far (h.K i d) dC
 ·by_cases e:i=k
  ·subst e;rw[qg,AV];exact far (zo o j) dC
  ·rw[zV _ _ _ _ e,AW _ _ _ e];exact far (h.I i d) dC
 ·by_cases e:i=k
  ·subst e;rw[AV];exact far (h.L i d) dC
  ·rw[AW _ _ _ e];exact far (h.L i d) dC
theorem qw.k7 {T:Nat->qO}(h:qw w base (some (g,0),N,c) N S A B C)(f:∀ i,i<N->∀ b,(C i).ownBlock=some b->b<lim)(o:w.ownsRow lim 234 2 u n (zL T n))(j:base<=lim) :
  qw (w.setCell (g,k*3+2) u) base (some (g,0),N,c) N (Ew S k { S k with t:=n,L:=T }) A B (AP C k u):=by
 have r:zl w (w.setCell _ u) _:=(zl.refl w (λx=>x=g)).set (a:=(g,k*3+2)) rfl _
 have far:∀ {t sz n:Nat} {v} {xs},_->145≠t->(w.setCell _ u).ownsRow base t sz v n xs:=λp s=>r.j1 p (λq l m=>zE h.row p s q (by rw[m];rfl) l)
 refine⟨SE h.row,λi d=>?_,λi d=>?_,λi d=>?_,h.Q.1,h.Q.2.1,h.Q.2.2.put f (λb e=>(o.lt b e).1)⟩
 ·by_cases e:i=k
  ·subst e;rw[AV];exact far (h.K i d) dC
  ·rw[AW _ _ _ e];exact far (h.K i d) dC
 ·by_cases e:i=k
  ·subst e;rw[AV];exact far (h.I i d) dC
  ·rw[AW _ _ _ e];exact far (h.I i d) dC
 ·by_cases e:i=k
  ·subst e;rw[qg,AV];exact far (zo o j) dC
  ·rw[zV _ _ _ _ e,AW _ _ _ e];exact far (h.L i d) dC
end
section
variable {w w' : World} {base g c k lim n n1 n2 n3 : Nat} {v1 v3 u : Value} {x : zY} {L C A B D E : Nat -> Value}
theorem zz.k5 {T:Nat->ql}(h:zz w base v1 (some (g,0),n2,c) v3 n1 n2 n3 x L C A B D E)(d:∀ i,i<n2->∀ b,(A i).ownBlock=some b->b<lim)(m:w.ownsRow lim 220 4 u n (zH T n))(j:base<=lim) :
  zz (w.setCell (g,k*3+0) u) base v1 (some (g,0),n2,c) v3 n1 n2 n3 { x with F:=Ew x.F k { x.F k with r:=n,K:=T } } L C (AP A k u) B D E:=by
 have l:zl w (w.setCell _ u) _:=(zl.refl w (λx=>x=g)).set (a:=(g,k*3+0)) rfl _
 exact⟨h.G.j7 l (λq e=>by obtain⟨cs,f⟩:=zC h.F.row q (by rw[show _ from e];rfl);exact⟨cs,_,f,by decide,by decide,by decide⟩),h.F.k5 d m j,h.u.j7 l (λq e=>by obtain⟨cs,f⟩:=zC h.F.row q (by rw[show _ from e];rfl);exact⟨cs,_,f,by decide,by decide⟩)⟩
theorem zz.k6 {T:Nat->zU}(h:zz w base v1 (some (g,0),n2,c) v3 n1 n2 n3 x L C A B D E)(d:∀ i,i<n2->∀ b,(B i).ownBlock=some b->b<lim)(m:w.ownsRow lim 228 4 u n (zF T n))(j:base<=lim) :
  zz (w.setCell (g,k*3+1) u) base v1 (some (g,0),n2,c) v3 n1 n2 n3 { x with F:=Ew x.F k { x.F k with m:=n,I:=T } } L C A (AP B k u) D E:=by
 have l:zl w (w.setCell _ u) _:=(zl.refl w (λx=>x=g)).set (a:=(g,k*3+1)) rfl _
 exact⟨h.G.j7 l (λq e=>by obtain⟨cs,f⟩:=zC h.F.row q (by rw[show _ from e];rfl);exact⟨cs,_,f,by decide,by decide,by decide⟩),h.F.k6 d m j,h.u.j7 l (λq e=>by obtain⟨cs,f⟩:=zC h.F.row q (by rw[show _ from e];rfl);exact⟨cs,_,f,by decide,by decide⟩)⟩
theorem zz.k7 {T:Nat->qO}(h:zz w base v1 (some (g,0),n2,c) v3 n1 n2 n3 x L C A B D E)(d:∀ i,i<n2->∀ b,(D i).ownBlock=some b->b<lim)(m:w.ownsRow lim 234 2 u n (zL T n))(j:base<=lim) :
  zz (w.setCell (g,k*3+2) u) base v1 (some (g,0),n2,c) v3 n1 n2 n3 { x with F:=Ew x.F k { x.F k with t:=n,L:=T } } L C A B (AP D k u) E:=by
 have l:zl w (w.setCell _ u) _:=(zl.refl w (λx=>x=g)).set (a:=(g,k*3+2)) rfl _
 exact⟨h.G.j7 l (λq e=>by obtain⟨cs,f⟩:=zC h.F.row q (by rw[show _ from e];rfl);exact⟨cs,_,f,by decide,by decide,by decide⟩),h.F.k7 d m j,h.u.j7 l (λq e=>by obtain⟨cs,f⟩:=zC h.F.row q (by rw[show _ from e];rfl);exact⟨cs,_,f,by decide,by decide⟩)⟩
end
end
section
variable{w:World}{g t n:Nat}{u0 u1 u2 u3 u4 u5 u6 u7:Value}{F:Nat->Int}
theorem Tryz.infoLoadO:(Tryz.prog.info? 145).map (λi=>(i.zero,i.size,i.bytes))=some (some (.agg #[True,True,True]),3,72):=kR
theorem Tryz.infoBookingO:(Tryz.prog.info? 150).map (λi=>(i.zero,i.size,i.bytes))=some (some (.agg #[(),(),False,True,(),(),(),(),.bool false,(),(),(),()]),13,128):=kR
theorem mu (h:w.heap[g]?=some (.cells #[u0,u1,u2,u3,u4,u5,u6,u7] t (0,0)))(v:Value):(w.setCell (g,5) v).heap[g]?=some (.cells #[u0,u1,u2,u3,u4,v,u6,u7] t (0,0)):=by simpa using zk h 5 v
theorem mv (h:w.heap[g]?=some (.cells #[u0,u1,u2,u3,u4,u5,u6,u7] t (0,0)))(v:Value):(w.setCell (g,6) v).heap[g]?=some (.cells #[u0,u1,u2,u3,u4,u5,v,u7] t (0,0)):=by simpa using zk h 6 v
theorem mw {u8 u9 u10 u11 u12:Value}(h:w.heap[g]?=some (.cells #[u0,u1,u2,u3,u4,u5,u6,u7,u8,u9,u10,u11,u12] t (0,0)))(v:Value):(w.setCell (g,3) v).heap[g]?=some (.cells #[u0,u1,u2,v,u4,u5,u6,u7,u8,u9,u10,u11,u12] t (0,0)):=by simpa using zk h 3 v
theorem Ci {c:Option Addr}(h:zS w c n F):∀ a,c=some a->∀ j u,(qp F n)[j]?=some u->w.cell? (a.add j)=some u:=by
 intro a e j u i;obtain⟨g,rfl⟩:=Dr F n j u i;obtain⟨b,off,d,f⟩:=h j g;rw[e] at d
 cases d
 rw[Addr.add_lit];exact f
theorem Tryz.sizeBookingO:(Tryz.prog.info? 150).map (·.size)=some 13:=kR
theorem Hr (n a pe len hei cl be st d c:Int)(o:ByteArray)(al:Bool)(la:Option Addr)(ln b:Nat) :
  Tryz.prog.builtSlice 150 1 [(0,.agg #[int i64 n,int i64 a,.string o,.slice la ln b,int i64 pe,int i64 len,int i64 hei,int i64 cl,.bool al,int i64 be,int i64 st,int i64 d,int i64 c])]=some #[int i64 n,int i64 a,.string o,.slice la ln b,int i64 pe,int i64 len,int i64 hei,int i64 cl,.bool al,int i64 be,int i64 st,int i64 d,int i64 c]:=by kernel_rfl
structure im (w V a:World)(v1 v2 v3:Value)(c d e:Nat)(x:zY)(L C A B D E:Nat->Value):Prop where
 q:a.heap[w.heap.size+1+1]?=some (.cells #[v1,v2,v3] 38 (0,0))
 j1:zz a V.heap.size v1 v2 v3 c d e x L C A B D E
 kp:zl V a (λb=>b=w.heap.size+1+1∨V.heap.size<=b)
theorem Ee (ao al bo:Option Addr)(N M R c cl cb:Nat)(x:zY)(w:World)(e1:x.i=N)(e2:x.l=M)(I:x.g=R)(hs:zY.Short x 1048576)(hz:qy w ao N x.G)(hl:ZA w al M x.F)(l6:qL w bo R x.u) :
  Calls prog 70 #[.agg #[.slice ao N c,.slice al M cl,.slice bo R cb]] w λe w'=>(∃ a1 c1 a2 c2 l c3 L C A B D E,e=.returned (.agg #[.slice a1 N c1,.slice a2 M c2,.slice l R c3])/\zz w' w.heap.size (.slice a1 N c1) (.slice a2 M c2) (.slice l R c3) N M R x L C A B D E)/\Below w w w':=by
 obtain⟨j0,ji,n8,n9,o0⟩:=info_parts Tryz.infoSailing;obtain⟨l0,li,o4,o5,o6⟩:=info_parts Tryz.infoLane;obtain⟨m0,mi,o7,o8,o9⟩:=info_parts Tryz.infoCabin;obtain⟨p0,pi,p1,p2,p3⟩:=info_parts Tryz.infoLoadO;obtain⟨r0,ri,p4,p5,p6⟩:=info_parts Tryz.infoBookingO;obtain⟨i0,ii,n5,n6,n7⟩:=info_parts Tryz.infoInt;have HS:Hid (Qz N x.G 1048576):=by have h:=hs.1.2;rw[e1] at h;exact h
 have k7:Hid (Zy M x.F 1048576):=by have h:=hs.2.1.2;rw[e2] at h;exact h
 have m8:Hid (ZY R x.u 1048576):=by have h:=hs.2.2.2;rw[I] at h;exact h
 have hN:N<=1048576:=by have h:=hs.1.1;omega
 have hM:M<=1048576:=by have h:=hs.2.1.1;omega
 have hR:R<=1048576:=by have h:=hs.2.2.1;omega
 have HZ:=hI hz;have HL:=hI hl;have l9:=hI l6;clear hs hz hl l6 e1 e2 I;have m:Below _ w (((w.alloc (.cells #[(ao,N,c),(al,M,cl),(bo,R,cb)] 38)).alloc (.cells #[True,True,True] 38)).alloc (.cells #[True,True,True] 38)):=zd (zd (zd bZ _) _) _;have bO:=nq m;have bR:=nr m;have bQ:=nt m;go_enter func70,ntmps70;go_wp2;generalize ((w.alloc _).alloc _).alloc _=V at m bO bR bQ ⊢;have j8:=hI bO;have m1:=hI bR;have q6:=zD bQ;go_loopw [5,14] (λ_ i wr=>∃ (k:Nat) (v:Value) (L C:_),k<=N/\i=int i64 k/\wr.heap[w.heap.size+1+1]?=some (.cells #[v,True,True] 38 (0,0))/\qR wr V.heap.size v k x.G L C/\zl V wr (λb=>b=w.heap.size+1+1∨V.heap.size<=b)) (λ_ i _=>N - (intOf i).toNat)
 case atStart=>exact⟨0,_,λ_=>.slice none 0 0,λ_=>.slice none 0 0,Jq _,rfl,bQ,qR.nil _ _ _ _ _,zl.refl _ _⟩
 case round =>
  clear bO bR bQ;obtain⟨k,v,L,C,hk,rfl,hQ,hO,b3⟩:=hrel;have d:=zl.j0 m m.size b3 (λb e=>by have e:=e;have:=m.size;omega)
  have b0:=b3.size
  by_cases hlt:k<N
  ·obtain⟨b,off,la,lc,ca,cc,rfl,h0,h1,h2,h3,h4,h5,h6,h7,h8,h9,i3,i4⟩:=HZ.out k hlt
   obtain⟨s,j6⟩:=nM (x.G k);obtain⟨_,_,s3,s4⟩:=HS.out k hlt;rw[← j6] at h0 h1 h2 h3 h4 h5 h6 h7 h8 h9 i3 i4 s3 s4;have g8:=hI j6;have n:=Ja w _ h1;obtain⟨c0,c1,c2,c3,c4,c5,c6,c7⟩:=OR d h0 h1 h2 h3 h4 h5 h6 h7 n;have k2:Hid (_/\_):=⟨h8,i3⟩;have j9:Hid (_/\_):=⟨h9,i4⟩;clear h0 h1 h2 h3 h4 h5 h6 h7 h8 h9 i3 i4 j6;have b2:Hid (∀ i,_->_/\_):=λi hi=>⟨λb n=>((hO.la i hi).lt b n).2,λb n=>((hO.M i hi).lt b n).2⟩
   have o:Below _ wr (wr.alloc (.cells (s,la,lc,ca,cc) 140)):=zd bZ _;have bX:=Qc o;have F:=zg bX (.cells #[] 223);have q:Below _ wr ((wr.alloc _).alloc (.cells #[] 223)):=zd o _;have x5:=bC F 5;have hE:((wr.alloc (.cells (s,la,lc,ca,cc) 140)).alloc _).ownsRow _ 223 2 _ 0 []:=⟨rfl,.inr ⟨_,0,#[],rfl,Jr _,EB wr _ _,Jr _,Jq _,rfl,rfl⟩⟩;have HE:Hid _:=hE;have S:=hI (Dy (k2.1.j0 (zb d q)));have T:=hI k2.2.2.2;clear hE;go_upto_region 6 with(first|(at_builtin;refine zu _ (by rfl) _ _ 137 (by rfl) _ 223 l0 _ 2 16 underlying137 li o4 o5 o6 rfl dC _ 0 [] (by rfl) HE.out la _ lc _ (by rfl) T.out (Bt _) S.out (Dx _) (by unfold maxLen;omega) oM sM ?_;intro v3 w3 Q a5;rw[Nat.zero_add,List.nil_append] at Q;obtain⟨l,I,rfl,_⟩:=zn Q;have K:=(qY a5).blk F (by simp[Value.ownBlock]);have u5:=bC K 5;have f5:=zc K 5;have b6:=q.grown a5 q.size (λj hj=>by simp[Value.ownBlock] at hj;omega)))
   have U:=mu K (l,s.la.n,I);have O:Below _ wr (w3.setCell _ (l,s.la.n,I)):=b6.setCell (p:=(wr.heap.size,5)) (Jr _) _;have j3:(w3.setCell _ (l,s.la.n,I)).ownsRow _ 223 2 _ _ _:=ZR Q (a:=(wr.heap.size,5)) (by show wr.heap.size<_;omega) _
   generalize w3.setCell _ _=W4 at U O j3 ⊢;have b1:=hI j3;clear K u5 f5 b6 Q a5 x5 o bX F q HE S T j3 c0 c1 c2 c3 c4 c5 c6 c7;have F:=zg U (.cells #[] 231);have q:Below _ wr (W4.alloc (.cells #[] 231)):=zd O _;have b7:Below _ W4 (W4.alloc (.cells #[] 231)):=zd bZ _;have x6:=bC F 6;have q4:=zD U;have hE:(W4.alloc _).ownsRow _ 231 2 _ 0 []:=⟨rfl,.inr ⟨_,0,#[],rfl,Jr _,Jb W4 _,Jr _,Jq _,rfl,rfl⟩⟩;have HE:Hid _:=hE;have S:=hI (Dy (j9.1.j0 (zb d q)));have T:=hI j9.2.2.2;clear hE;go_upto_region 7 with(first|(at_builtin;refine zu _ (by rfl) _ _ 138 (by rfl) _ 231 m0 _ 2 16 underlying138 mi o7 o8 o9 rfl dC _ 0 [] (by rfl) HE.out ca _ cc _ (by rfl) T.out (Bt _) S.out (Dx _) (by unfold maxLen;omega) oM sM ?_;intro v6 w6 e8 j1;rw[Nat.zero_add,List.nil_append] at e8;obtain⟨a6,e6,rfl,_⟩:=zn e8;have d7:=(qY j1).blk F (by simp[Value.ownBlock];omega);have u6:=bC d7 6;have f6:=zc d7 6;have X:=b7.grown j1 b7.size (λj hj=>by simp[Value.ownBlock] at hj;omega)))
   have k9:=mv d7 (a6,s.M.n,e6);have i8:Below _ wr (w6.setCell _ (a6,s.M.n,e6)):=(zb O X).setCell (p:=(wr.heap.size,6)) (Jr _) _;have j4:(w6.setCell _ (a6,s.M.n,e6)).ownsRow _ 223 2 _ _ _:=ZR (zm X b1.out) (a:=(wr.heap.size,6)) (by show wr.heap.size<_;omega) _
   have i9:(w6.setCell _ (a6,s.M.n,e6)).ownsRow (wr.heap.size+1) 231 2 _ _ _:=zo (ZR e8 (a:=(wr.heap.size,6)) (by show wr.heap.size<W4.heap.size;omega) _) oM
   generalize w6.setCell _ _=W7 at k9 i8 j4 i9 ⊢;clear U F d7 u6 f6 X e8 j1 x6 q b7 HE S T b1 O;obtain⟨av,cv,rfl,_⟩:=zn hO.row;have l5:=za hQ i8;obtain⟨y0,y1,y2,y3,y4,y5,y6,y7⟩:=ju k9;have q0:=bC l5 0;have a4:Below _ wr (W7.alloc (.cells (s,l,I,a6,e6) 140)):=zd i8 _;have f8:Below _ W7 (W7.alloc (.cells (s,l,I,a6,e6) 140)):=zd bZ _;have l2:=hO.j0 a4;have l8:=zm f8 j4;have l7:=zm f8 i9;have i6:=zg l5 (.cells (s,l,I,a6,e6) 140);have g5:Hid (∀ j u,([_,_,_,_,_,_,_,_]:List Value)[j]?=_->(W7.alloc (.cells (s,l,I,a6,e6) 140)).cell? _=_):=Jo (Jb W7 _);have J:=hI l2;have k3:Hid (_/\_):=⟨l8,l7⟩;have d1:=Jp b0 a4.size;clear l2 l8 l7 j4 i9;go_wp2_with (first|(at_builtin;refine zu _ (by rfl) _ _ 34 (by rfl) _ 140 j0 _ 8 112 underlying34 ji n8 n9 o0 rfl dC _ k _ (by rfl) J.row _ 1 1 [_,_,_,_,_,_,_,_] (by rfl) (λh=>(by cases h)) (by rfl) (λad e=>by cases e;exact g5.out) (by intro u hu;simp at hu;rcases hu with rfl|rfl|rfl|rfl|rfl|rfl|rfl|rfl <;> rfl) (by unfold maxLen;omega) oM d1 ?_;intro v9 w9 b9 a7;obtain⟨a9,e9,rfl,_⟩:=zn b9;have W:=(qY a7).blk i6 (λe=>by have:=(J.row.lt _ e).1;omega);have r9:=bC W 0;have f9:=zc W 0))
   have e5 :=
    J.k3 (lim:=wr.heap.size+1) (λi hi=>⟨λb n=>by have:=(b2.out i hi).1 b n;omega,λb n=>by have:=(b2.out i hi).2 b n;omega⟩) (by rw[← g8.out];exact k3.1) (by rw[← g8.out];exact k3.2) oM a7 (by rw[← g8.out];exact b9)
   have H:zl w9 (w9.setCell _ (a9,k+1,e9)) _:=(zl.refl _ (λb=>b=_+1)).set (a:=(w.heap.size+1+1,0)) rfl _
   have b4:=hI (e5.kept H (λb e=>by have e:=e;omega))
   have m4 :=
    hI ((b3.trans (zl.of_below a4)).trans (((qY a7).mono (λb e=>.inr (J.row.lt b e).1)).trans (H.mono (λb e=>.inl e))))
   have g4:=jx W (a9,k+1,e9);have g4:=hI g4;go_wp2;go_roundw
   case rel=>exact⟨_,_,_,_,by omega,by go_num,g4.out,b4.out,m4.out⟩
   case measure=>simp[intOf];omega
  ·obtain rfl:k=N:=by omega
   have o1:=bC (b3.blk j8.out (λe=>by have e:=e;omega)) 1
   have k6:Hid (im w V wr v _ _ k 0 0 x L C (λ_=>.slice none 0 0) (λ_=>.slice none 0 0) (λ_=>.slice none 0 0) (λ_=>.slice none 0 0)):=⟨hQ,⟨hO,qw.nil _ _ _ _ _ _,Zq.nil _ _ _ _⟩,b3⟩
   obtain⟨av,cv,rfl,_⟩:=zn hO.row;clear hlt d hO hQ b3 b0 hk HZ HS;go_wp2;clear o1;go_loopw [7,38] (λ_ i wz=>∃ (t:Nat) (lv:Value) (A B D:_),t<=M/\i=int i64 t/\Hid (im w V wz (av,k,cv) lv True k t 0 x L C A B D (λ_=>.slice none 0 0))) (λ_ i _=>M - (intOf i).toNat)
   case atStart=>exact⟨0,_,_,_,_,Jq _,rfl,k6.out⟩
   case round =>
    clear k6;obtain⟨t,lv,A,B,D,ht,rfl,f⟩:=hrel;have d:=zl.j0 m m.size f.kp (λb e=>by have e:=e;have:=m.size;omega)
    obtain⟨ae,ce,rfl,_⟩:=zn f.j1.F.row
    by_cases hlt:t<M
    ·obtain⟨Cc,d0,b8⟩:=HL.out
     obtain⟨b,off,rfl,G⟩:=d0 t hlt;obtain⟨d4,d8,d5,d9,d6,e0,a0,g1,s1,g2,s2,g3,s3⟩:=b8 t hlt;have a8:=k7.out t hlt;obtain⟨z,hz⟩:=nM (x.F t);rw[← hz] at a0 g1 s1 g2 s2 g3 s3 a8;have g9:=hI hz;rw[a0] at G;have n:=Ja w _ (G 0 dC);have c0:wr.cell? _=some (.slice d4 _ d8):=(d.cell (p:=⟨b,off+_,_⟩) n).trans (G 0 dC);have c1:wr.cell? _=some (.slice d5 _ d9):=tR d (G 1 dC) n;have c2:wr.cell? _=some (.slice d6 _ e0):=tR d (G 2 dC) n;have Y:Hid (_/\(_/\_)/\(_/\_)/\(_/\_)):=⟨a8,⟨g1,s1⟩,⟨g2,s2⟩,⟨g3,s3⟩⟩;have m2:=hI d;clear G a0 g1 s1 g2 s2 g3 s3 a8 hz d0 b8;have o:Below _ wr (wr.alloc (.cells #[(d4,z.r,d8),(d5,z.m,d9),(d6,z.t,e0)] 145)):=zd bZ _;have bX:=Qc o;have i7:=zg f.q (.cells #[(d4,z.r,d8),(d5,z.m,d9),(d6,z.t,e0)] 145)
     as_aux_lemma =>
      go_upto_region 12 with fail;generalize hbxx:wr.heap.size=bx at bX ⊢;generalize wr.alloc _=WB at o bX i7 ⊢;rw[← hbxx] at *;clear c0 c1 c2;obtain⟨x0,x1,x2⟩:=ZE bX;have q1:=bC i7 1;have d3:=hI (f.j1.j0 o);have k0:=hI (f.kp.trans (zl.of_below o));have g0:=k0.size;have b2:Hid (∀ i,_->_/\_/\_):=λi hi=>⟨λg hg=>((d3.F.K i hi).lt g hg).2,λg hg=>((d3.F.I i hi).lt g hg).2,λg hg=>((d3.F.L i hi).lt g hg).2⟩
      have m3:Hid (∀ Z,Below _ WB Z->Calls _ 138 _ Z λe w5=>(∃ a1 c1 a2 c2 l c3,e=.returned (.agg #[.slice a1 _ c1,.slice a2 _ c2,.slice l _ c3])/\Hid (w5.ownsRow _ 220 4 (.slice a1 _ c1) _ _/\w5.ownsRow _ 228 4 (.slice a2 _ c2) _ _/\w5.ownsRow _ 234 2 (.slice l _ c3) _ _))/\Below _ WB w5):=λZ hZ=>by
       have j7:=zb m2.out (zb o hZ);refine(Ms d4 d5 d6 d8 d9 e0 z Z Y.1 (Y.2.1.1.j0 j7) (Y.2.2.1.1.j0 j7) (Y.2.2.2.1.j0 j7) Y.2.1.2 Y.2.2.1.2 Y.2.2.2.2).mono ?_;rintro e w5 ⟨⟨v1,v2,v3,rfl,o1,o2,o3⟩,n3⟩;obtain⟨a1,c1,rfl,_⟩:=zn o1;obtain⟨a2,c2,rfl,_⟩:=zn o2;obtain⟨l,c3,rfl,_⟩:=zn o3;exact⟨⟨a1,c1,a2,c2,l,c3,rfl,zo o1 hZ.size,zo o2 hZ.size,zo o3 hZ.size⟩,zb hZ n3⟩
      clear f bX d;go_region_law (first
       |(go_simp;go_at_call 138;(with_reducible refine Jm (m3.out _ ?_) ?_);exact dB;rintro e w5 ⟨⟨a1,c1,a2,c2,l,c3,rfl,g7⟩,X⟩;have i5:=za i7 X;have qq:=bC i5 1;have qa:=zf (zg i5 (.cells #[(a1,z.r,c1),(a2,z.m,c2),(l,z.t,c3)] 145)) 1 _ rfl;have d2:Hid (zz (w5.alloc (.cells #[(a1,z.r,c1),(a2,z.m,c2),(l,z.t,c3)] 145)) _ _ _ _ k t 0 x L C A B D _):=d3.j0 (zd X _);have n4:V.heap.size<=(w5.alloc (.cells #[(a1,z.r,c1),(a2,z.m,c2),(l,z.t,c3)] 145)).heap.size:=Jp g0 (zd X _).size;dsimp only)
       |(refine step_append_lies _ (by rfl) _ _ 35 (by rfl) _ 145 p0 _ 3 72 underlying35 pi p1 p2 p3 rfl dC _ t _ (by rfl) d2.F.row _ 1 1 [_,_,_] (by rfl) (by rfl) (Jo (Jb w5 _)) (by intro u hu;simp at hu;rcases hu with rfl | rfl | rfl <;> rfl) dC (by unfold maxLen;omega) oM n4 (w5.heap.size+1) sM ?_;intro g6 l1 w6 j5 P q3 q5;have e7:=(qY P).blk (zg i5 _) (λe=>by have:=(d2.F.row.lt _ e).1;omega);have u1:=bC e7 1;have u2:=zc e7 1))
      all_goals
       have k5:=d2.load b2.out (by rw[← g9.out];exact zm (zd bZ _) g7.1) (by rw[← g9.out];exact zm (zd bZ _) g7.2.1) (by rw[← g9.out];exact zm (zd bZ _) g7.2.2) g0 P j5
       have H:zl w6 (w6.setCell _ (some (g6,0),t+1,l1)) _:=(zl.refl _ (λb=>b=_+1)).set (a:=(w.heap.size+1+1,1)) rfl _
       have b4:Hid (im w V _ _ _ _ k _ 0 x L C _ _ _ _):=⟨jy e7 _,k5.box H e7 dC,(k0.trans (zl.of_below (zd X _))).trans (((qY P).mono (λb e=>.inr (d2.F.row.lt b e).1)).trans (H.mono (λb e=>.inl e)))⟩
       clear k5 H;go_wp2;go_roundw
       case rel=>exact⟨_,_,_,_,_,by omega,by go_num,b4.out⟩
       case measure=>simp[intOf];omega
    ·obtain rfl:t=M:=by omega
     have o2:=bC (f.kp.blk j8.out (λe=>by have e:=e;omega)) 2
     clear hlt d ht HL k7;go_wp2;clear o2;go_loopw [9,53] (λ_ i wz=>∃ (r:Nat) (bv:Value) (E:_),r<=R/\i=int i64 r/\Hid (im w V wz (av,k,cv) (ae,t,ce) bv k t r x L C A B D E)) (λ_ i _=>R - (intOf i).toNat)
     case atStart=>exact⟨0,_,_,Jq _,rfl,f.out⟩
     case round =>
      clear f;obtain⟨r,bv,E,hr,rfl,f⟩:=hrel;have d:=zl.j0 m m.size f.kp (λb e=>by have e:=e;have:=m.size;omega)
      obtain⟨ab,e4,rfl,_⟩:=zn f.j1.u.row
      by_cases hlt:r<R
      ·obtain⟨Cc,d0,b8⟩:=l9.out
       obtain⟨b,off,rfl,G⟩:=d0 r hlt;obtain⟨f7,f4,a0,g1,s1⟩:=b8 r hlt;have a8:=m8.out r hlt;obtain⟨y,hy⟩:=nM (x.u r);rw[← hy] at a0 g1 s1 a8;have k8:=hI hy;rw[a0] at G;have n:=Ja w _ (G 0 dC);have c0:wr.cell? _=some (.int _ _):=(d.cell (p:=⟨b,off+_,_⟩) n).trans (G 0 dC);have c1:wr.cell? _=some (.int _ _):=tR d (G 1 dC) n;have c2:wr.cell? _=some (.string _):=tR d (G 2 dC) n;have c3:wr.cell? _=some (.slice f7 _ f4):=tR d (G 3 dC) n;have c4:wr.cell? _=some (.int _ _):=tR d (G 4 dC) n;have c5:wr.cell? _=some (.int _ _):=tR d (G 5 dC) n;have c6:wr.cell? _=some (.int _ _):=tR d (G 6 dC) n;have c7:wr.cell? _=some (.int _ _):=tR d (G 7 dC) n;have c8:wr.cell? _=some (.bool _):=tR d (G 8 dC) n;have c9:wr.cell? _=some (.int _ _):=tR d (G 9 dC) n;have m9:wr.cell? _=some (.int _ _):=tR d (G 10 dC) n;have n1:wr.cell? _=some (.int _ _):=tR d (G 11 dC) n;have n2:wr.cell? _=some (.int _ _):=tR d (G 12 dC) n;have q7:=a8.2;have k4:Hid (_/\_):=⟨g1,s1⟩;clear G a0 g1 s1 a8 hy d0 b8;have o:Below _ wr (wr.alloc (.cells (y,f7,f4) 150)):=zd bZ _;have bX:=Qc o;have F:=zg bX (.cells #[] 3);have q:Below _ wr ((wr.alloc _).alloc (.cells #[] 3)):=zd o _;have x3:=bC F 3;have HE:Hid (((wr.alloc (.cells (y,f7,f4) 150)).alloc _).ownsRow _ 3 1 _ 0 []):=⟨rfl,.inr ⟨_,0,#[],rfl,Jr _,EB wr _ _,Jr _,Jq _,rfl,rfl⟩⟩;have S:=hI (Ci (k4.1.j0 (zb d q)));have T:=hI k4.2.2.2;have b2:Hid (∀ i,_->∀ b,_->b<wr.heap.size+1):=λi hi g hg=>by have:=((f.j1.u.j4 i hi).lt g hg).2;omega
       as_aux_lemma =>
        go_upto_region 18 with(first|(at_builtin;refine zu _ (by rfl) _ _ 27 (by rfl) _ 3 i0 _ 1 8 underlying27 ii n5 n6 n7 rfl dC _ 0 [] (by rfl) HE.out f7 _ f4 _ (by rfl) T.out (by rw[Qy,Nat.mul_one]) S.out (Az _ _) (by unfold maxLen;omega) oM sM ?_;intro v3 w3 Q a5;rw[Nat.zero_add,List.nil_append] at Q;obtain⟨l,I,rfl,_⟩:=zn Q;have K:=(qY a5).blk F (by simp[Value.ownBlock]);have v5:=bC K 3;have f5:=zc K 3;have b6:=q.grown a5 q.size (λj hj=>by simp[Value.ownBlock] at hj;omega)))
        have U:=mw K (l,y.c,I);have O:Below _ wr (w3.setCell _ (l,y.c,I)):=b6.setCell (p:=(wr.heap.size,3)) (Jr _) _;have b1:Hid ((w3.setCell _ (l,y.c,I)).ownsRow _ 3 1 _ _ _):=ZR Q (a:=(wr.heap.size,3)) (by show wr.heap.size<_;omega) _
        generalize w3.setCell _ _=W4 at U O b1 ⊢;clear K v5 f5 b6 Q a5 x3 o bX F q HE S T c0 c1 c2 c3 c4 c5 c6 c7 c8 c9 m9 n1 n2;have l4:=za f.q O;obtain⟨y0,y1,y2,y3,y4,y5,y6,y7,y8,y9,p7,p8,p9⟩:=Cl U;have q2:=bC l4 2;have a4:Below _ wr (W4.alloc (.cells (y,l,I) 150)):=zd O _;have J:=hI (f.j1.j0 a4);have m7:Hid ((W4.alloc (.cells (y,l,I) 150)).ownsRow _ 3 1 _ _ _):=zm (zd bZ _) b1.out;have i6:=zg l4 (.cells (y,l,I) 150);have g5:Hid (∀ j u,([_,_,_,_,_,_,_,_,_,_,_,_,_]:List Value)[j]?=_->(W4.alloc (.cells (y,l,I) 150)).cell? _=_):=Jo (Jb W4 _);have k1:=hI f.kp;have b0:=k1.size;have d1:=Jp b0 a4.size;clear f b1 O;clear y0 y1 y2 y3 y4 y5 y6 y7 y8 y9 p7 p8 p9;refine wp_region_lit ?_;refine Go.Great.wpList_runTo rfl _ rfl _ _ (show _ from rfl) ?_;refine Go.Great.wpList_readTo rfl _ rfl (ab,r,e4) (by simp[execOp,q2,go_sem]) ?_
        refine wpList_load_row rfl _ _ rfl _ rfl _ _ _ _ U underlying150 rfl Tryz.sizeBookingO ?_;refine Go.Great.wpList_buildSliceTo rfl _ _ 1 _ rfl _ rfl _ rfl underlying36 _ (Eq.trans (congrArg _ (show _ from by first|(simp[go_sem];done)|rfl|kernel_rfl)) (Hr y.k y.e y.v y.f y.j y.w y.x y.C y.y y.j2 y.j1 y.h l y.c I)) ?_
        go_wp2_with (first|(at_builtin;refine zu _ (by rfl) (.tmp 63) (.tmp 65) 36 (by rfl) V.heap.size 150 r0 (.agg #[(),(),False,True,(),(),(),(),.bool false,(),(),(),()]) 13 128 underlying36 ri p4 p5 p6 rfl dC _ r _ (by rfl) J.u.row (some (W4.heap.size,0)) 1 1 [y.k,y.e,y.j1,(l,y.c,I),y.v,y.f,y.j,y.w,y.h,y.x,y.C,y.y,y.j2] (by rfl) (λh=>(by cases h)) (by rfl) (λad e=>by cases e;exact g5.out) (by intro u hu;simp at hu;rcases hu with rfl|rfl|rfl|rfl|rfl|rfl|rfl|rfl|rfl|rfl|rfl|rfl|rfl <;> rfl) (by unfold maxLen;omega) oM d1 ?_;intro v9 w9 b9 a7;obtain⟨a9,e9,rfl,_⟩:=zn b9;have W:=(qY a7).blk i6 (λe=>by have:=(J.u.row.lt _ e).1;omega);have r9:=bC W 2;have f9:=zc W 2))
        have e5:=J.book b2.out (by rw[← k8.out];exact m7.out) oM a7 (by unfold AM;rw[qg,← k8.out];exact b9)
        have H:zl w9 (w9.setCell _ (a9,r+1,e9)) _:=(zl.refl _ (λb=>b=_+1)).set (a:=(w.heap.size+1+1,2)) rfl _
        have b4:Hid (im w V _ _ _ _ k t _ x L C A B D _):=⟨Tq W _,e5.box H W dC,(k1.trans (zl.of_below a4)).trans (((qY a7).mono (λb e=>.inr (J.u.row.lt b e).1)).trans (H.mono (λb e=>.inl e)))⟩
        clear e5 H;go_wp2;go_roundw
        case rel=>exact⟨_,_,_,by omega,by go_num,b4.out⟩
        case measure=>simp[intOf];omega
      ·obtain rfl:r=R:=by omega
       have b5:=f.kp.blk m1.out (λe=>by have e:=e;omega)
       have l3:=f.q;obtain⟨y0,y1,y2⟩:=ZE l3;obtain⟨s0,s1,s2⟩:=ZE b5;obtain⟨f0,f1,f2⟩:=FM b5;have j2:=IP wr (w.heap.size+1) (av,k,cv) (ae,t,ce) (ab,r,e4);have rF:=Fp b5 (av,k,cv) (ae,t,ce) (ab,r,e4);have m6:=hI ((f.j1.box j2 b5 dC).lower m.size);have m5:=hI (zl.j0 d d.size j2 (λb e=>by have e:=e;omega))
       clear j2 l3 b5;go_wp2;obtain⟨z0,z1,z2⟩:=ZE rF;exact Jj (by simp[results,results70,go_sem,z0,z1,z2]) rfl ⟨⟨av,cv,ae,ce,ab,e4,L,C,A,B,D,E,rfl,m6.out⟩,m5.out⟩
end
/-- The operation names no booking. -/
theorem Kd (x:qD)(d:Option Addr)(g:Nat)(a:Option Addr)(n c:Nat)(k:Nat)(w:World)(h:Ze w)(l:x.d=(k:Int))(i:k<10)(j:Q8 k=false) :
  Calls prog 107 #[(a,n,c),.agg (x,d,g)] w λe w'=>e=.returned (.tuple #[])/\Below w w w':=by
 have f:=Jb w (.cells (x,d,g) 47);have b:=Kv f;have p:(w.alloc _).cell? _=some (.bool false):=tR b (by rw[← j];exact(h k i).2.1) h.lt
 have q:(w.alloc (.cells (x,d,g) 47)).cell? (w.heap.size,0)=some (k:Int):=by rw[← l];exact bC f 0
 have m:=n0 k;have o:(k:Int)<10:=oM;clear l;go_enter func107,ntmps107;go_upto_region 1 with fail;generalize w.alloc _=W at f b p q ⊢;clear h j;go_wp2;exact Jj (by simp[results,results107,go_sem]) rfl ⟨rfl,b⟩
/-- It names one that isn't there. -/
theorem Lt (x:qD)(f:Option Addr)(g:Nat)(a:Option Addr)(n c:Nat)(k:Nat)(w:World)(h:Ze w)(o:x.d=(k:Int))(i:k<10)(j:Q8 k=true)(pe:Nat->Addr)(l:qI w pe)(m:¬ x.k<=(n:Int)) :
  Calls prog 107 #[(a,n,c),.agg (x,f,g)] w λe w'=>e=.panicked [{ v:=.iface 96 (.agg #[.iface 391 (.pointer (some (pe 3)))]),recovered:=false }]/\Below w w w':=by
 have d:=Jb w (.cells (x,f,g) 47);have b:=Kv d;have s:(w.alloc _).cell? _=some (.bool true):=tR b (by rw[← j];exact(h k i).2.1) h.lt
 have t:(w.alloc (.cells (x,f,g) 47)).cell? (w.heap.size,0)=some (k:Int):=by rw[← o];exact bC d 0
 have q:=n0 k;have r:(k:Int)<10:=oM;have u:(w.alloc _).cell? _=some (.int _ _):=bC d 2;have p:=(qI.j0 l b).c3;have ef:=Jc m;clear o;go_enter func107,ntmps107;go_upto_region 1 with fail;generalize w.alloc _=W at d b s t u p ⊢;clear h j m l;go_wp2_with (go_at_call 193;refine(AK _ _ _).mono ?_;rintro e w1 ⟨rfl,rfl⟩);exact⟨rfl,rfl,b⟩
section
def IS (g base N R k i c h:Nat)(f a d:Option Addr)(v:Wk)(x:zY)(L C E:Nat->Value)(w:World)(e:Ending)(w':World):Prop :=
 ∃ code y A B D,e=.returned (int i64 code)/\qE (x.G k) v (x.F k) code y/\zz w' base (.slice f N i) (.slice a N c) (.slice d R h) N N R { x with F:=Ew x.F k y } L C A B D E /\
  w'.heap[g]?=some (.cells #[(f,N,i),(a,N,c),(d,R,h)] 38 (0,0))/\zl w w' (λb=>(Value.slice a N c).ownBlock=some b)
section
variable {w z : World} {g gl base N R k csa cld cbk n : Nat} {asa abk : Option Addr} {v : Wk} {x : zY} {L C A B D E : Nat -> Value} {u : Value}
theorem pg {T:Nat->ql}(l:zz w base (asa,N,csa) (some (gl,0),N,cld) (abk,R,cbk) N N R x L C A B D E)(o:w.heap[g]?=some (.cells #[(asa,N,csa),(some (gl,0),N,cld),(abk,R,cbk)] 38 (0,0)))(h:base<=w.heap.size)(f:Below w w z)(d:z.ownsRow w 220 4 u n (zH T n))(q:qE (x.G k) v (x.F k) 0 { x.F k with r:=n,K:=T }) :
  IS g base N R k csa cld cbk asa (some (gl,0)) abk v x L C E w (.returned ()) (z.setCell (gl,k*3) u):=by
 obtain⟨cs,c⟩:=zC l.F.row gl rfl;have j:g≠gl:=λe=>by subst e;rw[o] at c;simp at c
 have m:=(zl.refl z (λb=>(Value.slice (some ⟨gl,0,none⟩) N cld).ownBlock=some b)).set (a:=⟨gl,k*3+0,none⟩) rfl u
 exact⟨0,_,_,_,_,rfl,q,(l.j0 f).k5 (λi p b e=>((l.F.K i p).lt b e).2) d h,m.blk (za o f) (λe=>j (by simpa [Value.ownBlock] using e.symm)),(zl.of_below f).trans m⟩
theorem my {T:Nat->zU}(l:zz w base (asa,N,csa) (some (gl,0),N,cld) (abk,R,cbk) N N R x L C A B D E)(o:w.heap[g]?=some (.cells #[(asa,N,csa),(some (gl,0),N,cld),(abk,R,cbk)] 38 (0,0)))(h:base<=w.heap.size)(f:Below w w z)(d:z.ownsRow w 228 4 u n (zF T n))(q:qE (x.G k) v (x.F k) 0 { x.F k with m:=n,I:=T }) :
  IS g base N R k csa cld cbk asa (some (gl,0)) abk v x L C E w (.returned ()) (z.setCell (gl,k*3+1) u):=by
 obtain⟨cs,c⟩:=zC l.F.row gl rfl;have j:g≠gl:=λe=>by subst e;rw[o] at c;simp at c
 have m:=(zl.refl z (λb=>(Value.slice (some ⟨gl,0,none⟩) N cld).ownBlock=some b)).set (a:=⟨gl,k*3+1,none⟩) rfl u
 exact⟨0,_,_,_,_,rfl,q,(l.j0 f).k6 (λi p b e=>((l.F.I i p).lt b e).2) d h,m.blk (za o f) (λe=>j (by simpa [Value.ownBlock] using e.symm)),(zl.of_below f).trans m⟩
theorem ph {T:Nat->qO}(l:zz w base (asa,N,csa) (some (gl,0),N,cld) (abk,R,cbk) N N R x L C A B D E)(o:w.heap[g]?=some (.cells #[(asa,N,csa),(some (gl,0),N,cld),(abk,R,cbk)] 38 (0,0)))(h:base<=w.heap.size)(f:Below w w z)(d:z.ownsRow w 234 2 u n (zL T n))(q:qE (x.G k) v (x.F k) 0 { x.F k with t:=n,L:=T }) :
  IS g base N R k csa cld cbk asa (some (gl,0)) abk v x L C E w (.returned ()) (z.setCell (gl,k*3+2) u):=by
 obtain⟨cs,c⟩:=zC l.F.row gl rfl;have j:g≠gl:=λe=>by subst e;rw[o] at c;simp at c
 have m:=(zl.refl z (λb=>(Value.slice (some ⟨gl,0,none⟩) N cld).ownBlock=some b)).set (a:=⟨gl,k*3+2,none⟩) rfl u
 exact⟨0,_,_,_,_,rfl,q,(l.j0 f).k7 (λi p b e=>((l.F.L i p).lt b e).2) d h,m.blk (za o f) (λe=>j (by simpa [Value.ownBlock] using e.symm)),(zl.of_below f).trans m⟩
theorem iv {b:Option Addr}{a:Int}(d:zz w base (.slice asa N csa) (.slice b N cld) (.slice abk R cbk) N N R x L C A B D E)(e:w.heap[g]?=some (.cells #[.slice asa N csa,.slice b N cld,.slice abk R cbk] 38 (0,0)))(c:Below w w z)(f:qE (x.G k) v (x.F k) a (x.F k)) :
  IS g base N R k csa cld cbk asa b abk v x L C E w (.returned a) z :=
 ⟨a,_,_,_,_,rfl,f,by rw[aj];exact d.j0 c,za e c,zl.of_below c⟩
end
end
def Qx (r k:Nat):Nat:=if k<=r then k else k - 1
theorem My (bo:Option Addr)(n c r:Nat)(S:Nat->ql)(x:Int)(w:World)(hn:n<=60)(hr:r<n)(H:Zm S r=x)(F:∀ j,j<n->j≠r->Zm S j≠x)(I:qx w bo n S) :
  Calls prog 165 #[(bo,n,c),x] w λe w'=>(∃ v,e=.returned v/\w'.ownsRow w 220 4 v (n - 1) (zH (ZN S r) (n - 1)))/\Below w w w':=by
 obtain⟨R,T,A,B,C⟩:=info_parts Tryz.infoStay;have L:=hI I;have E:=hI H;have K:=hI F;clear I H F;go_enter func165,ntmps165;go_wp2;go_loopw [5,7,10] (λv _ i wr=>∃ k,k<=n/\i=int i64 k/\wr.ownsRow w 220 4 v (Qx r k) (zH (ZN S r) (Qx r k))/\Below w w wr) (λ_ _ i _=>n - (intOf i).toNat)
 case atStart=>exact⟨0,Jq _,rfl,⟨rfl,.inl ⟨rfl,rfl⟩⟩,bZ⟩
 case round =>
  obtain⟨k,hk,rfl,a,d⟩:=hrel
  by_cases hlt:k<n
  ·obtain⟨b,off,rfl,s,h1,h2,h3⟩:=L k hlt
   have O:=Ja w _ s;obtain⟨c0,c1,c2,c3⟩:=OP d s h1 h2 h3 O;clear s h1 h2 h3
   by_cases he:k=r
   ·have M:((S k).e == x)=true:=by rw[he];simpa [Zm] using E.out
    have N:((S k).e != x)=false:=by rw[he];simpa [Zm] using E.out
    have l:Hid (Qx r (k+1)=Qx r k):=by
     have m:Qx r _=k+1 - 1:=Je oM;have f:Qx r k=k:=Jf oM
     show _=_
     omega
    clear he;go_wp2;go_roundw
    case rel=>exact⟨k+1,by omega,by go_num,by rw[l.out];exact zm (zd bZ _) a,zd d _⟩
    case measure=>simp[intOf];omega
   ·have g:=K k hlt he
    have M:((S k).e == x)=false:=by simpa [Zm] using g
    have N:((S k).e != x)=true:=by simpa [Zm] using g
    have l:Hid (Qx r (k+1)=Qx r k+1/\ZN S r (Qx r k)=S k/\Qx r k<=60):=by
     by_cases c:k<=r
     ·have m:Qx r _=k+1:=Jf oM
      have f:Qx r k=k:=Jf c;have o:ZN S r k=S k:=Jf oM;rw[m,f,o];exact⟨rfl,rfl,by omega⟩
     ·have m:Qx r _=k+1 - 1:=Je oM
      have f:Qx r k=_:=Je c;have o:ZN S r _=S (k - 1+1):=Je oM;rw[m,f,o];exact⟨by omega,by rw[show k - 1+1=k by omega],by omega⟩
    clear he g;have Q:=d.size;have t:=l.2.2;generalize hq:Qx r k=q at a t;have D:=hI hq;clear hq;have J:Hid (∀ p,(some (wr.heap.size+1,0):Option Addr)=some p->∀ j u,[Value.int .i64 (S k).e,int i64 (S k).ln,int i64 (S k).f,int i64 (S k).j][j]?=some u->((wr.alloc (.cells #[(S k).e,(S k).ln,(S k).f,(S k).j] 220)).alloc (.cells #[(S k).e,(S k).ln,(S k).f,(S k).j] 220)).cell? (p.add j)=some u):=by
     intro p e
     cases e
     exact Jo (by simpa using Jb (wr.alloc _) _)
    go_wp2_with (first|(at_builtin;refine zu _ rfl _ _ 141 rfl _ 220 R _ 4 32 underlying141 T A B C rfl dC _ q _ (by rfl) ((a.alloc _).alloc _) _ 1 1 _ rfl (λh=>(by cases h)) rfl J (by intro u G;simp at G;rcases G with rfl|rfl|rfl|rfl <;> rfl) (by unfold maxLen;omega) oM (by simp;omega) ?_;intro v' w3 z y))
    go_roundw
    case rel =>
     refine⟨k+1,by omega,by go_num,?_,(zd (zd d _) _).grown y (by simp;omega) (λj P=>(a.lt j P).1)⟩
     obtain⟨m,f,_⟩:=l;rw[m,D.out,AN];rw[D.out] at f;rw[f];exact z
    case measure=>simp[intOf];omega
  ·obtain rfl:k=n:=by omega
   have l:Hid (Qx r k=_):=Je oM;rw[l.out] at a;go_wp2;go_ret;exact⟨⟨_,rfl,a⟩,d⟩
theorem Gm (l:Option Addr)(n c:Nat)(S:Nat->qO)(x:Int)(w:World)(hn:n<=1048576)(r:qC w l n S) :
  Calls prog 154 #[(l,n,c),x] w λe w'=>qH (Qh (ZZ S) n x) e/\Below w w w':=by
 go_enter func154,ntmps154;go_wp2;go_loopw [6,9] (λ_ i wr=>∃ k,k<=n/\i=int i64 k/\(∀ j,j<k->ZZ S j≠x)/\Below w w wr) (λ_ i _=>n - (intOf i).toNat)
 case atStart=>exact⟨0,Jq _,rfl,λj q=>by omega,bZ⟩
 case round =>
  obtain⟨k,hk,rfl,d,a⟩:=hrel;have h:=hI d;clear d
  by_cases hlt2:k<n
  ·obtain⟨b,off,rfl,g,h1⟩:=r k hlt2
   have m:=Ja w _ g;have c0:=tR a g m;have c1:=tR a h1 m;clear g h1
   by_cases he:ZZ S k=x
   ·have p:((S k).e == x)=true:=by unfold ZZ at he;simpa using he
    have f:Hid (Qh _ n x):=⟨k,hlt2,he⟩;clear he;go_wp2;go_ret;exact⟨zN f,zd a _⟩
   ·have p:((S k).e == x)=false:=by unfold ZZ at he;simpa using he
    have o:Hid (_≠x):=he;clear he;go_wp2;go_roundw
    case rel=>exact⟨k+1,by omega,by go_num,λj q=>by
     by_cases e:j=k
     ·subst e;exact o
     ·exact h j oM,zd a _⟩
    case measure=>simp[intOf];omega
  ·obtain rfl:k=n:=by omega
   have f:=hI (DC h);go_wp2;go_ret;exact⟨zh f,a⟩
theorem DK (bo:Option Addr)(n c:Nat)(S:Nat->qO)(w:World)(hn:n<=60)(h:∀ j,j<n->In (S j).z 1 20)(m:qC w bo n S) :
  Calls prog 155 #[(bo,n,c)] w λe w'=>e=.returned (Z0 S n)/\Below w w w':=by
 have f:=hI h;clear h;go_enter func155,ntmps155;go_wp2;go_loopw [3,5,8] (λv _ i wr=>∃ k,k<=n/\i=int i64 k/\v=int i64 (Z0 S k)/\Below w w wr) (λ_ _ i _=>n - (intOf i).toNat)
 case atStart=>exact⟨0,Jq _,rfl,rfl,bZ⟩
 case round =>
  obtain⟨k,hk,rfl,rfl,a⟩:=hrel
  by_cases hlt:k<n
  ·obtain⟨b,off,rfl,d,h1⟩:=m k hlt
   have g:=Ja w _ d;have c0:=tR a d g;have c1:=tR a h1 g;clear d h1;have l:IntKind.i64.wrap (Z0 S k+(S k).z)=Z0 S (k+1):=by
    have h1:=Fe S k (λj hj=>f j oM)
    have h2:=f k hlt;unfold In at h2;have h3:Z0 S (k+1)=_+_:=rfl;rw[h3,Jk];omega
   go_wp2;go_roundw
   case rel=>exact⟨_,by omega,by go_num,rfl,zd a _⟩
   case measure=>simp[intOf];omega
  ·obtain rfl:k=n:=by omega
   go_wp2;go_ret;exact⟨rfl,a⟩
theorem Mz (most:Int)(bo:Option Addr)(n c:Nat)(S:Nat->qO)(w:World)(hn:n<=2097152)(hc:n<=c)(J:qC w bo n S) :
  Calls prog 84 #[most,(bo,n,c)] w λe w'=>qH (An most n S) e/\Below w w w':=by
 have s:=hI J;clear J
 by_cases g0:In most 0 500
 ·have H:=Jd g0
  have x:=hI g0;clear g0
  by_cases h60:n<=60
  ·have G:decide (60<n)=false:=by simp;omega
   go_enter func84,ntmps84;go_wp2_with (first|(go_at_call 148;refine bM (zt _ _ _ _) λw' a=>?_;have a:=a.symm;subst a))
   go_loopw [5,6,17] (λ_ _ i wr=>∃ k,k<=n/\i=int i64 k/\(∀ j,j<k->In (S j).e 1 9999/\¬ Qh (ZZ S) j (S j).e/\In (S j).z 1 20)/\Below w w wr) (λ_ _ i _=>n - (intOf i).toNat)
   case atStart=>exact⟨0,Jq _,rfl,λj F=>by omega,bZ⟩
   case round =>
    obtain⟨i,r,rfl,o,d⟩:=hrel;have A:=hI o;clear o H G
    by_cases hlt:i<n
    ·obtain⟨b,off,rfl,D,h1⟩:=s i hlt
     have I:=Ja w _ D;have L:=tR d D I;have c1:=tR d h1 I;have f:=Jb wr (.cells #[(S i).e,(S i).z] 234);have l:=zd d (.cells #[(S i).e,(S i).z] 234);clear D h1;go_upto_region 6 with fail;generalize hW:wr.alloc _=W at f l ⊢;clear hW;have N:=zD f;have z0:=gC f 0;have z1:=gC f 1;have i1:=n0 i;have i2:(i:Int)<=(c:Int):=oM;clear L c1 f d
     by_cases g1:In (S i).e 1 9999
     ·have t:=Jd g1
      have y:=hI g1;clear g1
      by_cases g2:Qh (ZZ S) i (S i).e
      ·have q:=hI g2
       clear g2;refine ze kR kR ?_
       repeat(go_big_quiet_step ((rename_i g;first|(go_at_call 89;refine gE (v:=.bool true) (Qt _ _) (by rw[t]))|(go_at_call 154;refine zr (v:=.bool true) ((Gm _ i c S _ _ oM ((s.j9 oM).j0 (zb l g.o))).mono ?_);rintro e K ⟨⟨bb,rfl,r⟩,m⟩;obtain rfl:=r.2 q;exact⟨rfl,m⟩))))
       refine Jl ?_;rintro _ ⟨g,rfl⟩;go_wp2;go_ret;exact⟨zh (λh=>(h.2.2.1 i hlt).2.1 q),zb l g.o⟩
      ·have q:=hI g2
       clear g2
       by_cases g3:In (S i).z 1 20
       ·have C:=Jd g3
        have z:=hI g3;clear g3;refine ze kR kR ?_
        repeat(go_big_quiet_step ((rename_i g;first|(go_at_call 89;refine gE (v:=.bool true) (Qt _ _) (by rw[t]))|(go_at_call 154;refine zr (v:=.bool false) ((Gm _ i c S _ _ oM ((s.j9 oM).j0 (zb l g.o))).mono ?_);rintro e K ⟨⟨bb,rfl,r⟩,m⟩;obtain rfl:=Bool.eq_false_iff.2 (λe=>q (r.1 e));exact⟨rfl,m⟩)|(go_at_call 148;refine gE (v:=.bool true) (zt _ _ _ _) (by rw[C])))))
        refine Jl ?_;rintro _ ⟨g,rfl⟩;go_wp2;have B:Hid (∀ j,j<i+1->In (S j).e 1 9999/\¬ Qh _ j (S j).e/\In (S j).z 1 20):=λj F=>by
         by_cases e:j=i
         ·subst e;exact⟨y,q,z⟩
         ·exact A j oM
        go_roundw
        case rel=>exact⟨_,by omega,by go_num,B,zb l g.o⟩
        case measure=>simp[intOf];omega
       ·have C:=Jc g3
        have z:=hI g3;clear g3;refine ze kR kR ?_
        repeat(go_big_quiet_step ((rename_i g;first|(go_at_call 89;refine gE (v:=.bool true) (Qt _ _) (by rw[t]))|(go_at_call 154;refine zr (v:=.bool false) ((Gm _ i c S _ _ oM ((s.j9 oM).j0 (zb l g.o))).mono ?_);rintro e K ⟨⟨bb,rfl,r⟩,m⟩;obtain rfl:=Bool.eq_false_iff.2 (λe=>q (r.1 e));exact⟨rfl,m⟩)|(go_at_call 148;refine gE (v:=.bool false) (zt _ _ _ _) (by rw[C])))))
        refine Jl ?_;rintro _ ⟨g,rfl⟩;go_wp2;go_ret;exact⟨zh (λh=>z (h.2.2.1 i hlt).2.2),zb l g.o⟩
     ·have t:=Jc g1
      have y:=hI g1;clear g1;refine ze kR kR ?_
      repeat(go_big_quiet_step ((first|(go_at_call 89;refine gE (v:=.bool false) (Qt _ _) (by rw[t])))))
      refine Jl ?_;rintro _ ⟨g,rfl⟩;go_wp2;go_ret;exact⟨zh (λh=>y (h.2.2.1 i hlt).1),zb l g.o⟩
    ·obtain rfl:i=n:=by omega
     go_wp2_with fail;refine bM (DK bo i c S _ h60 (λj F=>(A j F).2.2) (s.j0 d)) λw2 E=>?_
     have u:=zb d E
     by_cases hle:Z0 S i<=most
     ·have M:=Jd hle
      have p:=hI hle;clear hle;go_wp2;go_ret;exact⟨zN ⟨x,h60,A,p⟩,u⟩
     ·have M:=Jc hle
      have p:=hI hle;clear hle;go_wp2;go_ret;exact⟨zh (λh=>by have:=p.out;have:=h.2.2.2;omega),u⟩
  ·have G:decide (60<n)=true:=by simp;omega
   go_enter func84,ntmps84;go_wp2_with (first|(go_at_call 148;refine bM (zt _ _ _ _) λw' a=>?_;have a:=a.symm;subst a))
   go_ret;exact⟨zh (λh=>h60 h.2.1),bZ⟩
 ·have H:=Jc g0
  have x:=hI g0;clear g0;go_enter func84,ntmps84;go_wp2_with (first|(go_at_call 148;refine bM (zt _ _ _ _) λw' a=>?_;have a:=a.symm;subst a))
  go_ret;exact⟨zh (λh=>x h.1),bZ⟩
end Go.Proofs.YtmdnjgihooflfaaGreatDoor
