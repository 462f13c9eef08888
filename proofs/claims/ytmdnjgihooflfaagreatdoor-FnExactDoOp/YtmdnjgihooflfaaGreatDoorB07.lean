import Derived.Great.Walk
import Derived.Test.YtmdnjgihooflfaaGreatDoorB03
import Derived.Test.YtmdnjgihooflfaaGreatDoorB04
namespace Go.Proofs.YtmdnjgihooflfaaGreatDoor
open Go.RowKit
open Go.Value (int)
open Go.IntKind (i64)
open _root_.Go.Proofs.Tryz
set_option maxHeartbeats 64000000
set_option maxRecDepth 1000000
variable{a:Act}{w:World}{s:qe}{x:zw}{r k n j:Nat}{len hei g now:Int}{F:Nat->Int}{o:zY}{P:Nat->Prop}{b:zA}
theorem Ka {P:Program}{c:Array Oper}{o:Oper}{K:Act->World->Prop}{Q:Exit->Act->World->Prop}{E:Prop}(g:o.guard=none)(t e:TypeId)(len:Nat)(parts:Array (Nat × Operand))(h:o.op=.buildSlice t len parts)(j:P.underlying t=some (.slice e))(cells:Array Value)
  (b:P.builtSlice e len (parts.map λ(i,x)=>(i,a.eval x)).toList=some cells) (f:K (a.put o.dst (some (w.heap.size,0),len,len)) (w.alloc (.cells cells e))) :
  if Region.wanted o (yielded c a.tmps)=true then Oper.wp P o a w K Q else E:=by
 have k:Region.wanted o (yielded c a.tmps)=true:=by simp[Region.wanted,g]
 rw[Jf k];unfold Program.builtSlice at b
 cases hie:P.info? e with
 |none=>simp[hie] at b
 |some ie =>
  simp only[hie] at b
  cases hz:ie.zero with
  |none=>simp[hz] at b
  |some z =>
   simp only[hz] at b
   by_cases hc:len*ie.size > 2 ^ 24∨len*ie.size=0
   ·simp[hc] at b
   ·rw[Je hc] at b
    exact wp_buildSlice t e len _ h _ ie z j hie hz (λd=>hc (Or.inl d)) (λd=>hc (Or.inr d)) b f
theorem KO {g t:Nat}{u0 u1 u2 u3 u4 u5 u6 u7 u8 u9 u10 u11 u12:Value}(h:w.heap[g]?=some (.cells #[u0,u1,u2,u3,u4,u5,u6,u7,u8,u9,u10,u11,u12] t (0,0)))(v0 v1 v2 v3 v4 v5 v6 v7 d e a b c:Value) :
  (((((((((((((w.setCell (g,0) v0).setCell (g,1) v1).setCell (g,2) v2).setCell (g,3) v3).setCell (g,4) v4).setCell (g,5) v5).setCell (g,6) v6).setCell (g,7) v7).setCell (g,8) d).setCell (g,9) e).setCell (g,10) a).setCell (g,11) b).setCell (g,12) c).heap[g]?=some (.cells #[v0,v1,v2,v3,v4,v5,v6,v7,d,e,a,b,c] t (0,0)):=by
 simpa using zk (zk (zk (zk (zk (zk (zk (zk (zk (zk (zk (zk (zk h 0 v0) 1 v1) 2 v2) 3 v3) 4 v4) 5 v5) 6 v6) 7 v7) 8 d) 9 e) 10 a) 11 b) 12 c
theorem KQ {W:World}{b:Nat}(h:Below W W w)(a:W.heap.size<=b)(v0 v1 v2 v3 v4 v5 v6 v7 f g c d e:Value) :
  Below W W (((((((((((((w.setCell (b,0) v0).setCell (b,1) v1).setCell (b,2) v2).setCell (b,3) v3).setCell (b,4) v4).setCell (b,5) v5).setCell (b,6) v6).setCell (b,7) v7).setCell (b,8) f).setCell (b,9) g).setCell (b,10) c).setCell (b,11) d).setCell (b,12) e):=by
 exact(Below.setCell (Below.setCell (Below.setCell (Below.setCell (Below.setCell (Below.setCell (Below.setCell (Below.setCell (Below.setCell (Below.setCell (Below.setCell (Below.setCell (Below.setCell h a v0) a v1) a v2) a v3) a v4) a v5) a v6) a v7) a f) a g) a c) a d) a e)
theorem He (w:World)(b:Nat)(v0 v1 v2 v3 v4 v5 v6 v7 e f a c d:Value) :
  zl w (((((((((((((w.setCell (b,0) v0).setCell (b,1) v1).setCell (b,2) v2).setCell (b,3) v3).setCell (b,4) v4).setCell (b,5) v5).setCell (b,6) v6).setCell (b,7) v7).setCell (b,8) e).setCell (b,9) f).setCell (b,10) a).setCell (b,11) c).setCell (b,12) d) (λx=>x=b):=by
 exact((((((((((((((zl.refl w (λx=>x=b)).set rfl v0).set rfl v1).set rfl v2).set rfl v3).set rfl v4).set rfl v5).set rfl v6).set rfl v7).set rfl e).set rfl f).set rfl a).set rfl c).set rfl d)
section
section
variable {P : Program} {ops : Array Oper} {Q : Exit -> Act -> World -> Prop} {md : Region.Mode} {S : World -> Prop} {z : Nat}
theorem LY {i:Nat}{q:Oper}{v:Value}(C:ops[i]?=some q)(hz:z=ops.size)(n:∀ (j:Nat)(o:Oper) cs b,ops[j]?=some o->o.op≠.select cs b)
  (J:∀ c a w,Q (.panic c) (a.put q.dst v) w->Q (.panic c) a w) :
  ∀ (fuel:Nat) (d:Array Bool) (a:Act) (w:World),
   (∀ j p,ops[j]?=some p->j≠i->d.getD j true=false->(∀ e ∈ p.after,Region.binds md e=true->e.on≠i)->q.apart ops p=true) ->
   i ∈ Region.ready md ops d->YieldsIf P ops S q v a->S w ->
   Zf P md ops Q S z fuel (d.setIfInBounds i true) (a.put q.dst v) w->Zf P md ops Q S z (fuel+1) d a w:=by
 intro fuel
 induction fuel with
 |zero =>
  intro d a w _ hr y r H;refine⟨λh=>(by rw[h] at hr;cases hr),λj x=>?_⟩
  by_cases hji:j=i
  ·subst hji;exact y.wpOp C r ⟨λ_=>r,H⟩
  ·have:=ready_mono x hji
   rw[H.1] at this
   cases this
 |succ fuel ih =>
  intro d a w f hr y r H;refine⟨λh=>(by rw[h] at hr;cases hr),λj x=>?_⟩
  by_cases hji:j=i
  ·subst hji;exact y.wpOp C r ⟨λ_=>r,H⟩
  ·have h1:=H.2 j (ready_mono x hji)
   obtain⟨m,p,l,s⟩:=mem_ready.1 x;have D:j≠z:=λe=>by
    have:=(Array.getElem?_eq_some_iff.1 l).1
    omega
   have t:∀ e ∈ p.after,_->e.on≠i:=λe L K B=>by
    have h1:=s e L K;have G:=(mem_ready.1 hr).1;rw[B] at h1
    rcases Nat.lt_or_ge i d.size with A|A
    ·simp[A] at G h1;rw[G] at h1;cases h1
    ·simp[Array.getElem?_eq_none A] at h1
   have h2:=wpOp_putIf l (f j p l hji m t) (λcs b=>n i q cs b C) (λcs b=>n j p cs b l) J y h1
   have g:∀ k ok,_->_->(d.setIfInBounds j _).getD k _=false ->
     _:=λk ok M E u F=>by
    refine f k ok M E ?_ F
    by_cases hjk:j=k
    ·subst hjk;exact m
    ·rw[getD_set_ne _ hjk] at u;exact u
   refine wpOp_mono (λI w' h3=>⟨h3.2.1,ih _ I w' g (ready_mono hr (Ne.symm hji)) h3.1 (h3.2.1 D) ?_⟩) h2
   rw[Array.setIfInBounds_comm _ _ hji];exact h3.2.2
end
section
variable {P : Program} {l : List Oper} {Q : Exit -> Act -> World -> Prop} {md : Region.Mode} {S : World -> Prop} {z : Nat}
theorem En {i:Nat}{e:Oper}{v:Value}{fuel:Nat}{b:List Bool}{a:Act}{w:World}(f:l[i]?=some e)
  (d:(Region.noSelect l.toArray && Region.free md l.toArray b.toArray i && (Region.ready md l.toArray b.toArray).contains i && (z == l.toArray.size))=true)
  (g:∀ c a w,Q (.panic c) (a.put e.dst v) w->Q (.panic c) a w) (k:YieldsIf P l.toArray S e v a) (j:S w)
  (h:Zf P md l.toArray Q S z fuel (b.set i true).toArray (a.put e.dst v) w):Zf P md l.toArray Q S z (fuel+1) b.toArray a w:=by
 rw[Bool.and_eq_true,Bool.and_eq_true,Bool.and_eq_true] at d;exact LY (by simpa using f) (by simpa using d.2) (Region.noSelect_spec d.1.1.1) g _ _ a w (Region.free_spec (by simpa using f) d.1.1.2) (by simpa using d.1.2) k j (by simpa using h)
end
theorem Tr {P:Program}{l:List Oper}{Q:Exit->Act->World->Prop}{e:Region.Mode}{S:World->Prop}{z:Nat}(i:Nat){d:Oper}{v:Value}{fuel:Nat}{b:List Bool}{a:Act}{w:World}(j:l[i]?=some d)
  (k:(Region.noSelect l.toArray && Region.free e l.toArray b.toArray i && (Region.ready e l.toArray b.toArray).contains i && (z == l.toArray.size))=true)
  (f:∀ c a w,Q (.panic c) (a.put d.dst v) w->Q (.panic c) a w) (m:Region.wanted d (yielded l.toArray a.tmps)=true) (g:S w) (n:∀ w,S w->(execOp a.eval d).run P w=.ok (.value v) w)
  (h:Zf P e l.toArray Q S z fuel (b.set i true).toArray (a.put d.dst v) w):Zf P e l.toArray Q S z (fuel+1) b.toArray a w:=En j k f (Or.inl ⟨m,n⟩) g h
end
section
def fs:List Oper->List Bool->Nat->Option (Nat × Oper)
 |o :: _,false :: _,i=>some (i,o)
 |_ :: l,true :: b,i=>fs l b (i+1)
 |_,_,_=>none
theorem ft:∀ (l:List Oper)(b:List Bool)(s i:Nat)(o:Oper),fs l b s=some (i,o)->∃ j,i=s+j/\l[j]?=some o
 |o' :: l,false :: b,s,i,o,h=>by simp only[fs,Option.some.injEq,Prod.mk.injEq] at h;obtain⟨rfl,rfl⟩:=h;exact⟨0,rfl,rfl⟩
 |o' :: l,true :: b,s,i,o,h=>by
  obtain⟨j,h1,h2⟩:=ft l b (s+1) i o (by simpa only [fs] using h)
  exact⟨j+1,by omega,by simpa using h2⟩
 |[],b,s,i,o,h=>by simp[fs] at h
 |_ :: _,[],s,i,o,h=>by simp[fs] at h
theorem Kj {l:List Oper}{b:List Bool}{k i:Nat}{o:Oper}(h:fs (l.drop k) (b.drop k) k=some (i,o)):l[i]?=some o:=by
 obtain⟨j,rfl,h2⟩:=ft _ _ _ _ _ h;rw[List.getElem?_drop] at h2;exact h2
section
variable {P : Program} {l : List Oper} {Q : Exit -> Act -> World -> Prop} {md : Region.Mode} {S : World -> Prop} {z : Nat}
theorem tFL (k:Nat){i:Nat}{d:Oper}{v:Value}{fuel:Nat}{b:List Bool}{a:Act}{w:World}(g:fs (l.drop k) (b.drop k) k=some (i,d))
  (j:(Region.noSelect l.toArray && Region.free md l.toArray b.toArray i && (Region.ready md l.toArray b.toArray).contains i && (!(i == z) && Dw md l.toArray z && KN md l.toArray b.toArray && (z+1 == l.toArray.size)))=true)
  (e:∀ c a w,Q (.panic c) (a.put d.dst v) w->Q (.panic c) a w) (m:Region.wanted d (yielded l.toArray a.tmps)=true) (f:S w) (n:∀ w,S w->(execOp a.eval d).run P w=.ok (.value v) w)
  (h:Zf P md l.toArray Q S z fuel (b.set i true).toArray (a.put d.dst v) w):Zf P md l.toArray Q S z (fuel+1) b.toArray a w:=Em (Kj g) j e (Or.inl ⟨m,n⟩) f h
theorem tFN (k:Nat){i:Nat}{d:Oper}{v:Value}{fuel:Nat}{b:List Bool}{a:Act}{w:World}(g:fs (l.drop k) (b.drop k) k=some (i,d))
  (j:(Region.noSelect l.toArray && Region.free md l.toArray b.toArray i && (Region.ready md l.toArray b.toArray).contains i && (z == l.toArray.size))=true)
  (e:∀ c a w,Q (.panic c) (a.put d.dst v) w->Q (.panic c) a w) (m:Region.wanted d (yielded l.toArray a.tmps)=true) (f:S w) (n:∀ w,S w->(execOp a.eval d).run P w=.ok (.value v) w)
  (h:Zf P md l.toArray Q S z fuel (b.set i true).toArray (a.put d.dst v) w):Zf P md l.toArray Q S z (fuel+1) b.toArray a w:=En (Kj g) j e (Or.inl ⟨m,n⟩) f h
end
end
section
theorem ny {α:Type _}(l:List α)(i:Nat)(a:α):l.toArray.setIfInBounds i a=(l.set i a).toArray:=sB ..
theorem nz {α:Type _}(x a:α)(l:List α):(x :: l).set 0 a=a :: l:=rfl
theorem oc {α:Type _}(x a:α)(l:List α)(n:Nat):(x :: l).set (n+1) a=x :: l.set n a:=rfl
section
variable {P : Program} {l : List Oper} {Q : Exit -> Act -> World -> Prop} {md : Region.Mode} {S : World -> Prop} {z : Nat} (k : Nat) {i : Nat} {oi : Oper} {v : Value} {fuel : Nat} {listed : List Bool} {a : Act} {w : World} {R : Prop}
theorem QD (h:R)(f:fs (l.drop k) (listed.drop k) k=some (i,oi):=by rfl)
  (g:(Region.noSelect l.toArray && Region.free md l.toArray listed.toArray i && (Region.ready md l.toArray listed.toArray).contains i && (z == l.toArray.size))=true:=by kernel_rfl)
  (b:∀ c a w,Q (.panic c) (a.put oi.dst v) w->Q (.panic c) a w:=by exact λ_ _ _ h=>h) (j:Region.wanted oi (yielded l.toArray a.tmps)=true:=by rfl) (e:S w:=by assumption) (m:∀ w,S w->(execOp a.eval oi).run P w=.ok (.value v) w:=by intro w' h;(try dsimp only at h);go_simp;try with_reducible rfl)
  (d:R->Zf P md l.toArray Q S z fuel (listed.set i true).toArray (a.put oi.dst v) w:=by intro h;simp only[Act.put,ny,nz,oc];exact h):Zf P md l.toArray Q S z (fuel+1) listed.toArray a w:=En (Kj f) g b (Or.inl ⟨j,m⟩) e (d h)
theorem Ax (h:R)(f:fs (l.drop k) (listed.drop k) k=some (i,oi):=by rfl)
  (g:(Region.noSelect l.toArray && Region.free md l.toArray listed.toArray i && (Region.ready md l.toArray listed.toArray).contains i && (!(i == z) && Dw md l.toArray z && KN md l.toArray listed.toArray && (z+1 == l.toArray.size)))=true:=by kernel_rfl)
  (b:∀ c a w,Q (.panic c) (a.put oi.dst v) w->Q (.panic c) a w:=by exact λ_ _ _ h=>h) (j:Region.wanted oi (yielded l.toArray a.tmps)=true:=by rfl) (e:S w:=by assumption) (m:∀ w,S w->(execOp a.eval oi).run P w=.ok (.value v) w:=by intro w' h;(try dsimp only at h);go_simp;try with_reducible rfl)
  (d:R->Zf P md l.toArray Q S z fuel (listed.set i true).toArray (a.put oi.dst v) w:=by intro h;simp only[Act.put,ny,nz,oc];exact h):Zf P md l.toArray Q S z (fuel+1) listed.toArray a w:=Em (Kj f) g b (Or.inl ⟨j,m⟩) e (d h)
end
end
section
section
variable {P : Program} {md : Region.Mode} {l : List Oper} {Q : Exit -> Act -> World -> Prop} {S : World -> Prop} {z : Nat}
abbrev TI (P:Program)(c:Region.Mode)(l:List Oper)(Q:Exit->Act->World->Prop)(S:World->Prop)(z fuel:Nat)(b:List Bool)(a:Act)(w:World)(i:Nat)(o:Oper):Prop :=
 ∀ K':Act->World->Prop,Shut (∀ a w,S w->(S w->Zf P c l.toArray Q S z fuel (b.set i true).toArray a w)->K' a w)->if Region.wanted o (yielded l.toArray a.tmps)=true then Oper.wp P o a w K' Q else K' (a.put o.dst undef) w
variable {fuel : Nat} {listed : List Bool} {a : Act} {w : World} {o o2 o3 : Oper}
theorem Ay (i:Nat)(h:TI P md l Q S z fuel listed a w i o)(b:l[i]?=some o:=by rfl)(hr:Region.ready md l.toArray listed.toArray=[i]:=by kernel_rfl):Zf P md l.toArray Q S z (fuel+1) listed.toArray a w:=zB hr (by simp) (zj.consL b h zj.nil)
theorem eq (i j:Nat)(h:TI P md l Q S z fuel listed a w i o)(h2:TI P md l Q S z fuel listed a w j o2)(c:l[i]?=some o:=by rfl)(b:l[j]?=some o2:=by rfl)(hr:Region.ready md l.toArray listed.toArray=[i,j]:=by kernel_rfl):Zf P md l.toArray Q S z (fuel+1) listed.toArray a w:=zB hr (by simp) (zj.consL c h (zj.consL b h2 zj.nil))
theorem rj (i j k:Nat)(h:TI P md l Q S z fuel listed a w i o)(h2:TI P md l Q S z fuel listed a w j o2)(h3:TI P md l Q S z fuel listed a w k o3)(d:l[i]?=some o:=by rfl)(b:l[j]?=some o2:=by rfl)(c:l[k]?=some o3:=by rfl)(hr:Region.ready md l.toArray listed.toArray=[i,j,k]:=by kernel_rfl):Zf P md l.toArray Q S z (fuel+1) listed.toArray a w:=zB hr (by simp) (zj.consL d h (zj.consL b h2 (zj.consL c h3 zj.nil)))
theorem kc (h:∀ K':Act->World->Prop,Shut (∀ a w,Zf P md l.toArray Q S z fuel (listed.set z true).toArray a w->K' a w)->if Region.wanted o (yielded l.toArray a.tmps)=true then Oper.wp P o a w K' Q else K' (a.put o.dst undef) w)(b:l[z]?=some o:=by rfl)(hr:Region.ready md l.toArray listed.toArray=[z]:=by kernel_rfl):Zf P md l.toArray Q S z (fuel+1) listed.toArray a w:=zB hr (by simp) (zj.lastL b h)
end
end
def zw.noStay (x:zw)(r:Nat):zw:={ x with r:=x.r - 1,K:=ZN x.K r }
def zw.noRoom (x:zw)(r:Nat):zw:={ x with m:=x.m - 1,I:=ZG x.I r }
def zw.noSeat (x:zw)(r:Nat):zw:={ x with t:=x.t - 1,L:=ZG x.L r }
def zw.k2 (x:zw)(s:ql):zw:={ x with r:=x.r+1,K:=QB x.K x.r (λ_=>s) }
def zw.j6 (x:zw)(s:zU):zw:={ x with m:=x.m+1,I:=Zu x.I x.m (λ_=>s) }
def zw.k0 (x:zw)(s:qO):zw:={ x with t:=x.t+1,L:=Ak x.L x.t (λ_=>s) }
theorem qf.noStay (h:qf s x)(hr:r<x.r):qf s (x.noStay r):=by
 obtain⟨h1,h2,h3⟩:=h;refine⟨?_,h2,h3⟩
 show Tt _ (x.r - 1) (ZN _ r)
 have e:x.r=x.r - 1+1:=oM;rw[e] at h1;exact(QQ _ _ _).2 (NY ((QQ _ _ _).1 h1) oM)
theorem qf.noRoom (h:qf s x)(hr:r<x.m):qf s (x.noRoom r):=by
 obtain⟨h1,h2,h3⟩:=h;refine⟨h1,?_,h3⟩
 show QF _ (x.m - 1) (ZG _ r)
 have e:x.m=x.m - 1+1:=oM;rw[e] at h2;exact TK h2 oM
theorem qf.noSeat (h:qf s x)(hr:r<x.t):qf s (x.noSeat r):=by
 obtain⟨h1,h2,h3⟩:=h;refine⟨h1,h2,?_⟩
 show An _ (x.t - 1) (ZG _ r)
 have e:x.t=x.t - 1+1:=oM;rw[e] at h3;exact TL h3 oM
theorem qf.k2 {who:Int}(h:qf s x)(a:De s.la x.r x.K who len hei k):qf s (x.k2 ⟨who,(k:Int),len,hei⟩) :=
 ⟨(QQ _ _ _).2 (Sf a).1,h.2.1,h.2.2⟩
theorem qf.j6 {r:zU}(h:qf s x)(c:In r.e 1 9999)(a:¬ Qh (Zl x.I) x.m r.e)(b:Bh s.M (qZ s.M x.I x.m) r):qf s (x.j6 r) :=
 ⟨h.1,Sh h.2.1 c a b,h.2.2⟩
theorem Dk {S:Nat->qO}{r:qO}(h:j<n):Ak S n (λ_=>r) j=S j:=by unfold Ak;rw[Jf h]
theorem Ev {S:Nat->qO}{r:qO}:Ak S n (λ_=>r) n=r:=by unfold Ak;rw[Je (Nat.lt_irrefl _)]
theorem Si {most:Int}{S:Nat->qO}{r:qO}(h:An most n S)(hn:n≠60)(q:In r.e 1 9999)(o:In r.z 1 20)(l:¬ Qh (ZZ S) n r.e)(p:Z0 S n+r.z<=most):An most (n+1) (Ak S n (λ_=>r)):=by
 obtain⟨k,h1,h2,h3⟩:=h;have g:∀ i,i<=n->∀ x,Qh (ZZ (Ak S n (λ_=>r))) i x->Qh (ZZ S) i x:=by
  rintro i m x ⟨j,f,e⟩;refine⟨j,f,?_⟩;rw[← e];unfold ZZ;rw[Dk oM]
 refine⟨k,by omega,λi m=>?_,?_⟩
 ·by_cases e:i=n
  ·subst e
   rw[Ev];exact⟨q,λc=>l (g i (Jr _) _ c),o⟩
  ·rw[Dk oM]
   obtain⟨a,b,c⟩:=h2 i oM;exact⟨a,λd=>b (g i oM _ d),c⟩
 ·rw[Z0,Gg n (λj f=>Dk f),Ev]
  exact p
theorem qf.k0 {r:qO}(h:qf s x)(c:x.t≠60)(e:In r.e 1 9999)(b:In r.z 1 20)(a:¬ Qh (ZZ x.L) x.t r.e)(d:Z0 x.L x.t+r.z<=s.N):qf s (x.k0 r) :=
 ⟨h.1,h.2.1,Si h.2.2 c e b a d⟩
def Eb (x:zw)(res:Nat)(who:Int):Prop :=
 if res=0 then Qh (Zm x.K) x.r who else if res=1 then Qh (Zl x.I) x.m who else Qh (ZZ x.L) x.t who
inductive Bz (s:qe) (w:Wk) (x:zw):zw->Prop
 | noStay (r:Nat) (e:w.j3=0) (g:w.E=true) (h:r<x.r) (q:(x.K r).e=w.e):Bz s w x (x.noStay r)
 | noRoom (r:Nat) (e:w.j3=1) (g:w.E=true) (h:r<x.m) (q:(x.I r).e=w.e):Bz s w x (x.noRoom r)
 | noSeat (r:Nat) (e:w.j3=2) (g:w.E=true) (h:r<x.t) (q:(x.L r).e=w.e):Bz s w x (x.noSeat r)
 | addStay (k:Nat) (e:w.j3=0) (g:w.E=false) (h:De s.la x.r x.K w.e w.p.f w.p.j k):Bz s w x (x.k2 ⟨w.e,(k:Int),w.p.f,w.p.j⟩)
 | addRoom (r:zU) (e:w.j3=1) (g:w.E=false) (q:r.e=w.e) (c:In r.e 1 9999) (a:¬ Qh (Zl x.I) x.m r.e) (b:Bh s.M (qZ s.M x.I x.m) r):Bz s w x (x.j6 r)
 | addSeat (r:qO) (e:w.j3=2) (g:w.E=false) (q:r.e=w.e) (hn:x.t≠60) (c:In r.e 1 9999) (hm:In r.z 1 20) (a:¬ Qh (ZZ x.L) x.t r.e) (b:Z0 x.L x.t+r.z<=s.N):Bz s w x (x.k0 r)
theorem Bz.good {w:Wk}{b:zw}(h:Bz s w x b)(a:qf s x):qf s b:=by
 cases h with
 | noStay r e g h q=>exact a.noStay h
 | noRoom r e g h q=>exact a.noRoom h
 | noSeat r e g h q=>exact a.noSeat h
 | addStay k e g h=>exact a.k2 h
 | addRoom r e g q hw hh hs=>exact a.j6 hw hh hs
 | addSeat r e g q hn hw hm hh hs=>exact a.k0 hn hw hm hh hs
theorem Lj {G:Nat->Int}{x:Int}(h:∀ j,j<n->G j=F j)(b:G n≠x):Qh G (n+1) x↔Qh F n x:=by
 constructor
 ·rintro⟨j,a,e⟩
  by_cases c:j=n
  ·subst c;exact absurd e b
  ·exact⟨j,by omega,by rw[← h j oM];exact e⟩
 ·rintro⟨j,a,e⟩
  exact⟨j,by omega,by rw[h j a];exact e⟩
theorem Bz.others {w:Wk}{i:zw}(h:Bz s w x i){res:Nat}{who:Int}(hr:res<3)(b:res≠w.j3∨who≠w.e):Eb i res who↔Eb x res who:=by
 obtain rfl|rfl|rfl:res=0∨res=1∨res=2:=by omega
 all_goals
  cases h with
  | noStay r e g h q =>
   first
   | exact Iff.rfl
   | (have a:(x.K r).e≠who:=λc=>by rcases b with d | d;exact d e.symm;exact d (by rw[← c,q])
      have:=Mf (n:=x.r - 1) oM a;rw[show x.r - 1+1=x.r by omega] at this
      exact this)
  | noRoom r e g h q =>
   first
   | exact Iff.rfl
   | (have a:Zl _ r≠who:=λc=>by rcases b with d | d;exact d e.symm;exact d (by rw[← c];exact q)
      have:=Hg (n:=x.m - 1) oM a;rw[show x.m - 1+1=x.m by omega,← KV] at this
      exact this)
  | noSeat r e g h q =>
   first
   | exact Iff.rfl
   | (have a:ZZ _ r≠who:=λc=>by rcases b with d | d;exact d e.symm;exact d (by rw[← c];exact q)
      have:=Hg (n:=x.t - 1) oM a;rw[show x.t - 1+1=x.t by omega,← KW] at this
      exact this)
  | addStay k e g h =>
   first
   | exact Iff.rfl
   | (have a:w.e≠who:=λc=>by rcases b with d | d;exact d e.symm;exact d c.symm
      exact Lj (λj f=>by unfold Zm zw.k2;dsimp only;rw[Lg f]) (by unfold Zm zw.k2;dsimp only;rw[gf];exact a))
  | addRoom r e g q hw hh hs =>
   first
   | exact Iff.rfl
   | (have a:r.e≠who:=λc=>by rcases b with d | d;exact d e.symm;exact d (by rw[← c,q])
      exact Lj (λj f=>by unfold Zl zw.j6;dsimp only;rw[Dj f]) (by unfold Zl zw.j6;dsimp only;rw[Li];exact a))
  | addSeat r e g q hn hw hm hh hs =>
   first
   | exact Iff.rfl
   | (have a:r.e≠who:=λc=>by rcases b with d | d;exact d e.symm;exact d (by rw[← c,q])
      exact Lj (λj f=>by unfold ZZ zw.k0;dsimp only;rw[Dk f]) (by unfold ZZ zw.k0;dsimp only;rw[Ev];exact a))
def ex (o:zY)(L:Nat->zw)(w:Wk):Prop:=w.j3<3/\∀ k,k<o.i->(o.G k).S=w.j5->if w.E=true then Eb (L k) w.j3 w.e else ¬ Eb (L k) w.j3 w.e
def DN (a b:Wk):Prop:=a.j5≠b.j5∨a.j3≠b.j3∨a.e≠b.e
def Ew (L:Nat->zw)(k:Nat)(x:zw)(j:Nat):zw:=if j=k then x else L j
theorem ex.after {L:Nat->zw}{w v:Wk}(h:ex o L v)(i:(o.G k).S=w.j5)(l:Bz (o.G k) w (L k) x)(f:DN v w):ex o (Ew L k x) v:=by
 refine⟨h.1,λj g e=>?_⟩
 have a:=h.2 j g e;unfold Ew
 by_cases c:j=k
 ·subst c
  rw[Jf rfl];have b:v.j3≠w.j3∨v.e≠w.e:=by
   rcases f with d|d
   ·exact absurd (by rw[← e,i]) d
   ·exact d
  rw[l.others h.1 b];exact a
 ·rw[Je c]
  exact a
theorem Sj {L:Nat->zw}{w:Wk}(h:∀ j,j<o.i->qf (o.G j) (L j))(b:Bz (o.G k) w (L k) x):∀ j,j<o.i->qf (o.G j) (Ew L k x j):=by
 intro j a;unfold Ew
 by_cases c:j=k
 ·subst c;rw[Jf rfl];exact b.good (h j a)
 ·rw[Je c];exact h j a
theorem FQ (goes:Bool)(who:Int)(p:ZP)(leg:Int):∀ j,(qM goes who p leg j).Pairwise DN
 |0=>List.Pairwise.nil
 |j+1=>by
  have d:=FQ goes who p leg j;unfold qM
  split
  ·refine List.pairwise_append.2 ⟨d,List.pairwise_singleton _ _,λa e b c=>?_⟩
   have:=(Dg e).2.1;simp at c;subst c;exact .inr (.inl (by show a.j3≠j;omega))
  ·exact d
theorem BA (goes:Bool)(who:Int)(p:ZP)(F:Nat->Int):∀ k,(∀ i,i<k->∀ j,j<i->F j≠F i)->(Za goes who p F k).Pairwise DN
 |0,_=>List.Pairwise.nil
 |k+1,h=>by
  unfold Za;refine List.pairwise_append.2 ⟨BA _ who p F k (λi c=>h i oM),FQ _ _ _ _ _,λa f b g=>?_⟩
  obtain⟨⟨i,c,e⟩,_⟩:=Bm f;have d:=(Dg g).1;exact .inl (by rw[e,d];exact h k oM i c)
theorem NZ {h:Int}{n o:ZP}{c d:Nat->Int}{e f:Nat}(h1:∀ i,i<e->∀ j,j<i->c j≠c i)(h2:∀ i,i<f->∀ j,j<i->d j≠d i)(m:g≠h):(Za true g n c e++Za false h o d f).Pairwise DN:=by
 refine List.pairwise_append.2 ⟨BA _ _ _ _ _ h1,BA _ _ _ _ _ h2,λa k b l=>?_⟩
 exact .inr (.inr (by rw[(Bm k).2.2.2.1,(Bm l).2.2.2.1];exact m))
theorem Oa (L bo:Option Addr)(m mc n c:Nat)(p:zv)(S:Nat->ql)(w:World)(A:p.n=m)(hm:m<=1048576)(hn:n<=1048576)(hc:n<=c)(hx:zJ w L p)(hz:qx w bo n S) :
  Calls prog 82 #[(L,m,mc),(bo,n,c)] w λe w'=>qH (Tt p n S) e/\Below w w w':=by
 have u:=hI A;have Y:=hI hx;have K:=hI hz;clear A hx hz;go_enter func82,ntmps82;go_wp2_with fail;refine(PJ L m mc p _ u hm Y).mono ?_;rintro e w1 ⟨⟨q,rfl,P⟩,t⟩
 cases q with
 |false =>
  have D:Hid (¬ _):=λh=>by have:=P.2 h;cases this
  clear P;go_wp2;go_ret;exact⟨zh (λh=>D h.1),t⟩
 |true =>
  have D:=hI (P.1 rfl);have a3:m<=4:=by rw[← u.out];exact D.1
  clear P
  by_cases h60:n<=60
  ·have d0:decide (60<n)=false:=by simp;omega
   have a5:IntKind.i64.wrap ((m:Int) - 1)=(m:Int) - 1:=by rw[Jk];omega
   go_wp2;go_loopw [5,6,19] (λ_ _ i wr=>∃ k,k<=n/\i=int i64 k/\(∀ j,j<k->od p S j)/\Below w w wr) (λ_ _ i _=>n - (intOf i).toNat)
   case atStart=>exact⟨0,Jq _,rfl,λj x=>by omega,t⟩
   case round =>
    obtain⟨i,O,rfl,o,a⟩:=hrel;have V:=hI o;clear o t
    by_cases hlt:i<n
    ·obtain⟨b,off,rfl,N,h1,h2,h3⟩:=K i hlt
     have hb:=Ja w _ N;obtain⟨c0,c1,c2,c3⟩:=OP a N h1 h2 h3 hb;have d:=Jb wr (.cells #[(S i).e,(S i).ln,(S i).f,(S i).j] 220);have f:=zd a (.cells #[(S i).e,(S i).ln,(S i).f,(S i).j] 220);clear N h1 h2 h3;go_upto_region 6 with fail;generalize hW:wr.alloc _=W at d f ⊢;clear hW;have a4:=zD d;have z0:=gC d 0;have z1:=gC d 1;have z2:=gC d 2;have z3:=gC d 3;have i1:=n0 i;have i2:(i:Int)<=(c:Int):=oM;clear c0 c1 c2 c3 d a
     by_cases g1:In (S i).e 1 9999
     ·have s:=Jd g1
      have Q:=hI g1;clear g1
      by_cases g2:In (S i).ln 0 ((m:Int) - 1)
      ·have R:Hid (In (S i).ln 0 ((p.n:Int) - 1)):=by rw[u.out];exact g2
       obtain⟨l,A⟩:∃ l:Nat,(S i).ln=l:=⟨(S i).ln.toNat,by unfold In at g2;omega⟩
       have a0:l<m:=by unfold In at g2;omega
       have E:=hI A;have B:decide (In (l:Int) 0 _)=true:=Jd (by rw[← A];exact g2)
       have a6:∀ g:zy W,g.val.cell? _=_:=λg=>by rw[z1 g,A]
       obtain⟨b',a1,rfl,k1,k2⟩:=Y l (by rw[u.out];exact a0)
       have Z:=Ja w _ k1;have y2:=gW f k2 Z;have l1:=n0 l;have l2:(l:Int)<(m:Int):=oM;clear g2 z1 A k1 k2
       by_cases g3:In (S i).f 1 2000
       ·have F:=Jd g3
        have T:=hI g3;clear g3
        by_cases g4:In (S i).j 1 (p.B l)
        ·have M:=Jd g4
         have U:=hI g4;clear g4
         by_cases g5:Qh (Zm S) i (S i).e
         ·have C:=hI g5
          clear g5;refine ze kR kR ?_
          repeat(go_big_quiet_step ((rename_i g;first|(go_at_call 89;refine gE (v:=.bool true) (Qt _ _) (by rw[s]))|(go_at_call 148;first|(refine gE (v:=.bool true) (zt _ _ _ _) (by rw[B]))|(refine gE (v:=.bool true) (zt _ _ _ _) (by rw[F]))|(refine gE (v:=.bool true) (zt _ _ _ _) (by rw[M])))|(go_at_call 149;refine zr (v:=.bool true) ((Nf _ i c S _ _ oM ((K.j9 oM).j0 (zb f g.o))).mono ?_);rintro e w4 ⟨⟨bb,rfl,O⟩,z⟩;obtain rfl:=O.2 C;exact⟨rfl,z⟩))))
          refine Jl ?_;rintro _ ⟨g,rfl⟩;go_wp2;go_ret;exact⟨zh (λh=>(h.2.2.1 i hlt).2.2.2.2 C),zb f g.o⟩
         ·have C:=hI g5
          clear g5;refine ze kR kR ?_
          repeat(go_big_quiet_step ((rename_i g;first|(go_at_call 89;refine gE (v:=.bool true) (Qt _ _) (by rw[s]))|(go_at_call 148;first|(refine gE (v:=.bool true) (zt _ _ _ _) (by rw[B]))|(refine gE (v:=.bool true) (zt _ _ _ _) (by rw[F]))|(refine gE (v:=.bool true) (zt _ _ _ _) (by rw[M])))|(go_at_call 149;refine zr (v:=.bool false) ((Nf _ i c S _ _ oM ((K.j9 oM).j0 (zb f g.o))).mono ?_);rintro e w4 ⟨⟨bb,rfl,O⟩,z⟩;obtain rfl:=Bool.eq_false_iff.2 (λe=>C (O.1 e));exact⟨rfl,z⟩))))
          refine Jl ?_;rintro _ ⟨g,rfl⟩;go_wp2;have X:Hid (∀ j,j<i+1->od p S j):=λj x=>by
           by_cases e:j=i
           ·subst e;exact⟨Q,R,T,by rw[E.out];exact U,C⟩
           ·exact V j oM
          go_roundw
          case rel=>exact⟨_,by omega,by go_num,X,zb f g.o⟩
          case measure=>simp[intOf];omega
        ·have M:=Jc g4
         have U:=hI g4;clear g4;refine ze kR kR ?_
         repeat(go_big_quiet_step ((first|(go_at_call 89;refine gE (v:=.bool true) (Qt _ _) (by rw[s]))|(go_at_call 148;first|(refine gE (v:=.bool true) (zt _ _ _ _) (by rw[B]))|(refine gE (v:=.bool true) (zt _ _ _ _) (by rw[F]))|(refine gE (v:=.bool false) (zt _ _ _ _) (by rw[M]))))))
         refine Jl ?_;rintro _ ⟨g,rfl⟩;go_wp2;go_ret;exact⟨zh (λh=>U (by have:=(h.2.2.1 i hlt).2.2.2.1;rw[E.out] at this;exact this)),zb f g.o⟩
       ·have F:=Jc g3
        have T:=hI g3;clear g3;refine ze kR kR ?_
        repeat(go_big_quiet_step ((first|(go_at_call 89;refine gE (v:=.bool true) (Qt _ _) (by rw[s]))|(go_at_call 148;first|(refine gE (v:=.bool true) (zt _ _ _ _) (by rw[B]))|(refine gE (v:=.bool false) (zt _ _ _ _) (by rw[F]))))))
        refine Jl ?_;rintro _ ⟨g,rfl⟩;go_wp2;go_ret;exact⟨zh (λh=>T (h.2.2.1 i hlt).2.2.1),zb f g.o⟩
      ·have B:=Jc g2
       have R:Hid (¬ In (S i).ln 0 ((p.n:Int) - 1)):=by rw[u.out];exact g2
       clear g2;refine ze kR kR ?_
       repeat(go_big_quiet_step ((first|(go_at_call 89;refine gE (v:=.bool true) (Qt _ _) (by rw[s]))|(go_at_call 148;first|(refine gE (v:=.bool false) (zt _ _ _ _) (by rw[B]))))))
       refine Jl ?_;rintro _ ⟨g,rfl⟩;go_wp2;go_ret;exact⟨zh (λh=>R (h.2.2.1 i hlt).2.1),zb f g.o⟩
     ·have s:=Jc g1
      have Q:=hI g1;clear g1;refine ze kR kR ?_
      repeat(go_big_quiet_step ((first|(go_at_call 89;refine gE (v:=.bool false) (Qt _ _) (by rw[s])))))
      refine Jl ?_;rintro _ ⟨g,rfl⟩;go_wp2;go_ret;exact⟨zh (λh=>Q (h.2.2.1 i hlt).1),zb f g.o⟩
    ·obtain rfl:i=n:=by omega
     go_wp2_with fail;refine(Lk L bo m mc i c p S _ u D h60 (λj x=>(V j x).2.2.1) (Y.j0 a) (K.j0 a)).mono ?_
     rintro e w2 ⟨⟨v,rfl,r⟩,G⟩;obtain⟨aw,cw,rfl,_⟩:=zn r;have HI:=hI (Bo r);have H:=zb a G;clear r G a;go_wp2;go_loopw [8,68] (λ_ j wr=>∃ k,k<=m/\j=int i64 k/\(∀ j,j<k->0<=left p S i j)/\wr=w2) (λ_ j _=>m - (intOf j).toNat)
     case atStart=>exact⟨0,Jq _,rfl,λj x=>by omega,rfl⟩
     case round =>
      obtain⟨k,hk,rfl,o,I⟩:=hrel;have J:=I.symm;subst J;clear I;have HK:=hI o;clear o
      by_cases hlt3:k<m
      ·obtain⟨b3,a2,rfl,N⟩:=HI k hlt3
       by_cases hneg:left p S i k<0
       ·have s:=Jd hneg
        have y:=hI hneg;clear hneg;go_wp2;go_ret;exact⟨zh (λh=>by have:=h.2.2.2 k (by rw[u.out];exact hlt3);have:=y.out;omega),H⟩
       ·have s:=Jc hneg
        have y:=hI hneg;clear hneg;go_wp2;go_roundw
        case rel=>exact⟨k+1,by omega,by go_num,λj x=>by
         by_cases e:j=k
         ·subst e;have:=y.out;omega
         ·exact HK j oM,by trivial⟩
        case measure=>simp[intOf];omega
      ·obtain rfl:k=m:=by omega
       go_wp2;go_ret;exact⟨zN ⟨D,h60,V,λj x=>HK j (by rw[u.out] at x;exact x)⟩,H⟩
  ·have d0:decide (60<n)=true:=by simp;omega
   go_wp2;go_ret;exact⟨zh (λh=>h60 h.2.1),t⟩
def Ex (p:zv)(n:Nat)(S:Nat->ql)(len hei:Int)(r:Int):Prop :=
 (∃ k:Nat,r=(k:Int)/\n≠60/\Bl p (left p S n) len hei k)∨(r=-1/\(n=60∨∀ k,¬ Bl p (left p S n) len hei k))
theorem PK (x bo:Option Addr)(m J n c:Nat)(p:zv)(S:Nat->ql)(len hei:Int)(w:World)(B:p.n=m)(u:EM p n S)(H:zJ w x p)(I:qx w bo n S) :
  Calls prog 166 #[(x,m,J),(bo,n,c),len,hei] w λe w'=>(∃ r:Int,e=.returned r/\Ex p n S len hei r)/\Below w w w':=by
 have t:=hI B;have D:=hI u;have E:=hI H;have M:=hI I;have P:m<=4:=by rw[← B];exact u.1.1
 have q:=u.2.1;clear B u H I
 by_cases h60:n=60
 ·have y:(n == 60)=true:=by simpa using h60
  have z:((n:Int) == 60)=true:=by simp;omega
  have l:=hI h60;clear h60;go_enter func166,ntmps166;go_wp2;go_ret;exact⟨⟨_,rfl,.inr ⟨rfl,.inl l⟩⟩,bZ⟩
 ·have y:(n == 60)=false:=by simpa using h60
  have z:((n:Int) == 60)=false:=by simp;omega
  have l:Hid (n≠60):=h60;clear h60;go_enter func166,ntmps166;go_wp2_with fail;refine(Lk x bo m J n c p S _ t D.1 q D.lens E M).mono ?_;rintro e C ⟨⟨v,rfl,d⟩,f⟩;obtain⟨aw,cw,rfl,_⟩:=zn d;have L:=hI (Bo d);clear d;go_wp2;go_loopw [10,11,20] (λ_ _ i wr=>∃ k,k<=m/\i=int i64 k/\(∀ j,j<k->¬ (hei<=p.B j/\len<=left p S n j))/\Below C C wr) (λ_ _ i _=>m - (intOf i).toNat)
  case atStart=>exact⟨0,Jq _,rfl,λj G=>by omega,bZ⟩
  case round =>
   obtain⟨k,hk,rfl,g,a⟩:=hrel;have s:=hI g;clear g
   by_cases hlt:k<m
   ·obtain⟨b,off,rfl,h1,h2⟩:=E k (by rw[t.out];exact hlt)
    have F:=Ja w _ h1;have c1:=tR (zb f a) h1 F;have c2:=tR (zb f a) h2 F;obtain⟨b3,K,rfl,h3⟩:=L k hlt;have A:=Ja C _ h3;have c3:(wr.alloc (.cells #[(p.A k),(p.B k)] 223)).cell? _=_:=tR (zd a _) h3 A;have i1:=n0 k;have i2:(k:Int)<(m:Int):=oM;clear h1 h2 h3
    by_cases g1:hei<=p.B k
    ·have N:=Jd g1
     by_cases g2:len<=left p S n k
     ·have O:=Jd g2
      have o:Hid (Bl p _ len hei k):=⟨by rw[t.out];exact hlt,⟨g1,g2⟩,s⟩
      clear g1 g2;go_wp2;go_ret;exact⟨⟨_,rfl,.inl ⟨k,rfl,l,o⟩⟩,zb f (zd a _)⟩
     ·have O:=Jc g2
      have o:Hid (¬ (hei<=p.B k/\_)):=λh=>g2 h.2
      clear g1 g2;go_wp2;go_roundw
      case rel=>exact⟨k+1,by omega,by go_num,λj G=>by
       by_cases e:j=k
       ·subst e;exact o
       ·exact s j oM,zd a _⟩
      case measure=>simp[intOf];omega
    ·have N:=Jc g1
     have o:Hid (¬ (_/\len<=left p S n k)):=λh=>g1 h.1
     clear g1;go_wp2;go_roundw
     case rel=>exact⟨k+1,by omega,by go_num,λj G=>by
      by_cases e:j=k
      ·subst e;exact o
      ·exact s j oM,zd a _⟩
     case measure=>simp[intOf];omega
   ·obtain rfl:k=m:=by omega
    go_wp2;go_ret;exact⟨⟨_,rfl,.inr ⟨rfl,.inr (λj h=>s j (by have:=h.1;rw[t.out] at this;exact this) h.2.1)⟩⟩,zb f a⟩
inductive qE (s:qe) (w:Wk) (x:zw):Int->zw->Prop
 |noStay (r:Nat) (e:w.j3=0) (g:w.E=true) (h:r<x.r) (q:(x.K r).e=w.e):qE s w x 0 (x.noStay r)
 |noRoom (r:Nat) (e:w.j3=1) (g:w.E=true) (h:r<x.m) (q:(x.I r).e=w.e):qE s w x 0 (x.noRoom r)
 |noSeat (r:Nat) (e:w.j3=2) (g:w.E=true) (h:r<x.t) (q:(x.L r).e=w.e):qE s w x 0 (x.noSeat r)
 |addStay (k:Nat) (e:w.j3=0) (g:w.E=false) (h:Ex s.la x.r x.K w.p.f w.p.j (k:Int)):qE s w x 0 (x.k2 ⟨w.e,(k:Int),w.p.f,w.p.j⟩)
 |deck (e:w.j3=0) (g:w.E=false) (h:Ex s.la x.r x.K w.p.f w.p.j (-1)):qE s w x 5 x
 |addWhole (k:Nat) (e:w.j3=1) (g:w.E=false) (a:w.p.h=true) (h:js x.m s.M.n (BL s.M x.m x.I w.p.w w.p.v) (k:Int)):qE s w x 0 (x.j6 ⟨w.e,(k:Int),s.M.B k,true⟩)
 |allof (e:w.j3=1) (g:w.E=false) (a:w.p.h=true) (h:js x.m s.M.n (BL s.M x.m x.I w.p.w w.p.v) (-1)):qE s w x 6 x
 |addBerth (k:Nat) (e:w.j3=1) (g:w.E=false) (a:w.p.h=false) (h:js x.m s.M.n (BM s.M x.m x.I w.p.w w.p.x) (k:Int)):qE s w x 0 (x.j6 ⟨w.e,(k:Int),w.p.x,false⟩)
 |berth (e:w.j3=1) (g:w.E=false) (a:w.p.h=false) (h:js x.m s.M.n (BM s.M x.m x.I w.p.w w.p.x) (-1)):qE s w x 6 x
 |addSeat (e:w.j3=2) (g:w.E=false) (hn:x.t≠60) (hs:Z0 x.L x.t+w.p.v<=s.N):qE s w x 0 (x.k0 ⟨w.e,w.p.v⟩)
 |seats (e:w.j3=2) (g:w.E=false) (h:x.t=60∨s.N<Z0 x.L x.t+w.p.v):qE s w x 7 x
theorem Sk {m:Nat}(h:js n m P (k:Int)):n≠60/\ZC m P k:=by
 rcases h with⟨j,e,a,b⟩|⟨e,_⟩
 ·obtain rfl:k=j:=by omega
  exact⟨a,b⟩
 ·omega
theorem Sl {p:zv}{S:Nat->ql}(h:Ex p n S len hei (k:Int)):n≠60/\Bl p (left p S n) len hei k:=by
 rcases h with⟨j,e,a,b⟩|⟨e,_⟩
 ·obtain rfl:k=j:=by omega
  exact⟨a,b⟩
 ·omega
theorem CF {m:Nat}{r:Int}(h:js n m P r)(i:js n m P g):r=g:=by
 rcases h with⟨j,e,a,b⟩|⟨e,a⟩ <;> rcases i with⟨k,f,d,b'⟩|⟨f,d⟩
 ·rw[e,f,Io b b']
 ·rcases d with c|c
  ·exact absurd c a
  ·exact absurd b (c j)
 ·rcases a with c|c
  ·exact absurd c d
  ·exact absurd b' (c k)
 ·rw[e,f]
theorem Ll (n m:Nat)(P:Nat->Prop):∃ r,js n m P r:=by
 by_cases h:n≠60/\∃ k,ZC m P k
 ·obtain⟨h1,k,h2⟩:=h
  exact⟨k,.inl ⟨k,rfl,h1,h2⟩⟩
 ·refine⟨-1,.inr ⟨rfl,?_⟩⟩
  by_cases c:n=60
  ·exact .inl c
  ·exact .inr (λk a=>h ⟨c,k,a⟩)
theorem DF {p:zv}{S:Nat->ql}{r:Int}(h:Ex p n S len hei r)(i:Ex p n S len hei g):r=g:=by
 rcases h with⟨j,e,a,b⟩|⟨e,a⟩ <;> rcases i with⟨k,f,d,b'⟩|⟨f,d⟩
 ·rw[e,f,FO b b']
 ·rcases d with c|c
  ·exact absurd c a
  ·exact absurd b (c j)
 ·rcases a with c|c
  ·exact absurd c d
  ·exact absurd b' (c k)
 ·rw[e,f]
theorem Oc (p:zv)(n:Nat)(S:Nat->ql)(len hei:Int):∃ r,Ex p n S len hei r:=by
 by_cases h:n≠60/\∃ k,Bl p (left p S n) len hei k
 ·obtain⟨h1,k,h2⟩:=h
  exact⟨k,.inl ⟨k,rfl,h1,h2⟩⟩
 ·refine⟨-1,.inr ⟨rfl,?_⟩⟩
  by_cases c:n=60
  ·exact .inl c
  ·exact .inr (λk a=>h ⟨c,k,a⟩)
def Tw (w:Wk)(x:zw):Prop:=w.E=false->In w.e 1 9999/\Zc w.p/\Q1 w.p.f w.p.w w.j3=true/\¬ Eb x w.j3 w.e
theorem qE.on {w:Wk}{y:zw}{b:Int}(h:qE s w x b y)(n:qf s x)(j:Tw w x):(b=0/\Bz s w x y)∨(In b 5 7/\y=x):=by
 cases h with
 |noStay r e g h q=>exact .inl ⟨rfl,.noStay r e g h q⟩
 |noRoom r e g h q=>exact .inl ⟨rfl,.noRoom r e g h q⟩
 |noSeat r e g h q=>exact .inl ⟨rfl,.noSeat r e g h q⟩
 |deck e g h=>exact .inr ⟨by unfold In;omega,rfl⟩
 |allof e g a h=>exact .inr ⟨by unfold In;omega,rfl⟩
 |berth e g a h=>exact .inr ⟨by unfold In;omega,rfl⟩
 |seats e g h=>exact .inr ⟨by unfold In;omega,rfl⟩
 |addStay k e g h =>
  obtain⟨h1,h2,h3,d⟩:=j g;have l:=Sl h;rw[e] at h3 d;have m:=by simpa [Q1] using h3
  have i:Ce w.p.f w.p.j:=by rcases h2.2.1 with c|c;omega;exact c
  exact .inl ⟨rfl,.addStay k e g ⟨(QQ _ _ _).1 n.1,l.1,d,h1,i.1,i.2,l.2⟩⟩
 |addWhole k e g a h =>
  obtain⟨h1,h2,h3,d⟩:=j g;obtain⟨o,f⟩:=Sk h;rw[e] at h3 d;refine .inl ⟨rfl,.addRoom _ e g rfl h1 d ⟨?_,λ_=>⟨f.2.1.2.1,rfl⟩,λh=>(by cases h)⟩⟩
  have:=f.1;unfold In
  show _<=(k:Int)/\(k:Int)<=_
  omega
 |addBerth k e g a h =>
  obtain⟨h1,h2,h3,d⟩:=j g;obtain⟨o,f⟩:=Sk h;rw[e] at h3 d;have m:=by simpa [Q1] using h3
  have i:Fb w.p.w w.p.h w.p.x:=by rcases h2.2.2 with c|c;omega;exact c
  refine .inl ⟨rfl,.addRoom _ e g rfl h1 d ⟨?_,λh=>(by cases h),λ_=>?_⟩⟩
  ·have:=f.1
   unfold In
   show _<=(k:Int)/\(k:Int)<=_
   omega
  ·rcases i.2 with⟨c,_⟩|⟨_,c⟩
   ·rw[a] at c;cases c
   ·exact⟨c.1,f.2.1.2⟩
 |addSeat e g hn hs =>
  obtain⟨h1,h2,h3,d⟩:=j g;rw[e] at h3 d;exact .inl ⟨rfl,.addSeat _ e g rfl hn h1 h2.1 d hs⟩
theorem ID (c d f g x:Int)(a:Nat)(w:World)(i:w.cell? (a,0)=some (int i64 x)) :
  Calls prog 270 #[.agg #[c,d,f,g],.pointer (some (a,0))] w λe w'=>e=.returned (.bool (c == x))/\Below w w w':=by
 have b:=Ja w _ i;have h:¬ a=w.heap.size:=by have:a<w.heap.size:=b;omega
 go_enter func270,ntmps270;go_wp2;go_ret;exact⟨rfl,zd bZ _⟩
theorem Mh (r:Option Addr)(n c:Nat)(S:Nat->ql)(x:Int)(g:Nat)(w:World)(hn:n<=1048576)(y:qx w r n S)(p:w.cell? (g,0)=some (int i64 x)) :
  Calls prog 269 #[(r,n,c),.func (.func 270) #[] #[.pointer (some (g,0))]] w λe w'=>e=.returned (Zt (Zm S) x n)/\Below w w w':=by
 have o:=Ja w _ p;go_enter func269,ntmps269;go_wp2;go_loopw [5,8] (λ_ i wr=>∃ k,k<=n/\i=int i64 k/\(∀ j,j<k->Zm S j≠x)/\Below w w wr) (λ_ i _=>n - (intOf i).toNat)
 case atStart=>exact⟨0,Jq _,rfl,λj v=>by omega,bZ⟩
 case round =>
  obtain⟨k,hk,rfl,d,a⟩:=hrel;have h:=hI d;clear d
  by_cases hlt2:k<n
  ·obtain⟨b,off,rfl,m,h1,h2,h3⟩:=y k hlt2
   have u:=Ja w _ m;obtain⟨c0,c1,c2,c3⟩:=OP a m h1 h2 h3 u;have q:=hI (tR a p o);clear m h1 h2 h3 p
   by_cases he:Zm S k=x
   ·have t:((S k).e == x)=true:=by unfold Zm at he;simpa using he
    have l:Hid (Zt (Zm S) x n=k):=by
     have:=Fv hlt2 he h;unfold Zt Hid;rw[this,Jf hlt2]
    clear he;go_wp2_with (first|(go_at_call 270;refine bM (ID _ _ _ _ x g _ q) λz f=>?_))
    go_ret;exact⟨by rw[l.out];rfl,zb a f⟩
   ·have t:((S k).e == x)=false:=by unfold Zm at he;simpa using he
    have s:Hid (_≠x):=he;clear he;go_wp2_with (first|(go_at_call 270;refine bM (ID _ _ _ _ x g _ q) λz f=>?_))
    go_roundw
    case rel=>exact⟨k+1,by omega,by go_num,λj v=>by
     by_cases e:j=k
     ·subst e;exact s
     ·exact h j oM,zb a f⟩
    case measure=>simp[intOf];omega
  ·obtain rfl:k=n:=by omega
   have l:=hI (Cf (DC h));go_wp2;go_ret;exact⟨by rw[l.out];rfl,a⟩
/-- stayOf: where the stay of the by stands, -1 ZN one. -/
theorem BP (b:Option Addr)(n c:Nat)(S:Nat->ql)(x:Int)(w:World)(i:n<=1048576)(j:qx w b n S) :
  Calls prog 243 #[(b,n,c),x] w λe w'=>e=.returned (Zt (Zm S) x n)/\Below w w w':=by
 have a:Below _ w (w.alloc (.cells #[x] 3)):=zd bZ _;have g:=hI (j.j0 a);have f:Hid ((w.alloc (.cells #[_] 3)).cell? _=some (int i64 x)):=bC (Jb w _) 0;have h:∀ (fn) (first cap) (w),(Instr.makeFunc fn _ cap).run prog w=.ok (.func fn first cap) w:=λ_ _ _ _=>rfl
 go_enter func243,ntmps243;go_wp2_with (first|(go_at_call 269;refine bM (Mh b n c S x _ _ i g f) λw2 d=>?_))
 go_ret;exact⟨rfl,zb a d⟩
theorem II (c d x:Int)(a:Nat)(w:World)(g:w.cell? (a,0)=some (int i64 x)) :
  Calls prog 274 #[.agg #[c,d],.pointer (some (a,0))] w λe w'=>e=.returned (.bool (c == x))/\Below w w w':=by
 have b:=Ja w _ g;have f:¬ a=w.heap.size:=by have:a<w.heap.size:=b;omega
 go_enter func274,ntmps274;go_wp2;go_ret;exact⟨rfl,zd bZ _⟩
theorem Mm (r:Option Addr)(n c:Nat)(S:Nat->qO)(x:Int)(g:Nat)(w:World)(hn:n<=1048576)(y:qC w r n S)(p:w.cell? (g,0)=some (int i64 x)) :
  Calls prog 273 #[(r,n,c),.func (.func 274) #[] #[.pointer (some (g,0))]] w λe w'=>e=.returned (Zt (ZZ S) x n)/\Below w w w':=by
 have o:=Ja w _ p;go_enter func273,ntmps273;go_wp2;go_loopw [5,8] (λ_ i wr=>∃ k,k<=n/\i=int i64 k/\(∀ j,j<k->ZZ S j≠x)/\Below w w wr) (λ_ i _=>n - (intOf i).toNat)
 case atStart=>exact⟨0,Jq _,rfl,λj v=>by omega,bZ⟩
 case round =>
  obtain⟨k,hk,rfl,d,a⟩:=hrel;have h:=hI d;clear d
  by_cases hlt2:k<n
  ·obtain⟨b,off,rfl,m,h1⟩:=y k hlt2
   have s:=Ja w _ m;have c0:=tR a m s;have c1:=tR a h1 s;have q:=hI (tR a p o);clear m h1 p
   by_cases he:ZZ S k=x
   ·have u:((S k).e == x)=true:=by unfold ZZ at he;simpa using he
    have l:Hid (Zt (ZZ S) x n=k):=by
     have:=Fv hlt2 he h;unfold Zt Hid;rw[this,Jf hlt2]
    clear he;go_wp2_with (first|(go_at_call 274;refine bM (II _ _ x g _ q) λz f=>?_))
    go_ret;exact⟨by rw[l.out];rfl,zb a f⟩
   ·have u:((S k).e == x)=false:=by unfold ZZ at he;simpa using he
    have t:Hid (_≠x):=he;clear he;go_wp2_with (first|(go_at_call 274;refine bM (II _ _ x g _ q) λz f=>?_))
    go_roundw
    case rel=>exact⟨k+1,by omega,by go_num,λj v=>by
     by_cases e:j=k
     ·subst e;exact t
     ·exact h j oM,zb a f⟩
    case measure=>simp[intOf];omega
  ·obtain rfl:k=n:=by omega
   have l:=hI (Cf (DC h));go_wp2;go_ret;exact⟨by rw[l.out];rfl,a⟩
/-- seatOf: where the stay of the by stands, -1 ZN one. -/
theorem Ey (b:Option Addr)(n c:Nat)(S:Nat->qO)(x:Int)(w:World)(i:n<=1048576)(j:qC w b n S) :
  Calls prog 245 #[(b,n,c),x] w λe w'=>e=.returned (Zt (ZZ S) x n)/\Below w w w':=by
 have a:Below _ w (w.alloc (.cells #[x] 3)):=zd bZ _;have g:=hI (j.j0 a);have f:Hid ((w.alloc (.cells #[_] 3)).cell? _=some (int i64 x)):=bC (Jb w _) 0;have h:∀ (fn) (first cap) (w),(Instr.makeFunc fn _ cap).run prog w=.ok (.func fn first cap) w:=λ_ _ _ _=>rfl
 go_enter func245,ntmps245;go_wp2_with (first|(go_at_call 273;refine bM (Mm b n c S x _ _ i g f) λw2 d=>?_))
 go_ret;exact⟨rfl,zb a d⟩
section
open Go.RowKit Classical
noncomputable def Cn (P:Nat->Prop):Nat->List Nat
 |0=>[]
 |n+1=>if P n then Cn P n++[n] else Cn P n
theorem Ca (h:P n):Cn P (n+1)=Cn P n++[n]:=by rw[Cn,Jf h]
theorem Fk (h:¬ P n):Cn P (n+1)=Cn P n:=by rw[Cn,Je h]
noncomputable def Oj (P:Nat->Prop)(n j:Nat):Nat:=(Cn P n).getD j 0
theorem Ec (P:Nat->Prop)(h:P n):Oj P (n+1) (Cn P n).length=n:=by unfold Oj;rw[Ca h];simp
theorem CG (P:Nat->Prop)(a:j<(Cn P n).length):Oj P (n+1) j=Oj P n j:=by
 unfold Oj
 by_cases h:P n
 ·rw[Ca h,List.getD_eq_getElem?_getD,List.getD_eq_getElem?_getD,List.getElem?_append_left a]
 ·rw[Fk h]
theorem Km (P:Nat->Prop)(n:Nat):(Cn P n).length=EW P n:=by
 induction n with
 |zero=>rfl
 |succ n ih =>
  by_cases h:P n
  ·rw[Ca h,Qs h,List.length_append,ih];rfl
  ·rw[Fk h,QG h,ih]
theorem Ok (P:Nat->Prop)(n:Nat):∀ j,j<(Cn P n).length->Oj P n j<n/\P (Oj P n j):=by
 induction n with
 |zero=>intro j a;simp[Cn] at a
 |succ n ih =>
  intro j a
  by_cases h:P n
  ·rw[Ca h,List.length_append] at a
   by_cases e:j=(Cn P n).length
   ·subst e;rw[Ec P h];exact⟨by omega,h⟩
   ·have b:j<(Cn P n).length:=by simp at a;omega
    rw[CG P b];have:=ih j b;exact⟨by omega,this.2⟩
  ·rw[Fk h] at a
   rw[CG P a];have:=ih j a;exact⟨by omega,this.2⟩
theorem kq (P:Nat->Prop)(n:Nat):∀ i,i<n->P i->∃ j,j<(Cn P n).length/\Oj P n j=i:=by
 induction n with
 |zero=>intro i c;omega
 |succ n ih =>
  intro i c a
  by_cases e:i=n
  ·subst e
   exact⟨_,by rw[Ca a];simp,Ec P a⟩
  ·obtain⟨j,b,d⟩:=ih i oM a
   refine⟨j,?_,by rw[CG P b];exact d⟩
   by_cases h:P n
   ·rw[Ca h,List.length_append];omega
   ·rw[Fk h];exact b
theorem FD {Q:Nat->Prop}(h:∀ i,i<n->(P i↔Q i)):EW P n=EW Q n:=by
 induction n with
 |zero=>rfl
 |succ n ih =>
  have i1:=ih (λi hi=>h i oM)
  have h1:=h n oM
  by_cases c:P n
  ·rw[Qs c,Qs (h1.1 c),i1]
  ·rw[QG c,QG (λq=>c (h1.2 q)),i1]
theorem gn (P Q:Nat->Prop)(n:Nat):EW (λj=>Q (Oj P n j)) (Cn P n).length=EW (λi=>P i/\Q i) n:=by
 induction n with
 |zero=>rfl
 |succ n ih =>
  have a:EW (λj=>Q (Oj P (n+1) j)) (Cn P n).length=EW (λi=>P i/\Q i) n:=by
   rw[← ih];exact FD (λj b=>by rw[CG P b])
  by_cases h:P n
  ·rw[show(Cn P (n+1)).length=(Cn P n).length+1 by rw[Ca h];simp]
   by_cases q:Q n
   ·rw[Qs (by rw[Ec P h];exact q),Qs ⟨h,q⟩,a]
   ·rw[QG (by rw[Ec P h];exact q),QG (λc=>q c.2),a]
  ·rw[Fk h,QG (λc=>h c.1)]
   rw[← ih];exact FD (λj b=>by rw[CG P b])
def EN (b:zA):Prop:=b.f=0/\b.j=0
instance (b:zA):Decidable (EN b):=by unfold EN;exact inferInstance
def EO (b:zA):Prop:=b.w=0/\b.h=false/\b.x=0
instance (b:zA):Decidable (EO b):=by unfold EO;exact inferInstance
def IJ (l:zw)(b:zA):Prop:=EN b∨(Qb (Zm l.K) b.e l.r<l.r/\(l.K (Qb (Zm l.K) b.e l.r)).f=b.f/\(l.K (Qb (Zm l.K) b.e l.r)).j=b.j)
def FU (s:qe)(l:zw)(b:zA):Prop:=EO b∨(Qb (Zl l.I) b.e l.m<l.m/\(l.I (Qb (Zl l.I) b.e l.m)).h=b.h/\(b.h=true∨(l.I (Qb (Zl l.I) b.e l.m)).z=b.x)/\s.M.A (l.I (Qb (Zl l.I) b.e l.m)).H.toNat=b.w)
def IK (l:zw)(b:zA):Prop:=Qb (ZZ l.L) b.e l.t<l.t/\(l.L (Qb (ZZ l.L) b.e l.t)).z=b.v
def Ty (s:qe)(l:zw)(b:zA):Prop:=IJ l b/\FU s l b/\IK l b
def ES (s:qe)(l:zw)(m:Nat)(B:Nat->zA):Prop :=
 (∀ j,j<m->Ty s l (B j))/\l.r=EW (λj=>¬ EN (B j)) m/\l.m=EW (λj=>¬ EO (B j)) m/\l.t=m
theorem mr (h:∀ i,i<n->¬ Qh F i (F i)){x:Nat}(a:j<n)(b:x<n)(e:F j=F x):j=x:=by
 by_cases c:j<x
 ·exact absurd ⟨j,c,e⟩ (h x b)
 ·by_cases c2:x<j
  ·exact absurd ⟨x,c2,e.symm⟩ (h j a)
  ·omega
theorem Fl (h:∀ i,i<n->¬ Qh F i (F i)){q:Int}(b:j<n)(e:F j=q):Qb F q n=j:=by
 have a:=(DB F n q).1 ⟨j,b,e⟩;exact(mr h b a (e.trans (DA F q n a).symm)).symm
theorem Nl (h:Zc b.p):EN b↔b.f=0:=by
 unfold EN
 constructor
 ·exact λh=>h.1
 ·intro e
  rcases h.2.1 with c|c
  ·exact c
  ·have:=c.1;unfold In zA.p at this;simp at this;omega
theorem St (h:Zc b.p):¬ EN b↔0<b.f:=by
 rw[Nl h]
 rcases h.2.1 with c|c
 ·have:=c.1;unfold zA.p at this;simp at this;omega
 ·have:=c.1;unfold In zA.p at this;simp at this;omega
theorem Nm (h:Zc b.p):EO b↔b.w=0:=by
 unfold EO
 constructor
 ·exact λh=>h.1
 ·intro e
  rcases h.2.2 with c|c
  ·exact c
  ·have:=c.1;unfold In zA.p at this;simp at this;omega
theorem Su (h:Zc b.p):¬ EO b↔0<b.w:=by
 rw[Nm h]
 rcases h.2.2 with c|c
 ·have:=c.1;unfold zA.p at this;simp at this;omega
 ·have:=c.1;unfold In zA.p at this;simp at this;omega
theorem Nn {l:zw}(m:qf s l)(d:Zc b.p):Ty s l b↔CD s l b:=by
 obtain⟨k,hr,n⟩:=m;have u1:∀ i,_->¬ Qh _ i (Zm _ i):=λi a=>(k.2.2.1 i a).2.2.2.2
 have u2:∀ i,_->¬ Qh _ i (Zl _ i):=λi a=>(hr.2.2.1 i a).1.2.1
 have u3:∀ i,_->¬ Qh _ i (ZZ _ i):=λi a=>(n.2.2.1 i a).2.1
 unfold Ty CD IJ FU IK;rw[Nl d,Nm d]
 constructor
 ·rintro⟨h1,h2,h3⟩
  refine⟨⟨_,h3.1,DA _ _ _ h3.1,h3.2⟩,?_,?_⟩
  ·rcases h1 with h|h
   ·exact .inl h
   ·exact .inr ⟨_,h.1,DA _ _ _ h.1,h.2.1,h.2.2⟩
  ·rcases h2 with h|h
   ·exact .inl h
   ·exact .inr ⟨_,h.1,DA _ _ _ h.1,h.2.1,h.2.2.2,h.2.2.1⟩
 ·rintro⟨⟨j,c,f,g⟩,h2,h3⟩
  refine⟨?_,?_,?_⟩
  ·rcases h2 with h|⟨i,a,c1,c2,c3⟩
   ·exact .inl h
   ·have e:=Fl u1 a c1
    rw[e];exact .inr ⟨a,c2,c3⟩
  ·rcases h3 with h|⟨i,a,c1,c2,c3,c4⟩
   ·exact .inl h
   ·have e:=Fl u2 a c1
    rw[e];exact .inr ⟨a,c2,c4,c3⟩
  ·have e:=Fl u3 c f
   rw[e];exact⟨c,g⟩
theorem gp (c:qf (o.G k) (o.F k))(d:∀ i,i<o.g->Zc (o.u i).p) :
  ES (o.G k) (o.F k) (Cn (On o k) o.g).length (λj=>o.u (Oj (On o k) o.g j))↔CE o k:=by
 have b:=λj a=>d _ (Ok (On o k) _ j a).1
 have c1:EW (λj=>¬ EN (o.u (Oj (On o k) o.g j))) (Cn (On o k) o.g).length=EW (λi=>On o k i/\0<(o.u i).f) o.g:=by
  rw[← gn _ _ _];exact FD (λj a=>St (b j a))
 have c2:EW (λj=>¬ EO (o.u (Oj (On o k) o.g j))) (Cn (On o k) o.g).length=EW (λi=>On o k i/\0<(o.u i).w) o.g:=by
  rw[← gn _ _ _];exact FD (λj a=>Su (b j a))
 unfold ES CE;rw[c1,c2,Km]
 constructor
 ·rintro⟨h,r⟩
  refine⟨λi e f=>?_,r⟩
  obtain⟨j,a,rfl⟩:=kq _ _ i e f;exact(Nn c (b j a)).1 (h j (by rw[← Km];exact a))
 ·rintro⟨h,r⟩
  refine⟨λj a=>?_,r⟩
  rw[← Km] at a;have:=Ok _ _ j a;exact(Nn c (b j a)).2 (h _ this.1 this.2)
end
theorem Ol (g:Option Addr)(n c:Nat)(G:Nat->Int)(x:Int)(w:World)(hn:n<=1048576)(p:zS w g n G) :
  Calls prog 246 #[(g,n,c),x] w λe w'=>e=.returned (Zt G x n)/\w'=w:=by
 go_enter func246,ntmps246;go_wp2;go_loopw [5,8] (λ_ i wr=>∃ k,k<=n/\i=int i64 k/\(∀ j,j<k->G j≠x)/\wr=w) (λ_ i _=>n - (intOf i).toNat)
 case atStart=>exact⟨0,Jq _,rfl,λj o=>by omega,rfl⟩
 case round =>
  obtain⟨k,hk,rfl,a,rfl⟩:=hrel;have d:=hI a;clear a
  by_cases hlt2:k<n
  ·obtain⟨b,off,rfl,h0⟩:=p k hlt2
   by_cases he:G k=x
   ·have m:(x == G k)=true:=by rw[he];simp
    have f:Hid (Zt G x n=k):=by
     have:=Fv hlt2 he d;unfold Zt Hid;rw[this,Jf hlt2]
    clear he;go_wp2;go_ret;exact⟨by rw[f.out];rfl,rfl⟩
   ·have m:(x == G k)=false:=by simpa using λh=>he h.symm
    have l:Hid (G k≠x):=he;clear he;go_wp2;go_roundw
    case rel=>exact⟨k+1,by omega,by go_num,λj o=>by
     by_cases e:j=k
     ·subst e;exact l
     ·exact d j oM,trivial⟩
    case measure=>simp[intOf];omega
  ·obtain rfl:k=n:=by omega
   have f:=hI (Cf (DC d));go_wp2;go_ret;exact⟨by rw[f.out];rfl,rfl⟩
theorem Sv (d:Option Addr)(n c:Nat)(G:Nat->Int)(x:Int)(w:World)(i:n<=1048576)(j:zS w d n G) :
  Calls prog 190 #[(d,n,c),x] w λe w'=>qH (Qh G n x) e/\w'=w:=by
 obtain⟨r,hr⟩:=nM (Zt G x n);have b:=hI hr;clear hr;go_enter func190,ntmps190;go_wp2_with fail;refine(Ol d n c G x _ i j).mono ?_;rw[← b.out];rintro e w1 ⟨rfl,f⟩;have f:=f.symm;subst f
 by_cases h:Qh G n x
 ·have g:decide (0<=r)=true:=by rw[b.out];unfold Zt;rw[Jf ((DB _ _ _).1 h)];simp
  have a:=hI h;clear h;go_wp2;go_ret;exact⟨zN a,rfl⟩
 ·have g:decide (0<=r)=false:=by rw[b.out,Cf h];rfl
  have a:=hI h;clear h;go_wp2;go_ret;exact⟨zh a,rfl⟩
theorem Lo (b:zA)(c:Option Addr)(d:Nat)(w:World) :
  Calls prog 189 #[.agg (b,c,d)] w λe w'=>qH (CB b) e/\Below w w w':=by
 by_cases s1:b.C=1
 ·have f:(b.C == 1)=true:=by simpa using s1
  have a:Hid (CB b):=.inl s1;clear s1;go_enter func189,ntmps189;go_wp2;go_ret;exact⟨zN a,zd bZ _⟩
 ·have f:(b.C == 1)=false:=by simpa using s1
  by_cases s2:b.C=2
  ·have g:(b.C == 2)=true:=by simpa using s2
   have a:Hid (CB b):=.inr s2;clear s1 s2;go_enter func189,ntmps189;go_wp2;go_ret;exact⟨zN a,zd bZ _⟩
  ·have g:(b.C == 2)=false:=by simpa using s2
   have a:Hid (¬ CB b):=by intro h;rcases h with h|h;exact s1 h;exact s2 h
   clear s1 s2;go_enter func189,ntmps189;go_wp2;go_ret;exact⟨zh a,zd bZ _⟩
def Fm (k:Int)(b:zA)(now:Int):Prop:=if k=4 then b.C=1 else if k=8 then b.C=1/\b.y<now else CB b
theorem py {k:Int}(h:k=4):Fm k b now↔b.C=1:=by unfold Fm;rw[Jf h]
theorem rd {k:Int}(h:k=8):Fm k b now↔b.C=1/\b.y<now:=by unfold Fm;rw[Je oM,Jf h]
theorem re {k:Int}(a:k≠4)(h8:k≠8):Fm k b now↔CB b:=by unfold Fm;rw[Je a,Je h8]
theorem No (x:qD)(i:Option Addr)(j:Nat)(b:zA)(d:Option Addr)(f:Nat)(w:World) :
  Calls prog 196 #[.agg (x,i,j),.agg (b,d,f)] w λe w'=>qH (Fm x.d b x.D) e/\Below w w w':=by
 by_cases k4:x.d=4
 ·have k:(x.d == 4)=true:=by simpa using k4
  have a:Hid (Fm _ b x.D↔_):=py k4;clear k4
  by_cases s1:b.C=1
  ·have g:(b.C == 1)=true:=by simpa using s1
   have c:=hI (a.2 s1);clear s1 a;go_enter func196,ntmps196;go_wp2;go_ret;exact⟨zN c,zd (zd bZ _) _⟩
  ·have g:(b.C == 1)=false:=by simpa using s1
   have c:Hid (¬ _):=λh=>s1 (a.1 h)
   clear s1 a;go_enter func196,ntmps196;go_wp2;go_ret;exact⟨zh c,zd (zd bZ _) _⟩
 ·have k:(x.d == 4)=false:=by simpa using k4
  by_cases k8:x.d=8
  ·have l:(x.d == 8)=true:=by simpa using k8
   have a:Hid (_↔_/\b.y<x.D):=rd k8;clear k4 k8
   by_cases s1:b.C=1
   ·have g:(b.C == 1)=true:=by simpa using s1
    by_cases u1:b.y<x.D
    ·have m:=Jd u1
     have c:=hI (a.2 ⟨s1,u1⟩);clear s1 a u1;go_enter func196,ntmps196;go_wp2;go_ret;exact⟨zN c,zd (zd bZ _) _⟩
    ·have m:=Jc u1
     have c:Hid (¬ _):=λh=>u1 (a.1 h).2
     clear s1 a u1;go_enter func196,ntmps196;go_wp2;go_ret;exact⟨zh c,zd (zd bZ _) _⟩
   ·have g:(b.C == 1)=false:=by simpa using s1
    have c:Hid (¬ _):=λh=>s1 (a.1 h).1
    clear s1 a;go_enter func196,ntmps196;go_wp2;go_ret;exact⟨zh c,zd (zd bZ _) _⟩
  ·have l:(x.d == 8)=false:=by simpa using k8
   have a:Hid (Fm _ b x.D↔_):=re k4 k8;clear k4 k8;go_enter func196,ntmps196;go_wp2_with (go_at_call 189;refine(Lo b d f _).mono ?_;rintro e w1 ⟨⟨v,rfl,n⟩,o⟩);go_ret;exact⟨⟨v,rfl,n.trans a.symm⟩,zb (zd (zd bZ _) _) o⟩
/-- There is room for one booking more, or none is added. -/
theorem Om (x:qD)(b:Option Addr)(d:Nat)(a:Option Addr)(n c:Nat)(pe:Nat->Addr)(w:World)(j:qI w pe)(h:¬ (x.d=2∨x.d=3)∨n<30) :
  Calls prog 110 #[(a,n,c),.agg (x,b,d)] w λe w'=>e=.returned (.tuple #[])/\Below w w w':=by
 have e8:=(qI.j0 j (zd bZ (.cells (x,b,d) 47))).c8
 by_cases k2:x.d=2
 ·have g:(x.d == 2)=true:=by simpa using k2
  have k:decide ((n:Int)<30)=true:=dT;clear h k2;go_enter func110,ntmps110;go_wp2_with (go_at_call 193;refine(ZO _ _).mono ?_;rintro e f ⟨rfl,rfl⟩);go_end0;exact⟨rfl,zd bZ _⟩
 ·have g:(x.d == 2)=false:=by simpa using k2
  by_cases k3:x.d=3
  ·have i:(x.d == 3)=true:=by simpa using k3
   have k:decide ((n:Int)<30)=true:=dT;clear h k2 k3;go_enter func110,ntmps110;go_wp2_with (go_at_call 193;refine(ZO _ _).mono ?_;rintro e f ⟨rfl,rfl⟩);go_end0;exact⟨rfl,zd bZ _⟩
  ·have i:(x.d == 3)=false:=by simpa using k3
   clear h k2 k3;go_enter func110,ntmps110;go_wp2_with (go_at_call 193;refine(ZO _ _).mono ?_;rintro e f ⟨rfl,rfl⟩);go_end0;exact⟨rfl,zd bZ _⟩
/-- One is added, and there is no room. -/
theorem Mq (x:qD)(d:Option Addr)(f:Nat)(a:Option Addr)(n c:Nat)(pe:Nat->Addr)(w:World)(i:qI w pe)(h:x.d=2∨x.d=3)(b:30<=n) :
  Calls prog 110 #[(a,n,c),.agg (x,d,f)] w λe w'=>e=.panicked [{ v:=.iface 96 (.agg #[.iface 391 (.pointer (some (pe 8)))]),recovered:=false }]/\Below w w w':=by
 have e8:=(qI.j0 i (zd bZ (.cells (x,d,f) 47))).c8;have hn:decide ((n:Int)<30)=false:=dF
 by_cases k2:x.d=2
 ·have g:(x.d == 2)=true:=by simpa using k2
  clear h k2 b;go_enter func110,ntmps110;go_wp2_with (go_at_call 193;refine(AK _ _ _).mono ?_;rintro e j ⟨rfl,rfl⟩);exact⟨rfl,rfl,zd bZ _⟩
 ·have g:(x.d == 2)=false:=by simpa using k2
  have d3:(x.d == 3)=true:=by simpa using h.resolve_left k2
  clear h k2 b;go_enter func110,ntmps110;go_wp2_with (go_at_call 193;refine(AK _ _ _).mono ?_;rintro e j ⟨rfl,rfl⟩);exact⟨rfl,rfl,zd bZ _⟩
theorem Gl (b:zA)(f:Option Addr)(g:Nat)(w:World) :
  Calls prog 86 #[.agg (b,f,g)] w λe w'=>e=.returned (.bool (decide (CB b)))/\Below w w w':=by
 obtain⟨c,i⟩:=nM (decide (CB b));rw[← i];have d:=hI i;clear i
 by_cases h1:b.C=1
 ·have j:(b.C == 1)=true:=by simpa using h1
  have a:Hid (c=true):=by rw[d.out];exact Jd (.inl h1)
  clear h1;go_enter func86,ntmps86;go_wp2;go_ret;exact⟨by rw[a.out];rfl,zd bZ _⟩
 ·have j:(b.C == 1)=false:=by simpa using h1
  by_cases h2:b.C=2
  ·have k:(b.C == 2)=true:=by simpa using h2
   have a:Hid (c=true):=by rw[d.out];exact Jd (.inr h2)
   clear h1 h2;go_enter func86,ntmps86;go_wp2;go_ret;exact⟨by rw[a.out];rfl,zd bZ _⟩
  ·have k:(b.C == 2)=false:=by simpa using h2
   have a:Hid (c=false):=by rw[d.out];exact Jc (λh=>by rcases h with h|h;exact h1 h;exact h2 h)
   clear h1 h2;go_enter func86,ntmps86;go_wp2;go_ret;exact⟨by rw[a.out];rfl,zd bZ _⟩
theorem DH:La x b (k+1)↔La x b k∨((x.L k).e=b.e/\(x.L k).z=b.v) :=
 ⟨λ⟨j,a,h⟩=>if e:j=k then .inr (by subst e;exact h) else .inl ⟨j,by omega,h⟩,λh=>by rcases h with⟨j,a,h⟩|h;exact⟨j,by omega,h⟩;exact⟨k,by omega,h⟩⟩
theorem Cg:NT x b (k+1)↔NT x b k∨((x.K k).e=b.e/\(x.K k).f=b.f/\(x.K k).j=b.j) :=
 ⟨λ⟨j,a,h⟩=>if e:j=k then .inr (by subst e;exact h) else .inl ⟨j,by omega,h⟩,λh=>by rcases h with⟨j,a,h⟩|h;exact⟨j,by omega,h⟩;exact⟨k,by omega,h⟩⟩
theorem AD:NU s x b (k+1)↔NU s x b k∨PD s b (x.I k) :=
 ⟨λ⟨j,a,h⟩=>if e:j=k then .inr (by subst e;exact h) else .inl ⟨j,by omega,h⟩,λh=>by rcases h with⟨j,a,h⟩|h;exact⟨j,by omega,h⟩;exact⟨k,by omega,h⟩⟩
theorem Oo (s:qe)(la ca:Option Addr)(lc cc:Nat)(x:zw)(C A B:Option Addr)(P N O:Nat)(b:zA)(K:Option Addr)(M:Nat)(w:World)
  (d0:x.r<=1048576) (d5:x.m<=1048576) (d6:x.t<=1048576) (a0:zJ w ca s.M) (a3:qx w C x.r x.K) (a1:qn w A x.m x.I) (a2:qC w B x.t x.L)
  (G:∀ j,j<x.m->0<=(x.I j).H/\(x.I j).H<s.M.n) :
  Calls prog 88 #[.agg (s,la,lc,ca,cc),.agg #[(C,x.r,P),(A,x.m,N),(B,x.t,O)],.agg (b,K,M)] w λe w'=>qH (CD s x b) e/\Below w w w':=by
 have a6:=hI a0;have b0:=hI a3;have a8:=hI a1;have a9:=hI a2;have a7:=hI G;clear a0 a3 a1 a2 G;go_enter func88,ntmps88;go_wp2;obtain⟨W,T⟩:=nM ((((w.alloc (.cells (s,la,lc,ca,cc) 140)).alloc (.cells #[(C,x.r,P),(A,x.m,N),(B,x.t,O)] 145)).alloc (.cells (b,K,M) 150)).alloc (.cells #[b.v,b.f,b.j,b.w,b.h,b.x] 45));have bS:W.heap[w.heap.size]?=some (.cells (s,la,lc,ca,cc) 140 (0,0)):=by rw[T];exact zg (zg (zg (Jb w _) _) _) _
 have bL:W.heap[w.heap.size+1]?=some (.cells #[(C,x.r,P),(A,x.m,N),(B,x.t,O)] 145 (0,0)):=by rw[T];exact zg (zg (by simpa using Jb (w.alloc _) _) _) _
 have bB:W.heap[w.heap.size+1+1]?=some (.cells (b,K,M) 150 (0,0)):=by rw[T];exact zg (by simpa using Jb ((w.alloc _).alloc _) _) _
 have E:W.heap[w.heap.size+1+1+1]?=some (.cells #[b.v,b.f,b.j,b.w,b.h,b.x] 45 (0,0)):=by rw[T];simpa using Jb (((w.alloc _).alloc _).alloc _) _
 have D:Below w w W:=by rw[T];exact zd (zd (zd (zd bZ _) _) _) _
 rw[← T];clear T;have H:∀ y,¬ La y b 0:=λy ⟨j,hj,_⟩=>absurd hj (Nat.not_lt_zero _)
 go_loopw [8,10,22] (λv _ i wr=>∃ (k:Nat) (c:Bool),k<=x.t/\i=int i64 k/\v=.bool c/\(c=true↔La x b k)/\Below W W wr) (λ_ _ i _=>x.t - (intOf i).toNat)
 case atStart=>exact⟨0,_,Jq _,rfl,rfl,⟨λh=>(by cases h),λh=>absurd h (H x)⟩,bZ⟩
 case round =>
  obtain⟨k,c,hk,rfl,rfl,g,a⟩:=hrel;have U:=hI g;clear g;have L:=aC (za bB a) 1;have b3:=aC (za E a) 0
  by_cases hlt:k<x.t
  ·obtain⟨sb,so,rfl,z,F⟩:=a9 k hlt
   have r:=Ja w _ z;have d1:=tR (zb D a) z r;have d2:=tR (zb D a) F r;clear z F
   cases c with
   |true =>
    go_wp2;go_roundw
    case rel=>exact⟨_,_,by omega,by go_num,rfl,⟨λ_=>DH.2 (.inl (U.1 rfl)),λ_=>rfl⟩,zd a _⟩
    case measure=>simp[intOf];omega
   |false =>
    have f:Hid (¬ _):=λh=>by have:=U.2 h;cases this
    clear U
    by_cases e1:(x.L k).e=b.e
    ·by_cases e2:(x.L k).z=b.v
     ·have J:=hI (DH.2 (.inr ⟨e1,e2⟩))
      go_wp2;go_roundw
      case rel=>exact⟨_,_,by omega,by go_num,rfl,⟨λ_=>J,λ_=>rfl⟩,zd a _⟩
      case measure=>simp[intOf];omega
     ·have d:Hid (¬ _):=λh=>by rcases DH.1 h with h|h;exact f h;exact e2 h.2
      go_wp2;go_roundw
      case rel=>exact⟨_,_,by omega,by go_num,rfl,⟨λh=>(by cases h),λh=>absurd h d⟩,zd a _⟩
      case measure=>simp[intOf];omega
    ·have d:Hid (¬ _):=λh=>by rcases DH.1 h with h|h;exact f h;exact e1 h.1
     go_wp2;go_roundw
     case rel=>exact⟨_,_,by omega,by go_num,rfl,⟨λh=>(by cases h),λh=>absurd h d⟩,zd a _⟩
     case measure=>simp[intOf];omega
  ·obtain rfl:k=x.t:=by omega
   clear L b3;have a4:=hI a;have I:=hI D;have b1:=bC (za bL a) 0;have X:=bC (za E a) 1;clear a D hk hlt H;obtain⟨z1,n⟩:=nM ((b.f == 0));have S:=n.symm;have l:Hid (z1=true↔b.f=0):=by show _↔_;rw[n,beq_iff_eq]
   clear n;go_wp2;go_loopw [11,13,43] (λv _ i wq=>∃ (k:Nat) (c:Bool),k<=x.r/\i=int i64 k/\v=.bool c/\(c=true↔b.f=0∨NT x b k)/\Below W W wq) (λ_ _ i _=>x.r - (intOf i).toNat)
   case atStart=>exact⟨0,z1,Jq _,rfl,rfl,⟨λh=>.inl (l.1 h),λh=>by rcases h with h|⟨j,hj,_⟩;exact l.2 h;exact absurd hj (Nat.not_lt_zero _)⟩,a4⟩
   case round =>
    obtain⟨k,c2,hk,rfl,rfl,g,a⟩:=hrel;have t:=hI g;clear g b1 X S l
    by_cases hlt:k<x.r
    ·obtain⟨sb,so,rfl,z,F,Z,g4⟩:=b0 k hlt
     have r:=Ja w _ z;have m:=zb I a;obtain⟨d1,d2,d3,d4⟩:=OP m z F Z g4 r;have L:=aC (za bB a) 1;have X:=aC (za E a) 1;have b8:=aC (za E a) 2;clear z F Z g4 m
     cases c2 with
     |true =>
      go_wp2;go_roundw
      case rel=>exact⟨_,_,by omega,by go_num,rfl,⟨λ_=>(t.1 rfl).imp id (λh=>Cg.2 (.inl h)),λ_=>rfl⟩,zd a _⟩
      case measure=>simp[intOf];omega
     |false =>
      have f:Hid (¬ _):=λh=>by have:=t.2 h;cases this
      clear t
      by_cases e1:(x.K k).e=b.e
      ·have Q:((x.K k).e == b.e)=true:=by simpa using e1
       by_cases e2:(x.K k).f=b.f
       ·have p:((x.K k).f == b.f)=true:=by simpa using e2
        by_cases e3:(x.K k).j=b.j
        ·have R:((x.K k).j == b.j)=true:=by simpa using e3
         have J:Hid (b.f=0∨_):=.inr (Cg.2 (.inr ⟨e1,e2,e3⟩));clear e1 e2 e3;go_wp2;go_roundw
         case rel=>exact⟨_,_,by omega,by go_num,rfl,⟨λ_=>J,λ_=>rfl⟩,zd a _⟩
         case measure=>simp[intOf];omega
        ·have R:((x.K k).j == b.j)=false:=by simpa using e3
         have d:Hid (¬ (_∨_)):=λh=>by rcases h with h|h;exact f (.inl h);rcases Cg.1 h with h|h;exact f (.inr h);exact e3 h.2.2
         clear e1 e2 e3;go_wp2;go_roundw
         case rel=>exact⟨_,_,by omega,by go_num,rfl,⟨λh=>(by cases h),λh=>absurd h d⟩,zd a _⟩
         case measure=>simp[intOf];omega
       ·have p:((x.K k).f == b.f)=false:=by simpa using e2
        have d:Hid (¬ (_∨_)):=λh=>by rcases h with h|h;exact f (.inl h);rcases Cg.1 h with h|h;exact f (.inr h);exact e2 h.2.1
        clear e1 e2;go_wp2;go_roundw
        case rel=>exact⟨_,_,by omega,by go_num,rfl,⟨λh=>(by cases h),λh=>absurd h d⟩,zd a _⟩
        case measure=>simp[intOf];omega
      ·have Q:((x.K k).e == b.e)=false:=by simpa using e1
       have d:Hid (¬ (_∨_)):=λh=>by rcases h with h|h;exact f (.inl h);rcases Cg.1 h with h|h;exact f (.inr h);exact e1 h.1
       clear e1;go_wp2;go_roundw
       case rel=>exact⟨_,_,by omega,by go_num,rfl,⟨λh=>(by cases h),λh=>absurd h d⟩,zd a _⟩
       case measure=>simp[intOf];omega
    ·obtain rfl:k=x.r:=by omega
     have a5:=hI a;have b2:=bC (za bL a) 1;have Y:=bC (za E a) 3;clear a hk hlt;obtain⟨z1,n⟩:=nM ((b.w == 0));have S:=n.symm;have l:Hid (z1=true↔b.w=0):=by show _↔_;rw[n,beq_iff_eq]
     clear n;go_wp2;go_loopw [14,16,76] (λv _ i wq=>∃ (k:Nat) (c:Bool),k<=x.m/\i=int i64 k/\v=.bool c/\(c=true↔b.w=0∨NU s x b k)/\Below W W wq) (λ_ _ i _=>x.m - (intOf i).toNat)
     case atStart=>exact⟨0,z1,Jq _,rfl,rfl,⟨λh=>.inl (l.1 h),λh=>by rcases h with h|⟨j,hj,_⟩;exact l.2 h;exact absurd hj (Nat.not_lt_zero _)⟩,a5⟩
     case round =>
      obtain⟨k,c3,hk,rfl,rfl,g,a⟩:=hrel;have u:=hI g;clear g b2 Y S l
      by_cases hlt:k<x.m
      ·obtain⟨sb,so,rfl,z,F,Z,g4⟩:=a8 k hlt
       have r:=Ja w _ z;have m:=zb I a;obtain⟨d1,d2,d3,d4⟩:=OP m z F Z g4 r;obtain⟨i0,i1⟩:=a7 k hlt;obtain⟨cb,co,rfl,k1,k2⟩:=a6 (x.I k).H.toNat oM;have b7:=Ja w _ k1;have c1:=λo=>(((m.alloc m.size o).cell b7)).trans k1
       have L:=aC (za bB a) 1;have Y:=aC (za E a) 3;obtain⟨q,hq⟩:=nM b.h;have V:=hI hq;have b9:∀ o,(wr.alloc o).cell? _=some (.bool q):=λo=>by rw[hq];exact bC (zg (za E a) o) 4
       clear hq;have c0:=aC (za E a) 5;have c9:=aC (za bS a) 6;clear z F Z g4 k1 k2 m
       cases c3 with
       |true =>
        go_wp2;go_quiet (fail);go_wp2;go_roundw
        case rel=>exact⟨_,_,by omega,by go_num,rfl,⟨λ_=>(u.1 sM).imp id (λh=>AD.2 (.inl h)),λ_=>rfl⟩,dN (zd a _) _⟩
        case measure=>simp[intOf];omega
       |false =>
        have f:Hid (¬ _):=λh=>by have:=u.2 h;cases this
        clear u
        by_cases e1:(x.I k).e=b.e
        ·have Q:((x.I k).e == b.e)=true:=by simpa using e1
         by_cases e2:(x.I k).h=q
         ·have p:((x.I k).h == q)=true:=by simpa using e2
          by_cases e3:s.M.A (x.I k).H.toNat=b.w
          ·have R:(s.M.A (x.I k).H.toNat == b.w)=true:=by simpa using e3
           by_cases e4:q=true
           ·have b4:=e2.trans e4
            have J:Hid (b.w=0∨_):=.inr (AD.2 (.inr ⟨e1,e2.trans V,e3,.inl (V.symm.trans e4)⟩));clear e1 e2 e3 p;go_wp2;go_quiet (fail);go_wp2;go_roundw
            case rel=>exact⟨_,_,by omega,by go_num,rfl,⟨λ_=>J,λ_=>rfl⟩,dN (zd a _) _⟩
            case measure=>simp[intOf];omega
           ·have b5:q=false:=by cases h:q;rfl;exact absurd h e4
            have b4:=e2.trans b5
            by_cases e5:(x.I k).z=b.x
            ·have b6:((x.I k).z == b.x)=true:=by simpa using e5
             have J:Hid (b.w=0∨_):=.inr (AD.2 (.inr ⟨e1,e2.trans V,e3,.inr e5⟩));clear e1 e2 e3 e4 e5 p;go_wp2;go_quiet (fail);go_wp2;go_roundw
             case rel=>exact⟨_,_,by omega,by go_num,rfl,⟨λ_=>J,λ_=>rfl⟩,dN (zd a _) _⟩
             case measure=>simp[intOf];omega
            ·have b6:((x.I k).z == b.x)=false:=by simpa using e5
             have d:Hid (¬ (_∨_)):=λh=>by rcases h with h|h;exact f (.inl h);rcases AD.1 h with h|h;exact f (.inr h);exact(by rcases h.2.2.2 with h|h;exact e4 (V.trans h);exact e5 h)
             clear e1 e2 e3 e4 e5 p;go_wp2;go_quiet (fail);go_wp2;go_roundw
             case rel=>exact⟨_,_,by omega,by go_num,rfl,⟨λh=>(by cases h),λh=>absurd h d⟩,dN (zd a _) _⟩
             case measure=>simp[intOf];omega
          ·have R:(s.M.A (x.I k).H.toNat == b.w)=false:=by simpa using e3
           have d:Hid (¬ (_∨_)):=λh=>by rcases h with h|h;exact f (.inl h);rcases AD.1 h with h|h;exact f (.inr h);exact e3 h.2.2.1
           clear e1 e2 e3;go_wp2;go_quiet (fail);go_wp2;go_roundw
           case rel=>exact⟨_,_,by omega,by go_num,rfl,⟨λh=>(by cases h),λh=>absurd h d⟩,dN (zd a _) _⟩
           case measure=>simp[intOf];omega
         ·have p:((x.I k).h == q)=false:=by simpa using e2
          have d:Hid (¬ (_∨_)):=λh=>by rcases h with h|h;exact f (.inl h);rcases AD.1 h with h|h;exact f (.inr h);exact e2 (h.2.1.trans V.symm)
          clear e1 e2;go_wp2;go_quiet (fail);go_wp2;go_roundw
          case rel=>exact⟨_,_,by omega,by go_num,rfl,⟨λh=>(by cases h),λh=>absurd h d⟩,dN (zd a _) _⟩
          case measure=>simp[intOf];omega
        ·have Q:((x.I k).e == b.e)=false:=by simpa using e1
         have d:Hid (¬ (_∨_)):=λh=>by rcases h with h|h;exact f (.inl h);rcases AD.1 h with h|h;exact f (.inr h);exact e1 h.1
         clear e1;go_wp2;go_quiet (fail);go_wp2;go_roundw
         case rel=>exact⟨_,_,by omega,by go_num,rfl,⟨λh=>(by cases h),λh=>absurd h d⟩,dN (zd a _) _⟩
         case measure=>simp[intOf];omega
      ·obtain rfl:k=x.m:=by omega
       have HF:=hI (zb I a);have HS:Hid (CD s x b↔c=true/\c2=true/\c3=true):=by
        show _↔_
        unfold CD;rw[U.out,t.out,u.out]
       clear a hk hlt U t u
       cases c with
       |false =>
        go_wp2;go_ret;exact⟨zh (λh=>by have h:=HS.1 h;simp at h),HF⟩
       |true =>
        cases c2 with
        |false =>
         go_wp2;go_ret;exact⟨zh (λh=>by have h:=HS.1 h;simp at h),HF⟩
        |true =>
         cases c3 with
         |false =>
          go_wp2;go_ret;exact⟨zh (λh=>by have h:=HS.1 h;simp at h),HF⟩
         |true =>
          go_wp2;go_ret;exact⟨zN (HS.2 sM),HF⟩
theorem BB (h:Option Addr)(N c:Nat)(S:Nat->qe)(x:Int)(w:World)(hN:N<=1048576)(u:qy w h N S) :
  Calls prog 161 #[.slice h N c,int i64 x] w λe w'=>((zX S x N<N/\e=.returned (int i64 (zX S x N)))∨(zX S x N=N/\e=.returned (int i64 (-1))))/\Below w w w':=by
 go_enter func161,ntmps161;go_wp2;go_loopw [5,6,9] (λ_ _ i wr=>∃ k,k<=N/\i=int i64 k/\(∀ j,j<k->(S j).S≠x)/\Below w w wr) (λ_ _ i _=>N - (intOf i).toNat)
 case atStart=>exact⟨0,Jq _,rfl,λj t=>by omega,bZ⟩
 case round =>
  obtain⟨k,hk,rfl,d,a⟩:=hrel;have g:=hI d;clear d
  by_cases hlt:k<N
  ·obtain⟨b,off,la,lc,ca,cc,rfl,l,h1,h2,h3,m,n,o,p,_,_,_,_⟩:=u k hlt
   have s:=Ja w _ h1;obtain⟨c0,c1,c2,c3,c4,c5,c6,c7⟩:=OR a l h1 h2 h3 m n o p s;clear l h1 h2 h3 m n o p
   by_cases he:(S k).S=x
   ·have r:((S k).S == x)=true:=by simpa using he
    have f:=hI (MZ hlt he g);clear he;go_wp2;go_ret;exact⟨.inl ⟨by rw[f.out];exact hlt,by rw[f.out];rfl⟩,zd a _⟩
   ·have r:((S k).S == x)=false:=by simpa using he
    have q:Hid (_≠x):=he;clear he;go_wp2;go_roundw
    case rel=>exact⟨k+1,by omega,by go_num,λj t=>by
     by_cases e:j=k
     ·subst e;exact q
     ·exact g j oM,zd a _⟩
    case measure=>simp[intOf];omega
  ·obtain rfl:k=N:=by omega
   have f:=hI (Iw g);go_wp2;go_ret;exact⟨.inr ⟨f,rfl⟩,a⟩
theorem Np (D bo:Option Addr)(N n c c':Nat)(S:Nat->qe)(G:Nat->Int)(w:World)(Z:N<=1048576)(hn:n<=1048576)(E:qy w D N S)(hy:zS w bo n G) :
  Calls prog 157 #[(D,N,c),(bo,n,c')] w λe w'=>qH (Q6 N S n G) e/\Below w w w':=by
 by_cases o:In (n:Int) 1 3
 case neg =>
  have R:=Jc o;have HN:Hid (¬ Q6 N S n G):=λh=>o ⟨by have:=h.1;omega,by have:=h.2.1;omega⟩
  clear o;go_enter func157,ntmps157;go_wp2_with (first|(go_at_call 148;refine bM (zt _ _ _ _) λw' f=>?_;have f:=f.symm;subst f))
  go_ret;exact⟨zh HN,bZ⟩
 have R:=Jd o;have F:Hid (1<=n/\n<=3):=⟨by have:=o.1;omega,by have:=o.2;omega⟩
 have a5:=F.2;clear o;go_enter func157,ntmps157;go_wp2_with (first|(go_at_call 148;refine bM (zt _ _ _ _) λw' f=>?_;have f:=f.symm;subst f))
 go_loopw [5,6,7,8,15] (λ_ _ _ _ i wr=>∃ k,k<=n/\i=int i64 k/\(∀ j,j<k->KZ N S G j)/\Below w w wr) (λ_ _ _ _ i _=>n - (intOf i).toNat)
 case atStart=>exact⟨0,Jq _,rfl,λj hj=>by omega,bZ⟩
 case round =>
  obtain⟨k,hk,rfl,p,d⟩:=hrel;have H:=hI p;clear p R
  by_cases hlt:k<n
  ·have P:Hid (0<k->∀ b off,bo=some ⟨b,off,none⟩->w.cell? ⟨b,off+(k - 1),none⟩=some (int i64 (G (k - 1)))):=by
    intro h b off e;obtain⟨b',C,v,g⟩:=hy (k - 1) oM;rw[e] at v;simp only[Option.some.injEq,Addr.mk.injEq,and_true] at v;obtain⟨rfl,rfl⟩:=v;exact g
   obtain⟨qb,a0,rfl,O⟩:=hy k hlt;have I:=hI (λh=>P h qb _ rfl)
   clear P;have B:=Ja w _ O;have p0:=tR d O B;clear O;go_wp2_with fail;refine(BB D N c S _ _ Z (E.j0 d)).mono ?_;rintro e w2 ⟨hr,z⟩;have a:=zb d z;clear z d p0
   rcases hr with⟨r,rfl⟩|⟨r,rfl⟩
   ·obtain⟨x,t⟩:=nM (zX S (G k) N)
    rw[← t] at r ⊢;have Q:=hI t;clear t
    by_cases k0:k=0
    ·subst k0
     have L:decide ((x:Int)<0)=false:=sM;go_wp2;go_roundw
     case rel=>exact⟨1,by omega,by go_num,λj hj=>by
      obtain rfl:j=0:=by omega
      exact⟨by rw[← Q.out];exact r,λh=>by omega⟩,a⟩
     case measure=>simp[intOf];omega
    ·have L:decide ((x:Int)<0)=false:=sM
     have d0:decide (0<k)=true:=by simp;omega
     have a1:((k:Int) - 1).toNat=k - 1:=oM;have a2:(k:Int) - 1<(n:Int):=oM;have a3:(0:Int)<=(k:Int) - 1:=oM;have a4:IntKind.i64.wrap ((k:Int) - 1)=(k:Int) - 1:=by rw[Jk];omega
     have y0:=tR a (I oM) B;go_wp2_with fail;refine(BB D N c S _ _ Z (E.j0 a)).mono ?_;rintro e w3 ⟨hr,A⟩;have l:=zb a A;have HP:=hI (H (k - 1) oM).1;clear A a y0 L d0
     rcases hr with⟨s,rfl⟩|⟨s,rfl⟩
     ·obtain⟨y,u⟩:=nM (zX S (G (k - 1)) N)
      rw[← u] at s ⊢;have HY:=hI u;clear u;have x1:(x:Int)<(N:Int):=oM;have x0:=n0 x;have y1:(y:Int)<(N:Int):=oM;have y0:=n0 y;have J:=E x r;obtain⟨b,off,la,lc,ca,cc,rfl,U,h1,h2,h3,V,W,X,Y,_,_,_,_⟩:=E y s;obtain⟨b',C,_,_,_,_,v,g0,T,g2,o,_⟩:=J;simp only[Option.some.injEq,Addr.mk.injEq,and_true] at v;obtain⟨rfl,rfl⟩:=v;have M:=Ja w _ h1;obtain⟨c0,c1,c2,c3,c4,c5,c6,c7⟩:=OR l U h1 h2 h3 V W X Y M;have m:=zd l (.cells (S y,la,lc,ca,cc) 140);have q1:=tR m T M;have q3:=tR m o M;clear U h1 h2 h3 V W X Y g0 T g2 o;have q:Hid (((S y).dst=(S x).U/\(S y).T<=(S x).O)↔KZ N S G k):=by
       unfold KZ;rw[← Q.out,← HY.out];exact⟨λh=>⟨r,λ_=>h⟩,λh=>h.2 oM⟩
      by_cases m1:(S y).dst=(S x).U
      ·have e1:=Fa.2 m1
       have K:=hI m1;clear m1
       by_cases m2:(S y).T<=(S x).O
       ·have e2:decide ((S x).O<(S y).T)=false:=by simpa using m2
        go_wp2;go_quiet (fail);go_wp2;go_roundw
        case rel=>exact⟨k+1,by omega,by go_num,λj hj=>by
         by_cases e:j=k
         ·subst e;exact q.1 ⟨K,m2⟩
         ·exact H j oM,dN m _⟩
        case measure=>simp[intOf];omega
       ·have e2:decide ((S x).O<(S y).T)=true:=by simpa using m2
        go_wp2;go_quiet (fail);go_wp2;go_ret;exact⟨zh (λh=>by have:=(q.2 (h.2.2 k hlt)).2;omega),dN m _⟩
      ·have e1:=Gu.2 m1
       have K:=hI m1;clear m1;go_wp2;go_quiet (fail);go_wp2;go_ret;exact⟨zh (λh=>K (q.2 (h.2.2 k hlt)).1),dN m _⟩
     ·exfalso
      have:=HP.out
      omega
   ·have L:decide ((-1:Int)<0)=true:=rfl
    have HF:=hI r;clear r;go_wp2;go_ret;exact⟨zh (λh=>by have:=(h.2.2 k hlt).1;have:=HF.out;omega),a⟩
  ·obtain rfl:k=n:=by omega
   go_wp2;go_ret;exact⟨zN ⟨F.1,F.2,H⟩,d⟩
section
theorem AV (L:Nat->zw)(k:Nat)(x:zw):Ew L k x k=x:=Jf rfl
theorem AW (L:Nat->zw)(k:Nat)(x:zw){j:Nat}(h:j≠k):Ew L k x j=L j:=Je h
theorem aj (L:Nat->zw)(k:Nat):Ew L k (L k)=L:=by
 funext j
 unfold Ew
 by_cases c:j=k
 ·subst c;rw[Jf rfl]
 ·rw[Je c]
theorem Kb.put {A:Nat->Value}{N k lim:Nat}{a:Value}(h:Kb N A)(h1:∀ i,i<N->∀ b,(A i).ownBlock=some b->b<lim)(h2:∀ b,a.ownBlock=some b->lim<=b):Kb N (AP A k a):=λi j f g e b d c=>by
 by_cases ei:i=k
 ·subst ei
  rw[qg] at d;rw[zV _ _ _ _ (λh=>e h.symm)] at c
  have:=h1 j g b c;have:=h2 b d
  omega
 ·rw[zV _ _ _ _ ei] at d
  by_cases ej:j=k
  ·subst ej
   rw[qg] at c;have:=h1 i f b d;have:=h2 b c
   omega
  ·rw[zV _ _ _ _ ej] at c
   exact h i j f g e b d c
section
variable {w w' : World} {base g c k N n lim : Nat} {S : Nat -> zw} {A B C : Nat -> Value} {u : Value}
theorem SC (h:w.ownsRow base 145 3 (some (g,0),N,c) N (Dz A B C N)):(w.setCell (g,k*3+0) u).ownsRow base 145 3 (some (g,0),N,c) N (Dz (AP A k u) B C N):=by
 refine qX (zI h _ u) (λj hj=>?_)
 by_cases h2:j=k*3+0
 ·subst h2
  rw[Jf rfl,zO 3 _ k 0 dC];unfold MV;rw[qg]
  rfl
 ·rw[Je h2]
  unfold qd MV
  by_cases e:j / 3=k
  ·have a:j % 3=1∨j % 3=2:=oM
   rcases a with a|a <;> rw[a] <;> rfl
  ·rw[zV _ _ _ _ e]
theorem SD (h:w.ownsRow base 145 3 (some (g,0),N,c) N (Dz A B C N)):(w.setCell (g,k*3+1) u).ownsRow base 145 3 (some (g,0),N,c) N (Dz A (AP B k u) C N):=by
 refine qX (zI h _ u) (λj hj=>?_)
 by_cases h2:j=k*3+1
 ·subst h2
  rw[Jf rfl,zO 3 _ k 1 dC];unfold MV;rw[qg]
  rfl
 ·rw[Je h2]
  unfold qd MV
  by_cases e:j / 3=k
  ·have a:j % 3=0∨j % 3=2:=oM
   rcases a with a|a <;> rw[a] <;> rfl
  ·rw[zV _ _ _ _ e]
theorem SE (h:w.ownsRow base 145 3 (some (g,0),N,c) N (Dz A B C N)):(w.setCell (g,k*3+2) u).ownsRow base 145 3 (some (g,0),N,c) N (Dz A B (AP C k u) N):=by
 refine qX (zI h _ u) (λj hj=>?_)
 by_cases h2:j=k*3+2
 ·subst h2
  rw[Jf rfl,zO 3 _ k 2 dC];unfold MV;rw[qg]
  rfl
 ·rw[Je h2]
  unfold qd MV
  by_cases e:j / 3=k
  ·have a:j % 3=0∨j % 3=1:=oM
   rcases a with a|a <;> rw[a] <;> rfl
  ·rw[zV _ _ _ _ e]
theorem qw.k5 {T:Nat->ql}(h:qw w base (some (g,0),N,c) N S A B C)(f:∀ i,i<N->∀ b,(A i).ownBlock=some b->b<lim)(o:w.ownsRow lim 220 4 u n (zH T n))(j:base<=lim) :
  qw (w.setCell (g,k*3+0) u) base (some (g,0),N,c) N (Ew S k { S k with r:=n,K:=T }) (AP A k u) B C:=by
 have r:zl w (w.setCell _ u) _:=(zl.refl w (λx=>x=g)).set (a:=(g,k*3+0)) rfl _
 have far:∀ {t sz n:Nat} {v} {xs},_->145≠t->(w.setCell _ u).ownsRow base t sz v n xs:=λp s=>r.j1 p (λq l m=>zE h.row p s q (by rw[m];rfl) l)
 refine⟨SC h.row,λi d=>?_,λi d=>?_,λi d=>?_,h.Q.1.put f (λb e=>(o.lt b e).1),h.Q.2.1,h.Q.2.2⟩
 ·by_cases e:i=k
  ·subst e;rw[qg,AV];exact far (zo o j) dC
  ·rw[zV _ _ _ _ e,AW _ _ _ e];exact far (h.K i d) dC
 ·by_cases e:i=k
  ·subst e;rw[AV];exact far (h.I i d) dC
  ·rw[AW _ _ _ e];exact far (h.I i d) dC
 ·by_cases e:i=k
  ·subst e;rw[AV];exact far (h.L i d) dC
  ·rw[AW _ _ _ e];exact far (h.L i d) dC
theorem qw.k6 {T:Nat->zU}(h:qw w base (some (g,0),N,c) N S A B C)(f:∀ i,i<N->∀ b,(B i).ownBlock=some b->b<lim)(o:w.ownsRow lim 228 4 u n (zF T n))(j:base<=lim) :
  qw (w.setCell (g,k*3+1) u) base (some (g,0),N,c) N (Ew S k { S k with m:=n,I:=T }) A (AP B k u) C:=by
 have r:zl w (w.setCell _ u) _:=(zl.refl w (λx=>x=g)).set (a:=(g,k*3+1)) rfl _
 have far:∀ {t sz n:Nat} {v} {xs},_->145≠t->(w.setCell _ u).ownsRow base t sz v n xs:=λp s=>r.j1 p (λq l m=>zE h.row p s q (by rw[m];rfl) l)
 refine⟨SD h.row,λi d=>?_,λi d=>?_,λi d=>?_,h.Q.1,h.Q.2.1.put f (λb e=>(o.lt b e).1),h.Q.2.2⟩
 ·by_cases e:i=k
  ·subst e;rw[AV];exact far (h.K i d) dC
  ·rw[AW _ _ _ e];exact far (h.K i d) dC
 ·by_cases e:i=k
  ·subst e;rw[qg,AV];exact far (zo o j) dC
  ·rw[zV _ _ _ _ e,AW _ _ _ e];exact far (h.I i d) dC
 ·by_cases e:i=k
  ·subst e;rw[AV];exact far (h.L i d) dC
  ·rw[AW _ _ _ e];exact far (h.L i d) dC
theorem qw.k7 {T:Nat->qO}(h:qw w base (some (g,0),N,c) N S A B C)(f:∀ i,i<N->∀ b,(C i).ownBlock=some b->b<lim)(o:w.ownsRow lim 234 2 u n (zL T n))(j:base<=lim) :
  qw (w.setCell (g,k*3+2) u) base (some (g,0),N,c) N (Ew S k { S k with t:=n,L:=T }) A B (AP C k u):=by
 have r:zl w (w.setCell _ u) _:=(zl.refl w (λx=>x=g)).set (a:=(g,k*3+2)) rfl _
 have far:∀ {t sz n:Nat} {v} {xs},_->145≠t->(w.setCell _ u).ownsRow base t sz v n xs:=λp s=>r.j1 p (λq l m=>zE h.row p s q (by rw[m];rfl) l)
 refine⟨SE h.row,λi d=>?_,λi d=>?_,λi d=>?_,h.Q.1,h.Q.2.1,h.Q.2.2.put f (λb e=>(o.lt b e).1)⟩
 ·by_cases e:i=k
  ·subst e;rw[AV];exact far (h.K i d) dC
  ·rw[AW _ _ _ e];exact far (h.K i d) dC
 ·by_cases e:i=k
  ·subst e;rw[AV];exact far (h.I i d) dC
  ·rw[AW _ _ _ e];exact far (h.I i d) dC
 ·by_cases e:i=k
  ·subst e;rw[qg,AV];exact far (zo o j) dC
  ·rw[zV _ _ _ _ e,AW _ _ _ e];exact far (h.L i d) dC
end
section
variable {w w' : World} {base g c k lim n n1 n2 n3 : Nat} {v1 v3 u : Value} {x : zY} {L C A B D E : Nat -> Value}
theorem zz.k5 {T:Nat->ql}(h:zz w base v1 (some (g,0),n2,c) v3 n1 n2 n3 x L C A B D E)(d:∀ i,i<n2->∀ b,(A i).ownBlock=some b->b<lim)(m:w.ownsRow lim 220 4 u n (zH T n))(j:base<=lim) :
  zz (w.setCell (g,k*3+0) u) base v1 (some (g,0),n2,c) v3 n1 n2 n3 { x with F:=Ew x.F k { x.F k with r:=n,K:=T } } L C (AP A k u) B D E:=by
 have l:zl w (w.setCell _ u) _:=(zl.refl w (λx=>x=g)).set (a:=(g,k*3+0)) rfl _
 exact⟨h.G.j7 l (λq e=>by obtain⟨cs,f⟩:=zC h.F.row q (by rw[show _ from e];rfl);exact⟨cs,_,f,by decide,by decide,by decide⟩),h.F.k5 d m j,h.u.j7 l (λq e=>by obtain⟨cs,f⟩:=zC h.F.row q (by rw[show _ from e];rfl);exact⟨cs,_,f,by decide,by decide⟩)⟩
theorem zz.k6 {T:Nat->zU}(h:zz w base v1 (some (g,0),n2,c) v3 n1 n2 n3 x L C A B D E)(d:∀ i,i<n2->∀ b,(B i).ownBlock=some b->b<lim)(m:w.ownsRow lim 228 4 u n (zF T n))(j:base<=lim) :
  zz (w.setCell (g,k*3+1) u) base v1 (some (g,0),n2,c) v3 n1 n2 n3 { x with F:=Ew x.F k { x.F k with m:=n,I:=T } } L C A (AP B k u) D E:=by
 have l:zl w (w.setCell _ u) _:=(zl.refl w (λx=>x=g)).set (a:=(g,k*3+1)) rfl _
 exact⟨h.G.j7 l (λq e=>by obtain⟨cs,f⟩:=zC h.F.row q (by rw[show _ from e];rfl);exact⟨cs,_,f,by decide,by decide,by decide⟩),h.F.k6 d m j,h.u.j7 l (λq e=>by obtain⟨cs,f⟩:=zC h.F.row q (by rw[show _ from e];rfl);exact⟨cs,_,f,by decide,by decide⟩)⟩
theorem zz.k7 {T:Nat->qO}(h:zz w base v1 (some (g,0),n2,c) v3 n1 n2 n3 x L C A B D E)(d:∀ i,i<n2->∀ b,(D i).ownBlock=some b->b<lim)(m:w.ownsRow lim 234 2 u n (zL T n))(j:base<=lim) :
  zz (w.setCell (g,k*3+2) u) base v1 (some (g,0),n2,c) v3 n1 n2 n3 { x with F:=Ew x.F k { x.F k with t:=n,L:=T } } L C A B (AP D k u) E:=by
 have l:zl w (w.setCell _ u) _:=(zl.refl w (λx=>x=g)).set (a:=(g,k*3+2)) rfl _
 exact⟨h.G.j7 l (λq e=>by obtain⟨cs,f⟩:=zC h.F.row q (by rw[show _ from e];rfl);exact⟨cs,_,f,by decide,by decide,by decide⟩),h.F.k7 d m j,h.u.j7 l (λq e=>by obtain⟨cs,f⟩:=zC h.F.row q (by rw[show _ from e];rfl);exact⟨cs,_,f,by decide,by decide⟩)⟩
end
end
def OQ (b:zA)(z:Int):Prop:=CB b/\Sa b z
theorem kr (b:zA)(a:Option Addr)(c:Nat)(z:Int)(p:Nat)(w:World)(A:b.c<=1048576)(v:zS w a b.c b.J)(n:w.cell? (p,0)=some (int i64 z)) :
  Calls prog 188 #[.agg (b,a,c),.pointer (some (p,0))] w λe w'=>qH (OQ b z) e/\Below w w w':=by
 have m:p<w.heap.size:=Ja w _ n;have j:=hI v;clear v;have f:Below _ w (w.alloc (.cells (b,a,c) 150)):=zd bZ _;have l:=Jb w (.cells (b,a,c) 150);go_enter func188,ntmps188;go_wp2_with fail;generalize w.alloc _=W at f l ⊢;refine(Lo b a c _).mono ?_;rintro e w1 ⟨⟨t,rfl,r⟩,g⟩;have k:=hI r;have y:=za l g;have d:=zb f g;have p1:=tR d n m;clear r l f g n
 cases t with
 |false =>
  have i:Hid (¬ OQ b z):=λh=>by have:=k.2 h.1;cases this
  go_wp2;go_ret;exact⟨zh i,d⟩
 |true =>
  have x:=hI (k.1 rfl);have y3:=bC y 3;clear k;go_wp2_with fail;refine(Sv a _ c _ z _ A (j.j0 d)).mono ?_;rintro e w2 ⟨⟨u,rfl,s⟩,o⟩;have o:=o.symm;subst o;have q:Hid (_↔Sa b z):=s;clear s
  cases u with
  |false =>
   have i:Hid (¬ OQ b z):=λh=>by have:=q.2 h.2;cases this
   go_wp2;go_ret;exact⟨zh i,d⟩
  |true =>
   have i:Hid (OQ b z):=⟨x,q.1 rfl⟩;go_wp2;go_ret;exact⟨zN i,d⟩
noncomputable def FV (C:Nat->List Value)(P:Nat->Prop)(n:Nat):List Value:=(List.range ((Cn P n).length*13)).map (qd 13 (λj=>C (Oj P n j)))
theorem PR (sz:Nat)(C:Nat->List Value)(m:Nat)(v:List Value)(hv:v.length=sz)(a:C m=v):(List.range ((m+1)*sz)).map (qd sz C)=(List.range (m*sz)).map (qd sz C)++v:=by
 apply List.ext_getElem?
 intro i;rw[List.getElem?_append,List.length_map,List.length_range]
 by_cases h1:i<m*sz
 ·rw[Jf h1,List.getElem?_map,List.getElem?_map,List.getElem?_range h1,List.getElem?_range (by rw[Nat.add_mul];omega)]
 ·rw[Je h1]
  by_cases h2:i<(m+1)*sz
  ·have h3:i - m*sz<sz:=by rw[Nat.add_mul] at h2;omega
   rw[List.getElem?_map,List.getElem?_range h2,Option.map_some];rw[show i=m*sz+(i - m*sz) by omega,zO sz C m _ h3,a,show m*sz+(i - m*sz) - m*sz=i - m*sz by omega,List.getD_eq_getElem?_getD,List.getElem?_eq_getElem oM]
   rfl
  ·rw[List.getElem?_eq_none (by simp;omega),List.getElem?_eq_none (by rw[Nat.add_mul] at h2;omega)]
theorem am {C:Nat->List Value}(h:P n)(c:(C n).length=13):FV C P (n+1)=FV C P n++C n:=by
 unfold FV;rw[show(Cn P (n+1)).length=(Cn P n).length+1 by rw[Ca h];simp]
 rw[PR 13 _ _ _ c (by rw[Ec P h])]
 congr 1
 refine List.map_congr_left λj a=>?_
 have b:=by simpa using a
 unfold qd;dsimp only;rw[CG P (show j / 13<(Cn P n).length by omega)]
theorem ia {C:Nat->List Value}(h:¬ P n):FV C P (n+1)=FV C P n:=by
 unfold FV;rw[Fk h];refine List.map_congr_left λj a=>?_
 have b:=by simpa using a
 unfold qd;dsimp only;rw[CG P (show j / 13<(Cn P n).length by omega)]
theorem SI (P:Nat->Prop)(n:Nat):(Cn P n).length<=n:=by rw[Km];exact Hi P n
theorem Qo.of_own {base t sz c:Nat}{b:Option Addr}{C:Nat->List Value}(h:w.ownsRow base t sz (b,n,c) n ((List.range (n*sz)).map (qd sz C))):Qo w b n sz C:=by
 intro k e;obtain⟨g,rfl,_,_⟩:=qr h oM;refine⟨g,0,rfl,λj d=>?_⟩
 have a:k*sz+j<n*sz:=by
  have h1:(k+1)*sz<=_:=Nat.mul_le_mul_right sz e;rw[Nat.add_mul] at h1
  omega
 rw[Nat.zero_add,zs h _ a rfl,zO sz C k j d]
def ib (w':World)(base:Nat)(n:Nat)(S:Nat->zA)(C:Nat->List Value)(z:Int)(e:Ending):Prop :=
 ∃ ao c,e=.returned (.slice ao (Cn (λi=>OQ (S i) z) n).length c)/\(Cn (λi=>OQ (S i) z) n).length<=c/\w'.ownsRow base 150 13 (.slice ao (Cn (λi=>OQ (S i) z) n).length c) (Cn (λi=>OQ (S i) z) n).length (FV C (λi=>OQ (S i) z) n)
theorem Mr (V:Option Addr)(n c:Nat)(S:Nat->zA)(C:Nat->List Value)(z:Int)(pa:Nat)(w:World)(hn:n<=1048576)(hs:ZY n S 1048576)(hC:Qo w V n 13 C)(hI:∀ k,k<n->zA.Is w (C k) (S k))(hp:w.cell? (pa,0)=some (int i64 z)) :
  Calls prog 187 #[(V,n,c),.func (.func 188) #[] #[.pointer (some (pa,0))]] w λe w'=>ib w' w.heap.size n S C z e/\Below w w w':=by
 obtain⟨j0,ji,a6,a7,a8⟩:=info_parts Tryz.infoBooking;have a3:=Ja w _ hp;have HC:Hid (Qo w V n 13 C):=hC;have HI:Hid _:=hI;have HS:Hid (ZY n S 1048576):=hs;have HP:Hid _:=hp;clear hC hI hs hp;obtain⟨P,hP⟩:=nM (λi=>OQ (S i) z)
 have U:Hid (∀ i,P i↔_):=λi=>by rw[hP]
 unfold ib;rw[← hP];clear hP;go_enter func187,ntmps187;go_wp2;go_loopw [5,7,10] (λv _ i wr=>∃ k,k<=n/\i=int i64 k/\wr.ownsRow w 150 13 v (Cn P k).length (FV C P k)/\Below w w wr) (λ_ _ i _=>n - (intOf i).toNat)
 case atStart=>exact⟨0,Jq _,rfl,World.ownsRow_nil _ _ _ _,bZ⟩
 case round =>
  obtain⟨k,hk,rfl,ho,a⟩:=hrel;have J:=hI ho;clear ho
  by_cases hlt2:k<n
  ·obtain⟨bb,bo,rfl,m⟩:=HC k hlt2
   have s:=(HI k hlt2).length;obtain⟨f,g,l,H,_⟩:=HI k hlt2;obtain⟨b,N⟩:=nM (S k);rw[← N] at l H;have HB:=hI N;have Q:=hI H;have I:=hI s;have a5:b.c<=1048576:=by rw[N];exact(HS k hlt2).2
   have d:bb<w.heap.size:=Ja w _ (m 0 dC);have c0:wr.cell? _=some (.int _ _):=(a.cell (p:=⟨bb,bo+_,_⟩) d).trans (rC l (m 0 dC));have c1:wr.cell? _=some (.int _ _):=(a.cell d).trans (rC l (m 1 dC));have c2:wr.cell? _=some (.string _):=(a.cell d).trans (rC l (m 2 dC));have c3:wr.cell? _=some (.slice f _ g):=(a.cell d).trans (rC l (m 3 dC));have c4:wr.cell? _=some (.int _ _):=(a.cell d).trans (rC l (m 4 dC));have c5:wr.cell? _=some (.int _ _):=(a.cell d).trans (rC l (m 5 dC));have c6:wr.cell? _=some (.int _ _):=(a.cell d).trans (rC l (m 6 dC));have c7:wr.cell? _=some (.int _ _):=(a.cell d).trans (rC l (m 7 dC));have c8:wr.cell? _=some (.bool _):=(a.cell d).trans (rC l (m 8 dC));have c9:wr.cell? _=some (.int _ _):=(a.cell d).trans (rC l (m 9 dC));have Y:wr.cell? _=some (.int _ _):=(a.cell d).trans (rC l (m 10 dC));have Z:wr.cell? _=some (.int _ _):=(a.cell d).trans (rC l (m 11 dC));have a0:wr.cell? _=some (.int _ _):=(a.cell d).trans (rC l (m 12 dC));have HE:Hid (C k=#[_,_,_,_,_,_,_,_,_,_,_,_,_].toList):=l;clear m l N H s;have A:=zd a (.cells (b,f,g) 150);have o:=Jb wr (.cells (b,f,g) 150);have E:Hid ((wr.alloc (.cells (b,f,g) 150)).ownsRow _ 150 13 u5 _ _):=zm (zd (Ji _ wr) _) J;clear J;go_wp2_with fail;generalize hBx:wr.heap.size=Bx at o ⊢;generalize wr.alloc _=W at A o E ⊢;clear hBx c0 c1 c2 c3 c4 c5 c6 c7 c8 c9 Y Z a0 a;refine(kr b f g z pa _ a5 (Q.j0 A) (tR A HP a3)).mono ?_;rintro e O ⟨⟨t,rfl,ht⟩,B⟩;have G:=za o B;have x:=zb A B;have M:Hid (t=true↔P k):=by show _↔P k;rw[U.out k,← HB.out];exact ht
   have q:=hI (zm B E);clear ht A o B E
   cases t with
   |true =>
    have r:=hI (M.1 rfl);clear M;obtain⟨y0,y1,y2,y3,y4,y5,y6,y7,y8,y9,b0,b1,b2⟩:=Cl G;have K:=Jb O (.cells (b,f,g) 150);have R:Hid (∀ j u,(C k)[j]?=some u->(O.alloc (.cells (b,f,g) 150)).cell? (((O.heap.size,0):Addr).add j)=some u):=by
     rw[HE.out];exact Jo K
    have F:=zd (Ji _ O) (.cells (b,f,g) 150);have T:Hid _:=zm F q;have y:=zb x F;have L:=y.size;have a9:=SI P k;have H1:Hid (∀ u ∈ C k,u.oneCell'=true):=by rw[HE.out];intro u hu;simp at hu;rcases hu with rfl|rfl|rfl|rfl|rfl|rfl|rfl|rfl|rfl|rfl|rfl|rfl|rfl <;> rfl
    clear K F;go_wp2_with (first|(at_builtin;refine zu _ rfl _ _ 36 rfl _ 150 j0 _ 13 128 underlying36 ji a6 a7 a8 rfl dC _ _ _ (by rfl) T _ 1 1 _ rfl (λh=>(by cases h)) (by rw[I.out]) (λad e=>by cases e;exact R) H1 (by unfold maxLen;omega) oM L ?_;intro v' w4 a4 a2))
    go_roundw
    case rel =>
     refine⟨k+1,by omega,by go_num,?_,y.grown a2 L (λj hj=>(q.lt j hj).1)⟩
     rw[am r.out I.out,show(Cn P (k+1)).length=(Cn P k).length+1 by rw[Ca r.out];simp]
     exact a4
    case measure=>simp[intOf];omega
   |false =>
    have r:Hid (¬ P k):=λh=>by have:=M.2 h;cases this
    clear M;go_wp2;go_roundw
    case rel =>
     refine⟨k+1,by omega,by go_num,?_,x⟩
     rw[ia r.out,show(Cn P (k+1)).length=(Cn P k).length by rw[Fk r.out]]
     exact q
    case measure=>simp[intOf];omega
  ·obtain rfl:k=n:=by omega
   obtain⟨X,c',e',a1,_⟩:=zn J;have D:=J;rw[e'] at D;have q:Hid _:=D;subst e';clear J D;go_wp2;go_ret;exact⟨⟨X,c',rfl,a1,q⟩,a⟩
theorem Fo (b:Option Addr)(n c:Nat)(S:Nat->zA)(C:Nat->List Value)(z:Int)(w:World)(s:n<=1048576)(j:ZY n S 1048576)(i:Qo w b n 13 C)(hI:∀ k,k<n->zA.Is w (C k) (S k)) :
  Calls prog 101 #[(b,n,c),z] w λe w'=>ib w' w.heap.size n S C z e/\Below w w w':=by
 have a:Below _ w (w.alloc (.cells #[z] 3)):=zd bZ _;have l:Hid (Qo _ b n 13 C):=i.j0 a;have m:Hid _:=λk q=>(hI k q).j0 a
 have o:Hid ((w.alloc (.cells #[_] 3)).cell? _=some (int i64 z)):=bC (Jb w _) 0;have r:∀ (fn) (first cap) (w),(Instr.makeFunc fn _ cap).run prog w=.ok (.func fn first cap) w:=λ_ _ _ _=>rfl
 have p:Hid (ZY n S 1048576):=j;clear i hI j;go_enter func101,ntmps101;go_wp2_with (first|(go_at_call 187;refine(Mr b n c S C z _ _ s p l m o).mono ?_;rintro e w2 ⟨⟨d,c2,rfl,g,h⟩,f⟩))
 go_ret;exact⟨⟨d,c2,rfl,g,zo h a.size⟩,zb a f⟩
theorem Tryz.infoRow:(Tryz.prog.info? 203).map (λi=>(i.zero,i.size,i.bytes))=some (some (.agg #[int i64 0,.string ⟨#[]⟩,int i64 0,int i64 0,int i64 0]),5,48):=kR
/-- The operation names no booking. -/
theorem Kd (x:qD)(d:Option Addr)(g:Nat)(a:Option Addr)(n c:Nat)(k:Nat)(w:World)(h:Ze w)(l:x.d=(k:Int))(i:k<10)(j:Q8 k=false) :
  Calls prog 107 #[(a,n,c),.agg (x,d,g)] w λe w'=>e=.returned (.tuple #[])/\Below w w w':=by
 have f:=Jb w (.cells (x,d,g) 47);have b:=Kv f;have p:(w.alloc _).cell? _=some (.bool false):=tR b (by rw[← j];exact(h k i).2.1) h.lt
 have q:(w.alloc (.cells (x,d,g) 47)).cell? (w.heap.size,0)=some (k:Int):=by rw[← l];exact bC f 0
 have m:=n0 k;have o:(k:Int)<10:=oM;clear l;go_enter func107,ntmps107;go_upto_region 1 with fail;generalize w.alloc _=W at f b p q ⊢;clear h j;go_wp2;exact Jj (by simp[results,results107,go_sem]) rfl ⟨rfl,b⟩
/-- It names one that isn't there. -/
theorem Lt (x:qD)(f:Option Addr)(g:Nat)(a:Option Addr)(n c:Nat)(k:Nat)(w:World)(h:Ze w)(o:x.d=(k:Int))(i:k<10)(j:Q8 k=true)(pe:Nat->Addr)(l:qI w pe)(m:¬ x.k<=(n:Int)) :
  Calls prog 107 #[(a,n,c),.agg (x,f,g)] w λe w'=>e=.panicked [{ v:=.iface 96 (.agg #[.iface 391 (.pointer (some (pe 3)))]),recovered:=false }]/\Below w w w':=by
 have d:=Jb w (.cells (x,f,g) 47);have b:=Kv d;have s:(w.alloc _).cell? _=some (.bool true):=tR b (by rw[← j];exact(h k i).2.1) h.lt
 have t:(w.alloc (.cells (x,f,g) 47)).cell? (w.heap.size,0)=some (k:Int):=by rw[← o];exact bC d 0
 have q:=n0 k;have r:(k:Int)<10:=oM;have u:(w.alloc _).cell? _=some (.int _ _):=bC d 2;have p:=(qI.j0 l b).c3;have ef:=Jc m;clear o;go_enter func107,ntmps107;go_upto_region 1 with fail;generalize w.alloc _=W at d b s t u p ⊢;clear h j m l;go_wp2_with (go_at_call 193;refine(AK _ _ _).mono ?_;rintro e w1 ⟨rfl,rfl⟩);exact⟨rfl,rfl,b⟩
section
def IS (g base N R k i c h:Nat)(f a d:Option Addr)(v:Wk)(x:zY)(L C E:Nat->Value)(w:World)(e:Ending)(w':World):Prop :=
 ∃ code y A B D,e=.returned (int i64 code)/\qE (x.G k) v (x.F k) code y/\zz w' base (.slice f N i) (.slice a N c) (.slice d R h) N N R { x with F:=Ew x.F k y } L C A B D E /\
  w'.heap[g]?=some (.cells #[(f,N,i),(a,N,c),(d,R,h)] 38 (0,0))/\zl w w' (λb=>(Value.slice a N c).ownBlock=some b)
section
variable {w z : World} {g gl base N R k csa cld cbk n : Nat} {asa abk : Option Addr} {v : Wk} {x : zY} {L C A B D E : Nat -> Value} {u : Value}
theorem pg {T:Nat->ql}(l:zz w base (asa,N,csa) (some (gl,0),N,cld) (abk,R,cbk) N N R x L C A B D E)(o:w.heap[g]?=some (.cells #[(asa,N,csa),(some (gl,0),N,cld),(abk,R,cbk)] 38 (0,0)))(h:base<=w.heap.size)(f:Below w w z)(d:z.ownsRow w 220 4 u n (zH T n))(q:qE (x.G k) v (x.F k) 0 { x.F k with r:=n,K:=T }) :
  IS g base N R k csa cld cbk asa (some (gl,0)) abk v x L C E w (.returned ()) (z.setCell (gl,k*3) u):=by
 obtain⟨cs,c⟩:=zC l.F.row gl rfl;have j:g≠gl:=λe=>by subst e;rw[o] at c;simp at c
 have m:=(zl.refl z (λb=>(Value.slice (some ⟨gl,0,none⟩) N cld).ownBlock=some b)).set (a:=⟨gl,k*3+0,none⟩) rfl u
 exact⟨0,_,_,_,_,rfl,q,(l.j0 f).k5 (λi p b e=>((l.F.K i p).lt b e).2) d h,m.blk (za o f) (λe=>j (by simpa [Value.ownBlock] using e.symm)),(zl.of_below f).trans m⟩
theorem my {T:Nat->zU}(l:zz w base (asa,N,csa) (some (gl,0),N,cld) (abk,R,cbk) N N R x L C A B D E)(o:w.heap[g]?=some (.cells #[(asa,N,csa),(some (gl,0),N,cld),(abk,R,cbk)] 38 (0,0)))(h:base<=w.heap.size)(f:Below w w z)(d:z.ownsRow w 228 4 u n (zF T n))(q:qE (x.G k) v (x.F k) 0 { x.F k with m:=n,I:=T }) :
  IS g base N R k csa cld cbk asa (some (gl,0)) abk v x L C E w (.returned ()) (z.setCell (gl,k*3+1) u):=by
 obtain⟨cs,c⟩:=zC l.F.row gl rfl;have j:g≠gl:=λe=>by subst e;rw[o] at c;simp at c
 have m:=(zl.refl z (λb=>(Value.slice (some ⟨gl,0,none⟩) N cld).ownBlock=some b)).set (a:=⟨gl,k*3+1,none⟩) rfl u
 exact⟨0,_,_,_,_,rfl,q,(l.j0 f).k6 (λi p b e=>((l.F.I i p).lt b e).2) d h,m.blk (za o f) (λe=>j (by simpa [Value.ownBlock] using e.symm)),(zl.of_below f).trans m⟩
theorem ph {T:Nat->qO}(l:zz w base (asa,N,csa) (some (gl,0),N,cld) (abk,R,cbk) N N R x L C A B D E)(o:w.heap[g]?=some (.cells #[(asa,N,csa),(some (gl,0),N,cld),(abk,R,cbk)] 38 (0,0)))(h:base<=w.heap.size)(f:Below w w z)(d:z.ownsRow w 234 2 u n (zL T n))(q:qE (x.G k) v (x.F k) 0 { x.F k with t:=n,L:=T }) :
  IS g base N R k csa cld cbk asa (some (gl,0)) abk v x L C E w (.returned ()) (z.setCell (gl,k*3+2) u):=by
 obtain⟨cs,c⟩:=zC l.F.row gl rfl;have j:g≠gl:=λe=>by subst e;rw[o] at c;simp at c
 have m:=(zl.refl z (λb=>(Value.slice (some ⟨gl,0,none⟩) N cld).ownBlock=some b)).set (a:=⟨gl,k*3+2,none⟩) rfl u
 exact⟨0,_,_,_,_,rfl,q,(l.j0 f).k7 (λi p b e=>((l.F.L i p).lt b e).2) d h,m.blk (za o f) (λe=>j (by simpa [Value.ownBlock] using e.symm)),(zl.of_below f).trans m⟩
theorem iv {b:Option Addr}{a:Int}(d:zz w base (.slice asa N csa) (.slice b N cld) (.slice abk R cbk) N N R x L C A B D E)(e:w.heap[g]?=some (.cells #[.slice asa N csa,.slice b N cld,.slice abk R cbk] 38 (0,0)))(c:Below w w z)(f:qE (x.G k) v (x.F k) a (x.F k)) :
  IS g base N R k csa cld cbk asa b abk v x L C E w (.returned a) z :=
 ⟨a,_,_,_,_,rfl,f,by rw[aj];exact d.j0 c,za e c,zl.of_below c⟩
end
end
def Qx (r k:Nat):Nat:=if k<=r then k else k - 1
theorem My (bo:Option Addr)(n c r:Nat)(S:Nat->ql)(x:Int)(w:World)(hn:n<=60)(hr:r<n)(H:Zm S r=x)(F:∀ j,j<n->j≠r->Zm S j≠x)(I:qx w bo n S) :
  Calls prog 165 #[(bo,n,c),x] w λe w'=>(∃ v,e=.returned v/\w'.ownsRow w 220 4 v (n - 1) (zH (ZN S r) (n - 1)))/\Below w w w':=by
 obtain⟨R,T,A,B,C⟩:=info_parts Tryz.infoStay;have L:=hI I;have E:=hI H;have K:=hI F;clear I H F;go_enter func165,ntmps165;go_wp2;go_loopw [5,7,10] (λv _ i wr=>∃ k,k<=n/\i=int i64 k/\wr.ownsRow w 220 4 v (Qx r k) (zH (ZN S r) (Qx r k))/\Below w w wr) (λ_ _ i _=>n - (intOf i).toNat)
 case atStart=>exact⟨0,Jq _,rfl,⟨rfl,.inl ⟨rfl,rfl⟩⟩,bZ⟩
 case round =>
  obtain⟨k,hk,rfl,a,d⟩:=hrel
  by_cases hlt:k<n
  ·obtain⟨b,off,rfl,s,h1,h2,h3⟩:=L k hlt
   have O:=Ja w _ s;obtain⟨c0,c1,c2,c3⟩:=OP d s h1 h2 h3 O;clear s h1 h2 h3
   by_cases he:k=r
   ·have M:((S k).e == x)=true:=by rw[he];simpa [Zm] using E.out
    have N:((S k).e != x)=false:=by rw[he];simpa [Zm] using E.out
    have l:Hid (Qx r (k+1)=Qx r k):=by
     have m:Qx r _=k+1 - 1:=Je oM;have f:Qx r k=k:=Jf oM
     show _=_
     omega
    clear he;go_wp2;go_roundw
    case rel=>exact⟨k+1,by omega,by go_num,by rw[l.out];exact zm (zd bZ _) a,zd d _⟩
    case measure=>simp[intOf];omega
   ·have g:=K k hlt he
    have M:((S k).e == x)=false:=by simpa [Zm] using g
    have N:((S k).e != x)=true:=by simpa [Zm] using g
    have l:Hid (Qx r (k+1)=Qx r k+1/\ZN S r (Qx r k)=S k/\Qx r k<=60):=by
     by_cases c:k<=r
     ·have m:Qx r _=k+1:=Jf oM
      have f:Qx r k=k:=Jf c;have o:ZN S r k=S k:=Jf oM;rw[m,f,o];exact⟨rfl,rfl,by omega⟩
     ·have m:Qx r _=k+1 - 1:=Je oM
      have f:Qx r k=_:=Je c;have o:ZN S r _=S (k - 1+1):=Je oM;rw[m,f,o];exact⟨by omega,by rw[show k - 1+1=k by omega],by omega⟩
    clear he g;have Q:=d.size;have t:=l.2.2;generalize hq:Qx r k=q at a t;have D:=hI hq;clear hq;have J:Hid (∀ p,(some (wr.heap.size+1,0):Option Addr)=some p->∀ j u,[Value.int .i64 (S k).e,int i64 (S k).ln,int i64 (S k).f,int i64 (S k).j][j]?=some u->((wr.alloc (.cells #[(S k).e,(S k).ln,(S k).f,(S k).j] 220)).alloc (.cells #[(S k).e,(S k).ln,(S k).f,(S k).j] 220)).cell? (p.add j)=some u):=by
     intro p e
     cases e
     exact Jo (by simpa using Jb (wr.alloc _) _)
    go_wp2_with (first|(at_builtin;refine zu _ rfl _ _ 141 rfl _ 220 R _ 4 32 underlying141 T A B C rfl dC _ q _ (by rfl) ((a.alloc _).alloc _) _ 1 1 _ rfl (λh=>(by cases h)) rfl J (by intro u G;simp at G;rcases G with rfl|rfl|rfl|rfl <;> rfl) (by unfold maxLen;omega) oM (by simp;omega) ?_;intro v' w3 z y))
    go_roundw
    case rel =>
     refine⟨k+1,by omega,by go_num,?_,(zd (zd d _) _).grown y (by simp;omega) (λj P=>(a.lt j P).1)⟩
     obtain⟨m,f,_⟩:=l;rw[m,D.out,AN];rw[D.out] at f;rw[f];exact z
    case measure=>simp[intOf];omega
  ·obtain rfl:k=n:=by omega
   have l:Hid (Qx r k=_):=Je oM;rw[l.out] at a;go_wp2;go_ret;exact⟨⟨_,rfl,a⟩,d⟩
theorem Gm (l:Option Addr)(n c:Nat)(S:Nat->qO)(x:Int)(w:World)(hn:n<=1048576)(r:qC w l n S) :
  Calls prog 154 #[(l,n,c),x] w λe w'=>qH (Qh (ZZ S) n x) e/\Below w w w':=by
 go_enter func154,ntmps154;go_wp2;go_loopw [6,9] (λ_ i wr=>∃ k,k<=n/\i=int i64 k/\(∀ j,j<k->ZZ S j≠x)/\Below w w wr) (λ_ i _=>n - (intOf i).toNat)
 case atStart=>exact⟨0,Jq _,rfl,λj q=>by omega,bZ⟩
 case round =>
  obtain⟨k,hk,rfl,d,a⟩:=hrel;have h:=hI d;clear d
  by_cases hlt2:k<n
  ·obtain⟨b,off,rfl,g,h1⟩:=r k hlt2
   have m:=Ja w _ g;have c0:=tR a g m;have c1:=tR a h1 m;clear g h1
   by_cases he:ZZ S k=x
   ·have p:((S k).e == x)=true:=by unfold ZZ at he;simpa using he
    have f:Hid (Qh _ n x):=⟨k,hlt2,he⟩;clear he;go_wp2;go_ret;exact⟨zN f,zd a _⟩
   ·have p:((S k).e == x)=false:=by unfold ZZ at he;simpa using he
    have o:Hid (_≠x):=he;clear he;go_wp2;go_roundw
    case rel=>exact⟨k+1,by omega,by go_num,λj q=>by
     by_cases e:j=k
     ·subst e;exact o
     ·exact h j oM,zd a _⟩
    case measure=>simp[intOf];omega
  ·obtain rfl:k=n:=by omega
   have f:=hI (DC h);go_wp2;go_ret;exact⟨zh f,a⟩
theorem DK (bo:Option Addr)(n c:Nat)(S:Nat->qO)(w:World)(hn:n<=60)(h:∀ j,j<n->In (S j).z 1 20)(m:qC w bo n S) :
  Calls prog 155 #[(bo,n,c)] w λe w'=>e=.returned (Z0 S n)/\Below w w w':=by
 have f:=hI h;clear h;go_enter func155,ntmps155;go_wp2;go_loopw [3,5,8] (λv _ i wr=>∃ k,k<=n/\i=int i64 k/\v=int i64 (Z0 S k)/\Below w w wr) (λ_ _ i _=>n - (intOf i).toNat)
 case atStart=>exact⟨0,Jq _,rfl,rfl,bZ⟩
 case round =>
  obtain⟨k,hk,rfl,rfl,a⟩:=hrel
  by_cases hlt:k<n
  ·obtain⟨b,off,rfl,d,h1⟩:=m k hlt
   have g:=Ja w _ d;have c0:=tR a d g;have c1:=tR a h1 g;clear d h1;have l:IntKind.i64.wrap (Z0 S k+(S k).z)=Z0 S (k+1):=by
    have h1:=Fe S k (λj hj=>f j oM)
    have h2:=f k hlt;unfold In at h2;have h3:Z0 S (k+1)=_+_:=rfl;rw[h3,Jk];omega
   go_wp2;go_roundw
   case rel=>exact⟨_,by omega,by go_num,rfl,zd a _⟩
   case measure=>simp[intOf];omega
  ·obtain rfl:k=n:=by omega
   go_wp2;go_ret;exact⟨rfl,a⟩
theorem Mz (most:Int)(bo:Option Addr)(n c:Nat)(S:Nat->qO)(w:World)(hn:n<=2097152)(hc:n<=c)(J:qC w bo n S) :
  Calls prog 84 #[most,(bo,n,c)] w λe w'=>qH (An most n S) e/\Below w w w':=by
 have s:=hI J;clear J
 by_cases g0:In most 0 500
 ·have H:=Jd g0
  have x:=hI g0;clear g0
  by_cases h60:n<=60
  ·have G:decide (60<n)=false:=by simp;omega
   go_enter func84,ntmps84;go_wp2_with (first|(go_at_call 148;refine bM (zt _ _ _ _) λw' a=>?_;have a:=a.symm;subst a))
   go_loopw [5,6,17] (λ_ _ i wr=>∃ k,k<=n/\i=int i64 k/\(∀ j,j<k->In (S j).e 1 9999/\¬ Qh (ZZ S) j (S j).e/\In (S j).z 1 20)/\Below w w wr) (λ_ _ i _=>n - (intOf i).toNat)
   case atStart=>exact⟨0,Jq _,rfl,λj F=>by omega,bZ⟩
   case round =>
    obtain⟨i,r,rfl,o,d⟩:=hrel;have A:=hI o;clear o H G
    by_cases hlt:i<n
    ·obtain⟨b,off,rfl,D,h1⟩:=s i hlt
     have I:=Ja w _ D;have L:=tR d D I;have c1:=tR d h1 I;have f:=Jb wr (.cells #[(S i).e,(S i).z] 234);have l:=zd d (.cells #[(S i).e,(S i).z] 234);clear D h1;go_upto_region 6 with fail;generalize hW:wr.alloc _=W at f l ⊢;clear hW;have N:=zD f;have z0:=gC f 0;have z1:=gC f 1;have i1:=n0 i;have i2:(i:Int)<=(c:Int):=oM;clear L c1 f d
     by_cases g1:In (S i).e 1 9999
     ·have t:=Jd g1
      have y:=hI g1;clear g1
      by_cases g2:Qh (ZZ S) i (S i).e
      ·have q:=hI g2
       clear g2;refine ze kR kR ?_
       repeat(go_big_quiet_step ((rename_i g;first|(go_at_call 89;refine gE (v:=.bool true) (Qt _ _) (by rw[t]))|(go_at_call 154;refine zr (v:=.bool true) ((Gm _ i c S _ _ oM ((s.j9 oM).j0 (zb l g.o))).mono ?_);rintro e K ⟨⟨bb,rfl,r⟩,m⟩;obtain rfl:=r.2 q;exact⟨rfl,m⟩))))
       refine Jl ?_;rintro _ ⟨g,rfl⟩;go_wp2;go_ret;exact⟨zh (λh=>(h.2.2.1 i hlt).2.1 q),zb l g.o⟩
      ·have q:=hI g2
       clear g2
       by_cases g3:In (S i).z 1 20
       ·have C:=Jd g3
        have z:=hI g3;clear g3;refine ze kR kR ?_
        repeat(go_big_quiet_step ((rename_i g;first|(go_at_call 89;refine gE (v:=.bool true) (Qt _ _) (by rw[t]))|(go_at_call 154;refine zr (v:=.bool false) ((Gm _ i c S _ _ oM ((s.j9 oM).j0 (zb l g.o))).mono ?_);rintro e K ⟨⟨bb,rfl,r⟩,m⟩;obtain rfl:=Bool.eq_false_iff.2 (λe=>q (r.1 e));exact⟨rfl,m⟩)|(go_at_call 148;refine gE (v:=.bool true) (zt _ _ _ _) (by rw[C])))))
        refine Jl ?_;rintro _ ⟨g,rfl⟩;go_wp2;have B:Hid (∀ j,j<i+1->In (S j).e 1 9999/\¬ Qh _ j (S j).e/\In (S j).z 1 20):=λj F=>by
         by_cases e:j=i
         ·subst e;exact⟨y,q,z⟩
         ·exact A j oM
        go_roundw
        case rel=>exact⟨_,by omega,by go_num,B,zb l g.o⟩
        case measure=>simp[intOf];omega
       ·have C:=Jc g3
        have z:=hI g3;clear g3;refine ze kR kR ?_
        repeat(go_big_quiet_step ((rename_i g;first|(go_at_call 89;refine gE (v:=.bool true) (Qt _ _) (by rw[t]))|(go_at_call 154;refine zr (v:=.bool false) ((Gm _ i c S _ _ oM ((s.j9 oM).j0 (zb l g.o))).mono ?_);rintro e K ⟨⟨bb,rfl,r⟩,m⟩;obtain rfl:=Bool.eq_false_iff.2 (λe=>q (r.1 e));exact⟨rfl,m⟩)|(go_at_call 148;refine gE (v:=.bool false) (zt _ _ _ _) (by rw[C])))))
        refine Jl ?_;rintro _ ⟨g,rfl⟩;go_wp2;go_ret;exact⟨zh (λh=>z (h.2.2.1 i hlt).2.2),zb l g.o⟩
     ·have t:=Jc g1
      have y:=hI g1;clear g1;refine ze kR kR ?_
      repeat(go_big_quiet_step ((first|(go_at_call 89;refine gE (v:=.bool false) (Qt _ _) (by rw[t])))))
      refine Jl ?_;rintro _ ⟨g,rfl⟩;go_wp2;go_ret;exact⟨zh (λh=>y (h.2.2.1 i hlt).1),zb l g.o⟩
    ·obtain rfl:i=n:=by omega
     go_wp2_with fail;refine bM (DK bo i c S _ h60 (λj F=>(A j F).2.2) (s.j0 d)) λw2 E=>?_
     have u:=zb d E
     by_cases hle:Z0 S i<=most
     ·have M:=Jd hle
      have p:=hI hle;clear hle;go_wp2;go_ret;exact⟨zN ⟨x,h60,A,p⟩,u⟩
     ·have M:=Jc hle
      have p:=hI hle;clear hle;go_wp2;go_ret;exact⟨zh (λh=>by have:=p.out;have:=h.2.2.2;omega),u⟩
  ·have G:decide (60<n)=true:=by simp;omega
   go_enter func84,ntmps84;go_wp2_with (first|(go_at_call 148;refine bM (zt _ _ _ _) λw' a=>?_;have a:=a.symm;subst a))
   go_ret;exact⟨zh (λh=>h60 h.2.1),bZ⟩
 ·have H:=Jc g0
  have x:=hI g0;clear g0;go_enter func84,ntmps84;go_wp2_with (first|(go_at_call 148;refine bM (zt _ _ _ _) λw' a=>?_;have a:=a.symm;subst a))
  go_ret;exact⟨zh (λh=>x h.1),bZ⟩
end Go.Proofs.YtmdnjgihooflfaaGreatDoor
