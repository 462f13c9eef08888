import Derived.Test.YtmdnjgihooflfaaGreatDoorB00
namespace Go.Proofs.YtmdnjgihooflfaaGreatDoor
open Go.RowKit
open Go.Value (int)
open Go.IntKind (i64)
open _root_.Go.Proofs.Tryz
set_option maxHeartbeats 64000000
set_option maxRecDepth 1000000
variable{most x many len hei:Int}{n base t r i k j:Nat}{w:World}{v:Value}{F:Nat->Int}{P:Nat->Prop}{o:zY}{s:qe}
section
section
variable {P : Program} {ops : Array Oper} {Q : Exit -> Act -> World -> Prop} {md : Region.Mode} {S : World -> Prop} {z : Nat}
def Zf (P:Program)(c:Region.Mode)(b:Array Oper)(Q:Exit->Act->World->Prop)(S:World->Prop)(z:Nat):Nat->Array Bool->Act->World->Prop
 |0,listed,a,w=>Region.ready c b listed=[]/\Q .normal a w
 |fuel+1,listed,a,w =>
  (Region.ready c b listed=[]->Q .normal a w) /\
  ∀ i ∈ Region.ready c b listed,wpOp P b Q i (λd w'=>(i≠z->S w')/\Zf P c b Q S z fuel (listed.setIfInBounds i true) d w') a w
theorem KM:∀ (fuel:Nat)(b:Array Bool)(a:Act)(w:World),Zf P md ops Q S z fuel b a w->wpAny P md ops Q fuel b a w
 |0,_,_,_,h=>h
 |fuel+1,_,_,_,h=>⟨h.1,λi e=>wpOp_mono (λc w' d=>KM fuel _ c w' d.2) (h.2 i e)⟩
def Dw (b:Region.Mode)(a:Array Oper)(z:Nat):Bool :=
 (List.range a.size).all λj=>j == z || (List.range a.size).any λs=>decide (j<s) && ((a[s]?).map λo=>o.after.any λe=>Region.binds b e && e.on == j).getD false
def KN (c:Region.Mode)(b:Array Oper)(a:Array Bool):Bool :=
 (List.range b.size).all λs=>!a.getD s false || ((b[s]?).map λo=>o.after.all λe=>!Region.binds c e || a.getD e.on false).getD true
def Pt (c:Region.Mode)(b:Array Oper)(a:Array Bool):Prop :=
 ∀ s o,b[s]?=some o->a.getD s false=true->∀ e ∈ o.after,Region.binds c e=true->a.getD e.on false=true
theorem jw {a:Array Bool}(h:KN md ops a=true):Pt md ops a:=λs o c g e f d=>by
 unfold KN at h;rw[List.all_eq_true] at h;have b:=(Array.getElem?_eq_some_iff.1 c).1;have h1:=h s (List.mem_range.2 b);rw[g,c] at h1;simp only[Bool.not_true,Bool.false_or,Option.map_some,Option.getD_some,Array.all_eq_true_iff_forall_mem] at h1;have h2:=h1 e f;rw[d] at h2
 simpa using h2
theorem fm {a:Array Bool}{i:Nat}(h:Pt md ops a)(l:i ∈ Region.ready md ops a):Pt md ops (a.setIfInBounds i true):=λs o k j e g f=>by
 by_cases c:i=s
 ·subst c
  obtain⟨_,o',d,b⟩:=mem_ready.1 l;rw[k] at d
  cases d
  exact getD_set_true (b e g f)
 ·rw[getD_set_ne _ c] at j
  exact getD_set_true (h s o k j e g f)
theorem RT {a:Array Bool}(h:Dw md ops z=true)(hz:z+1=ops.size)(q:Pt md ops a)(hr:z ∈ Region.ready md ops a):∀ m j,j+m=z->j≠z->a.getD j false=true:=by
 intro m
 induction m using Nat.strongRecOn with
 |ind m ih =>
  intro j n l;unfold Dw at h;rw[List.all_eq_true] at h;have h1:=h j (List.mem_range.2 oM);rw[Bool.or_eq_true] at h1
  rcases h1 with h1|h1
  ·exact absurd (by simpa using h1) l
  ·rw[List.any_eq_true] at h1
   obtain⟨s,g,h2⟩:=h1;rw[Bool.and_eq_true] at h2;have p:=by simpa using h2.1
   have r:=List.mem_range.1 g
   cases ho:ops[s]? with
   |none=>rw[ho] at h2;simp at h2
   |some o =>
    rw[ho] at h2;simp only[Option.map_some,Option.getD_some,Array.any_eq_true',Bool.and_eq_true] at h2;obtain⟨_,e,k,i,b⟩:=h2;have b:=by simpa using b
    by_cases c:s=z
    ·subst c
     obtain⟨_,o',f,d⟩:=mem_ready.1 hr;rw[ho] at f
     cases f
     rw[← b];exact d e k i
    ·have:=ih (z - s) oM s oM c
     rw[← b];exact q s o ho this e k i
theorem NJ {i:Nat}{s:Oper}{v:Value}(C:ops[i]?=some s)(F:i≠z)(T:Dw md ops z=true)(U:z+1=ops.size)(m:∀ (j:Nat)(o:Oper) cs b,ops[j]?=some o->o.op≠.select cs b)
  (L:∀ c a w,Q (.panic c) (a.put s.dst v) w->Q (.panic c) a w) :
  ∀ (fuel:Nat) (d:Array Bool) (a:Act) (w:World),Pt md ops d ->
   (∀ j q,ops[j]?=some q->j≠i->d.getD j true=false->(∀ e ∈ q.after,Region.binds md e=true->e.on≠i)->s.apart ops q=true) ->
   i ∈ Region.ready md ops d->YieldsIf P ops S s v a->S w ->
   Zf P md ops Q S z fuel (d.setIfInBounds i true) (a.put s.dst v) w->Zf P md ops Q S z (fuel+1) d a w:=by
 intro fuel
 induction fuel with
 |zero =>
  intro d a w _ _ hr D u H;refine⟨λh=>(by rw[h] at hr;cases hr),λj r=>?_⟩
  by_cases hji:j=i
  ·subst hji;exact D.wpOp C u ⟨λ_=>u,H⟩
  ·have:=ready_mono r hji
   rw[H.1] at this
   cases this
 |succ fuel ih =>
  intro d a w A f hr D u H;refine⟨λh=>(by rw[h] at hr;cases hr),λj r=>?_⟩
  by_cases hji:j=i
  ·subst hji;exact D.wpOp C u ⟨λ_=>u,H⟩
  ·have G:j≠z:=λe=>by
    subst e;have R:=(Array.getElem?_eq_some_iff.1 C).1;have h1:=RT T U A r (j - i) i oM F;have t:=(mem_ready.1 hr).1
    rcases Nat.lt_or_ge i d.size with n|n
    ·simp[n] at t h1;rw[t] at h1;cases h1
    ·simp[Array.getElem?_eq_none n] at h1
   have h1:=H.2 j (ready_mono r hji);obtain⟨l,q,p,x⟩:=mem_ready.1 r;have y:∀ e ∈ q.after,_->e.on≠i:=λe N M E=>by
    have h1:=x e N M;have t:=(mem_ready.1 hr).1;rw[E] at h1
    rcases Nat.lt_or_ge i d.size with n|n
    ·simp[n] at t h1;rw[t] at h1;cases h1
    ·simp[Array.getElem?_eq_none n] at h1
   have h2:=wpOp_putIf p (f j q p hji l y) (λcs b=>m i s cs b C) (λcs b=>m j q cs b p) L D h1
   have g:∀ k ok,_->_->(d.setIfInBounds j _).getD k _=false ->
     _:=λk ok O I B J=>by
    refine f k ok O I ?_ J
    by_cases hjk:j=k
    ·subst hjk;exact l
    ·rw[getD_set_ne _ hjk] at B;exact B
   refine wpOp_mono (λK w' h3=>⟨h3.2.1,ih _ K w' (fm A r) g (ready_mono hr (Ne.symm hji)) h3.1 (h3.2.1 G) ?_⟩) h2
   rw[Array.setIfInBounds_comm _ _ hji];exact h3.2.2
theorem Pu {i:Nat}{e:Oper}{v:Value}{fuel:Nat}{b:Array Bool}{a:Act}{w:World}(f:ops[i]?=some e)
  (l:Region.noSelect ops=true) (k:Region.free md ops b i=true) (hr:(Region.ready md ops b).contains i=true) (d:(!(i == z) && Dw md ops z && KN md ops b && (z+1 == ops.size))=true)
  (g:∀ c a w,Q (.panic c) (a.put e.dst v) w->Q (.panic c) a w) (m:YieldsIf P ops S e v a) (j:S w)
  (h:Zf P md ops Q S z fuel (b.setIfInBounds i true) (a.put e.dst v) w):Zf P md ops Q S z (fuel+1) b a w:=by
 simp only[Bool.and_eq_true,Bool.not_eq_true',beq_eq_false_iff_ne,ne_eq,beq_iff_eq] at d;exact NJ f d.1.1.1 d.1.1.2 d.2 (Region.noSelect_spec l) g _ _ a w (jw d.1.2) (Region.free_spec f k) (by simpa using hr) m j h
def zj (P:Program)(e:Region.Mode)(c:Array Oper)(Q:Exit->Act->World->Prop)(S:World->Prop)(z fuel:Nat)(b:Array Bool)(a:Act)(w:World)(f:List Nat):Prop :=
 ∀ i ∈ f,wpOp P c Q i (λd w'=>(i≠z->S w')/\Zf P e c Q S z fuel (b.setIfInBounds i true) d w') a w
theorem zj.nil {fuel:Nat}{b:Array Bool}{a:Act}{w:World}:zj P md ops Q S z fuel b a w []:=λ_ h=>by cases h
theorem zj.cons {fuel:Nat}{b:Array Bool}{a:Act}{w:World}{i:Nat}{o:Oper}{f:List Nat}(l:ops[i]?=some o)
  (h:∀ c:Act->World->Prop,Shut (∀ a w,S w->(S w->Zf P md ops Q S z fuel (b.setIfInBounds i true) a w)->c a w)->if Region.wanted o (yielded ops a.tmps)=true then Oper.wp P o a w c Q else c (a.put o.dst undef) w)
  (m:zj P md ops Q S z fuel b a w f):zj P md ops Q S z fuel b a w (i :: f):=λj d=>by
 rcases List.mem_cons.1 d with rfl|d
 ·exact wpOp_step l (λc g=>h c (λa w e k=>g a w ⟨λ_=>e,k e⟩))
 ·exact m j d
theorem zj.last {fuel:Nat}{b:Array Bool}{a:Act}{w:World}{o:Oper}(i:ops[z]?=some o)
  (h:∀ c:Act->World->Prop,Shut (∀ a w,Zf P md ops Q S z fuel (b.setIfInBounds z true) a w->c a w)->if Region.wanted o (yielded ops a.tmps)=true then Oper.wp P o a w c Q else c (a.put o.dst undef) w):zj P md ops Q S z fuel b a w [z]:=λj d=>by
 rcases List.mem_cons.1 d with rfl|d
 ·exact wpOp_step i (λc f=>h c (λa w g=>f a w ⟨λe=>absurd rfl e,g⟩))
 ·cases d
theorem zB {d:List Nat}{fuel:Nat}{b:Array Bool}{a:Act}{w:World}(hr:Region.ready md ops b=d)(c:d≠[])
  (h:zj P md ops Q S z fuel b a w d):Zf P md ops Q S z (fuel+1) b a w :=
 ⟨λe=>absurd (hr ▸ e) c,hr ▸ h⟩
theorem qh {b:Array Bool}{a:Act}{w:World}(hr:Region.ready md ops b=[])(h:Q .normal a w):∀ fuel,Zf P md ops Q S z fuel b a w
 |0=>⟨hr,h⟩
 |_+1=>⟨λ_=>h,λi c=>by rw[hr] at c;cases c⟩
theorem qt {id:Nat}{a:Act}{w:World}(z n:Nat)(S:World->Prop)(d:ops.size=n)(c:P.follows .mixedOrders=true)(b:S w.drew)
  (h:S w.drew->Zf P .any ops Q S z n (List.replicate n false).toArray a w.drew):(Code.region id ops true).wp P Q a w:=by
 subst d;exact wp_region_any c (KM _ _ _ _ (by simpa using h b))
end
section
variable {P : Program} {l : List Oper} {Q : Exit -> Act -> World -> Prop} {md : Region.Mode} {S : World -> Prop} {z : Nat}
theorem Em {i:Nat}{e:Oper}{v:Value}{fuel:Nat}{b:List Bool}{a:Act}{w:World}(j:l[i]?=some e)
  (d:(Region.noSelect l.toArray && Region.free md l.toArray b.toArray i && (Region.ready md l.toArray b.toArray).contains i && (!(i == z) && Dw md l.toArray z && KN md l.toArray b.toArray && (z+1 == l.toArray.size)))=true)
  (f:∀ c a w,Q (.panic c) (a.put e.dst v) w->Q (.panic c) a w) (k:YieldsIf P l.toArray S e v a) (g:S w)
  (h:Zf P md l.toArray Q S z fuel (b.set i true).toArray (a.put e.dst v) w):Zf P md l.toArray Q S z (fuel+1) b.toArray a w:=by
 rw[Bool.and_eq_true,Bool.and_eq_true,Bool.and_eq_true] at d;exact Pu (by simpa using j) d.1.1.1 d.1.1.2 d.1.2 d.2 f k g (by simpa using h)
theorem zj.consL {fuel:Nat}{b:List Bool}{a:Act}{w:World}{i:Nat}{o:Oper}{e:List Nat}(j:l[i]?=some o)
  (h:∀ c:Act->World->Prop,Shut (∀ a w,S w->(S w->Zf P md l.toArray Q S z fuel (b.set i true).toArray a w)->c a w)->if Region.wanted o (yielded l.toArray a.tmps)=true then Oper.wp P o a w c Q else c (a.put o.dst undef) w)
  (k:zj P md l.toArray Q S z fuel b.toArray a w e):zj P md l.toArray Q S z fuel b.toArray a w (i :: e) :=
 zj.cons (by simpa using j) (λc f=>h c (λa w d g=>f a w d (λd=>by simpa using g d))) k
theorem zj.lastL {fuel:Nat}{b:List Bool}{a:Act}{w:World}{o:Oper}(f:l[z]?=some o)
  (h:∀ c:Act->World->Prop,Shut (∀ a w,Zf P md l.toArray Q S z fuel (b.set z true).toArray a w->c a w)->if Region.wanted o (yielded l.toArray a.tmps)=true then Oper.wp P o a w c Q else c (a.put o.dst undef) w):zj P md l.toArray Q S z fuel b.toArray a w [z] :=
 zj.last (by simpa using f) (λc d=>h c (λa w e=>d a w (by simpa using e)))
end
theorem tkL {P:Program}{l:List Oper}{Q:Exit->Act->World->Prop}{d:Region.Mode}{S:World->Prop}{z:Nat}(i:Nat){e:Oper}{v:Value}{fuel:Nat}{b:List Bool}{a:Act}{w:World}(j:l[i]?=some e)
  (k:(Region.noSelect l.toArray && Region.free d l.toArray b.toArray i && (Region.ready d l.toArray b.toArray).contains i && (!(i == z) && Dw d l.toArray z && KN d l.toArray b.toArray && (z+1 == l.toArray.size)))=true)
  (f:∀ c a w,Q (.panic c) (a.put e.dst v) w->Q (.panic c) a w) (m:Region.wanted e (yielded l.toArray a.tmps)=true) (g:S w) (n:∀ w,S w->(execOp a.eval e).run P w=.ok (.value v) w)
  (h:Zf P d l.toArray Q S z fuel (b.set i true).toArray (a.put e.dst v) w):Zf P d l.toArray Q S z (fuel+1) b.toArray a w:=Em j k f (Or.inl ⟨m,n⟩) g h
end
section
def ZZ (S:Nat->qO)(j:Nat):Int:=(S j).e
def Z0 (S:Nat->qO):Nat->Int
 |0=>0
 |i+1=>Z0 S i+(S i).z
def An (most:Int)(n:Nat)(S:Nat->qO):Prop :=
 In most 0 500/\n<=60/\(∀ i,i<n->In (S i).e 1 9999/\¬ Qh (ZZ S) i (S i).e/\In (S i).z 1 20)/\Z0 S n<=most
theorem Fe (S:Nat->qO)(i:Nat)(h:∀ j,j<i->In (S j).z 1 20):0<=Z0 S i/\Z0 S i<=20*i:=by
 induction i with
 |zero=>exact⟨Int.le_refl _,by unfold Z0;omega⟩
 |succ i ih =>
  have:=ih (λj hj=>h j oM)
  have a:=h i oM;unfold In at a;unfold Z0
  omega
def Z2 (S:Nat->qO)(n:Nat)(x many:Int):Nat->qO:=Ak S n (λ_=>⟨x,many⟩)
def CL (most:Int)(n:Nat)(S:Nat->qO)(x many:Int):Prop:=An most n S/\An most (n+1) (Z2 S n x many)
open Classical in
noncomputable def Fw (most:Int)(n:Nat)(S:Nat->qO)(x many:Int):Bool:=decide (CL most n S x many)
noncomputable def DY (most:Int)(n:Nat)(S:Nat->qO)(x many:Int):Nat:=if Fw most n S x many then n+1 else 0
theorem Ff {S:Nat->qO}(h:CL most n S x many):Fw most n S x many=true:=by unfold Fw;simpa using h
theorem Gf {S:Nat->qO}(h:¬ CL most n S x many):Fw most n S x many=false:=by unfold Fw;simpa using h
def GD (w':World)(base t:Nat)(most:Int)(n:Nat)(S:Nat->qO)(x many:Int)(e:Ending):Prop :=
 ∃ v,e=.returned (.tuple #[v,.bool (Fw most n S x many)])/\w'.ownsRow base t 2 v (DY most n S x many) (zL (Z2 S n x many) (DY most n S x many))
theorem Py {S:Nat->qO}(h:¬ CL most n S x many):GD w base t most n S x many (.returned (.tuple #[True,.bool false])):=by
 refine⟨_,by rw[Gf h],?_⟩
 unfold DY;rw[Gf h];exact⟨rfl,.inl ⟨rfl,rfl⟩⟩
theorem NR {S:Nat->qO}(h:CL most n S x many)
  (a:w.ownsRow base t 2 v (n+1) (zL (Z2 S n x many) (n+1))):GD w base t most n S x many (.returned (.tuple #[v,.bool true])):=by
 refine⟨v,by rw[Ff h],?_⟩
 unfold DY;rw[Ff h];exact a
end
def ZG {α:Type}(S:Nat->α)(r:Nat)(i:Nat):α:=if i<r then S i else S (i+1)
theorem AC {α:Type}{S:Nat->α}(h:i<r):ZG S r i=S i:=Jf h
theorem Bu {α:Type}{S:Nat->α}(h:r<=i):ZG S r i=S (i+1):=Je oM
theorem NS (h:Qh (ZG F r) i x):Qh F (i+1) x:=by
 obtain⟨j,hj,e⟩:=h
 by_cases c:j<r
 ·exact⟨j,by omega,by rw[← e,AC c]⟩
 ·exact⟨j+1,by omega,by rw[← e,Bu oM]⟩
theorem KU (hi:i<=r)(h:Qh (ZG F r) i x):Qh F i x:=by
 obtain⟨j,a,e⟩:=h;exact⟨j,a,by rw[← e,AC oM]⟩
theorem Hg (hr:r<=n)(b:F r≠x):Qh (ZG F r) n x↔Qh F (n+1) x:=by
 refine⟨NS,?_⟩;rintro⟨j,hj,e⟩
 by_cases c:j<r
 ·exact⟨j,by omega,by rw[← e,AC c]⟩
 ·have a:j≠r:=λq=>b (by rw[← q];exact e)
  exact⟨j - 1,by omega,by rw[← e,Bu oM,show j - 1+1=j by omega]⟩
theorem KV (S:Nat->zU)(r:Nat):Zl (ZG S r)=ZG (Zl S) r:=by
 funext i
 unfold Zl ZG
 split <;> rfl
theorem KW (S:Nat->qO)(r:Nat):ZZ (ZG S r)=ZG (ZZ S) r:=by
 funext i
 unfold ZZ ZG
 split <;> rfl
theorem Pz {S S':Nat->zU}(k i:Nat)(h:∀ j,j<i->S' j=S j):QA S' k i=QA S k i:=by
 induction i with
 |zero=>rfl
 |succ i ih =>
  unfold QA;rw[ih (λj hj=>h j oM),h i oM]
theorem TJ (S:Nat->zU)(r k i:Nat)(h:r<=i):QA (ZG S r) k i+(if (S r).H=(k:Int) then (S r).z else 0)=QA S k (i+1):=by
 induction i with
 |zero =>
  have e:r=0:=oM;subst e
  rfl
 |succ i ih =>
  by_cases c:r=i+1
  ·subst c
   rw[Pz k _ (λj b=>AC b)]
   rfl
  ·have a:=ih oM
   rw[QA,Bu (by omega:_)]
   rw[show QA S k _=_+_ from rfl,← a]
   omega
theorem TK {p:zv}{S:Nat->zU}(h:QF p (n+1) S)(hr:r<=n):QF p n (ZG S r):=by
 obtain⟨s,hn,m,q⟩:=h;refine⟨s,by omega,λi hi=>?_,λk t=>?_⟩
 ·by_cases c:i<r
  ·obtain⟨⟨h1,h2,h3,f,g⟩,e⟩:=m i oM
   refine⟨?_,λj o=>?_⟩
   ·unfold fu
    rw[AC c,KV];exact⟨h1,λl=>h2 (KU oM l),h3,f,g⟩
   ·unfold kd
    rw[AC c,AC oM];exact e j o
  ·obtain⟨⟨h1,h2,h3,f,g⟩,e⟩:=m (i+1) oM
   refine⟨?_,λj o=>?_⟩
   ·unfold fu
    rw[Bu oM,KV];exact⟨h1,λl=>h2 (NS l),h3,f,g⟩
   ·unfold kd
    rw[Bu (by omega:r<=i)]
    by_cases d:j<r
    ·rw[AC d];exact e j oM
    ·rw[Bu oM];exact e _ oM
 ·have a:=q k t
  have b:=TJ S r k n hr;have c:=(m r oM).1.2.2.2.1;unfold In at c;unfold qZ at a ⊢
  split at b <;> omega
theorem Gg {S S':Nat->qO}(i:Nat)(h:∀ j,j<i->S' j=S j):Z0 S' i=Z0 S i:=by
 induction i with
 |zero=>rfl
 |succ i ih =>
  unfold Z0;rw[ih (λj hj=>h j oM),h i oM]
theorem fv (S:Nat->qO)(r i:Nat)(h:r<=i):Z0 (ZG S r) i+(S r).z=Z0 S (i+1):=by
 induction i with
 |zero =>
  have e:r=0:=oM;subst e
  rfl
 |succ i ih =>
  by_cases c:r=i+1
  ·subst c
   rw[Gg _ (λj b=>AC b)]
   rfl
  ·have a:=ih oM
   rw[Z0,Bu (by omega:_)]
   rw[show Z0 S _=_+_ from rfl,← a]
   omega
theorem TL {S:Nat->qO}(h:An most (n+1) S)(hr:r<=n):An most n (ZG S r):=by
 obtain⟨e,hn,d,hf⟩:=h;refine⟨e,by omega,λi hi=>?_,?_⟩
 ·by_cases c:i<r
  ·obtain⟨h1,h2,h3⟩:=d i oM
   rw[AC c,KW];exact⟨h1,λa=>h2 (KU oM a),h3⟩
  ·obtain⟨h1,h2,h3⟩:=d (i+1) oM
   rw[Bu oM,KW];exact⟨h1,λa=>h2 (NS a),h3⟩
 ·have b:=fv S r n hr
  have c:=(d r oM).2.2;unfold In at c
  omega
section
variable{n k i j:Nat}{F:Nat->Int}{len hei:Int}
def Zm (S:Nat->ql)(j:Nat):Int:=(S j).e
def FK (S:Nat->ql)(k:Nat):Nat->Int
 |0=>0
 |i+1=>FK S k i+(if (S i).ln=(k:Int) then (S i).f else 0)
def left (p:zv)(S:Nat->ql)(i:Nat)(k:Nat):Int:=p.A k - FK S k i
theorem RX (p:zv)(S:Nat->ql)(k:Nat):left p S 0 k=p.A k:=by unfold left FK;omega
theorem GE (p:zv)(S:Nat->ql)(i k:Nat)(h:(S i).ln=(k:Int)):left p S (i+1) k=left p S i k - (S i).f:=by
 unfold left;rw[FK,Jf h];omega
theorem Kl (p:zv)(S:Nat->ql)(i k:Nat)(h:(S i).ln≠(k:Int)):left p S (i+1) k=left p S i k:=by
 unfold left;rw[FK,Je h];omega
theorem PA (S:Nat->ql)(k i:Nat)(h:∀ j,j<i->In (S j).f 1 2000):0<=FK S k i/\FK S k i<=2000*i:=by
 induction i with
 |zero=>exact⟨Int.le_refl _,by unfold FK;omega⟩
 |succ i ih =>
  have:=ih (λj hj=>h j oM)
  have a:=h i oM;unfold In at a;unfold FK
  split <;> omega
theorem TM (p:zv)(S:Nat->ql)(k i n:Nat)(a:i<=n)(h:∀ j,j<n->In (S j).f 1 2000):left p S n k<=left p S i k:=by
 induction n with
 |zero=>rw[show i=0 by omega];exact Int.le_refl _
 |succ n ih =>
  by_cases e:i=n+1
  ·rw[e];exact Int.le_refl _
  ·have:=ih oM (λj hj=>h j oM)
   have b:=h n oM;unfold In at b
   by_cases c:(S n).ln=(k:Int)
   ·rw[GE p S n k c];omega
   ·rw[Kl p S n k c];exact this
structure Kc (p:zv)(F:Nat->Int)(s:ql):Prop where
 e:In s.e 1 9999
 f:In s.f 1 2000
 j:In s.j 1 500
 ln:In s.ln 0 ((p.n:Int) - 1)
 high:s.j<=p.B s.ln.toNat
 room:s.f<=F s.ln.toNat
def Ir (p:zv):Prop:=Bk p 4 1 5000 100 500
def EM (p:zv)(n:Nat)(S:Nat->ql):Prop:=Ir p/\n<=60/\∀ i,i<n->¬ Qh (Zm S) i (S i).e/\Kc p (left p S i) (S i)
def od (p:zv)(S:Nat->ql)(i:Nat):Prop:=In (S i).e 1 9999/\In (S i).ln 0 ((p.n:Int) - 1)/\In (S i).f 1 2000/\In (S i).j 1 (p.B (S i).ln.toNat)/\¬ Qh (Zm S) i (S i).e
def Tt (p:zv)(n:Nat)(S:Nat->ql):Prop:=Ir p/\n<=60/\(∀ i,i<n->od p S i)/\∀ k,k<p.n->0<=left p S n k
theorem QQ (p:zv)(n:Nat)(S:Nat->ql):Tt p n S↔EM p n S:=by
 constructor
 ·rintro⟨f,q,h,u⟩
  refine⟨f,q,λi l=>?_⟩
  obtain⟨h1,h2,h3,m,s⟩:=h i l;have g:(S i).ln.toNat<p.n:=by unfold In at h2;omega
  have t:=(f.2 _ g).2;have d:(S i).ln=((S i).ln.toNat:Int):=by unfold In at h2;omega
  refine⟨s,h1,h3,⟨m.1,?_⟩,h2,m.2,?_⟩
  ·unfold In at t m;omega
  ·have a:=u _ g
   have b:=TM p S (S i).ln.toNat (i+1) n oM (λj v=>(h j v).2.2.1)
   rw[GE p S i _ d] at b
   omega
 ·rintro⟨f,q,h⟩
  have r:∀ i,i<=n->∀ k,k<p.n->0<=left p S i k:=by
   intro i
   induction i with
   |zero=>intro _ k o;rw[RX];have:=(f.2 k o).1;unfold In at this;omega
   |succ i ih =>
    intro l k o;have w:=ih oM k o;have e:=(h i oM).2
    by_cases c:(S i).ln=(k:Int)
    ·rw[GE p S i k c]
     have:=e.room;rw[c] at this;simp at this
     omega
    ·rw[Kl p S i k c];exact w
  refine⟨f,q,λi l=>?_,r n (Jr _)⟩
  obtain⟨h1,h2⟩:=h i l;exact⟨h2.e,h2.ln,h2.f,⟨h2.j.1,h2.high⟩,h1⟩
theorem EM.lens {p:zv}{S:Nat->ql}(h:EM p n S):∀ j,j<n->In (S j).f 1 2000:=λj a=>(h.2.2 j a).2.f
theorem Iu {p:zv}{S:Nat->ql}(c:Ir p)(hn:n<=60)(e:∀ j,j<n->In (S j).f 1 2000)(d:k<p.n):-120000<=left p S n k/\left p S n k<=5000:=by
 have a:=(c.2 k d).1;have b:=PA S k n e;unfold In at a;unfold left
 omega
def qN (p:zv)(S:Nat->ql)(i k:Nat):Int:=if k<p.n then left p S i k else 0
theorem fw (p:zv)(S:Nat->ql)(k:Nat):qN p S 0 k=QM p.n p.A 0 k:=by
 unfold qN QM;rw[RX]
theorem PB (p:zv)(S:Nat->ql)(i m j:Nat)(a:m<p.n)(h:(S i).ln=(m:Int)):(if j=m then qN p S i m - (S i).f else qN p S i j)=qN p S (i+1) j:=by
 unfold qN
 by_cases e:j=m
 ·subst e;rw[Jf rfl,Jf a,Jf a,GE p S i j h]
 ·rw[Je e,Kl p S i j (λc=>e oM)]
theorem Hh {p:zv}{S:Nat->ql}{s:ql}:Kc p (qN p S i) s↔Kc p (left p S i) s:=by
 constructor
 ·rintro⟨a,b,c,d,e,f⟩
  refine⟨a,b,c,d,e,?_⟩;have:qN p S i _=left p S i s.ln.toNat:=Jf (by unfold In at d;omega)
  rw[← this];exact f
 ·rintro⟨a,b,c,d,e,f⟩
  refine⟨a,b,c,d,e,?_⟩;have:qN p S i _=left p S i s.ln.toNat:=Jf (by unfold In at d;omega)
  rw[this];exact f
theorem LZ {p:zv}{S:Nat->ql}(k:Nat)(a:Ir p)(c:n<=60)(b:∀ j,j<n->In (S j).f 1 2000):-120000<=qN p S n k/\qN p S n k<=5000:=by
 unfold qN
 split
 ·exact Iu a c b (by assumption)
 ·omega
def Bl (p:zv)(F:Nat->Int)(len hei:Int)(k:Nat):Prop:=k<p.n/\(hei<=p.B k/\len<=F k)/\∀ j,j<k->¬ (hei<=p.B j/\len<=F j)
theorem FO {p:zv}(h1:Bl p F len hei k)(h2:Bl p F len hei j):k=j:=by
 by_cases c:k<j
 ·exact absurd h1.2.1 (h2.2.2 k c)
 ·by_cases c2:j<k
  ·exact absurd h2.2.1 (h1.2.2 j c2)
  ·omega
def De (p:zv)(n:Nat)(S:Nat->ql)(x len hei:Int)(k:Nat):Prop :=
 EM p n S/\n≠60/\¬ Qh (Zm S) n x/\In x 1 9999/\In len 1 2000/\In hei 1 500/\Bl p (left p S n) len hei k
def ZN (S:Nat->ql)(r:Nat)(i:Nat):ql:=if i<r then S i else S (i+1)
end
def Q1 (len cl:Int)(r:Nat):Bool:=if r=2 then true else if r=0 then decide (0<len) else decide (0<cl)
theorem Gh (pe len hei cl be:Int)(all:Bool)(r:Nat)(w:World)(hr:r<3) :
  Calls prog 164 #[.agg #[pe,len,hei,cl,all,be],(r:Int)] w λe w'=>e=.returned (.bool (Q1 len cl r))/\Below w w w':=by
 have c:=Jb w (.cells #[pe,len,hei,cl,all,be] 45);have a:=Kv c;have y1:=bC c 1;have y3:=bC c 3;have h3:r=0∨r=1∨r=2:=oM;clear c
 rcases h3 with rfl|rfl|rfl
 ·by_cases h:0<len
  ·have b:Hid (Q1 len cl 0=true):=Jd h
   have d:=Jd h;go_enter func164,ntmps164;go_wp2;go_ret;exact⟨by rw[b.out];rfl,a⟩
  ·have b:Hid (Q1 len cl 0=false):=Jc h
   have d:=Jc h;go_enter func164,ntmps164;go_wp2;go_ret;exact⟨by rw[b.out];rfl,a⟩
 ·by_cases h:0<cl
  ·have b:Hid (Q1 len cl 1=true):=Jd h
   have d:=Jd h;go_enter func164,ntmps164;go_wp2;go_ret;exact⟨by rw[b.out];rfl,a⟩
  ·have b:Hid (Q1 len cl 1=false):=Jc h
   have d:=Jc h;go_enter func164,ntmps164;go_wp2;go_ret;exact⟨by rw[b.out];rfl,a⟩
 ·go_enter func164,ntmps164
  go_wp2;go_ret;exact⟨rfl,a⟩
section
def zA.p (b:zA):ZP:=⟨b.v,b.f,b.j,b.w,b.h,b.x⟩
def CB (b:zA):Prop:=b.C=1∨b.C=2
instance (b:zA):Decidable (CB b):=by unfold CB;exact inferInstance
def Sa (b:zA)(x:Int):Prop:=∃ j,j<b.c/\b.J j=x
def Bw (b:zA):Prop:=if b.C=1∨b.C=4 then In b.y 0 10000 else b.y=0
instance (b:zA):Decidable (Bw b):=by unfold Bw;exact inferInstance
def Qr (o:zY)(i:Nat):Prop :=
 (o.u i).k=i+1/\In (o.u i).e 1 9999/\Z7 (o.u i).j1/\Q6 o.i o.G (o.u i).c (o.u i).J/\Zc (o.u i).p/\In (o.u i).C 1 4/\In (o.u i).j2 0 1000000 /\
  (∀ j,j<i->(o.u j).e≠(o.u i).e)/\Bw (o.u i)
def La (x:zw)(b:zA)(n:Nat):Prop:=∃ j,j<n/\(x.L j).e=b.e/\(x.L j).z=b.v
def NT (x:zw)(b:zA)(n:Nat):Prop:=∃ j,j<n/\(x.K j).e=b.e/\(x.K j).f=b.f/\(x.K j).j=b.j
def PD (s:qe)(b:zA)(r:zU):Prop:=r.e=b.e/\r.h=b.h/\s.M.A r.H.toNat=b.w/\(b.h=true∨r.z=b.x)
def NU (s:qe)(x:zw)(b:zA)(n:Nat):Prop:=∃ j,j<n/\PD s b (x.I j)
def CD (s:qe)(x:zw)(b:zA):Prop:=La x b x.t/\(b.f=0∨NT x b x.r)/\(b.w=0∨NU s x b x.m)
open Classical in
/-- How many of the first n are so. -/
noncomputable def EW (P:Nat->Prop):Nat->Nat
 |0=>0
 |n+1=>EW P n+(if P n then 1 else 0)
theorem Qs (h:P n):EW P (n+1)=EW P n+1:=by rw[EW,Jf h]
theorem QG (h:¬ P n):EW P (n+1)=EW P n:=by rw[EW,Je h];rfl
theorem Hi (P:Nat->Prop)(n:Nat):EW P n<=n:=by
 induction n with
 |zero=>exact Jr _
 |succ n ih =>
  by_cases h:P n
  ·rw[Qs h];omega
  ·rw[QG h];omega
def qf (s:qe)(x:zw):Prop:=Tt s.la x.r x.K/\QF s.M x.m x.I/\An s.N x.t x.L
theorem Na {p:zv}{S:Nat->zU}(h:QF p n S):∀ j,j<n->0<=(S j).H/\(S j).H<p.n:=λj a=>by
 have:=(h.2.2.1 j a).1;unfold fu In at this
 omega
def On (o:zY)(k i:Nat):Prop:=CB (o.u i)/\Sa (o.u i) (o.G k).S
def CE (o:zY)(k:Nat):Prop :=
 (∀ i,i<o.g->On o k i->CD (o.G k) (o.F k) (o.u i))/\(o.F k).r=EW (λi=>On o k i/\0<(o.u i).f) o.g/\(o.F k).m=EW (λi=>On o k i/\0<(o.u i).w) o.g/\(o.F k).t=EW (On o k) o.g
def qS (o:zY):Prop :=
 At o.i o.G/\o.l=o.i/\o.g<=30/\(∀ k,k<o.i->qf (o.G k) (o.F k))/\(∀ i,i<o.g->Qr o i)/\∀ k,k<o.i->CE o k
end
structure Wk where
 j5:Int
 j3:Nat
 E:Bool
 e:Int
 p:ZP
def pv (k:Wk):List Value:=[k.j5,(k.j3:Int),k.E,k.e,k.p.v,k.p.f,k.p.j,k.p.w,k.p.h,k.p.x]
def Lb (l:List Wk):List Value:=l.flatMap pv
theorem Gi (l:List Wk)(k:Wk):Lb (l++[k])=Lb l++pv k:=by simp[Lb]
def qM (goes:Bool)(who:Int)(p:ZP)(leg:Int):Nat->List Wk
 |0=>[]
 |j+1=>if Q1 p.f p.w j=true then qM goes who p leg j++[⟨leg,j,goes,who,p⟩] else qM goes who p leg j
def Za (goes:Bool)(who:Int)(p:ZP)(F:Nat->Int):Nat->List Wk
 |0=>[]
 |k+1=>Za goes who p F k++qM goes who p (F k) 3
theorem Df (goes:Bool)(who:Int)(p:ZP)(leg:Int):∀ j,(qM goes who p leg j).length<=j
 |0=>Jr _
 |j+1=>by
  have ih:=Df goes who p leg j;unfold qM
  split
  ·rw[List.length_append];simp;omega
  ·omega
theorem QL (goes:Bool)(who:Int)(p:ZP)(F:Nat->Int):∀ k,(Za goes who p F k).length<=3*k
 |0=>Jr _
 |k+1=>by
  have ih:=QL goes who p F k;have h:=Df goes who p (F k) 3;unfold Za;rw[List.length_append]
  omega
theorem Dg {goes:Bool}{who:Int}{p:ZP}{leg:Int}:∀ {j:Nat}{k:Wk},k ∈ qM goes who p leg j->k.j5=leg/\k.j3<j/\k.E=goes/\k.e=who/\k.p=p/\Q1 p.f p.w k.j3=true
 |0,k,h=>by simp[qM] at h
 |j+1,k,h=>by
  unfold qM at h
  split at h
  ·rename_i hu
   rcases List.mem_append.1 h with h|h
   ·obtain⟨a,b,c⟩:=Dg h;exact⟨a,by omega,c⟩
   ·simp at h;subst h;exact⟨rfl,Nat.lt_succ_self _,rfl,rfl,rfl,hu⟩
  ·obtain⟨a,b,c⟩:=Dg h;exact⟨a,by omega,c⟩
theorem Bm {goes:Bool}{who:Int}{p:ZP}{F:Nat->Int}:∀ {n:Nat}{k:Wk},k ∈ Za goes who p F n->(∃ i,i<n/\k.j5=F i)/\k.j3<3/\k.E=goes/\k.e=who/\k.p=p/\Q1 p.f p.w k.j3=true
 |0,k,h=>by simp[Za] at h
 |n+1,k,h=>by
  unfold Za at h
  rcases List.mem_append.1 h with h|h
  ·obtain⟨⟨i,hi,e⟩,c⟩:=Bm h;exact⟨⟨i,by omega,e⟩,c⟩
  ·obtain⟨a,c⟩:=Dg h;exact⟨⟨n,Nat.lt_succ_self _,a⟩,c⟩
theorem Tryz.infoWork:(Tryz.prog.info? 159).map (λi=>(i.zero,i.size,i.bytes))=some (some (.agg #[(),(),.bool false,(),(),(),(),(),.bool false,()]),10,80):=kR
def ZH (w:World)(base:Nat)(v:Value)(l:List Wk):Prop:=w.ownsRow base 159 10 v l.length (Lb l)
theorem ZH.nil (w:World)(base:Nat):ZH w base True []:=World.ownsRow_nil _ _ _ _
def QH (k:Int):Prop:=k=5∨k=6∨k=8
instance (k:Int):Decidable (QH k):=by unfold QH;exact inferInstance
def qB (x:zY)(a:Int)(y:qD)(m:Nat):List Wk :=
 (if QH y.d then Za true (x.u m).e ⟨(x.u m).v,(x.u m).f,(x.u m).j,(x.u m).w,(x.u m).h,(x.u m).x⟩ (x.u m).J (x.u m).c else [])++(if zM y.d then Za false a ⟨y.v,y.f,y.j,y.w,y.h,y.x⟩ y.J y.c else [])
theorem PE (d9 d8 d3 a7:Option Addr)(N M R e2 e1 e0 b4 m:Nat)(x:zY)(y:qD)(a:Int)(w:World)(hR:R<=1048576)(g3:ZY R x.u 1048576)(hl:y.c<=1048576)(f6:qL w d3 R x.u)(f8:zS w a7 y.c y.J)(hm:QH y.d->y.k=(m:Int)+1/\m<R) :
  Calls prog 91 #[.agg #[(d9,N,e2),(d8,M,e1),(d3,R,e0)],a,.agg (y,a7,b4)] w λe w'=>∃ v,e=.returned v/\ZH w' w.heap.size v (qB x a y m)/\Below w.heap.size w w':=by
 obtain⟨k0,ki,e8,e9,f0⟩:=info_parts Tryz.infoWork;have g4:=hI f6;have g6:=hI g3;have f5:=hI f8;clear f6 g3 f8;have g:Below _ w ((w.alloc (.cells #[(d9,N,e2),(d8,M,e1),(d3,R,e0)] 38)).alloc (.cells (y,a7,b4) 47)):=zd (zd bZ _) _;have bF:=Cs g;have bO:=Dt g;obtain⟨c,e5⟩:∃ c:ZP,c=⟨y.v,y.f,y.j,y.w,y.h,y.x⟩:=⟨_,rfl⟩;have d2:=hI e5
 by_cases hF:QH y.d
 ·obtain⟨f9,e4⟩:=hm hF
  obtain⟨Cc,g2,f7⟩:=g4;obtain⟨gb,off,d5,E⟩:=g2 m e4;have f1:=hI d5;clear d5;obtain⟨b3,b2,e3,g1,s1⟩:=f7 m e4;have e6:=g6 m e4;obtain⟨b,b6⟩:∃ b,b=x.u m:=⟨_,rfl⟩;rw[← b6] at e3 g1 s1 e6;obtain⟨d,d4⟩:∃ d:ZP,d=⟨b.v,b.f,b.j,b.w,b.h,b.x⟩:=⟨_,rfl⟩;have b1:Hid ((zM y.d->qB x a y m=Za true b.e d b.J b.c++Za false a c y.J y.c)/\(¬ zM y.d->qB x a y m=Za true b.e d b.J b.c)):=by
   constructor
   ·intro h;unfold qB;rw[Jf hF,Jf h,d4,b6,d2.out]
   ·intro h;unfold qB;rw[Jf hF,Je h,d4,b6,List.append_nil]
  have h7:=e6.2;have d6:Hid ((Za true b.e d b.J b.c).length<=3145728):=by have h:=QL true b.e d b.J b.c;show _<=3145728;omega
  rw[e3] at E;have B:=Ja w _ (E 0 (by decide))
  have f4:=hI g1;have h5:=hI b6;have hk:(y.d == 5)=true∨((y.d == 5)=false/\(y.d == 6)=true)∨((y.d == 5)=false/\(y.d == 6)=false/\(y.d == 8)=true):=by
   unfold QH at hF
   rcases hF with h|h|h <;> rw[h] <;> decide
  rw[f9] at bO g bF ⊢;go_enter func91,ntmps91;go_upto_region 2 with fail;generalize (w.alloc _).alloc _=V at g bF bO ⊢;have f2:=zf bF 2 _ rfl;rw[f1.out] at f2;have o0:=zf bO 0 _ rfl;have o2:=zf bO 2 _ rfl;have c0:V.cell? _=some (.int _ _):=(g.cell (p:=⟨gb,off+_,_⟩) B).trans (E 0 (by decide))
  have c1:V.cell? _=some (.int _ _):=(g.cell (p:=⟨gb,_+1,_⟩) B).trans (E 1 (by decide))
  have c2:V.cell? _=some (.string _):=(g.cell (p:=⟨gb,_+2,_⟩) B).trans (E 2 (by decide))
  have c3:V.cell? _=some (.slice b3 _ b2):=(g.cell (p:=⟨gb,_+3,_⟩) B).trans (E 3 (by decide))
  have c4:V.cell? _=some (.int _ _):=(g.cell (p:=⟨gb,_+4,_⟩) B).trans (E 4 (by decide))
  have c5:V.cell? _=some (.int _ _):=(g.cell (p:=⟨gb,_+5,_⟩) B).trans (E 5 (by decide))
  have c6:V.cell? _=some (.int _ _):=(g.cell (p:=⟨gb,_+6,_⟩) B).trans (E 6 (by decide))
  have c7:V.cell? _=some (.int _ _):=(g.cell (p:=⟨gb,_+7,_⟩) B).trans (E 7 (by decide))
  have c8:V.cell? _=some (.bool _):=(g.cell (p:=⟨gb,_+8,_⟩) B).trans (E 8 (by decide))
  have c9:V.cell? _=some (.int _ _):=(g.cell (p:=⟨gb,_+9,_⟩) B).trans (E 9 (by decide))
  have g7:V.cell? _=some (.int _ _):=(g.cell (p:=⟨gb,_+10,_⟩) B).trans (E 10 (by decide))
  have g8:V.cell? _=some (.int _ _):=(g.cell (p:=⟨gb,_+11,_⟩) B).trans (E 11 (by decide))
  have g9:V.cell? _=some (.int _ _):=(g.cell (p:=⟨gb,_+12,_⟩) B).trans (E 12 (by decide))
  have i0:(0:Int)<=(m:Int):=by omega
  have i1:(m:Int)<(R:Int):=by omega
  have h0:IntKind.i64.wrap ((m:Int)+1 - 1)=(m:Int):=by rw[Jk];omega
  have bX:=Jb V (.cells (b,b3,b2) 150);have pX:=Kv bX;clear E e3 g1 s1 e6 g2 f7 b6;go_cut [27] (λv wx=>v=.bool true/\wx=V)
  case first =>
   rcases hk with h|⟨h,h6⟩|⟨h,h6,h8⟩
   all_goals
    go_wp2;go_meet;exact⟨rfl,rfl⟩
  case rest =>
  obtain⟨rfl,e7⟩:=hcut;have e7:=e7.symm;subst e7;clear hk o0;have g5:=hI bO;go_upto_region 4 with fail;have BO:Hid ((V.alloc (.cells (b,b3,b2) 150)).heap[w.heap.size+1]?=some (.cells #[y.d,y.j1,y.k,(a7,y.c,b4),c.v,c.f,c.j,c.w,c.h,c.x,y.y,y.D] 47 (0,0))):=by rw[d2.out,f9];exact zg bO _
  have BX:Hid ((V.alloc (.cells (b,b3,b2) 150)).heap[V.heap.size]?=some (.cells #[b.k,b.e,b.j1,(b3,b.c,b2),d.v,d.f,d.j,d.w,d.h,d.x,b.C,b.y,b.j2] 150 (0,0))):=by rw[d4];exact bX
  have l:=hI (zb g pX);generalize V.heap.size=xb at BX bX ⊢;generalize V.alloc _=W at bX pX BO BX l ⊢;clear c0 c1 c2 c3 c4 c5 c6 c7 c8 c9 g7 g8 g9 f2 o2 bO bF g pX g5 i0 i1 h0;have x3:=zf bX 3 _ rfl;have b0:=hI (f4.j0 l);have d7:=hI (f5.j0 l);have C:Hid (ZH W W.heap.size _ []):=ZH.nil _ _;have X:Hid (Below W.heap.size W W):=bZ;have b5:([]:List Wk).length<=3145728:=Jq _;have U:W.heap.size<=W.heap.size:=Jr _;clear bX e5 d4;go_wp2;clear x3;go_loopw [7,10,11,38] (λv _ _ i wr=>∃ k,k<=b.c/\i=int i64 k/\Hid (ZH wr W.heap.size v ([]++Za true b.e d b.J k))/\Hid (Below W.heap.size W wr)) (λ_ _ _ i _=>b.c - (intOf i).toNat)
  case atStart=>exact⟨0,Jq _,rfl,(by show ZH _ _ _ ([]++[]);rw[List.append_nil];exact C),X⟩
  case round =>
   clear C X;obtain⟨k,hk,rfl,D,n⟩:=hrel
   by_cases hlt:k<b.c
   ·obtain⟨gb,go,b7,L⟩:=b0 k hlt
    subst b7;have E:=(n.cell (Ja W _ L)).trans L;obtain⟨leg,o⟩:∃ leg,leg=b.J k:=⟨_,rfl⟩;rw[← o] at E;have Z:=hI o;have b9:([]++Za true b.e d b.J k).length<=3145728+3*k:=by have h1:=QL true b.e d b.J k;have h2:=b5;rw[List.length_append];omega
    obtain⟨P,hP⟩:∃ P,P=[]++Za true b.e d b.J k:=⟨_,rfl⟩;rw[← hP] at b9;have HP:=hI hP;have a1:Hid (ZH wr W.heap.size u7 P):=by rw[hP];exact D
    clear o hP D L;go_wp2;clear E;obtain⟨wo,d1⟩:∃ z,z=wr:=⟨_,rfl⟩;subst d1;go_loopw [7,11] (λv r wr=>∃ j:Nat,j<=3/\r=int i64 j/\Hid (ZH wr W.heap.size v (P++qM true b.e d leg j))/\Hid (Below W.heap.size W wr)) (λ_ r _=>3 - (intOf r).toNat)
    case atStart=>exact⟨0,Jq _,rfl,(by show ZH _ _ _ (P++[]);rw[List.append_nil];exact a1),n⟩
    case round =>
     clear a1 n;obtain⟨j,hj,rfl,A,s⟩:=hrel
     by_cases hj3:j<3
     ·have f:=za BX s
      have y1:=zf f 1 _ rfl;have y4:=zf f 4 _ rfl;have y5:=zf f 5 _ rfl;have y6:=zf f 6 _ rfl;have y7:=zf f 7 _ rfl;have y8:=zf f 8 _ rfl;have y9:=zf f 9 _ rfl;have b8:=Df true b.e d leg j;obtain⟨Q,hQ⟩:∃ Q,Q=P++qM true b.e d leg j:=⟨_,rfl⟩;have g0:Q.length<=3145731+3*k:=by rw[hQ,List.length_append];omega
      rw[← hQ] at A;have HQ:=hI hQ;clear hQ b8;have cu:=Gh d.v d.f d.j d.w d.x d.h j wr hj3;obtain⟨ub,S⟩:∃ ub,ub=Q1 d.f d.w j:=⟨_,rfl⟩;rw[← S] at cu;have a2:=hI S.symm;clear S;go_wp2_with fail;refine cu.mono ?_;clear cu;rintro e T ⟨rfl,K⟩;have t:Hid (ZH T _ u7 Q):=zm K A;have G:=hI (zb s K);clear A s K y1 y4 y5 y6 y7 y8 y9 f
      cases ub with
      |false =>
       have Y:Hid (ZH T W.heap.size u7 (P++qM true b.e d leg (j+1))):=by
        have e:qM true b.e d leg (j+1)=qM true b.e d leg j:=by rw[qM,Je (by rw[a2.out];decide)]
        rw[e,← HQ.out];exact t
       go_wp2;go_roundw
       case rel=>exact⟨_,by omega,by go_num,Y,G⟩
       case measure=>simp[intOf];omega
      |true =>
       have f:=za BX G;have y1:=zf f 1 _ rfl;have y4:=zf f 4 _ rfl;have y5:=zf f 5 _ rfl;have y6:=zf f 6 _ rfl;have y7:=zf f 7 _ rfl;have y8:=zf f 8 _ rfl;have y9:=zf f 9 _ rfl;obtain⟨qa,qc,O,_⟩:=zn t;have O:=O;subst O;have H:Hid (ZH (T.alloc (.cells #[leg,(j:Int),.bool true,b.e,d.v,d.f,d.j,d.w,d.h,d.x] 159)) _ _ Q):=zm (zd bZ _) t;have q:Hid (Below _ W (T.alloc (.cells #[leg,(j:Int),.bool true,b.e,d.v,d.f,d.j,d.w,d.h,d.x] 159))):=zd G _;have d0:=Jp U q.size;have a0:Hid (∀ m u,([_,_,_,_,_,_,_,_,_,_]:List Value)[m]?=_->(T.alloc (.cells #[leg,(j:Int),.bool true,b.e,d.v,d.f,d.j,d.w,d.h,d.x] 159)).cell? _=_):=Jo (Jb T _);clear t f;go_wp2_with (first|(at_builtin;refine zu _ (by rfl) _ _ 156 (by rfl) _ 159 k0 _ 10 80 underlying156 ki e8 e9 f0 rfl (by decide) _ _ _ (by rfl) H _ 1 1 [_,_,_,_,_,_,_,_,_,_] (by rfl) (λh=>(by cases h)) (by rfl) (λad e=>by cases e;exact a0) (by intro u hu;simp at hu;rcases hu with rfl|rfl|rfl|rfl|rfl|rfl|rfl|rfl|rfl|rfl <;> rfl) (by unfold maxLen;omega) (by omega) d0 ?_;intro v9 w9 a4 a3))
       have Y:Hid (ZH w9 W.heap.size v9 (P++qM true b.e d leg (j+1))):=by
        have e:P++qM true b.e d leg (j+1)=Q++[⟨leg,j,true,b.e,d⟩]:=by rw[HQ.out,List.append_assoc];congr 1;rw[qM,Jf a2.out]
        show w9.ownsRow _ _ 10 v9 _ _
        rw[e,Gi,List.length_append];exact a4
       have a8:=hI (q.grown a3 q.size (λb hb=>by have:=(H.lt b hb).1;omega))
       clear y1 y4 y5 y6 y7 y8 y9 a4 a3 H q a0;go_wp2;go_roundw
       case rel=>exact⟨_,by omega,by go_num,Y,a8⟩
       case measure=>simp[intOf];omega
     ·obtain rfl:j=3:=by omega
      have Y:Hid (ZH wr W.heap.size u7 ([]++Za true b.e d b.J (k+1))):=by
       have e:[]++Za true b.e d b.J (k+1)=P++qM true b.e d leg 3:=by rw[HP.out,Z.out,List.append_assoc];rfl
       rw[e];exact A
      go_wp2;go_roundw
      case rel=>exact⟨_,by omega,by go_num,Y,s⟩
      case measure=>simp[intOf];omega
   ·obtain rfl:k=b.c:=by omega
    have I:Hid (ZH wr _ _ (Za _ _ d _ _)):=D;have F:=n;clear D n hlt hk
    by_cases hL:zM y.d
    ·have dL:=Jd hL
     have a9:Hid (∀ (z) (v),ZH z _ v _->Below W.heap.size W z->ZH z _ v (qB x a y m)):=λz v h _=>by
      have e:=b1.1 hL;rw[e];exact zo h l.size
     have J:=za BO F;have o0:=zf J 0 _ rfl;have o3:=zf J 3 _ rfl;go_wp2_with (first|(go_at_call 160;refine sC (Qe _ _) ?_))
     clear o0 o3 J hL dL;have BX:=BO;have b0:=d7;have C:=I;have X:=F;have b5:=d6.out;clear I F;go_loopw [7,13,14,67] (λv _ _ i wr=>∃ k,k<=y.c/\i=int i64 k/\Hid (ZH wr W.heap.size v ((Za true b.e d b.J b.c)++Za false a c y.J k))/\Hid (Below W.heap.size W wr)) (λ_ _ _ i _=>y.c - (intOf i).toNat)
     case atStart=>exact⟨0,Jq _,rfl,(by show ZH _ _ _ (_++[]);rw[List.append_nil];exact C.out),X.out⟩
     case round =>
      clear C X;obtain⟨k,hk,rfl,D,n⟩:=hrel
      by_cases hlt:k<y.c
      ·obtain⟨gb,go,b7,L⟩:=b0.out k hlt
       subst b7;have E:=(n.out.cell (Ja W _ L)).trans L;obtain⟨leg,o⟩:∃ leg,leg=y.J k:=⟨_,rfl⟩;rw[← o] at E;have Z:=hI o;have b9:((Za true b.e d b.J b.c)++Za false a c y.J k).length<=3145728+3*k:=by have h1:=QL false a c y.J k;have h2:=b5;rw[List.length_append];omega
       obtain⟨P,hP⟩:∃ P,P=(Za true b.e d b.J b.c)++Za false a c y.J k:=⟨_,rfl⟩;rw[← hP] at b9;have HP:=hI hP;have a1:Hid (ZH wr W.heap.size u7 P):=by rw[hP];exact D
       clear o hP D L;go_wp2;clear E;obtain⟨wo,d1⟩:∃ z,z=wr:=⟨_,rfl⟩;subst d1;go_loopw [7,14] (λv r wr=>∃ j:Nat,j<=3/\r=int i64 j/\Hid (ZH wr W.heap.size v (P++qM false a c leg j))/\Hid (Below W.heap.size W wr)) (λ_ r _=>3 - (intOf r).toNat)
       case atStart=>exact⟨0,Jq _,rfl,(by show ZH _ _ _ (P++[]);rw[List.append_nil];exact a1),n⟩
       case round =>
        clear a1 n;obtain⟨j,hj,rfl,A,s⟩:=hrel
        by_cases hj3:j<3
        ·have f:=za BX s
         have y4:=zf f 4 _ rfl;have y5:=zf f 5 _ rfl;have y6:=zf f 6 _ rfl;have y7:=zf f 7 _ rfl;have y8:=zf f 8 _ rfl;have y9:=zf f 9 _ rfl;have b8:=Df false a c leg j;obtain⟨Q,hQ⟩:∃ Q,Q=P++qM false a c leg j:=⟨_,rfl⟩;have g0:Q.length<=3145731+3*k:=by rw[hQ,List.length_append];omega
         rw[← hQ] at A;have HQ:=hI hQ;clear hQ b8;have cu:=Gh c.v c.f c.j c.w c.x c.h j wr hj3;obtain⟨ub,S⟩:∃ ub,ub=Q1 c.f c.w j:=⟨_,rfl⟩;rw[← S] at cu;have a2:=hI S.symm;clear S;go_wp2_with fail;refine cu.mono ?_;clear cu;rintro e T ⟨rfl,K⟩;have t:Hid (ZH T _ u7 Q):=zm K A;have G:=hI (zb s K);clear A s K y4 y5 y6 y7 y8 y9 f
         cases ub with
         |false =>
          have Y:Hid (ZH T W.heap.size u7 (P++qM false a c leg (j+1))):=by
           have e:qM false a c leg (j+1)=qM false a c leg j:=by rw[qM,Je (by rw[a2.out];decide)]
           rw[e,← HQ.out];exact t
          go_wp2;go_roundw
          case rel=>exact⟨_,by omega,by go_num,Y,G⟩
          case measure=>simp[intOf];omega
         |true =>
          have f:=za BX G;have y4:=zf f 4 _ rfl;have y5:=zf f 5 _ rfl;have y6:=zf f 6 _ rfl;have y7:=zf f 7 _ rfl;have y8:=zf f 8 _ rfl;have y9:=zf f 9 _ rfl;obtain⟨qa,qc,O,_⟩:=zn t;have O:=O;subst O;have H:Hid (ZH (T.alloc (.cells #[leg,(j:Int),.bool false,a,c.v,c.f,c.j,c.w,c.h,c.x] 159)) _ _ Q):=zm (zd bZ _) t;have q:Hid (Below _ W (T.alloc (.cells #[leg,(j:Int),.bool false,a,c.v,c.f,c.j,c.w,c.h,c.x] 159))):=zd G _;have d0:=Jp U q.size;have a0:Hid (∀ m u,([_,_,_,_,_,_,_,_,_,_]:List Value)[m]?=_->(T.alloc (.cells #[leg,(j:Int),.bool false,a,c.v,c.f,c.j,c.w,c.h,c.x] 159)).cell? _=_):=Jo (Jb T _);clear t f;go_wp2_with (first|(at_builtin;refine zu _ (by rfl) _ _ 156 (by rfl) _ 159 k0 _ 10 80 underlying156 ki e8 e9 f0 rfl (by decide) _ _ _ (by rfl) H _ 1 1 [_,_,_,_,_,_,_,_,_,_] (by rfl) (λh=>(by cases h)) (by rfl) (λad e=>by cases e;exact a0) (by intro u hu;simp at hu;rcases hu with rfl|rfl|rfl|rfl|rfl|rfl|rfl|rfl|rfl|rfl <;> rfl) (by unfold maxLen;omega) (by omega) d0 ?_;intro v9 w9 a4 a3))
          have Y:Hid (ZH w9 W.heap.size v9 (P++qM false a c leg (j+1))):=by
           have e:P++qM false a c leg (j+1)=Q++[⟨leg,j,false,a,c⟩]:=by rw[HQ.out,List.append_assoc];congr 1;rw[qM,Jf a2.out]
           show w9.ownsRow _ _ 10 v9 _ _
           rw[e,Gi,List.length_append];exact a4
          have a8:=hI (q.grown a3 q.size (λb hb=>by have:=(H.lt b hb).1;omega))
          clear y4 y5 y6 y7 y8 y9 a4 a3 H q a0;go_wp2;go_roundw
          case rel=>exact⟨_,by omega,by go_num,Y,a8⟩
          case measure=>simp[intOf];omega
        ·obtain rfl:j=3:=by omega
         have Y:Hid (ZH wr W.heap.size u7 ((Za true b.e d b.J b.c)++Za false a c y.J (k+1))):=by
          have e:(Za true b.e d b.J b.c)++Za false a c y.J (k+1)=P++qM false a c leg 3:=by rw[HP.out,Z.out,List.append_assoc];rfl
          rw[e];exact A
         go_wp2;go_roundw
         case rel=>exact⟨_,by omega,by go_num,Y,s⟩
         case measure=>simp[intOf];omega
      ·obtain rfl:k=y.c:=by omega
       have a6:=hI (a9 _ _ D n);have a5:=hI (zb l n);go_wp2;go_ret;exact⟨_,rfl,a6,a5⟩
    ·have dL:=Jc hL
     have a6:Hid (ZH wr w.heap.size u7 (qB x a y m)):=by
      have e:=b1.2 hL;rw[e];exact zo I l.size
     have a5:=hI (zb l F);have J:=za BO F;have o0:=zf J 0 _ rfl;go_wp2_with (first|(go_at_call 160;refine sC (Qe _ _) ?_))
     go_ret;exact⟨_,rfl,a6,a5⟩
 ·have b1:Hid ((zM y.d->qB x a y m=([]:_)++Za false a c y.J y.c)/\(¬ zM y.d->qB x a y m=([]:_))):=by
   constructor
   ·intro h;unfold qB;rw[Je hF,Jf h,d2.out]
   ·intro h;unfold qB;rw[Je hF,Je h];rfl
  have k5:(y.d == 5)=false:=by rw[beq_eq_false_iff_ne];intro h;exact hF (.inl h)
  have k6:(y.d == 6)=false:=by rw[beq_eq_false_iff_ne];intro h;exact hF (.inr (.inl h))
  have k8:(y.d == 8)=false:=by rw[beq_eq_false_iff_ne];intro h;exact hF (.inr (.inr h))
  have d6:Hid (([]:List Wk).length<=3145728):=Jq _;go_enter func91,ntmps91;go_upto_region 2 with fail;have BO:Hid (((w.alloc (.cells #[(d9,N,e2),(d8,M,e1),(d3,R,e0)] 38)).alloc (.cells (y,a7,b4) 47)).heap[w.heap.size+1]?=some (.cells #[y.d,y.j1,y.k,(a7,y.c,b4),c.v,c.f,c.j,c.w,c.h,c.x,y.y,y.D] 47 (0,0))):=by rw[d2.out];exact bO
  have l:=hI g;generalize (w.alloc _).alloc _=W at g bF bO BO l ⊢;have h4:=zf bO 0 _ rfl;have d7:=hI (f5.j0 l);have I:Hid (ZH W W.heap.size _ _):=ZH.nil _ _;have F:Hid (Below W.heap.size W W):=bZ;have U:W.heap.size<=W.heap.size:=Jr _;clear bF bO g hF e5 hm;go_upto_region 13 with fail;clear h4 k5 k6 k8
  by_cases hL:zM y.d
  ·have dL:=Jd hL
   have a9:Hid (∀ (z) (v),ZH z _ v _->Below W.heap.size W z->ZH z _ v (qB x a y m)):=λz v h _=>by
    have e:=b1.1 hL;rw[e];exact zo h l.size
   have J:=za BO F;have o0:=zf J 0 _ rfl;have o3:=zf J 3 _ rfl;go_wp2_with (first|(go_at_call 160;refine sC (Qe _ _) ?_))
   clear o0 o3 J hL dL;have BX:=BO;have b0:=d7;have C:=I;have X:=F;have b5:=d6.out;clear I F;go_loopw [7,13,14,67] (λv _ _ i wr=>∃ k,k<=y.c/\i=int i64 k/\Hid (ZH wr W.heap.size v (([]:_)++Za false a c y.J k))/\Hid (Below W.heap.size W wr)) (λ_ _ _ i _=>y.c - (intOf i).toNat)
   case atStart=>exact⟨0,Jq _,rfl,(by show ZH _ _ _ (_++[]);rw[List.append_nil];exact C.out),X.out⟩
   case round =>
    clear C X;obtain⟨k,hk,rfl,D,n⟩:=hrel
    by_cases hlt:k<y.c
    ·obtain⟨gb,go,b7,L⟩:=b0.out k hlt
     subst b7;have E:=(n.out.cell (Ja W _ L)).trans L;obtain⟨leg,o⟩:∃ leg,leg=y.J k:=⟨_,rfl⟩;rw[← o] at E;have Z:=hI o;have b9:(([]:_)++Za false a c y.J k).length<=3145728+3*k:=by have h1:=QL false a c y.J k;have h2:=b5;rw[List.length_append];omega
     obtain⟨P,hP⟩:∃ P,P=([]:_)++Za false a c y.J k:=⟨_,rfl⟩;rw[← hP] at b9;have HP:=hI hP;have a1:Hid (ZH wr W.heap.size u7 P):=by rw[hP];exact D
     clear o hP D L;go_wp2;clear E;obtain⟨wo,d1⟩:∃ z,z=wr:=⟨_,rfl⟩;subst d1;go_loopw [7,14] (λv r wr=>∃ j:Nat,j<=3/\r=int i64 j/\Hid (ZH wr W.heap.size v (P++qM false a c leg j))/\Hid (Below W.heap.size W wr)) (λ_ r _=>3 - (intOf r).toNat)
     case atStart=>exact⟨0,Jq _,rfl,(by show ZH _ _ _ (P++[]);rw[List.append_nil];exact a1),n⟩
     case round =>
      clear a1 n;obtain⟨j,hj,rfl,A,s⟩:=hrel
      by_cases hj3:j<3
      ·have f:=za BX s
       have y4:=zf f 4 _ rfl;have y5:=zf f 5 _ rfl;have y6:=zf f 6 _ rfl;have y7:=zf f 7 _ rfl;have y8:=zf f 8 _ rfl;have y9:=zf f 9 _ rfl;have b8:=Df false a c leg j;obtain⟨Q,hQ⟩:∃ Q,Q=P++qM false a c leg j:=⟨_,rfl⟩;have g0:Q.length<=3145731+3*k:=by rw[hQ,List.length_append];omega
       rw[← hQ] at A;have HQ:=hI hQ;clear hQ b8;have cu:=Gh c.v c.f c.j c.w c.x c.h j wr hj3;obtain⟨ub,S⟩:∃ ub,ub=Q1 c.f c.w j:=⟨_,rfl⟩;rw[← S] at cu;have a2:=hI S.symm;clear S;go_wp2_with fail;refine cu.mono ?_;clear cu;rintro e T ⟨rfl,K⟩;have t:Hid (ZH T _ u7 Q):=zm K A;have G:=hI (zb s K);clear A s K y4 y5 y6 y7 y8 y9 f
       cases ub with
       |false =>
        have Y:Hid (ZH T W.heap.size u7 (P++qM false a c leg (j+1))):=by
         have e:qM false a c leg (j+1)=qM false a c leg j:=by rw[qM,Je (by rw[a2.out];decide)]
         rw[e,← HQ.out];exact t
        go_wp2;go_roundw
        case rel=>exact⟨_,by omega,by go_num,Y,G⟩
        case measure=>simp[intOf];omega
       |true =>
        have f:=za BX G;have y4:=zf f 4 _ rfl;have y5:=zf f 5 _ rfl;have y6:=zf f 6 _ rfl;have y7:=zf f 7 _ rfl;have y8:=zf f 8 _ rfl;have y9:=zf f 9 _ rfl;obtain⟨qa,qc,O,_⟩:=zn t;have O:=O;subst O;have H:Hid (ZH (T.alloc (.cells #[leg,(j:Int),.bool false,a,c.v,c.f,c.j,c.w,c.h,c.x] 159)) _ _ Q):=zm (zd bZ _) t;have q:Hid (Below _ W (T.alloc (.cells #[leg,(j:Int),.bool false,a,c.v,c.f,c.j,c.w,c.h,c.x] 159))):=zd G _;have d0:=Jp U q.size;have a0:Hid (∀ m u,([_,_,_,_,_,_,_,_,_,_]:List Value)[m]?=_->(T.alloc (.cells #[leg,(j:Int),.bool false,a,c.v,c.f,c.j,c.w,c.h,c.x] 159)).cell? _=_):=Jo (Jb T _);clear t f;go_wp2_with (first|(at_builtin;refine zu _ (by rfl) _ _ 156 (by rfl) _ 159 k0 _ 10 80 underlying156 ki e8 e9 f0 rfl (by decide) _ _ _ (by rfl) H _ 1 1 [_,_,_,_,_,_,_,_,_,_] (by rfl) (λh=>(by cases h)) (by rfl) (λad e=>by cases e;exact a0) (by intro u hu;simp at hu;rcases hu with rfl|rfl|rfl|rfl|rfl|rfl|rfl|rfl|rfl|rfl <;> rfl) (by unfold maxLen;omega) (by omega) d0 ?_;intro v9 w9 a4 a3))
        have Y:Hid (ZH w9 W.heap.size v9 (P++qM false a c leg (j+1))):=by
         have e:P++qM false a c leg (j+1)=Q++[⟨leg,j,false,a,c⟩]:=by rw[HQ.out,List.append_assoc];congr 1;rw[qM,Jf a2.out]
         show w9.ownsRow _ _ 10 v9 _ _
         rw[e,Gi,List.length_append];exact a4
        have a8:=hI (q.grown a3 q.size (λb hb=>by have:=(H.lt b hb).1;omega))
        clear y4 y5 y6 y7 y8 y9 a4 a3 H q a0;go_wp2;go_roundw
        case rel=>exact⟨_,by omega,by go_num,Y,a8⟩
        case measure=>simp[intOf];omega
      ·obtain rfl:j=3:=by omega
       have Y:Hid (ZH wr W.heap.size u7 (([]:_)++Za false a c y.J (k+1))):=by
        have e:([]:_)++Za false a c y.J (k+1)=P++qM false a c leg 3:=by rw[HP.out,Z.out,List.append_assoc];rfl
        rw[e];exact A
       go_wp2;go_roundw
       case rel=>exact⟨_,by omega,by go_num,Y,s⟩
       case measure=>simp[intOf];omega
    ·obtain rfl:k=y.c:=by omega
     have a6:=hI (a9 _ _ D n);have a5:=hI (zb l n);go_wp2;go_ret;exact⟨_,rfl,a6,a5⟩
  ·have dL:=Jc hL
   have a6:Hid (ZH W w.heap.size True (qB x a y m)):=by
    have e:=b1.2 hL;rw[e];exact zo I l.size
   have a5:=hI (zb l F);have J:=za BO F;have o0:=zf J 0 _ rfl;go_wp2_with (first|(go_at_call 160;refine sC (Qe _ _) ?_))
   go_ret;exact⟨_,rfl,a6,a5⟩
section
open Classical in
/-- The lane on which the car is Ld. -/
noncomputable def BZ (p:zv)(n:Nat)(S:Nat->ql)(x len hei:Int):Option Nat:=if h:∃ k,De p n S x len hei k then some h.choose else none
theorem Iy {p:zv}{S:Nat->ql}(h:De p n S x len hei k):BZ p n S x len hei=some k:=by
 have a:∃ k,_:=⟨k,h⟩;unfold BZ;rw[dif_pos a];obtain⟨_,_,_,_,_,_,h1⟩:=h;obtain⟨_,_,_,_,_,_,h2⟩:=a.choose_spec;rw[FO h2 h1]
theorem Sd {p:zv}{S:Nat->ql}(h:∀ k,¬ De p n S x len hei k):BZ p n S x len hei=none:=by
 unfold BZ;rw[dif_neg (λ⟨k,hk⟩=>h k hk)]
theorem NV {p:zv}{S:Nat->ql}(h:BZ p n S x len hei=some k):De p n S x len hei k:=by
 unfold BZ at h
 split at h
 ·rename_i he
  have:=he.choose_spec;simp only[Option.some.injEq] at h;rw[h] at this;exact this
 ·cases h
noncomputable def GF (p:zv)(n:Nat)(S:Nat->ql)(x len hei:Int):Bool:=(BZ p n S x len hei).isSome
noncomputable def AJ (p:zv)(n:Nat)(S:Nat->ql)(x len hei:Int):Int:=((BZ p n S x len hei).getD 0:Nat)
noncomputable def Ea (p:zv)(n:Nat)(S:Nat->ql)(x len hei:Int):Nat:=if (BZ p n S x len hei).isSome then n+1 else 0
noncomputable def Ld (p:zv)(n:Nat)(S:Nat->ql)(x len hei:Int):Nat->ql:=QB S n (λ_=>⟨x,AJ p n S x len hei,len,hei⟩)
def GG (w':World)(base t:Nat)(p:zv)(n:Nat)(S:Nat->ql)(x len hei:Int)(e:Ending):Prop :=
 ∃ v,e=.returned (.tuple #[v,(AJ p n S x len hei),.bool (GF p n S x len hei)])/\w'.ownsRow base t 4 v (Ea p n S x len hei) (zH (Ld p n S x len hei) (Ea p n S x len hei))
theorem DE {p:zv}{S:Nat->ql}(h:∀ k,¬ De p n S x len hei k):GG w base t p n S x len hei (.returned (.tuple #[True,(),.bool false])):=by
 have:=Sd h;refine⟨.slice none 0 0,?_,?_⟩
 ·unfold AJ GF;rw[this];rfl
 ·unfold Ea;rw[this];exact⟨rfl,.inl ⟨rfl,rfl⟩⟩
theorem NW {p:zv}{S:Nat->ql}(h:De p n S x len hei k)
  (a:w.ownsRow base t 4 v (n+1) (zH (QB S n (λ_=>⟨x,(k:Int),len,hei⟩)) (n+1))):GG w base t p n S x len hei (.returned (.tuple #[v,(k:Int),.bool true])):=by
 have:=Iy h;refine⟨v,?_,?_⟩
 ·unfold AJ GF;rw[this];rfl
 ·unfold Ld AJ Ea;rw[this];exact a
theorem Hj {p:zv}{S:Nat->ql}(hk:k<p.n):Kc p (qN p S n) ⟨x,(k:Int),len,hei⟩↔(In x 1 9999/\In len 1 2000/\In hei 1 500/\hei<=p.B k/\len<=left p S n k):=by
 rw[Hh]
 constructor
 ·rintro⟨a,b,c,_,e,f⟩
  exact⟨a,b,c,e,f⟩
 ·rintro⟨a,b,c,e,f⟩
  exact⟨a,b,c,⟨by show _<=(k:Int);omega,by show(k:Int)<=_;omega⟩,e,f⟩
theorem Se {p:zv}{S:Nat->ql}(i:EM p n S)(q:n≠60)(m:¬ Qh (Zm S) n x)(d:k<p.n)(l:Kc p (qN p S n) ⟨x,(k:Int),len,hei⟩)
  (g:∀ j,j<k->¬ Kc p (qN p S n) ⟨x,(j:Int),len,hei⟩):De p n S x len hei k:=by
 obtain⟨a,b,c,e,f⟩:=(Hj d).1 l;exact⟨i,q,m,a,b,c,d,⟨e,f⟩,λj o h=>g j o ((Hj oM).2 ⟨a,b,c,h.1,h.2⟩)⟩
theorem PH {p:zv}{S:Nat->ql}(g:∀ j,j<p.n->¬ Kc p (qN p S n) ⟨x,(j:Int),len,hei⟩):∀ k,¬ De p n S x len hei k:=by
 rintro k ⟨_,_,_,a,b,c,d,⟨e,f⟩,_⟩;exact g k d ((Hj d).2 ⟨a,b,c,e,f⟩)
theorem Le {S S':Nat->ql}(k i:Nat)(h:∀ j,j<i->S' j=S j):FK S' k i=FK S k i:=by
 induction i with
 |zero=>rfl
 |succ i ih =>
  unfold FK;rw[ih (λj hj=>h j oM),h i oM]
theorem Lf {p:zv}{S S':Nat->ql}(i:Nat)(h:∀ j,j<i->S' j=S j):left p S' i=left p S i:=by
 funext k
 unfold left;rw[Le k i h]
theorem Hk {a:Nat->Int}(h:∀ j,j<n->a j=F j):Qh a n x↔Qh F n x :=
 ⟨λ⟨j,hj,e⟩=>⟨j,hj,by rw[← h j hj];exact e⟩,λ⟨j,hj,e⟩=>⟨j,hj,by rw[h j hj];exact e⟩⟩
theorem Lg {S T:Nat->ql}(h:i<n):QB S n T i=S i:=Jf h
theorem gf {S:Nat->ql}{s:ql}:QB S n (λ_=>s) n=s:=Je oM
theorem Sf {p:zv}{S:Nat->ql}(h:De p n S x len hei k) :
  EM p (n+1) (QB S n (λ_=>⟨x,(k:Int),len,hei⟩))/\Qh (Zm (QB S n (λ_=>⟨x,(k:Int),len,hei⟩))) (n+1) x/\Qb (Zm (QB S n (λ_=>⟨x,(k:Int),len,hei⟩))) x (n+1)=n:=by
 obtain⟨g,hn,m,h1,h2,h3,hk,⟨o,q⟩,_⟩:=h;have l:∀ j,_->Zm (QB S n (λ_=>⟨x,(k:Int),len,hei⟩)) j=Zm S j:=λj d=>by unfold Zm;rw[Lg d]
 have f:Zm (QB S n (λ_=>⟨x,(k:Int),len,hei⟩)) n=x:=by unfold Zm;rw[gf]
 refine⟨⟨g.1,by have:=g.2.1;omega,λi hi=>?_⟩,⟨n,Nat.lt_succ_self _,f⟩,Fv (Nat.lt_succ_self _) f (λj d=>by rw[l j d];exact λe=>m ⟨j,d,e⟩)⟩
 by_cases e:i=n
 ·subst e
  rw[gf,Lf i (λj d=>Lg d)]
  refine⟨λc=>m ((Hk l).1 c),h1,h2,h3,⟨by show _<=(k:Int);omega,by show(k:Int)<=_;omega⟩,o,q⟩
 ·have hi':i<n:=oM
  rw[Lg hi',Lf i (λj d=>Lg oM)]
  obtain⟨a,b⟩:=g.2.2 i hi';exact⟨λc=>a ((Hk (λj d=>l j oM)).1 c),b⟩
end
theorem Dh {S:Nat->ql}(h:i<r):ZN S r i=S i:=Jf h
theorem Eu {S:Nat->ql}(h:r<=i):ZN S r i=S (i+1):=Je oM
theorem Iz {S:Nat->ql}(h:Qh (Zm (ZN S r)) i x):Qh (Zm S) (i+1) x:=by
 obtain⟨j,hj,e⟩:=h
 by_cases c:j<r
 ·exact⟨j,by omega,by rw[← e];unfold Zm;rw[Dh c]⟩
 ·exact⟨j+1,by omega,by rw[← e];unfold Zm;rw[Eu oM]⟩
theorem NX (S:Nat->ql)(r k i:Nat)(h:r<=i):FK (ZN S r) k i+(if (S r).ln=(k:Int) then (S r).f else 0)=FK S k (i+1):=by
 induction i with
 |zero =>
  have e:r=0:=oM;subst e
  rfl
 |succ i ih =>
  by_cases c:r=i+1
  ·subst c
   rw[Le k _ (λj b=>Dh b)]
   rfl
  ·have a:=ih oM
   rw[FK,Eu (by omega:_)]
   rw[show FK S k _=_+_ from rfl,← a]
   omega
theorem NY {p:zv}{S:Nat->ql}(h:EM p (n+1) S)(hr:r<=n):EM p n (ZN S r):=by
 obtain⟨m,hn,g,l⟩:=(QQ p _ S).2 h;refine(QQ p n _).1 ⟨m,by omega,λi hi=>?_,λk o=>?_⟩
 ·by_cases c:i<r
  ·obtain⟨h1,h2,h3,d,e⟩:=g i oM
   unfold od;rw[Dh c];refine⟨h1,h2,h3,d,λf=>e ((Hk (λj hj=>?_)).1 f)⟩
   unfold Zm;rw[Dh oM]
  ·obtain⟨h1,h2,h3,d,e⟩:=g (i+1) oM
   unfold od;rw[Eu oM];exact⟨h1,h2,h3,d,λf=>e (Iz f)⟩
 ·have a:=l k o
  have b:=NX S r k n hr;have c:=(g r oM).2.2.1;unfold In at c;unfold left at a ⊢
  split at b <;> omega
theorem Mf {S:Nat->ql}(hr:r<=n)(b:(S r).e≠x):Qh (Zm (ZN S r)) n x↔Qh (Zm S) (n+1) x:=by
 refine⟨Iz,?_⟩;rintro⟨j,hj,e⟩
 by_cases c:j<r
 ·exact⟨j,by omega,by rw[← e];unfold Zm;rw[Dh c]⟩
 ·have a:j≠r:=λq=>b (by rw[← q];exact e)
  refine⟨j - 1,by omega,?_⟩
  rw[← e];unfold Zm;rw[Eu oM,show j - 1+1=j by omega]
theorem gg {B:Nat->Int}(m:Nat):∀ (n:Nat)(F:Nat->Int),EW P m=n->(∀ i,i<m->P i->Qh F n (B i))->(∀ i,i<m->∀ j,j<i->B j≠B i)->∀ j,j<n->∃ i,i<m/\P i/\B i=F j:=by
 induction m with
 |zero=>intro n F h _ _ j f;rw[EW] at h;omega
 |succ m ih =>
  intro n F h o l j f
  by_cases c:P m
  ·rw[Qs c] at h
   obtain⟨r,hr,p⟩:=o m oM c;obtain⟨n,rfl⟩:∃ n',n=n'+1:=⟨n - 1,by omega⟩
   have k:=ih n (ZG F r) oM (λi b a=>(Hg oM (λe=>l m oM i b (by rw[← e,p]))).2 (o i oM a)) (λi b j f=>l i oM j f)
   by_cases e:j=r
   ·exact⟨m,by omega,c,by rw[e,p]⟩
   ·by_cases d:j<r
    ·obtain⟨i,b,a,g⟩:=k j oM
     exact⟨i,by omega,a,by rw[g,AC d]⟩
    ·obtain⟨i,b,a,g⟩:=k (j - 1) oM
     exact⟨i,by omega,a,by rw[g,Bu oM,show j - 1+1=j by omega]⟩
  ·rw[QG c] at h
   obtain⟨i,b,a,g⟩:=ih n F h (λi b a=>o i oM a) (λi b j f=>l i oM j f) j f
   exact⟨i,by omega,a,g⟩
theorem qS.whos (h:qS o):∀ i,i<o.g->∀ j,j<i->(o.u j).e≠(o.u i).e:=λi a j b=>(h.2.2.2.2.1 i a).2.2.2.2.2.2.2.1 j b
theorem qS.seat_of (h:qS o)(d:k<o.i)(c:j<(o.F k).t):∃ i,i<o.g/\On o k i/\(o.u i).e=((o.F k).L j).e:=by
 obtain⟨l,_,_,a⟩:=h.2.2.2.2.2 k d;refine gg _ _ (ZZ _) a.symm (λi b f=>?_) h.whos j c
 obtain⟨q,g,e,_⟩:=(l i b f).1;exact⟨q,g,e⟩
theorem qS.stay_of (h:qS o)(f:k<o.i)(d:j<(o.F k).r):∃ i,i<o.g/\(On o k i/\0<(o.u i).f)/\(o.u i).e=((o.F k).K j).e:=by
 obtain⟨l,b,_,_⟩:=h.2.2.2.2.2 k f;refine gg _ _ (Zm _) b.symm (λi c a=>?_) h.whos j d
 rcases (l i c a.1).2.1 with e|⟨q,g,e,_⟩
 ·have:=a.2;omega
 ·exact⟨q,g,e⟩
theorem qS.room_of (h:qS o)(f:k<o.i)(d:j<(o.F k).m):∃ i,i<o.g/\(On o k i/\0<(o.u i).w)/\(o.u i).e=((o.F k).I j).e:=by
 obtain⟨l,_,b,_⟩:=h.2.2.2.2.2 k f;refine gg _ _ (Zl _) b.symm (λi c a=>?_) h.whos j d
 rcases (l i c a.1).2.2 with e|⟨q,g,e,_⟩
 ·have:=a.2;omega
 ·exact⟨q,g,e⟩
theorem qS.fresh (h:qS o)(f:∀ i,i<o.g->(o.u i).e≠x)(d:k<o.i) :
  ¬ Qh (ZZ (o.F k).L) (o.F k).t x/\¬ Qh (Zm (o.F k).K) (o.F k).r x/\¬ Qh (Zl (o.F k).I) (o.F k).m x:=by
 refine⟨?_,?_,?_⟩
 ·rintro⟨j,c,e⟩
  obtain⟨i,b,_,a⟩:=h.seat_of d c;exact f i b (a.trans e)
 ·rintro⟨j,c,e⟩
  obtain⟨i,b,_,a⟩:=h.stay_of d c;exact f i b (a.trans e)
 ·rintro⟨j,c,e⟩
  obtain⟨i,b,_,a⟩:=h.room_of d c;exact f i b (a.trans e)
theorem CO (h:∀ i,i<n->¬ Qh F i (F i))(f:Qh F n x):∃ r,r<n/\F r=x/\∀ j,j<n->j≠r->F j≠x:=by
 obtain⟨r,hr,e⟩:=f;refine⟨r,hr,e,λj b d a=>?_⟩
 by_cases c:j<r
 ·exact h r hr ⟨j,c,by rw[a,e]⟩
 ·exact h j b ⟨r,by omega,by rw[e,a]⟩
theorem qf.seats_one {x:zw}(h:qf s x):∀ i,i<x.t->¬ Qh (ZZ x.L) i (ZZ x.L i):=λi a=>(h.2.2.2.2.1 i a).2.1
theorem qf.stays_one {x:zw}(h:qf s x):∀ i,i<x.r->¬ Qh (Zm x.K) i (Zm x.K i):=λi a=>(h.1.2.2.1 i a).2.2.2.2
theorem qf.rooms_one {x:zw}(h:qf s x):∀ i,i<x.m->¬ Qh (Zl x.I) i (Zl x.I i):=λi a=>(h.2.1.2.2.1 i a).1.2.1
theorem qS.here (h:qS o)(d:k<o.i)(b:i<o.g)(f:On o k i) :
  Qh (ZZ (o.F k).L) (o.F k).t (o.u i).e/\(0<(o.u i).f->Qh (Zm (o.F k).K) (o.F k).r (o.u i).e)/\(0<(o.u i).w->Qh (Zl (o.F k).I) (o.F k).m (o.u i).e):=by
 obtain⟨h1,h2,h3⟩:=(h.2.2.2.2.2 k d).1 i b f;refine⟨?_,λc=>?_,λc=>?_⟩
 ·obtain⟨q,a,e,_⟩:=h1
  exact⟨q,a,e⟩
 ·rcases h2 with e|⟨q,a,e,_⟩
  ·omega
  ·exact⟨q,a,e⟩
 ·rcases h3 with e|⟨q,a,e,_⟩
  ·omega
  ·exact⟨q,a,e⟩
theorem Dj {S:Nat->zU}{r:zU}(h:j<n):Zu S n (λ_=>r) j=S j:=by unfold Zu;rw[Jf h]
theorem Li {S:Nat->zU}{r:zU}:Zu S n (λ_=>r) n=r:=by unfold Zu;rw[Je (Nat.lt_irrefl _)]
theorem gi {S:Nat->zU}{r:zU}:∀ i,i<=n->QA (Zu S n (λ_=>r)) k i=QA S k i:=by
 intro i
 induction i with
 |zero=>intro _;rfl
 |succ i ih =>
  intro hi;unfold QA;rw[ih oM,Dj oM]
theorem PI {p:zv}{S:Nat->zU}{r:zU}(h:i<=n):qZ p (Zu S n (λ_=>r)) i k=qZ p S i k:=by
 unfold qZ;rw[gi i h]
theorem Tv {S:Nat->zU}{r:zU}(h:i<=n):Qh (Zl (Zu S n (λ_=>r))) i x↔Qh (Zl S) i x:=by
 unfold Qh Zl
 constructor
 ·rintro⟨j,a,e⟩;exact⟨j,a,by rw[Dj oM] at e;exact e⟩
 ·rintro⟨j,a,e⟩;exact⟨j,a,by rw[Dj oM];exact e⟩
theorem GH {p:zv}{G:Nat->Int}{r:zU}(h:∀ k,F k=G k):Bh p F r->Bh p G r:=by
 unfold Bh;rw[h];exact λh=>h
theorem Sh {p:zv}{S:Nat->zU}{r:zU}(h:QF p n S)(m:In r.e 1 9999)(j:¬ Qh (Zl S) n r.e)(l:Bh p (qZ p S n) r):QF p (n+1) (Zu S n (λ_=>r)):=by
 have hf:=Nd h;obtain⟨g,_,d⟩:=IC h;refine IB ⟨g,by omega,λi hi=>?_⟩
 by_cases e:i=n
 ·subst e
  rw[Li];exact⟨m,λq=>j ((Tv (Jr _)).1 q),GH (λk=>(PI (Jr _)).symm) l⟩
 ·have f:i<n:=oM
  rw[Dj f];obtain⟨a,b,c⟩:=d i f;exact⟨a,λq=>b ((Tv oM).1 q),GH (λk=>(PI oM).symm) c⟩
theorem PJ (q:Option Addr)(n c:Nat)(p:zv)(w:World)(t:p.n=n)(hn:n<=1048576)(x:zJ w q p) :
  Calls prog 147 #[(q,n,c)] w λe w'=>qH (Ir p) e/\Below w w w':=by
 have g:=hI t;clear t
 by_cases h0:n<=4
 ·have r:decide (4<n)=false:=by simp;omega
  go_enter func147,ntmps147;go_wp2;go_loopw [4,10] (λ_ i wr=>∃ k,k<=n/\i=int i64 k/\(∀ j,j<k->In (p.A j) 1 5000/\In (p.B j) 100 500)/\Below w w wr) (λ_ i _=>n - (intOf i).toNat)
  case atStart=>exact⟨0,Jq _,rfl,λj m=>by omega,bZ⟩
  case round =>
   obtain⟨k,hk,rfl,f,d⟩:=hrel;have o:=hI f;clear f r
   by_cases hlt:k<n
   ·obtain⟨b,off,rfl,h1,h2⟩:=x k (by rw[g.out];omega)
    have s:=Ja w _ h1;have c1:=tR d h1 s;have c2:=tR d h2 s;clear h1 h2
    by_cases g1:In (p.A k) 1 5000
    ·have u:=Jd g1
     by_cases g2:In (p.B k) 100 500
     ·have v:=Jd g2
      have l:Hid (_/\_):=⟨g1,g2⟩;clear g1 g2;go_wp2_with (first|(go_at_call 148;refine bM (zt _ _ _ _) λw' a=>?_;have a:=a.symm;subst a))
      go_roundw
      case rel=>exact⟨k+1,by omega,by go_num,λj m=>by
       by_cases e:j=k
       ·subst e;exact l
       ·exact o j oM,zd d _⟩
      case measure=>simp[intOf];omega
     ·have v:=Jc g2
      have l:=hI g2;clear g1 g2;go_wp2_with (first|(go_at_call 148;refine bM (zt _ _ _ _) λw' a=>?_;have a:=a.symm;subst a))
      go_ret;exact⟨zh (λh=>l (h.2 k (by rw[g.out];exact hlt)).2),zd d _⟩
    ·have u:=Jc g1
     have l:=hI g1;clear g1;go_wp2_with (first|(go_at_call 148;refine bM (zt _ _ _ _) λw' a=>?_;have a:=a.symm;subst a))
     go_ret;exact⟨zh (λh=>l (h.2 k (by rw[g.out];exact hlt)).1),zd d _⟩
   ·obtain rfl:k=n:=by omega
    go_wp2;go_ret;exact⟨zN ⟨by rw[g.out];exact h0,λj m=>o j (by rw[g.out] at m;exact m)⟩,d⟩
 ·have r:decide (4<n)=true:=by simp;omega
  go_enter func147,ntmps147;go_wp2;go_ret;exact⟨zh (λh=>by have:=h.1;rw[g.out] at this;exact h0 this),bZ⟩
theorem Nf (l:Option Addr)(n c:Nat)(S:Nat->ql)(x:Int)(w:World)(hn:n<=1048576)(r:qx w l n S) :
  Calls prog 149 #[(l,n,c),x] w λe w'=>qH (Qh (Zm S) n x) e/\Below w w w':=by
 go_enter func149,ntmps149;go_wp2;go_loopw [6,9] (λ_ i wr=>∃ k,k<=n/\i=int i64 k/\(∀ j,j<k->Zm S j≠x)/\Below w w wr) (λ_ i _=>n - (intOf i).toNat)
 case atStart=>exact⟨0,Jq _,rfl,λj q=>by omega,bZ⟩
 case round =>
  obtain⟨k,hk,rfl,d,a⟩:=hrel;have h:=hI d;clear d
  by_cases hlt2:k<n
  ·obtain⟨b,off,rfl,g,h1,h2,h3⟩:=r k hlt2
   have p:=Ja w _ g;obtain⟨c0,c1,c2,c3⟩:=OP a g h1 h2 h3 p;clear g h1 h2 h3
   by_cases he:Zm S k=x
   ·have o:((S k).e == x)=true:=by unfold Zm at he;simpa using he
    have f:Hid (Qh _ n x):=⟨k,hlt2,he⟩;clear he;go_wp2;go_ret;exact⟨zN f,zd a _⟩
   ·have o:((S k).e == x)=false:=by unfold Zm at he;simpa using he
    have m:Hid (_≠x):=he;clear he;go_wp2;go_roundw
    case rel=>exact⟨k+1,by omega,by go_num,λj q=>by
     by_cases e:j=k
     ·subst e;exact m
     ·exact h j oM,zd a _⟩
    case measure=>simp[intOf];omega
  ·obtain rfl:k=n:=by omega
   have f:=hI (DC h);go_wp2;go_ret;exact⟨zh f,a⟩
theorem Lk (G bo:Option Addr)(m Z n c:Nat)(p:zv)(S:Nat->ql)(w:World)(z:p.n=m)(x:Ir p)(hn:n<=60)(J:∀ j,j<n->In (S j).f 1 2000)(L:zJ w G p)(M:qx w bo n S) :
  Calls prog 150 #[(G,m,Z),(bo,n,c)] w λe w'=>(∃ v,e=.returned v/\w'.ownsRow w 3 1 v m (qp (left p S n) m))/\Below w w w':=by
 obtain⟨X,Y,B,C,D⟩:=info_parts Tryz.infoInt;have o:=hI z;have E:=hI x;have F:=hI J;have Q:=hI L;have R:=hI M;have U:m<=4:=by rw[← z];exact x.1
 clear z x J L M;go_enter func150,ntmps150;go_wp2;go_loopw [5,6,7,8,10,13,20,21,22] (λv _ _ _ _ i _ _ _ wr=>∃ k,k<=m/\i=int i64 k/\wr.ownsRow w 3 1 v k (qp (left p S n) k)/\Below w w wr) (λ_ _ _ _ _ i _ _ _ _=>m - (intOf i).toNat)
 case atStart=>exact⟨0,Jq _,rfl,⟨rfl,.inl ⟨rfl,rfl⟩⟩,bZ⟩
 case round =>
  obtain⟨k,hk,rfl,g,f⟩:=hrel
  by_cases hlt:k<m
  ·obtain⟨b,off,rfl,h1,h2⟩:=Q k (by rw[o.out];exact hlt)
   have H:=Ja w _ h1;have c1:=tR f h1 H;have c2:=tR f h2 H;have HA:=hI (E.2 k (by rw[o.out];exact hlt)).1
   clear h1 h2;go_wp2;go_loopw [8,10,22] (λs8 _ i O=>∃ t,t<=n/\i=int i64 t/\s8=int i64 (left p S t k)/\O.ownsRow w 3 1 u5 k (qp (left p S n) k)/\Below w w O) (λ_ _ i _=>n - (intOf i).toNat)
   case atStart=>exact⟨0,Jq _,rfl,by rw[RX],zm (zd bZ _) g,zd f _⟩
   case round =>
    obtain⟨t,ht,rfl,rfl,d,a⟩:=hrel;clear g f c1 c2
    by_cases hlt2:t<n
    ·obtain⟨b2,N,rfl,r,h1,h2,h3⟩:=R t hlt2
     have s:=Ja w _ r;obtain⟨c0,c1,c2,c3⟩:=OP a r h1 h2 h3 s;clear r h1 h2 h3
     by_cases he:(S t).ln=(k:Int)
     ·have T:((S t).ln == (k:Int))=true:=by simpa using he
      have l:=hI he;have W:IntKind.i64.wrap (left p S t k - (S t).f)=left p S t k - (S t).f:=by
       have h1:=Iu E (show t<=60 by omega) (λj I=>F j oM) (show k<p.n by rw[o.out];exact hlt)
       have h2:=F t hlt2;unfold In at h2;rw[Jk];omega
      clear he;go_wp2;go_roundw
      case rel=>exact⟨t+1,by omega,by go_num,by rw[GE p S t k l.out],zm (zd bZ _) d,zd a _⟩
      case measure=>simp[intOf];omega
     ·have T:((S t).ln == (k:Int))=false:=by simpa using he
      have l:Hid (_≠_):=he;clear he;go_wp2;go_roundw
      case rel=>exact⟨t+1,by omega,by go_num,by rw[Kl p S t k l.out],zm (zd bZ _) d,zd a _⟩
      case measure=>simp[intOf];omega
    ·obtain rfl:t=n:=by omega
     have V:=a.size;have P:Hid (∀ q,(some (wr.heap.size,0):Option Addr)=some q->∀ j u,[Value.int .i64 (left p S t k)][j]?=some u->(wr.alloc (.cells #[(left p S t k)] 3)).cell? (q.add j)=some u):=by
      intro q e
      cases e
      exact Jo (Jb wr _)
     go_wp2_with (first|(at_builtin;refine zu _ rfl _ _ 27 rfl _ 3 X _ 1 8 underlying27 Y B C D rfl dC _ k _ (by rfl) (d.alloc _) _ 1 1 _ rfl (λh=>(by cases h)) rfl P (by intro u K;simp at K;subst K;rfl) (by unfold maxLen;omega) oM (by simp;omega) ?_;intro v' w3 A y))
     go_roundw
     case rel=>exact⟨k+1,by omega,by go_num,by rw[Gp];exact A,(zd a _).grown y (by simp;omega) (λj I=>(d.lt j I).1)⟩
     case measure=>simp[intOf];omega
  ·obtain rfl:k=m:=by omega
   go_wp2;go_ret;exact⟨⟨_,rfl,g⟩,f⟩
def Lq (x d a mo:Int)(fr tt:ByteArray)(n m:Nat):Prop :=
 In x 1 99/\Z7 fr/\Z7 tt/\fr≠tt/\In d 0 10000/\In a (d+1) 10000/\n<=4/\m<=6/\In mo 0 500
theorem Oq {d a mo:Int}{fr tt:ByteArray}{m:Nat}{c e:zv}(l:c.n=n)(o:e.n=m):Ql ⟨x,fr,tt,d,a,c,e,mo⟩↔Lq x d a mo fr tt n m/\(∀ k,k<n->In (c.A k) 1 5000/\In (c.B k) 100 500)/\(∀ k,k<m->In (e.A k) 1 3/\In (e.B k) 1 4):=by
 subst l o;unfold Ql Lq Bk In;simp only
 constructor
 ·rintro⟨h1,h2,h3,g,h,j,i,h8,h9,b⟩
  exact⟨⟨h1,h2,h3,g,⟨h,by omega⟩,⟨by omega,i⟩,h8.1,h9.1,b⟩,h8.2,h9.2⟩
 ·rintro⟨⟨h1,h2,h3,g,h,j,i,h8,h9⟩,b,f⟩
  exact⟨h1,h2,h3,g,h.1,by omega,j.2,⟨i,b⟩,⟨h8,f⟩,h9⟩
theorem AU (x d a mo:Int)(fr tt:ByteArray)(lo D:Option Addr)(n m c1 c2:Nat)(B C:zv)(w:World)(y:B.n=n)(z:C.n=m)(g:fr.size<=1000000000000000)(l:tt.size<=1000000000000000)(hn:n<=1048576)(hm:m<=1048576)(Y:zJ w lo B)(Z:zJ w D C) :
  Calls prog 146 #[.agg #[x,fr,tt,d,a,(lo,n,c1),(D,m,c2),mo]] w λe w'=>qH (Ql ⟨x,fr,tt,d,a,B,C,mo⟩) e/\Below w w w':=by
 have f:Below _ w (w.alloc (.cells #[x,fr,tt,d,a,(lo,n,c1),(D,m,c2),mo] 140)):=zd bZ _;have R:=Jb w (.cells #[x,fr,tt,d,a,(lo,n,c1),(D,m,c2),mo] 140);have V:=hI y;have W:=hI z;have E:=Oq (x:=x) (d:=d) (a:=a) (mo:=mo) (fr:=fr) (tt:=tt) y z;have r:=hI E;clear y z E
 by_cases g1:In x 1 99
 case neg =>
  have F:=Jc g1;have o:Hid (¬ _):=λh=>g1 ((λh=>h.1) (r.1 h).1)
  clear g1;go_enter func146,ntmps146;go_wp2_with (first|(go_at_call 148;refine bM (zt _ _ _ _) λw' c=>?_;have c:=c.symm;subst c)|(go_at_call 156;refine bM (Zz _ _ (by first|exact g|exact l)) λw' c=>?_;have c:=c.symm;subst c))
  go_ret;exact⟨zh o,f⟩
 have F:=Jd g1
 by_cases g2:Z7 fr
 case neg =>
  have G:=Jc g2;have o:Hid (¬ _):=λh=>g2 ((λh=>h.2.1) (r.1 h).1)
  clear g1 g2;go_enter func146,ntmps146;go_wp2_with (first|(go_at_call 148;refine bM (zt _ _ _ _) λw' c=>?_;have c:=c.symm;subst c)|(go_at_call 156;refine bM (Zz _ _ (by first|exact g|exact l)) λw' c=>?_;have c:=c.symm;subst c))
  go_ret;exact⟨zh o,f⟩
 have G:=Jd g2
 by_cases g3:Z7 tt
 case neg =>
  have H:=Jc g3;have o:Hid (¬ _):=λh=>g3 ((λh=>h.2.2.1) (r.1 h).1)
  clear g1 g2 g3;go_enter func146,ntmps146;go_wp2_with (first|(go_at_call 148;refine bM (zt _ _ _ _) λw' c=>?_;have c:=c.symm;subst c)|(go_at_call 156;refine bM (Zz _ _ (by first|exact g|exact l)) λw' c=>?_;have c:=c.symm;subst c))
  go_ret;exact⟨zh o,f⟩
 have H:=Jd g3
 by_cases g4:fr≠tt
 case neg =>
  have I:=Fa.2 (by simpa using g4)
  have o:Hid (¬ _):=λh=>g4 ((λh=>h.2.2.2.1) (r.1 h).1)
  clear g1 g2 g3 g4;go_enter func146,ntmps146;go_wp2_with (first|(go_at_call 148;refine bM (zt _ _ _ _) λw' c=>?_;have c:=c.symm;subst c)|(go_at_call 156;refine bM (Zz _ _ (by first|exact g|exact l)) λw' c=>?_;have c:=c.symm;subst c))
  go_ret;exact⟨zh o,f⟩
 have I:=Gu.2 g4
 by_cases g5:In d 0 10000
 case neg =>
  have J:=Jc g5;have o:Hid (¬ _):=λh=>g5 ((λh=>h.2.2.2.2.1) (r.1 h).1)
  clear g1 g2 g3 g4 g5;go_enter func146,ntmps146;go_wp2_with (first|(go_at_call 148;refine bM (zt _ _ _ _) λw' c=>?_;have c:=c.symm;subst c)|(go_at_call 156;refine bM (Zz _ _ (by first|exact g|exact l)) λw' c=>?_;have c:=c.symm;subst c))
  go_ret;exact⟨zh o,f⟩
 have J:=Jd g5;have Q:IntKind.i64.wrap (d+1)=d+1:=by have:=g5.1;have:=g5.2;rw[Jk];omega
 by_cases g6:In a (d+1) 10000
 case neg =>
  have K:=Jc g6;have o:Hid (¬ _):=λh=>g6 ((λh=>h.2.2.2.2.2.1) (r.1 h).1)
  clear g1 g2 g3 g4 g5 g6;go_enter func146,ntmps146;go_wp2_with (first|(go_at_call 148;refine bM (zt _ _ _ _) λw' c=>?_;have c:=c.symm;subst c)|(go_at_call 156;refine bM (Zz _ _ (by first|exact g|exact l)) λw' c=>?_;have c:=c.symm;subst c))
  go_ret;exact⟨zh o,f⟩
 have K:=Jd g6
 by_cases g7:n<=4
 case neg =>
  have L:decide (4<n)=true:=by simp;omega
  have o:Hid (¬ _):=λh=>g7 ((λh=>h.2.2.2.2.2.2.1) (r.1 h).1)
  clear g1 g2 g3 g4 g5 g6;go_enter func146,ntmps146;go_wp2_with (first|(go_at_call 148;refine bM (zt _ _ _ _) λw' c=>?_;have c:=c.symm;subst c)|(go_at_call 156;refine bM (Zz _ _ (by first|exact g|exact l)) λw' c=>?_;have c:=c.symm;subst c))
  go_ret;exact⟨zh o,f⟩
 have L:decide (4<n)=false:=by simp;omega
 by_cases g8:m<=6
 case neg =>
  have M:decide (6<m)=true:=by simp;omega
  have o:Hid (¬ _):=λh=>g8 ((λh=>h.2.2.2.2.2.2.2.1) (r.1 h).1)
  clear g1 g2 g3 g4 g5 g6;go_enter func146,ntmps146;go_wp2_with (first|(go_at_call 148;refine bM (zt _ _ _ _) λw' c=>?_;have c:=c.symm;subst c)|(go_at_call 156;refine bM (Zz _ _ (by first|exact g|exact l)) λw' c=>?_;have c:=c.symm;subst c))
  go_ret;exact⟨zh o,f⟩
 have M:decide (6<m)=false:=by simp;omega
 by_cases g9:In mo 0 500
 case neg =>
  have N:=Jc g9;have o:Hid (¬ _):=λh=>g9 ((λh=>h.2.2.2.2.2.2.2.2) (r.1 h).1)
  clear g1 g2 g3 g4 g5 g6 g9;go_enter func146,ntmps146;go_wp2_with (first|(go_at_call 148;refine bM (zt _ _ _ _) λw' c=>?_;have c:=c.symm;subst c)|(go_at_call 156;refine bM (Zz _ _ (by first|exact g|exact l)) λw' c=>?_;have c:=c.symm;subst c))
  go_ret;exact⟨zh o,f⟩
 have N:=Jd g9;have X:Hid (Lq x d a mo fr tt n m):=⟨g1,g2,g3,g4,g5,g6,g7,g8,g9⟩;clear g1 g2 g3 g4 g5 g6 g9;go_enter func146,ntmps146;go_wp2_with (first|(go_at_call 148;refine bM (zt _ _ _ _) λw' c=>?_;have c:=c.symm;subst c)|(go_at_call 156;refine bM (Zz _ _ (by first|exact g|exact l)) λw' c=>?_;have c:=c.symm;subst c))
 go_loopw [4,66] (λ_ i wr=>∃ k,k<=n/\i=int i64 k/\(∀ j,j<k->In (B.A j) 1 5000/\In (B.B j) 100 500)/\Below (w.alloc (.cells #[x,fr,tt,d,a,(lo,n,c1),(D,m,c2),mo] 140)).heap.size (w.alloc (.cells #[x,fr,tt,d,a,(lo,n,c1),(D,m,c2),mo] 140)) wr) (λ_ i _=>n - (intOf i).toNat)
 case atStart=>exact⟨0,Jq _,rfl,λj P=>by omega,bZ⟩
 case round =>
  obtain⟨k,hk,rfl,p,s⟩:=hrel;have T:=hI p;have S:=za R s;have A:=s;have t:=zb f s;clear p F G H I J K L M N Q f R s
  by_cases hlt:k<n
  ·obtain⟨b,off,rfl,h1,h2⟩:=Y k (by rw[V.out];omega)
   have O:=Ja w _ h1;have c1:=tR t h1 O;have c2:=tR t h2 O;clear h1 h2
   by_cases g1:In (B.A k) 1 5000
   ·have y:=Jd g1
    by_cases g2:In (B.B k) 100 500
    ·have z:=Jd g2
     have v:Hid (_/\_):=⟨g1,g2⟩;clear g1 g2;go_wp2_with (first|(go_at_call 148;refine bM (zt _ _ _ _) λw' c=>?_;have c:=c.symm;subst c))
     go_roundw
     case rel=>exact⟨k+1,by omega,by go_num,λj P=>by
      by_cases e:j=k
      ·subst e;exact v
      ·exact T j oM,zd A _⟩
     case measure=>simp[intOf];omega
    ·have z:=Jc g2
     have v:=hI g2;clear g1 g2;go_wp2_with (first|(go_at_call 148;refine bM (zt _ _ _ _) λw' c=>?_;have c:=c.symm;subst c))
     go_ret;exact⟨zh (λh=>v ((r.1 h).2.1 k hlt).2),zd t _⟩
   ·have y:=Jc g1
    have v:=hI g1;clear g1;go_wp2_with (first|(go_at_call 148;refine bM (zt _ _ _ _) λw' c=>?_;have c:=c.symm;subst c))
    go_ret;exact⟨zh (λh=>v ((r.1 h).2.1 k hlt).1),zd t _⟩
  ·obtain rfl:k=n:=by omega
   have q6:=bC S 6;go_wp2;go_loopw [6,84] (λ_ i wx=>∃ k,k<=m/\i=int i64 k/\(∀ j,j<k->In (C.A j) 1 3/\In (C.B j) 1 4)/\Below w w wx) (λ_ i _=>m - (intOf i).toNat)
   case atStart=>exact⟨0,Jq _,rfl,λj P=>by omega,t⟩
   case round =>
    obtain⟨q,hq,rfl,p,u⟩:=hrel;have U:=hI p;clear p q6 S t
    by_cases hlt2:q<m
    ·obtain⟨b,off,rfl,h1,h2⟩:=Z q (by rw[W.out];omega)
     have O:=Ja w _ h1;have c1:=tR u h1 O;have c2:=tR u h2 O;clear h1 h2
     by_cases g1:In (C.A q) 1 3
     ·have y:=Jd g1
      by_cases g2:In (C.B q) 1 4
      ·have z:=Jd g2
       have v:Hid (_/\_):=⟨g1,g2⟩;clear g1 g2;go_wp2_with (first|(go_at_call 148;refine bM (zt _ _ _ _) λw' c=>?_;have c:=c.symm;subst c))
       go_roundw
       case rel=>exact⟨q+1,by omega,by go_num,λj P=>by
        by_cases e:j=q
        ·subst e;exact v
        ·exact U j oM,zd u _⟩
       case measure=>simp[intOf];omega
      ·have z:=Jc g2
       have v:=hI g2;clear g1 g2;go_wp2_with (first|(go_at_call 148;refine bM (zt _ _ _ _) λw' c=>?_;have c:=c.symm;subst c))
       go_ret;exact⟨zh (λh=>v ((r.1 h).2.2 q hlt2).2),zd u _⟩
     ·have y:=Jc g1
      have v:=hI g1;clear g1;go_wp2_with (first|(go_at_call 148;refine bM (zt _ _ _ _) λw' c=>?_;have c:=c.symm;subst c))
      go_ret;exact⟨zh (λh=>v ((r.1 h).2.2 q hlt2).1),zd u _⟩
    ·obtain rfl:q=m:=by omega
     go_wp2;go_ret;exact⟨zN (r.2 ⟨X,T,U⟩),u⟩
theorem PP (B:Option Addr)(N c:Nat)(S:Nat->qe)(w:World)(hN:N<=1048576)(O:Qz N S 1048576)(Q:qy w B N S) :
  Calls prog 81 #[(B,N,c)] w λe w'=>qH (At N S) e/\Below w w w':=by
 have U:=hI O;clear O
 by_cases h6:N<=6
 ·have I:decide (6<N)=false:=by simp;omega
  go_enter func81,ntmps81;go_wp2;go_loopw [3,4,10] (λ_ _ i wr=>∃ k,k<=N/\i=int i64 k/\(∀ j,j<k->Ql (S j)/\(0<j->(S (j - 1)).S<(S j).S))/\Below w w wr) (λ_ _ i _=>N - (intOf i).toNat)
  case atStart=>exact⟨0,Jq _,rfl,λj Z=>by omega,bZ⟩
  case round =>
   obtain⟨k,hk,rfl,p,l⟩:=hrel;have F:=hI p;clear p I
   by_cases hlt:k<N
   ·have G:Hid (0<k->∀ b off,B=some ⟨b,off,none⟩->w.cell? ⟨b,off+(k - 1)*8,none⟩=some (int i64 (S (k - 1)).S)):=by
     intro h b off e;obtain⟨b',T,_,_,_,_,C,g,_⟩:=Q (k - 1) oM;rw[e] at C;simp only[Option.some.injEq,Addr.mk.injEq,and_true] at C;obtain⟨rfl,rfl⟩:=C;exact g
    obtain⟨b,off,la,R,ca,H,rfl,J,h1,h2,h3,K,L,s,M,h8,h9,_,_⟩:=Q k hlt;have z:=hI (λh=>G h b off rfl)
    clear G;have D:=Ja w _ h1;obtain⟨V,c1,c2,c3,c4,c5,c6,c7⟩:=OR l J h1 h2 h3 K L s M D;obtain⟨s1,s2,u,x⟩:=U k hlt;have m:(S k).U.size<=1000000000000000:=oM;have n:(S k).dst.size<=1000000000000000:=oM;clear s1 s2;have d:=zd l (.cells (S k,la,R,ca,H) 140);have a:=Jb wr (.cells (S k,la,R,ca,H) 140);clear J h1 h2 h3 K L s M;go_upto_region 6 with fail;generalize hW:wr.alloc _=W at d a ⊢;clear hW;have a4:=zD a;have z0:=gC a 0;have z1:=gC a 1;have z2:=gC a 2;have z3:=gC a 3;have z4:=gC a 4;have z5:=gC a 5;have z6:=gC a 6;have z7:=gC a 7;have Y:b<W.heap.size:=Nat.lt_of_lt_of_le D d.size;clear V c1 c2 c3 c4 c5 c6 c7 a;go_cut [10,32] (λi c wx=>i=int i64 k/\Kr (Ql (S k)/\(0<k->(S (k - 1)).S<(S k).S)) c/\Below w w wx)
    case first =>
     by_cases hg:Ql (S k)
     ·have o:=hI hg
      clear hg
      by_cases k0:k=0
      ·subst k0
       refine ze kR kR ?_
       repeat(go_big_quiet_step ((rename_i g;go_at_call 146;refine zr (v:=.bool true) ((AU _ _ _ _ _ _ _ _ _ _ _ _ _ _ _ rfl rfl m n u x (h8.j0 (zb d g.o)) (h9.j0 (zb d g.o))).mono ?_);rintro e E ⟨⟨bb,rfl,r⟩,f⟩;obtain rfl:=r.2 o;exact⟨rfl,f⟩)))
       refine Jl ?_;rintro _ ⟨g,rfl⟩;go_wp2;go_meet;exact⟨rfl,Ag ⟨o,λh=>by omega⟩,zb d g.o⟩
      ·have d0:decide (0<k)=true:=by simp;omega
       have a0:((k:Int) - 1).toNat=k - 1:=oM;have a1:(k:Int) - 1<(N:Int):=oM;have a2:(0:Int)<=(k:Int) - 1:=oM;have a3:IntKind.i64.wrap ((k:Int) - 1)=(k:Int) - 1:=by rw[Jk];omega
       have y0:=gW d (z oM) D
       by_cases hle:(S k).S<=(S (k - 1)).S
       ·have X:decide ((S k).S<=(S (k - 1)).S)=true:=by simpa using hle
        refine ze kR kR ?_
        repeat(go_big_quiet_step ((rename_i g;go_at_call 146;refine zr (v:=.bool true) ((AU _ _ _ _ _ _ _ _ _ _ _ _ _ _ _ rfl rfl m n u x (h8.j0 (zb d g.o)) (h9.j0 (zb d g.o))).mono ?_);rintro e E ⟨⟨bb,rfl,r⟩,f⟩;obtain rfl:=r.2 o;exact⟨rfl,f⟩)))
        refine Jl ?_;rintro _ ⟨g,rfl⟩;go_wp2;go_meet;exact⟨rfl,Q4 (λh=>by have:=h.2 oM;omega),zb d g.o⟩
       ·have X:decide ((S k).S<=(S (k - 1)).S)=false:=by simpa using hle
        refine ze kR kR ?_
        repeat(go_big_quiet_step ((rename_i g;go_at_call 146;refine zr (v:=.bool true) ((AU _ _ _ _ _ _ _ _ _ _ _ _ _ _ _ rfl rfl m n u x (h8.j0 (zb d g.o)) (h9.j0 (zb d g.o))).mono ?_);rintro e E ⟨⟨bb,rfl,r⟩,f⟩;obtain rfl:=r.2 o;exact⟨rfl,f⟩)))
        refine Jl ?_;rintro _ ⟨g,rfl⟩;go_wp2;go_meet;exact⟨rfl,Ag ⟨o,λ_=>by omega⟩,zb d g.o⟩
     ·have o:=hI hg
      clear hg;refine ze kR kR ?_
      repeat(go_big_quiet_step ((rename_i g;go_at_call 146;refine zr (v:=.bool false) ((AU _ _ _ _ _ _ _ _ _ _ _ _ _ _ _ rfl rfl m n u x (h8.j0 (zb d g.o)) (h9.j0 (zb d g.o))).mono ?_);rintro e E ⟨⟨bb,rfl,r⟩,f⟩;obtain rfl:=Bool.eq_false_iff.2 (λe=>o (r.1 e));exact⟨rfl,f⟩)))
      refine Jl ?_;rintro _ ⟨g,rfl⟩;go_wp2;go_meet;exact⟨rfl,Q4 (λh=>o h.1),zb d g.o⟩
    case rest =>
     obtain⟨rfl,⟨t,rfl,P⟩,q⟩:=hcut;have A:=hI P;clear P z0 z1 z2 z3 z4 z5 z6 z7
     cases t with
     |true =>
      go_wp2;go_ret;exact⟨zh (λh=>by have:=A.2 (h.2 k hlt);cases this),q⟩
     |false =>
      have y:=A.1 rfl;have y:=hI y;clear A;go_wp2;go_roundw
      case rel=>exact⟨k+1,by omega,by go_num,λj Z=>by
       by_cases e:j=k
       ·subst e;exact y
       ·exact F j oM,q⟩
      case measure=>simp[intOf];omega
   ·obtain rfl:k=N:=by omega
    go_wp2;go_ret;exact⟨zN ⟨h6,F⟩,l⟩
 ·have I:decide (6<N)=true:=by simp;omega
  go_enter func81,ntmps81;go_wp2;go_ret;exact⟨zh (λh=>h6 h.1),bZ⟩
theorem EB (w:World)(o p:Obj):((w.alloc o).alloc p).heap[w.heap.size+1]?=some p:=by simpa using Jb (w.alloc o) p
theorem Qu (w:World)(o:Obj)(b:Nat)(h:b=w.heap.size):(w.alloc o).heap[b]?=some o:=by rw[h];exact Jb w o
theorem Fp {g:Nat}{u0 u1 u2:Value}(h:w.heap[g]?=some (.cells #[u0,u1,u2] t (0,0)))(v0 v1 v2:Value):(((w.setCell (g,0) v0).setCell (g,1) v1).setCell (g,2) v2).heap[g]?=some (.cells #[v0,v1,v2] t (0,0)):=by
 simpa using zk (zk (zk h 0 v0) 1 v1) 2 v2
theorem IP (w:World)(g:Nat)(v0 v1 v2:Value):zl w (((w.setCell (g,0) v0).setCell (g,1) v1).setCell (g,2) v2) (λb=>b=g):=(((zl.refl w (λb=>b=g)).set (a:=(g,0)) rfl v0).set (a:=(g,1)) rfl v1).set (a:=(g,2)) rfl v2
theorem Ms (n o p:Option Addr)(c1 c2 c3:Nat)(x:zw)(w:World)(hs:zw.Short x 1048576)(h1:qx w n x.r x.K)(h2:qn w o x.m x.I)(h3:qC w p x.t x.L)(s1:qm n x.r c1)(s2:qm o x.m c2)(s3:qm p x.t c3) :
  Calls prog 138 #[.agg #[(n,x.r,c1),(o,x.m,c2),(p,x.t,c3)]] w λe w'=>(∃ v1 v2 v3,e=.returned (.agg #[v1,v2,v3])/\w'.ownsRow w 220 4 v1 x.r (zH x.K x.r)/\w'.ownsRow w 228 4 v2 x.m (zF x.I x.m)/\w'.ownsRow w 234 2 v3 x.t (zL x.L x.t))/\Below w w w':=by
 obtain⟨i0,ii,V,W,Y⟩:=info_parts Tryz.infoStay;obtain⟨j0,ji,Z,a0,a4⟩:=info_parts Tryz.infoRoom;obtain⟨k0,ki,a5,a6,a7⟩:=info_parts Tryz.infoSeat;obtain⟨b1,b2,b3⟩:=hs;have R:=hI s1.2.2;have S:=hI s2.2.2;have T:=hI s3.2.2;have K:Hid (_/\_/\_):=⟨h1,h2,h3⟩;clear h1 h2 h3 s1 s2 s3;have l:Below _ w ((w.alloc (.cells #[(n,x.r,c1),(o,x.m,c2),(p,x.t,c3)] 145)).alloc (.cells #[True,True,True] 145)):=zd (zd bZ _) _;have y:=Cs l;have L:=EB w (.cells #[(n,x.r,c1),(o,x.m,c2),(p,x.t,c3)] 145) (.cells #[True,True,True] 145);go_enter func138,ntmps138;go_upto_region 1 with fail;generalize (w.alloc _).alloc _=X at l y L ⊢;have hX:=zD L;have O:Hid (∀ w',_->qx w' n _ _):=λw' h=>K.1.j0 (zb l h)
 have P:Hid (∀ w',_->qn w' o _ _):=λw' h=>K.2.1.j0 (zb l h)
 have Q:Hid (∀ w',_->qC w' p _ _):=λw' h=>K.2.2.j0 (zb l h)
 have KS:Hid (∀ w',Below _ X w'->w'.cell? _=some (.slice n _ c1)/\w'.cell? _=some (.slice o _ c2)/\w'.cell? _=some (.slice p _ c3)):=λw' h=>⟨bC (za y h) 0,bC (za y h) 1,bC (za y h) 2⟩
 have U:Hid (∀ z,Below _ X z->∀ v1 v2 v3 I,I=((z.setCell (w.heap.size+1,0) v1).setCell (w.heap.size+1,1) v2).setCell (w.heap.size+1,2) v3->I.cell? _=some (.slice n _ c1)/\I.cell? _=some (.slice o _ c2)/\I.cell? _=some (.slice p _ c3)):=λz N v1 v2 v3 I e=>by
  subst e;have b:=(IP z (w.heap.size+1) v1 v2 v3).blk (za y N) (by show _;omega)
  exact⟨bC b 0,bC b 1,bC b 2⟩
 have J:Hid (∀ w',Below _ X w'->_):=λw' h=>za L h
 have f:=hI l;obtain⟨x0,x1,x2⟩:=KS X bZ;have m:Hid (∀ z,Below _ X z->∀ v1 v2 v3,_->_->_->∀ A,A=((z.setCell (w.heap.size+1,0) v1).setCell (w.heap.size+1,1) v2).setCell (w.heap.size+1,2) v3 ->
   A.heap[w.heap.size+1]?=_/\(A.ownsRow _ 220 4 v1 x.r (zH x.K x.r)/\A.ownsRow _ 228 4 v2 x.m (zF x.I x.m)/\A.ownsRow _ 234 2 v3 x.t (zL x.L x.t))/\_):=λz N v1 v2 v3 o1 o2 o3 A e=>by
  subst e;have M:=IP z (w.heap.size+1) v1 v2 v3;have b:=J z N;have hB:=zb f N;exact⟨Fp b v1 v2 v3,⟨M.j1 (zo o1 f.size) (zQ (zo o1 f.size) b dC),M.j1 (zo o2 f.size) (zQ (zo o2 f.size) b dC),M.j1 (zo o3 f.size) (zQ (zo o3 f.size) b dC)⟩,zl.j0 hB hB.size M (λk e=>by have e:=e;omega)⟩
 clear y L l K;go_region_held3 (λw'=>w'.cell? (w.heap.size,0)=some (n,x.r,c1)/\w'.cell? (w.heap.size,1)=some (o,x.m,c2)/\w'.cell? (w.heap.size,2)=some (p,x.t,c3))
  (first|(with_reducible exact U.out u3 j.out _ _ _ _ rfl)|(with_reducible exact U.out u2 i.out _ _ _ _ rfl)|(with_reducible exact U.out u1 g.out _ _ _ _ rfl)|(refine KS.out _ ?_;exact(by repeat(first|exact bZ|refine Jh ?_|refine zd ?_ _|refine zb ?_ (zp a)|refine zb ?_ (zp c)|refine zb ?_ (zp d)))))
  (first
   |(refine zZ rfl _ _ 143 rfl 234 k0 _ 2 16 underlying143 ki a5 a6 a7 rfl dC X.heap.size _ rfl (by first | exact Jr _ | omega | (simp;done) | (simp;omega) | (have h1:=g.size;simp;omega) | (have h1:=g.size;omega) | (have h1:=i.size;simp;omega) | (have h1:=i.size;omega)) (by repeat(first | ((with_reducible refine Qu _ _ _ ?_);(first | rfl | (simp;done))) | with_reducible refine zK ?_ | with_reducible refine zg ?_ _ | with_reducible refine za ?_ (zp a) | with_reducible refine za ?_ (zp c))) p _ c3 _ rfl T (Zv _ _) (Bj (Q _ (by repeat(first | exact bZ | refine Jh ?_ | refine zd ?_ _ | refine zb ?_ (zp a) | refine zb ?_ (zp c) | refine zb ?_ (zp d))))) (AG _ _) (by unfold maxLen;omega) oM ?_;intro p3 q3 u3 d s H;clear H;have j:Hid (Below _ X u3):=(by repeat(first | exact bZ | refine Jh ?_ | refine zd ?_ _ | refine zb ?_ (zp a) | refine zb ?_ (zp c) | refine zb ?_ (zp d)));have v:=J u3 j;have y0:=bC v 0;have y1:=bC v 1;have y2:=bC v 2;have f0:=zc v 0;have f1:=zc v 1;have f2:=zc v 2;clear v;have E:=hI s;(first | (refine(λ(C:Hid (u3.ownsRow X 220 4 (p1,x.r,q1) x.r (zH x.K x.r)))=>?_) (zm ?_ q);rotate_left;(focus(repeat(first | exact bZ | refine Jh ?_ | refine zd ?_ _ | refine zb ?_ (zp d) | refine zb ?_ (zp c))))) | skip);(first | (refine(λ(D:Hid (u3.ownsRow X 228 4 (p2,x.m,q2) x.m (zF x.I x.m)))=>?_) (zm ?_ r);rotate_left;(focus(repeat(first | exact bZ | refine Jh ?_ | refine zd ?_ _ | refine zb ?_ (zp d) | refine zb ?_ (zp a))))) | skip))
   |(refine zZ rfl _ _ 142 rfl 228 j0 _ 4 32 underlying142 ji Z a0 a4 rfl dC X.heap.size _ rfl (by first | exact Jr _ | omega | (simp;done) | (simp;omega) | (have h1:=g.size;simp;omega) | (have h1:=g.size;omega) | (have h1:=j.size;simp;omega) | (have h1:=j.size;omega)) (by repeat(first | ((with_reducible refine Qu _ _ _ ?_);(first | rfl | (simp;done))) | with_reducible refine zK ?_ | with_reducible refine zg ?_ _ | with_reducible refine za ?_ (zp a) | with_reducible refine za ?_ (zp d))) o _ c2 _ rfl S (qW _ _) (QN (P _ (by repeat(first | exact bZ | refine Jh ?_ | refine zd ?_ _ | refine zb ?_ (zp a) | refine zb ?_ (zp c) | refine zb ?_ (zp d))))) (Qp _ _) (by unfold maxLen;omega) oM ?_;intro p2 q2 u2 c r G;clear G;have i:Hid (Below _ X u2):=(by repeat(first | exact bZ | refine Jh ?_ | refine zd ?_ _ | refine zb ?_ (zp a) | refine zb ?_ (zp c) | refine zb ?_ (zp d)));have u:=J u2 i;have y0:=bC u 0;have y1:=bC u 1;have y2:=bC u 2;have f0:=zc u 0;have f1:=zc u 1;have f2:=zc u 2;clear u;have D:=hI r;(first | (refine(λ(C:Hid (u2.ownsRow X 220 4 (p1,x.r,q1) x.r (zH x.K x.r)))=>?_) (zm ?_ q);rotate_left;(focus(repeat(first | exact bZ | refine Jh ?_ | refine zd ?_ _ | refine zb ?_ (zp c) | refine zb ?_ (zp d))))) | skip);(first | (refine(λ(E:Hid (u2.ownsRow X 234 2 (p3,x.t,q3) x.t (zL x.L x.t)))=>?_) (zm (w:=u3) ?_ s);rotate_left;(focus(repeat(first | exact bZ | refine Jh ?_ | refine zd ?_ _ | refine zb ?_ (zp c) | refine zb ?_ (zp a))))) | skip))
   |(refine zZ rfl _ _ 141 rfl 220 i0 _ 4 32 underlying141 ii V W Y rfl dC X.heap.size _ rfl (by first | exact Jr _ | omega | (simp;done) | (simp;omega) | (have h1:=i.size;simp;omega) | (have h1:=i.size;omega) | (have h1:=j.size;simp;omega) | (have h1:=j.size;omega)) (by repeat(first | ((with_reducible refine Qu _ _ _ ?_);(first | rfl | (simp;done))) | with_reducible refine zK ?_ | with_reducible refine zg ?_ _ | with_reducible refine za ?_ (zp c) | with_reducible refine za ?_ (zp d))) n _ c1 _ rfl R (Qg _ _) (AA (O _ (by repeat(first | exact bZ | refine Jh ?_ | refine zd ?_ _ | refine zb ?_ (zp a) | refine zb ?_ (zp c) | refine zb ?_ (zp d))))) (Ai _ _) (by unfold maxLen;omega) oM ?_;intro p1 q1 u1 a q F;clear F;have g:Hid (Below _ X u1):=(by repeat(first | exact bZ | refine Jh ?_ | refine zd ?_ _ | refine zb ?_ (zp a) | refine zb ?_ (zp c) | refine zb ?_ (zp d)));have t:=J u1 g;have y0:=bC t 0;have y1:=bC t 1;have y2:=bC t 2;have f0:=zc t 0;have f1:=zc t 1;have f2:=zc t 2;clear t;have C:=hI q;(first | (refine(λ(D:Hid (u1.ownsRow X 228 4 (p2,x.m,q2) x.m (zF x.I x.m)))=>?_) (zm (w:=u2) ?_ r);rotate_left;(focus(repeat(first | exact bZ | refine Jh ?_ | refine zd ?_ _ | refine zb ?_ (zp a) | refine zb ?_ (zp d))))) | skip);(first | (refine(λ(E:Hid (u1.ownsRow X 234 2 (p3,x.t,q3) x.t (zL x.L x.t)))=>?_) (zm (w:=u3) ?_ s);rotate_left;(focus(repeat(first | exact bZ | refine Jh ?_ | refine zd ?_ _ | refine zb ?_ (zp a) | refine zb ?_ (zp c))))) | skip)))
 all_goals
  first
   |(have B:=hI (m u3 j _ _ _ C D E _ rfl))
   |(have B:Hid _:=m u2 i _ _ _ C D E _ rfl)
   |(have B:Hid _:=m u1 g _ _ _ C D E _ rfl)
  go_wp2;have rF:=B.1;obtain⟨t0,t1,t2⟩:=ZE rF;exact Jj (by simp[results,results138,go_sem,t0,t1,t2]) rfl ⟨⟨_,_,_,rfl,B.2.1⟩,B.2.2⟩
end Go.Proofs.YtmdnjgihooflfaaGreatDoor
