/-
  OWN TEXT: FitS0, KitZ, DrawLi, KitFs, KitWs.
-/
import Derived.Deep.RegionHeld3
import Derived.Test.YtfallpinmhbemaaGreatDoorB12
namespace Go.Proofs.YtfallpinmhbemaaGreatDoor
open Go.RowKit
open Go.Value (int)
open Go.IntKind (i64)
set_option maxHeartbeats 64000000
set_option maxRecDepth 100000
theorem ZP (m:Option Addr)(N c:Nat)(S:Nat->Sail)(x:Int)(w:World)(hN:N<=1048576)(z:SailsAt w m N S) :
  Calls Tryz.prog 110 #[.slice m N c,int i64 x] w fun e w'=>((qo S x N<N/\e=.returned (int i64 (qo S x N)))∨(qo S x N=N/\e=.returned (int i64 (-1))))/\Below w.heap.size w w':=by
 go_enter Tryz.func110,Tryz.ntmps110;go_wp2;go_loopw [5,6,9] (fun _ _ i A=>∃ k:Nat,k<=N/\i=int i64 k/\(∀ j,j<k->(S j).id≠x)/\Below w.heap.size w A) (fun _ _ i _=>N - (intOf i).toNat)
 case atStart=>exact⟨0,Nat.zero_le _,rfl,fun j y=>by omega,bZ⟩
 case round =>
  obtain⟨k,hk,rfl,d,a⟩:=hrel;have h:=hI d;clear d
  by_cases hlt:k<N
  ·obtain⟨b,off,la,lc,ca,cc,rfl,n,l,o,q,r,s,t,h7,_,_,_,_⟩:=z k hlt
   have f:=World.block_lt_of_cell? w _ l;have c0:=(a.cell (p:=⟨b,off+k*8,none⟩) f).trans n;have c1:=(a.cell (p:=⟨b,off+k*8+1,none⟩) f).trans l;have c2:=(a.cell (p:=⟨b,off+k*8+2,none⟩) f).trans o;have c3:=(a.cell (p:=⟨b,off+k*8+3,none⟩) f).trans q;have c4:=(a.cell (p:=⟨b,off+k*8+4,none⟩) f).trans r;have c5:=(a.cell (p:=⟨b,off+k*8+5,none⟩) f).trans s;have c6:=(a.cell (p:=⟨b,off+k*8+6,none⟩) f).trans t;have c7:=(a.cell (p:=⟨b,off+k*8+7,none⟩) f).trans h7;clear n l o q r s t h7
   by_cases he:(S k).id=x
   ·have v:((S k).id == x)=true:=by simpa using he
    have g:=hI (findIx_is hlt he h.out);clear he;go_wp2;go_ret;exact⟨.inl ⟨by rw[g.out];exact hlt,by rw[g.out];rfl⟩,zr a _⟩
   ·have v:((S k).id == x)=false:=by simpa using he
    have u:=hI he;clear he;go_wp2;go_roundw
    case rel=>exact⟨k+1,by omega,by go_num,fun j y=>by
     by_cases e:j=k
     ·subst e;exact u.out
     ·exact h.out j (by omega),zr a _⟩
    case measure=>simp[intOf];omega
  ·obtain rfl:k=N:=by omega
   have g:=hI (zgJ h.out);go_wp2;go_ret;exact⟨.inr ⟨g.out,rfl⟩,a⟩
theorem zdh (F P:Option Addr)(N n c c':Nat)(S:Nat->Sail)(G:Nat->Int)(w:World)(hN:N<=1048576)(hn:n<=1048576)(H:SailsAt w F N S)(hy:IntsAt w P n G) :
  Calls Tryz.prog 99 #[.slice F N c,.slice P n c'] w fun e w'=>SaysIf (zba N S n G) e/\Below w.heap.size w w':=by
 by_cases o:In (n:Int) 1 3
 case neg =>
  have d3:decide (In (n:Int) 1 3)=false:=decide_eq_false o;have HN:Hid (¬ zba N S n G):=fun h=>o ⟨by have:=h.1;omega,by have:=h.2.1;omega⟩
  clear o;go_enter Tryz.func99,Tryz.ntmps99;go_wp2_with (first|(go_at_call 19;refine sC (zx _ _ _ _) ?_))
  go_ret;exact⟨zC HN.out,bZ⟩
 have d3:decide (In (n:Int) 1 3)=true:=decide_eq_true o;have J:Hid (1<=n/\n<=3):=⟨by have:=o.1;omega,by have:=o.2;omega⟩
 have a5:n<=3:=J.out.2;clear o;go_enter Tryz.func99,Tryz.ntmps99;go_wp2_with (first|(go_at_call 19;refine sC (zx _ _ _ _) ?_))
 go_loopw [5,6,7,8,15] (fun _ _ _ _ i wr=>∃ k:Nat,k<=n/\i=int i64 k/\(∀ j,j<k->LegOk N S G j)/\Below w.heap.size w wr) (fun _ _ _ _ i _=>n - (intOf i).toNat)
 case atStart=>exact⟨0,Nat.zero_le _,rfl,fun j hj=>by omega,bZ⟩
 case round =>
  obtain⟨k,hk,rfl,r,f⟩:=hrel;have K:=hI r;clear r d3
  by_cases hlt:k<n
  ·have V:Hid (0<k->∀ b off,P=some ⟨b,off,none⟩->w.cell? ⟨b,off+(k - 1),none⟩=some (int i64 (G (k - 1)))):=by
    intro h b off e;obtain⟨b',E,A,g⟩:=hy (k - 1) (by omega)
    rw[e] at A;simp only[Option.some.injEq,Addr.mk.injEq,and_true] at A;obtain⟨rfl,rfl⟩:=A;exact g
   obtain⟨I,l,rfl,T⟩:=hy k hlt;have L:Hid (0<k->w.cell? ⟨I,l+(k - 1),none⟩=some (int i64 (G (k - 1)))):=fun h=>V.out h I l rfl
   clear V;have D:=World.block_lt_of_cell? w _ T;have p0:=(f.cell (p:=⟨I,l+k,none⟩) D).trans T;clear T;go_wp2_with fail;refine(ZP F N c S (G k) _ hN (H.below f)).mono ?_;rintro e w2 ⟨U,B⟩;have d:=zj f B;clear B f p0
   rcases U with⟨t,rfl⟩|⟨t,rfl⟩
   ·obtain⟨x,v⟩:∃ x,x=qo S (G k) N:=⟨_,rfl⟩
    rw[← v] at t ⊢;have W:=hI v;clear v
    by_cases k0:k=0
    ·subst k0
     have Q:decide ((x:Int)<0)=false:=by simp
     go_wp2;go_roundw
     case rel=>exact⟨1,by omega,by go_num,fun j hj=>by
      obtain rfl:j=0:=by omega
      exact⟨by rw[← W.out];exact t,fun h=>by omega⟩,d⟩
     case measure=>simp[intOf];omega
    ·have Q:decide ((x:Int)<0)=false:=by simp
     have d0:decide (0<k)=true:=by simp;omega
     have a0:((k:Int) - 1).toNat=k - 1:=by omega
     have a1:(k:Int) - 1<(n:Int):=by omega
     have a2:(0:Int)<=(k:Int) - 1:=by omega
     have a3:IntKind.i64.wrap ((k:Int) - 1)=(k:Int) - 1:=by rw[IntKind.wrap_i64];omega
     have y0:=(d.cell (p:=⟨I,l+(k - 1),none⟩) D).trans (L.out (by omega))
     go_wp2_with fail;refine(ZP F N c S (G (k - 1)) _ hN (H.below d)).mono ?_;rintro e w3 ⟨U,C⟩;have a:=zj d C;have HP:Hid (qo S (G (k - 1)) N<N):=(K.out (k - 1) (by omega)).1
     clear C d y0 Q d0
     rcases U with⟨u,rfl⟩|⟨u,rfl⟩
     ·obtain⟨y,z⟩:∃ y,y=qo S (G (k - 1)) N:=⟨_,rfl⟩
      rw[← z] at u ⊢;have HY:=hI z;clear z;have x1:(x:Int)<(N:Int):=by omega
      have x0:(0:Int)<=(x:Int):=by omega
      have y1:(y:Int)<(N:Int):=by omega
      have y0:(0:Int)<=(y:Int):=by omega
      have M:=H x t;obtain⟨b,off,la,lc,ca,cc,rfl,Y,R,Z,h3,h4,h5,h6,h7,_,_,_,_⟩:=H y u;obtain⟨b',E,_,_,_,_,A,g0,X,g2,o,_⟩:=M;simp only[Option.some.injEq,Addr.mk.injEq,and_true] at A;obtain⟨rfl,rfl⟩:=A;have q:=World.block_lt_of_cell? w _ R;have c0:=(a.cell (p:=⟨b,off+y*8,none⟩) q).trans Y;have c1:=(a.cell (p:=⟨b,off+y*8+1,none⟩) q).trans R;have c2:=(a.cell (p:=⟨b,off+y*8+2,none⟩) q).trans Z;have c3:=(a.cell (p:=⟨b,off+y*8+3,none⟩) q).trans h3;have c4:=(a.cell (p:=⟨b,off+y*8+4,none⟩) q).trans h4;have c5:=(a.cell (p:=⟨b,off+y*8+5,none⟩) q).trans h5;have c6:=(a.cell (p:=⟨b,off+y*8+6,none⟩) q).trans h6;have c7:=(a.cell (p:=⟨b,off+y*8+7,none⟩) q).trans h7;have m:=zr a (.cells #[int i64 (S y).id,.string (S y).fr,.string (S y).dst,int i64 (S y).dep,int i64 (S y).arr,.slice la (S y).la.n lc,.slice ca (S y).ca.n cc,int i64 (S y).most] 37);have q1:=(m.cell (p:=⟨b,off+x*8+1,none⟩) q).trans X;have q3:=(m.cell (p:=⟨b,off+x*8+3,none⟩) q).trans o;clear Y R Z h3 h4 h5 h6 h7 g0 X g2 o;have s:Hid (((S y).dst=(S x).fr/\(S y).arr<=(S x).dep)↔LegOk N S G k):=by
       unfold LegOk;rw[← W.out,← HY.out];exact⟨fun h=>⟨t,fun _=>h⟩,fun h=>h.2 (by omega)⟩
      by_cases m1:(S y).dst=(S x).fr
      ·have e1:((S y).dst.toList == (S x).fr.toList)=true:=Q4.2 m1
       have O:=hI m1;clear m1
       by_cases m2:(S y).arr<=(S x).dep
       ·have e2:decide ((S x).dep<(S y).arr)=false:=by simpa using m2
        go_wp2;go_quiet (fail);go_wp2;go_roundw
        case rel=>exact⟨k+1,by omega,by go_num,fun j hj=>by
         by_cases e:j=k
         ·subst e;exact s.out.1 ⟨O.out,m2⟩
         ·exact K.out j (by omega),below_drewN m _⟩
        case measure=>simp[intOf];omega
       ·have e2:decide ((S x).dep<(S y).arr)=true:=by simpa using m2
        go_wp2;go_quiet (fail);go_wp2;go_ret;exact⟨zC (fun h=>by have:=(s.out.2 (h.2.2 k hlt)).2;omega),below_drewN m _⟩
      ·have e1:((S y).dst.toList == (S x).fr.toList)=false:=zaz.2 m1
       have O:=hI m1;clear m1;go_wp2;go_quiet (fail);go_wp2;go_ret;exact⟨zC (fun h=>O.out (s.out.2 (h.2.2 k hlt)).1),below_drewN m _⟩
     ·exfalso
      have:=HP.out
      omega
   ·have Q:decide ((-1:Int)<0)=true:=rfl
    have HF:=hI t;clear t;go_wp2;go_ret;exact⟨zC (fun h=>by have:=(h.2.2 k hlt).1;have:=HF.out;omega),d⟩
  ·obtain rfl:k=n:=by omega
   go_wp2;go_ret;exact⟨says_yes ⟨J.out.1,J.out.2,K.out⟩,f⟩
section
open Go.RowKit
section
variable {P : Program} {ops : Array Oper} {Q : Exit -> Act -> World -> Prop} {md : Region.Mode} {S : World -> Prop} {z : Nat}
def ZJ (P:Program)(c:Region.Mode)(b:Array Oper)(Q:Exit->Act->World->Prop)(S:World->Prop)(z:Nat):Nat->Array Bool->Act->World->Prop
 | 0,listed,a,w=>Region.ready c b listed=[]/\Q .normal a w
 | fuel+1,listed,a,w =>
  (Region.ready c b listed=[]->Q .normal a w) /\
  ∀ i ∈ Region.ready c b listed,wpOp P b Q i (fun d w'=>(i≠z->S w')/\ZJ P c b Q S z fuel (listed.setIfInBounds i true) d w') a w
theorem zeh:∀ (fuel:Nat)(b:Array Bool)(a:Act)(w:World),ZJ P md ops Q S z fuel b a w->wpAny P md ops Q fuel b a w
 | 0,_,_,_,h=>h
 | fuel+1,_,_,_,h=>⟨h.1,fun i e=>wpOp_mono (fun c w' d=>zeh fuel _ c w' d.2) (h.2 i e)⟩
def zei (b:Region.Mode)(a:Array Oper)(z:Nat):Bool :=
 (List.range a.size).all fun j=>j == z || (List.range a.size).any fun s=>decide (j<s) && ((a[s]?).map fun o=>o.after.any fun e=>Region.binds b e && e.on == j).getD false
def shutB (c:Region.Mode)(b:Array Oper)(a:Array Bool):Bool :=
 (List.range b.size).all fun s=>!a.getD s false || ((b[s]?).map fun o=>o.after.all fun e=>!Region.binds c e || a.getD e.on false).getD true
def ShutL (c:Region.Mode)(b:Array Oper)(a:Array Bool):Prop :=
 ∀ s o,b[s]?=some o->a.getD s false=true->∀ e ∈ o.after,Region.binds c e=true->a.getD e.on false=true
theorem shut_of {a:Array Bool}(h:shutB md ops a=true):ShutL md ops a:=fun s o f hl e i g=>by
 unfold shutB at h;rw[List.all_eq_true] at h;have c:s<ops.size:=(Array.getElem?_eq_some_iff.1 f).1;have b:=h s (List.mem_range.2 c);rw[hl,f] at b;simp only[Bool.not_true,Bool.false_or,Option.map_some,Option.getD_some,Array.all_eq_true_iff_forall_mem] at b;have d:=b e i;rw[g] at d
 simpa using d
theorem shut_set {a:Array Bool}{i:Nat}(h:ShutL md ops a)(k:i ∈ Region.ready md ops a):ShutL md ops (a.setIfInBounds i true):=fun s o j hl e g f=>by
 by_cases c:i=s
 ·subst c
  obtain⟨_,o',d,b⟩:=mem_ready.1 k;rw[j] at d
  cases d
  exact getD_set_true (b e g f)
 ·rw[getD_set_ne false c] at hl
  exact getD_set_true (h s o j hl e g f)
theorem zhX {a:Array Bool}(k:zei md ops z=true)(hz:z+1=ops.size)(u:ShutL md ops a)(t:z ∈ Region.ready md ops a):∀ m j,j+m=z->j≠z->a.getD j false=true:=by
 intro m
 induction m using Nat.strongRecOn with
 | ind m ih =>
  intro j q p;unfold zei at k;rw[List.all_eq_true] at k;have d:=k j (List.mem_range.2 (by omega))
  rw[Bool.or_eq_true] at d
  rcases d with d|d
  ·exact absurd (by simpa using d) p
  ·rw[List.any_eq_true] at d
   obtain⟨s,i,f⟩:=d;rw[Bool.and_eq_true] at f;have r:j<s:=by simpa using f.1
   have v:s<ops.size:=List.mem_range.1 i
   cases ho:ops[s]? with
   | none=>rw[ho] at f;simp at f
   | some o =>
    rw[ho] at f;simp only[Option.map_some,Option.getD_some,Array.any_eq_true',Bool.and_eq_true] at f;obtain⟨_,e,n,l,b⟩:=f;have b:e.on=j:=by simpa using b
    by_cases c:s=z
    ·subst c
     obtain⟨_,o',h,g⟩:=mem_ready.1 t;rw[ho] at h
     cases h
     rw[← b];exact g e n l
    ·have:=ih (z - s) (by omega) s (by omega) c
     rw[← b];exact u s o ho this e n l
theorem zfU {i:Nat}{s:Oper}{v:Value}(F:ops[i]?=some s)(J:i≠z)(X:zei md ops z=true)(Y:z+1=ops.size)(p:∀ (j:Nat)(o:Oper) cs b,ops[j]?=some o->o.op≠.select cs b)
  (R:∀ c a w,Q (.panic c) (a.put s.dst v) w->Q (.panic c) a w) :
  ∀ (fuel:Nat) (d:Array Bool) (a:Act) (w:World),ShutL md ops d ->
   (∀ j t,ops[j]?=some t->j≠i->d.getD j true=false->(∀ e ∈ t.after,Region.binds md e=true->e.on≠i)->s.apart ops t=true) ->
   i ∈ Region.ready md ops d->YieldsIf P ops S s v a->S w ->
   ZJ P md ops Q S z fuel (d.setIfInBounds i true) (a.put s.dst v) w->ZJ P md ops Q S z (fuel+1) d a w:=by
 intro fuel
 induction fuel with
 | zero =>
  intro d a w _ _ n G y H;refine⟨fun h=>(by rw[h] at n;cases n),fun j u=>?_⟩
  by_cases hji:j=i
  ·subst hji;exact G.wpOp F y ⟨fun _=>y,H⟩
  ·have:=ready_mono u hji
   rw[H.1] at this
   cases this
 | succ fuel ih =>
  intro d a w C g n G y H;refine⟨fun h=>(by rw[h] at n;cases n),fun j u=>?_⟩
  by_cases hji:j=i
  ·subst hji;exact G.wpOp F y ⟨fun _=>y,H⟩
  ·have K:j≠z:=fun e=>by
    subst e;have W:i<ops.size:=(Array.getElem?_eq_some_iff.1 F).1;have f:=zhX X Y C u (j - i) i (by omega) J
    have x:=(mem_ready.1 n).1
    rcases Nat.lt_or_ge i d.size with q|q
    ·simp[q] at x f;rw[x] at f;cases f
    ·simp[Array.getElem?_eq_none q] at f
   have f:=H.2 j (ready_mono u hji);obtain⟨m,t,r,A⟩:=mem_ready.1 u;have B:∀ e ∈ t.after,Region.binds md e=true->e.on≠i:=fun e U T I=>by
    have f:=A e U T;have x:=(mem_ready.1 n).1;rw[I] at f
    rcases Nat.lt_or_ge i d.size with q|q
    ·simp[q] at x f;rw[x] at f;cases f
    ·simp[Array.getElem?_eq_none q] at f
   have O:=wpOp_putIf r (g j t r hji m B) (fun cs b=>p i s cs b F) (fun cs b=>p j t cs b r) R G f
   have l:∀ k ok,ops[k]?=some ok->k≠i->(d.setIfInBounds j true).getD k true=false ->
     (∀ e ∈ ok.after,Region.binds md e=true->e.on≠i)->s.apart ops ok=true:=fun k ok V L D M=>by
    refine g k ok V L ?_ M
    by_cases hjk:j=k
    ·subst hjk;exact m
    ·rw[getD_set_ne true hjk] at D;exact D
   refine wpOp_mono (fun N w' E=>⟨E.2.1,ih (d.setIfInBounds j true) N w' (shut_set C u) l (ready_mono n (Ne.symm hji)) E.1 (E.2.1 K) ?_⟩) O
   rw[Array.setIfInBounds_comm _ _ hji];exact E.2.2
theorem zgT {i:Nat}{e:Oper}{v:Value}{fuel:Nat}{b:Array Bool}{a:Act}{w:World}(f:ops[i]?=some e)
  (m:Region.noSelect ops=true) (k:Region.free md ops b i=true) (l:(Region.ready md ops b).contains i=true) (d:(!(i == z) && zei md ops z && shutB md ops b && (z+1 == ops.size))=true)
  (g:∀ c a w,Q (.panic c) (a.put e.dst v) w->Q (.panic c) a w) (n:YieldsIf P ops S e v a) (j:S w)
  (h:ZJ P md ops Q S z fuel (b.setIfInBounds i true) (a.put e.dst v) w):ZJ P md ops Q S z (fuel+1) b a w:=by
 simp only[Bool.and_eq_true,Bool.not_eq_true',beq_eq_false_iff_ne,ne_eq,beq_iff_eq] at d;exact zfU f d.1.1.1 d.1.1.2 d.2 (Region.noSelect_spec m) g fuel b a w (shut_of d.1.2) (Region.free_spec f k) (by simpa using l) n j h
def zd (P:Program)(e:Region.Mode)(c:Array Oper)(Q:Exit->Act->World->Prop)(S:World->Prop)(z fuel:Nat)(b:Array Bool)(a:Act)(w:World)(rs:List Nat):Prop :=
 ∀ i ∈ rs,wpOp P c Q i (fun d w'=>(i≠z->S w')/\ZJ P e c Q S z fuel (b.setIfInBounds i true) d w') a w
theorem zd.nil {fuel:Nat}{b:Array Bool}{a:Act}{w:World}:zd P md ops Q S z fuel b a w []:=fun _ h=>by cases h
theorem zd.cons {fuel:Nat}{b:Array Bool}{a:Act}{w:World}{i:Nat}{o:Oper}{rs:List Nat}(k:ops[i]?=some o)
  (h:∀ c:Act->World->Prop,Shut (∀ a w,S w->(S w->ZJ P md ops Q S z fuel (b.setIfInBounds i true) a w)->c a w)->if Region.wanted o (yielded ops a.tmps)=true then Oper.wp P o a w c Q else c (a.put o.dst undef) w)
  (l:zd P md ops Q S z fuel b a w rs):zd P md ops Q S z fuel b a w (i :: rs):=fun j d=>by
 rcases List.mem_cons.1 d with rfl|d
 ·exact wpOp_step k (fun c f=>h c (fun a w e g=>f a w ⟨fun _=>e,g e⟩))
 ·exact l j d
theorem zd.last {fuel:Nat}{b:Array Bool}{a:Act}{w:World}{o:Oper}(i:ops[z]?=some o)
  (h:∀ c:Act->World->Prop,Shut (∀ a w,ZJ P md ops Q S z fuel (b.setIfInBounds z true) a w->c a w)->if Region.wanted o (yielded ops a.tmps)=true then Oper.wp P o a w c Q else c (a.put o.dst undef) w):zd P md ops Q S z fuel b a w [z]:=fun j d=>by
 rcases List.mem_cons.1 d with rfl|d
 ·exact wpOp_step i (fun c f=>h c (fun a w g=>f a w ⟨fun e=>absurd rfl e,g⟩))
 ·cases d
theorem zh {rs:List Nat}{fuel:Nat}{b:Array Bool}{a:Act}{w:World}(d:Region.ready md ops b=rs)(c:rs≠[])
  (h:zd P md ops Q S z fuel b a w rs):ZJ P md ops Q S z (fuel+1) b a w :=
 ⟨fun e=>absurd (d ▸ e) c,d ▸ h⟩
theorem zH {b:Array Bool}{a:Act}{w:World}(d:Region.ready md ops b=[])(h:Q .normal a w):∀ fuel,ZJ P md ops Q S z fuel b a w
 | 0=>⟨d,h⟩
 | _+1=>⟨fun _=>h,fun i c=>by rw[d] at c;cases c⟩
theorem qy {id:Nat}{a:Act}{w:World}(z n:Nat)(S:World->Prop)(hn:ops.size=n)(c:P.follows .mixedOrders=true)(b:S w.drew)
  (h:S w.drew->ZJ P .any ops Q S z n (List.replicate n false).toArray a w.drew):(Code.region id ops true).wp P Q a w:=by
 subst hn;exact wp_region_any c (zeh _ _ _ _ (by simpa using h b))
end
section
variable {P : Program} {l : List Oper} {Q : Exit -> Act -> World -> Prop} {md : Region.Mode} {S : World -> Prop} {z : Nat}
theorem zf {i:Nat}{e:Oper}{v:Value}{fuel:Nat}{b:List Bool}{a:Act}{w:World}(j:l[i]?=some e)
  (d:(Region.noSelect l.toArray && Region.free md l.toArray b.toArray i && (Region.ready md l.toArray b.toArray).contains i && (!(i == z) && zei md l.toArray z && shutB md l.toArray b.toArray && (z+1 == l.toArray.size)))=true)
  (f:∀ c a w,Q (.panic c) (a.put e.dst v) w->Q (.panic c) a w) (k:YieldsIf P l.toArray S e v a) (g:S w)
  (h:ZJ P md l.toArray Q S z fuel (b.set i true).toArray (a.put e.dst v) w):ZJ P md l.toArray Q S z (fuel+1) b.toArray a w:=by
 rw[Bool.and_eq_true,Bool.and_eq_true,Bool.and_eq_true] at d;exact zgT (i:=i) (by simpa using j) d.1.1.1 d.1.1.2 d.1.2 d.2 f k g (by simpa using h)
theorem zd.consL {fuel:Nat}{b:List Bool}{a:Act}{w:World}{i:Nat}{o:Oper}{rs:List Nat}(g:l[i]?=some o)
  (h:∀ c:Act->World->Prop,Shut (∀ a w,S w->(S w->ZJ P md l.toArray Q S z fuel (b.set i true).toArray a w)->c a w)->if Region.wanted o (yielded l.toArray a.tmps)=true then Oper.wp P o a w c Q else c (a.put o.dst undef) w)
  (j:zd P md l.toArray Q S z fuel b.toArray a w rs):zd P md l.toArray Q S z fuel b.toArray a w (i :: rs) :=
 zd.cons (by simpa using g) (fun c e=>h c (fun a w d f=>e a w d (fun d=>by simpa using f d))) j
theorem zd.lastL {fuel:Nat}{b:List Bool}{a:Act}{w:World}{o:Oper}(f:l[z]?=some o)
  (h:∀ c:Act->World->Prop,Shut (∀ a w,ZJ P md l.toArray Q S z fuel (b.set z true).toArray a w->c a w)->if Region.wanted o (yielded l.toArray a.tmps)=true then Oper.wp P o a w c Q else c (a.put o.dst undef) w):zd P md l.toArray Q S z fuel b.toArray a w [z] :=
 zd.last (by simpa using f) (fun c d=>h c (fun a w e=>d a w (by simpa using e)))
end
theorem tkL {P:Program}{l:List Oper}{Q:Exit->Act->World->Prop}{d:Region.Mode}{S:World->Prop}{z:Nat}(i:Nat){e:Oper}{v:Value}{fuel:Nat}{b:List Bool}{a:Act}{w:World}(j:l[i]?=some e)
  (k:(Region.noSelect l.toArray && Region.free d l.toArray b.toArray i && (Region.ready d l.toArray b.toArray).contains i && (!(i == z) && zei d l.toArray z && shutB d l.toArray b.toArray && (z+1 == l.toArray.size)))=true)
  (f:∀ c a w,Q (.panic c) (a.put e.dst v) w->Q (.panic c) a w) (m:Region.wanted e (yielded l.toArray a.tmps)=true) (g:S w) (n:∀ w,S w->(execOp a.eval e).run P w=.ok (.value v) w)
  (h:ZJ P d l.toArray Q S z fuel (b.set i true).toArray (a.put e.dst v) w):ZJ P d l.toArray Q S z (fuel+1) b.toArray a w:=zf j k f (Or.inl ⟨m,n⟩) g h
end
def zgF (F:Nat->Int)(m:Nat)(x:Int)(i:Nat):Int:=if i=m then x else F i
theorem Qe (F:Nat->Int)(m:Nat)(x:Int):zJ (zgF F m x) (m+1)=zJ F m++[int i64 x]:=by
 unfold zJ;rw[List.range_succ,List.map_append]
 congr 1
 ·refine List.map_congr_left fun j a=>?_
  have b:j<m:=by simpa using a
  unfold zgF;rw[if_neg (by omega)]
 ·unfold zgF
  simp
theorem CurIs.far {w w':World}{i n c a:Nat}{g:Option Addr}{T:Nat->Prop}(h:CurIs w i g n c a)(l:zA w w' T)(q:¬ T i)(r:∀ k,k<n->∀ b off,g=some ⟨b,off,none⟩->¬ T b):CurIs w' i g n c a:=by
 obtain⟨⟨p,s,v,t⟩,u⟩:=h;refine⟨⟨p,s,v,l.blk t q⟩,fun k f=>?_⟩
 obtain⟨b,off,x,e,j,d,m,o⟩:=u k f;exact⟨b,off,x,e,j,l.cellAt d (r k f b off e),m,o⟩
theorem zA.over {w u c:World}{S T:Nat->Prop}(h:zA w u S)(k:zA u c T)(d:∀ b,T b->w.heap.size<=b):zA w c S :=
 ⟨k.os.trans h.os,k.tape.trans h.tape,k.output.trans h.output,Nat.le_trans h.size k.size,fun i a e=>(k.block i (Nat.lt_of_lt_of_le a h.size) (fun t=>by have:=d i t;omega)).trans (h.block i a e)⟩
theorem zej (p:Nat)(ao:Option Addr)(n c a:Nat)(c7:Option Addr)(N cs:Nat)(S:Nat->Sail)(w:World)(ha:a<=700000000000000000)(hN:N<=1000)(h:CurIs w p ao n c a)(hz:∀ u,zA w u (fun b=>b=p)->SailsAt u c7 N S) :
  Calls Tryz.prog 74 #[.pointer (some ⟨p,0,none⟩),.slice c7 N cs] w fun e w'=>(∃ v k F,k<=4/\e=.returned v/\w'.ownsRow w.heap.size 3 1 v k (zJ F k))/\CurIs w' p ao n c (a+60)/\zA w w' (fun b=>b=p):=by
 obtain⟨n0,ni,M,O,P⟩:=info_parts Tryz.infoInt;have HZ:=hI hz;have f4:=h.lt;have HL:=hI h.code_lt;clear hz;go_enter Tryz.func74,Tryz.ntmps74;go_wp2_with fail;refine(pick_any p ao n c a 3 w (by omega) (by decide) (by decide) h).mono ?_
 rintro e w1 ⟨⟨r0,rfl,f7⟩,d0,d8⟩;have c0:=hI d0;have c4:=hI d8;have f8:IntKind.i64.wrap (1+(r0:Int))=((r0+1:Nat):Int):=by rw[IntKind.wrap_i64];omega
 clear d0 d8 h;go_wp2;go_loopw [5,6,7,8] (fun v nn _ _ wr=>∃ (k q Q:Nat) (F:Nat->Int),k+q<=3/\nn=int i64 q/\Q+10*q<=a+40/\Hid (wr.ownsRow w.heap.size 3 1 v k (zJ F k))/\Hid (CurIs wr p ao n c Q)/\Hid (zA w wr (fun b=>b=p))) (fun _ nn _ _ _=>(intOf nn).toNat)
 case atStart=>exact⟨0,r0+1,a+2,fun _=>0,by omega,rfl,by omega,⟨rfl,.inl ⟨rfl,rfl⟩⟩,c0.out,c4.out⟩
 case round =>
  clear c0 c4;obtain⟨k,q,Q,F,f5,rfl,f2,o,HC,HK⟩:=hrel;obtain⟨av,cv,rfl,e8,e9,c8⟩:=zt o.out;have a5:=hI c8;clear e8 e9 c8
  by_cases hq:0<q/\0<N
  ·obtain⟨f6,f1⟩:=hq
   have d1:decide (0<(q:Int))=true:=decide_eq_true (by omega)
   have d2:decide (0<(N:Int))=true:=decide_eq_true (by omega)
   have i0:(0:Int)<(q:Int):=by omega
   have i1:(0:Int)<(N:Int):=by omega
   go_wp2_with fail;refine(pick_any p ao n c Q N wr (by omega) (by omega) (by omega) HC.out).mono ?_
   rintro e w2 ⟨⟨r,rfl,hr⟩,C,m⟩;have J:=hI C;have y:=hI (HK.out.trans m);have f:Hid (w2.ownsRow w.heap.size 3 1 (.slice av k cv) k (zJ F k)):=m.own o.out (fun g L e=>by have e:g=p:=e;have:=(o.out.lt g L).1;omega)
   clear C m HC HK o;obtain⟨f0,so,la,lc,ca,cc,rfl,s0,s1,s2,s3,s4,s5,s6,s7,_⟩:=HZ.out w2 y.out r hr;obtain⟨s,e3⟩:∃ s,s=S r:=⟨_,rfl⟩;rw[← e3] at s0 s1 s2 s3 s4 s5 s6 s7;clear e3;have j1:(0:Int)<=(r:Int):=by omega
   have j2:(r:Int)<(N:Int):=by omega
   go_upto_region 6 with fail;have a1:Below w2.heap.size w2 (w2.alloc (.cells #[int i64 s.id,.string s.fr,.string s.dst,int i64 s.dep,int i64 s.arr,.slice la s.la.n lc,.slice ca s.ca.n cc,int i64 s.most] 37)):=zr bZ _;have bX:=heap_alloc_new w2 (.cells #[int i64 s.id,.string s.fr,.string s.dst,int i64 s.dep,int i64 s.arr,.slice la s.la.n lc,.slice ca s.ca.n cc,int i64 s.most] 37);have a9:=hI (y.out.trans (zA.of_below a1));have c3:=hI (J.out.below a1);have b6:=hI (zm a1 f.out);generalize (w2.alloc (.cells #[int i64 s.id,.string s.fr,.string s.dst,int i64 s.dep,int i64 s.arr,.slice la s.la.n lc,.slice ca s.ca.n cc,int i64 s.most] 37))=X at a1 bX a9 c3 b6 ⊢;generalize w2.heap.size=sb at bX ⊢;clear s0 s1 s2 s3 s4 s5 s6 s7 a1 J y f;have b0:Hid (∀ z,Below X.heap.size X z->IntsAt z av k F):=fun z hb=>own_ints (zm hb b6.out)
   have KS:Hid (∀ z,Below X.heap.size X z->z.cell? ⟨sb,0,none⟩=some (int i64 s.id)/\True):=fun z hb=>⟨za (zc bX hb) 0 _ rfl,trivial⟩
   refine qy 7 8 (fun w'=>w'.cell? ⟨sb,0,none⟩=some (int i64 s.id)/\True) rfl (by kernel_rfl) (KS.out X.drew (Below.drew bZ)) (fun hS=>?_)
   simp only[List.replicate_succ,List.replicate_zero]
   (refine tkL 1 (v:=?_) rfl (by kernel_rfl) (fun _ _ _ h=>h) rfl (by assumption) ?_ ?_;rotate_left;focus(intro w' h;(try dsimp only at h);go_simp;try with_reducible rfl);simp only[Act.put,sB,sZ,sS])
   (refine tkL 3 (v:=?_) rfl (by kernel_rfl) (fun _ _ _ h=>h) rfl (by assumption) ?_ ?_;rotate_left;focus(intro w' h;(try dsimp only at h);go_simp;try with_reducible rfl);simp only[Act.put,sB,sZ,sS])
   (refine tkL 4 (v:=?_) rfl (by kernel_rfl) (fun _ _ _ h=>h) rfl (by assumption) ?_ ?_;rotate_left;focus(intro w' h;(try dsimp only at h);go_simp;try with_reducible rfl);simp only[Act.put,sB,sZ,sS])
   refine zh (rs:=[0,5]) (by kernel_rfl) (by simp) ?_
   refine zd.consL rfl (fun K l=>?_) (zd.consL rfl (fun K l=>?_) zd.nil)
   focus
    go_simp;refine l.out _ _ (KS.out _ (by repeat(first|with_reducible exact d.out|with_reducible exact bZ|with_reducible refine Below.drew ?_|with_reducible refine zr ?_ _))) (fun hS=>?_)
    clear l K;simp only[sZ];refine zh (rs:=[2,5]) (by kernel_rfl) (by simp) ?_
    refine zd.consL rfl (fun K l=>?_) (zd.consL rfl (fun K l=>?_) zd.nil)
    focus
     refine zN (by rfl) (.tmp 28) (.tmp 29) 23 (by rfl) 3 n0 (int i64 0) 1 8 Tryz.underlying23 ni M O P rfl (by decide) X.heap.size _ (by rfl) (by first|exact Nat.le_refl _|omega|(simp;done)|(simp;omega)) (by repeat(first|((with_reducible refine qY _ _ _ ?_);(first|with_reducible rfl|(simp;done)))|with_reducible refine zF ?_|with_reducible refine ze ?_ _)) av k cv (zJ F k) (by rfl) a5.out (by rw[intList_length,Nat.mul_one]) (qX (b0.out _ (by repeat(first|exact bZ|refine Below.drew ?_|refine zr ?_ _)))) (intList_one _ _) (by unfold maxLen;omega) (by omega) ?_;intro p1 q1 u1 G I B;clear B;have d:Hid (Below X.heap.size X u1):=(by show Below _ _ _;refine zj ?_ (zl G);exact(by repeat(first|exact bZ|refine Below.drew ?_|refine zr ?_ _)));refine l.out _ _ (KS.out _ d.out) (fun hS=>?_)
     clear l K;simp only[Act.put,sB,sZ,sS];refine zh (rs:=[5]) (by kernel_rfl) (by simp) ?_
     refine zd.consL rfl (fun K l=>?_) zd.nil
     focus
      go_simp;refine l.out _ _ (KS.out _ (by repeat(first|with_reducible exact d.out|with_reducible exact bZ|with_reducible refine Below.drew ?_|with_reducible refine zr ?_ _))) (fun hS=>?_)
      clear l K;simp only[sZ,sS]
    rotate_left 1
    focus
     go_simp;refine l.out _ _ (KS.out _ (by repeat(first|with_reducible exact d.out|with_reducible exact bZ|with_reducible refine Below.drew ?_|with_reducible refine zr ?_ _))) (fun hS=>?_)
     clear l K;simp only[sZ,sS];refine zh (rs:=[2]) (by kernel_rfl) (by simp) ?_
     refine zd.consL rfl (fun K l=>?_) zd.nil
     focus
      refine zN (by rfl) (.tmp 28) (.tmp 29) 23 (by rfl) 3 n0 (int i64 0) 1 8 Tryz.underlying23 ni M O P rfl (by decide) X.heap.size _ (by rfl) (by first|exact Nat.le_refl _|omega|(simp;done)|(simp;omega)) (by repeat(first|((with_reducible refine qY _ _ _ ?_);(first|with_reducible rfl|(simp;done)))|with_reducible refine zF ?_|with_reducible refine ze ?_ _)) av k cv (zJ F k) (by rfl) a5.out (by rw[intList_length,Nat.mul_one]) (qX (b0.out _ (by repeat(first|exact bZ|refine Below.drew ?_|refine zr ?_ _)))) (intList_one _ _) (by unfold maxLen;omega) (by omega) ?_;intro p1 q1 u1 G I B;clear B;have d:Hid (Below X.heap.size X u1):=(by show Below _ _ _;refine zj ?_ (zl G);exact(by repeat(first|exact bZ|refine Below.drew ?_|refine zr ?_ _)));refine l.out _ _ (KS.out _ d.out) (fun hS=>?_)
      clear l K;simp only[Act.put,sB,sZ,sS]
   rotate_left 2
   focus
    go_simp;refine l.out _ _ (KS.out _ (by repeat(first|with_reducible exact d.out|with_reducible exact bZ|with_reducible refine Below.drew ?_|with_reducible refine zr ?_ _))) (fun hS=>?_)
    clear l K;simp only[sZ,sS];refine zh (rs:=[0]) (by kernel_rfl) (by simp) ?_
    refine zd.consL rfl (fun K l=>?_) zd.nil
    focus
     go_simp;refine l.out _ _ (KS.out _ (by repeat(first|with_reducible exact d.out|with_reducible exact bZ|with_reducible refine Below.drew ?_|with_reducible refine zr ?_ _))) (fun hS=>?_)
     clear l K;simp only[sZ];refine zh (rs:=[2]) (by kernel_rfl) (by simp) ?_
     refine zd.consL rfl (fun K l=>?_) zd.nil
     focus
      refine zN (by rfl) (.tmp 28) (.tmp 29) 23 (by rfl) 3 n0 (int i64 0) 1 8 Tryz.underlying23 ni M O P rfl (by decide) X.heap.size _ (by rfl) (by first|exact Nat.le_refl _|omega|(simp;done)|(simp;omega)) (by repeat(first|((with_reducible refine qY _ _ _ ?_);(first|with_reducible rfl|(simp;done)))|with_reducible refine zF ?_|with_reducible refine ze ?_ _)) av k cv (zJ F k) (by rfl) a5.out (by rw[intList_length,Nat.mul_one]) (qX (b0.out _ (by repeat(first|exact bZ|refine Below.drew ?_|refine zr ?_ _)))) (intList_one _ _) (by unfold maxLen;omega) (by omega) ?_;intro p1 q1 u1 G I B;clear B;have d:Hid (Below X.heap.size X u1):=(by show Below _ _ _;refine zj ?_ (zl G);exact(by repeat(first|exact bZ|refine Below.drew ?_|refine zr ?_ _)));refine l.out _ _ (KS.out _ d.out) (fun hS=>?_)
      clear l K;simp only[Act.put,sB,sZ,sS]
   all_goals
    refine zh (rs:=[6]) (by kernel_rfl) (by simp) ?_
    refine zd.consL rfl (fun K l=>?_) zd.nil
    refine step_append_lies _ (by rfl) (.tmp 30) (.tmp 33) 23 (by rfl) X.heap.size 3 n0 (int i64 0) 1 8 Tryz.underlying23 ni M O P rfl (by decide) _ k (zJ F k) (by rfl) (by first|exact I|exact I.alloc _|exact zm (zr bZ _) I) _ 1 1 [int i64 s.id] (by rfl) (by rfl) (by refine World.news_of_block (cs:=#[int i64 s.id]) (t:=3) (fr:=(0,0)) ?_;exact(by repeat(first|((with_reducible refine qY _ _ _ ?_);(first|with_reducible rfl|(simp;done)))|with_reducible refine zF ?_|with_reducible refine ze ?_ _|with_reducible refine zc ?_ (zl G)))) (by intro u hu;simp at hu;subst hu;rfl) (by decide) (by unfold maxLen;omega) (by omega) (by first|exact d.out.size|(have:=d.out.size;simp;omega)) _ rfl ?_;intro g2 U u2 e0 d7 c9 d9;refine(fun (R:Hid (Below X.heap.size X u2))=>?_) (Below.grown ?_ d7 ?_ (fun j hj=>(I.lt j hj).1));rotate_left;(focus(repeat(first|with_reducible exact d.out|exact bZ|refine Below.drew ?_|refine zr ?_ _)));(focus(first|exact d.out.size|(have:=d.out.size;simp;omega)));refine l.out _ _ (KS.out _ R.out) (fun hS=>?_)
    clear l K;simp only[Act.put,sB,sZ,sS];refine zh (rs:=[7]) (by kernel_rfl) (by simp) ?_
    refine zd.lastL rfl (fun K l=>?_)
    go_simp;refine l.out _ _ ?_;clear l K;refine zH (by kernel_rfl) ?_ _
    have f:Hid (u2.ownsRow X.heap.size 3 1 (.slice (some ⟨g2,0,none⟩) (k+1) U) (k+1) (zJ (zgF F k s.id) (k+1))):=by
     show u2.ownsRow _ _ _ _ _ _
     rw[Qe];exact e0
    clear hS G I d7 c9 d9 e0 d;have a8:=hI (a9.out.trans (zA.of_below R.out));have c2:=hI (c3.out.below R.out);have c6:=hI (zm R.out b6.out);have e5:w.heap.size<=X.heap.size:=a9.out.size;go_wp2_with fail;refine(zdh (some ⟨f0,so,none⟩) (some ⟨g2,0,none⟩) N (k+1) cs U S (zgF F k s.id) _ (by omega) (by omega) (HZ.out _ a8.out) (own_ints f.out)).mono ?_
    rintro e u3 ⟨⟨tf,rfl,_⟩,V⟩;have a2:=hI (zm V (zE f.out e5));have b7:=hI (zm V c6.out);have a7:=hI (a8.out.trans (zA.of_below V));have a6:=hI (c2.out.below V);have f9:IntKind.i64.wrap ((q:Int) - 1)=((q - 1:Nat):Int):=by rw[IntKind.wrap_i64];omega
    clear f c6 a8 c2 V R
    cases tf with
    | true =>
     go_wp2;go_roundw
     case rel=>exact⟨k+1,q - 1,Q+2,zgF F k s.id,by omega,rfl,by omega,a2.out,a6.out,a7.out⟩
     case measure=>simp[intOf];omega
    | false =>
     go_wp2_with fail;refine(one_any p ao n c (Q+2) 20 u3 (by omega) (by decide) (by decide) a6.out).mono ?_
     rintro e u4 ⟨⟨tb,rfl⟩,d5,a3⟩;have c1:=hI d5;have c5:=hI (a7.out.trans a3);have b8:∀ g,w.heap.size<=g->¬ g=p:=fun g h1 h2=>by omega
     have e6:Hid (u4.ownsRow w.heap.size 3 1 (.slice (some ⟨g2,0,none⟩) (k+1) U) (k+1) (zJ (zgF F k s.id) (k+1))):=a3.own a2.out (fun g L=>b8 g (a2.out.lt g L).1)
     have e7:Hid (u4.ownsRow w.heap.size 3 1 (.slice av k cv) k (zJ F k)):=a3.own b7.out (fun g L=>b8 g (b7.out.lt g L).1)
     clear d5 a3 a2 b7 a6 a7 b8
     cases tb with
     | true =>
      go_wp2;go_roundw
      case rel=>exact⟨k+1,q - 1,Q+2+2,zgF F k s.id,by omega,rfl,by omega,e6.out,c1.out,c5.out⟩
      case measure=>simp[intOf];omega
     | false =>
      go_wp2;go_roundw
      case rel=>exact⟨k,q - 1,Q+2+2,F,by omega,rfl,by omega,e7.out,c1.out,c5.out⟩
      case measure=>simp[intOf];omega
  ·have hx:decide (0<(q:Int))=false∨(decide (0<(q:Int))=true/\decide (0<(N:Int))=false):=by
    by_cases c:0<q
    ·exact .inr ⟨decide_eq_true (by omega),decide_eq_false (by omega)⟩
    ·exact .inl (decide_eq_false (by omega))
   rcases hx with d1|⟨d1,d2⟩
   ·have i0:¬ (0:Int)<(q:Int):=of_decide_eq_false d1
    go_wp2_with fail;refine Calls.mono (one_any p ao n c Q 30 wr (by omega) (by decide) (by decide) HC.out) ?_
    rintro e u ⟨⟨tb,rfl⟩,Y,H⟩;have D:=hI Y;have T:=hI (HK.out.trans H);have a0:∀ g,w.heap.size<=g->¬ g=p:=fun g h1 h2=>by omega
    have E:Hid (u.ownsRow w.heap.size 3 1 (.slice av k cv) k (zJ F k)):=H.own o.out (fun g L=>a0 g (o.out.lt g L).1)
    clear Y H HC HK o
    cases tb with
    | false =>
     go_wp2;go_ret;exact⟨⟨_,k,F,by omega,rfl,E.out⟩,D.out.more (by omega),T.out⟩
    | true =>
     have A:Below u.heap.size u (u.alloc (.cells #[int i64 0,int i64 7,int i64 100] 3)):=zr bZ _;have bL:=heap_alloc_new u (.cells #[int i64 0,int i64 7,int i64 100] 3);have d6:=D.out.lt;go_wp2_with fail;refine(amongL p ao n c (Q+2) 3 [0,7,100] _ rfl (by omega) (by decide) (by decide) (D.out.below A) u.heap.size bL (by omega)).mono ?_
     rintro e u2 ⟨⟨x,rfl⟩,C,m⟩;have J:=hI C;have y:=hI ((T.out.trans (zA.of_below A)).trans m);have f:Hid (u2.ownsRow w.heap.size 3 1 (.slice av k cv) k (zJ F k)):=m.own (zm A E.out) (fun g L=>a0 g (E.out.lt g L).1)
     have e4:=y.out.size;have b5:Hid (∀ ad,(some ⟨u2.heap.size,0,none⟩:Option Addr)=some ad->∀ j v,[Value.int .i64 x][j]?=some v->(u2.alloc (.cells #[int i64 x] 3)).cell? (ad.add j)=some v):=by
      intro ad e
      cases e
      exact World.news_of_block (heap_alloc_new u2 _)
     clear C m bL A;go_wp2_with (first|(at_builtin;refine zz _ (by rfl) (.tmp 45) (.tmp 49) 23 (by rfl) w.heap.size 3 n0 (int i64 0) 1 8 Tryz.underlying23 ni M O P rfl (by decide) _ k (zJ F k) (by rfl) (f.out.alloc _) (some ⟨u2.heap.size,0,none⟩) 1 1 [int i64 x] (by rfl) (fun h=>(by cases h)) (by rfl) b5.out (by intro v hv;simp at hv;subst hv;rfl) (by unfold maxLen;omega) (by omega) (by simp;omega) ?_;intro v4 w4 b9 Z))
     go_ret;have W:=(zr (Below.refl u2.heap.size u2) (.cells #[int i64 x] 3));refine⟨⟨_,k+1,zgF F k x,by omega,rfl,by rw[Qe];exact b9⟩,?_,?_⟩
     ·refine((J.out.below W).far (zO Z) (fun e=>?_) (fun i hi b off e1 e2=>?_)).more (by omega)
      ·have:=(f.out.lt p e).1
       omega
      ·have:=HL.out i hi b off e1
       have:=(f.out.lt b e2).1
       omega
     ·exact(y.out.trans (zA.of_below W)).over (zO Z) (fun b e=>(f.out.lt b e).1)
   ·have i0:(0:Int)<(q:Int):=of_decide_eq_true d1
    have i1:¬ (0:Int)<(N:Int):=of_decide_eq_false d2;go_wp2_with fail;refine Calls.mono (one_any p ao n c Q 30 wr (by omega) (by decide) (by decide) HC.out) ?_
    rintro e u ⟨⟨tb,rfl⟩,Y,H⟩;have D:=hI Y;have T:=hI (HK.out.trans H);have a0:∀ g,w.heap.size<=g->¬ g=p:=fun g h1 h2=>by omega
    have E:Hid (u.ownsRow w.heap.size 3 1 (.slice av k cv) k (zJ F k)):=H.own o.out (fun g L=>a0 g (o.out.lt g L).1)
    clear Y H HC HK o
    cases tb with
    | false =>
     go_wp2;go_ret;exact⟨⟨_,k,F,by omega,rfl,E.out⟩,D.out.more (by omega),T.out⟩
    | true =>
     have A:Below u.heap.size u (u.alloc (.cells #[int i64 0,int i64 7,int i64 100] 3)):=zr bZ _;have bL:=heap_alloc_new u (.cells #[int i64 0,int i64 7,int i64 100] 3);have d6:=D.out.lt;go_wp2_with fail;refine(amongL p ao n c (Q+2) 3 [0,7,100] _ rfl (by omega) (by decide) (by decide) (D.out.below A) u.heap.size bL (by omega)).mono ?_
     rintro e u2 ⟨⟨x,rfl⟩,C,m⟩;have J:=hI C;have y:=hI ((T.out.trans (zA.of_below A)).trans m);have f:Hid (u2.ownsRow w.heap.size 3 1 (.slice av k cv) k (zJ F k)):=m.own (zm A E.out) (fun g L=>a0 g (E.out.lt g L).1)
     have e4:=y.out.size;have b5:Hid (∀ ad,(some ⟨u2.heap.size,0,none⟩:Option Addr)=some ad->∀ j v,[Value.int .i64 x][j]?=some v->(u2.alloc (.cells #[int i64 x] 3)).cell? (ad.add j)=some v):=by
      intro ad e
      cases e
      exact World.news_of_block (heap_alloc_new u2 _)
     clear C m bL A;go_wp2_with (first|(at_builtin;refine zz _ (by rfl) (.tmp 45) (.tmp 49) 23 (by rfl) w.heap.size 3 n0 (int i64 0) 1 8 Tryz.underlying23 ni M O P rfl (by decide) _ k (zJ F k) (by rfl) (f.out.alloc _) (some ⟨u2.heap.size,0,none⟩) 1 1 [int i64 x] (by rfl) (fun h=>(by cases h)) (by rfl) b5.out (by intro v hv;simp at hv;subst hv;rfl) (by unfold maxLen;omega) (by omega) (by simp;omega) ?_;intro v4 w4 b9 Z))
     go_ret;have W:=(zr (Below.refl u2.heap.size u2) (.cells #[int i64 x] 3));refine⟨⟨_,k+1,zgF F k x,by omega,rfl,by rw[Qe];exact b9⟩,?_,?_⟩
     ·refine((J.out.below W).far (zO Z) (fun e=>?_) (fun i hi b off e1 e2=>?_)).more (by omega)
      ·have:=(f.out.lt p e).1
       omega
      ·have:=HL.out i hi b off e1
       have:=(f.out.lt b e2).1
       omega
     ·exact(y.out.trans (zA.of_below W)).over (zO Z) (fun b e=>(f.out.lt b e).1)
section
open Go.RowKit
structure zbu (w u:World)(j:Nat)(l:Option Addr)(n c a k:Nat)(x:Off)(d e f:Option Addr)(g h i:Nat)(L C A B D E:Nat->Value):Prop where
 cur:CurIs u j l n c a
 kept:zA w u (fun b=>b=j)
 lt:w.heap.size<k
 res:u.heap[w.heap.size]?=some (.cells #[.slice none 0 0,.slice none 0 0,.slice none 0 0] 66 (0,0))
 box:u.heap[k]?=some (.cells #[.slice d x.san g,.slice e x.ldn h,.slice f x.bkn i] 66 (0,0))
 own:zV u w.heap.size (.slice d x.san g) (.slice e x.ldn h) (.slice f x.bkn i) x.san x.ldn x.bkn x L C A B D E
section
variable {w u u' : World} {cb n c a a' ob : Nat} {ao : Option Addr} {x : Off} {a1 a2 a3 : Option Addr} {c1 c2 c3 : Nat} {L C A B D E : Nat -> Value}
theorem zV.cur {f g i:Value}{base d e n3:Nat}(h:zV u base f g i d e n3 x L C A B D E)(k:CurIs u cb ao n c a)(l:zA u u' (fun b=>b=cb)):zV u' base f g i d e n3 x L C A B D E:=by
 obtain⟨⟨p,s,hp,j⟩,_⟩:=k;exact h.box l j (by decide)
theorem zbu.on (h:zbu w u cb ao n c a ob x a1 a2 a3 c1 c2 c3 L C A B D E)(f:cb<w.heap.size)(e:CurIs u' cb ao n c a')(d:zA u u' (fun b=>b=cb)):zbu w u' cb ao n c a' ob x a1 a2 a3 c1 c2 c3 L C A B D E :=
 have h1:=h.lt
 ⟨e,h.kept.trans d,h.lt,d.blk h.res (by omega),d.blk h.box (by omega),h.own.cur h.cur d⟩
theorem zbu.below (h:zbu w u cb ao n c a ob x a1 a2 a3 c1 c2 c3 L C A B D E)(b:Below u.heap.size u u'):zbu w u' cb ao n c a ob x a1 a2 a3 c1 c2 c3 L C A B D E :=
 ⟨h.cur.below b,h.kept.trans (zA.of_below b),h.lt,zc h.res b,zc h.box b,h.own.below b⟩
theorem zbu.more (h:zbu w u cb ao n c a ob x a1 a2 a3 c1 c2 c3 L C A B D E)(b:a<=a'):zbu w u cb ao n c a' ob x a1 a2 a3 c1 c2 c3 L C A B D E :=
 ⟨h.cur.more b,h.kept,h.lt,h.res,h.box,h.own⟩
theorem zbu.sails (h:zbu w u cb ao n c a ob x a1 a2 a3 c1 c2 c3 L C A B D E):∀ z,zA u z (fun b=>b=cb)->SailsAt z a1 x.san x.sa:=fun _ d=>(h.own.cur h.cur d).sa.at
theorem zbu.cap (h:zbu w u cb ao n c a ob x a1 a2 a3 c1 c2 c3 L C A B D E):x.bkn<=c3:=by
 obtain⟨b,d,e,f,_⟩:=zt h.own.bk.row
 cases e
 exact f
theorem zbu.s (h:zbu w u cb ao n c a ob x a1 a2 a3 c1 c2 c3 L C A B D E):u.cell? ⟨ob,0,none⟩=some (.slice a1 x.san c1)/\u.cell? ⟨ob,1,none⟩=some (.slice a2 x.ldn c2)/\u.cell? ⟨ob,2,none⟩=some (.slice a3 x.bkn c3) :=
 ⟨za h.box 0 _ rfl,za h.box 1 _ rfl,za h.box 2 _ rfl⟩
theorem zbu.to {d:Off}{b1 b2 b3:Option Addr}{d1 d2 d3:Nat}{q m j l o p:Nat->Value}(h:zbu w u cb ao n c a ob x a1 a2 a3 c1 c2 c3 L C A B D E)(s:cb<w.heap.size)(hl:Zh w ao n)
  (r:zV u w.heap.size (.slice b1 d.san d1) (.slice b2 d.ldn d2) (.slice b3 d.bkn d3) d.san d.ldn d.bkn d q m j l o p) :
  zbu w (((u.setCell ⟨ob,0,none⟩ (.slice b1 d.san d1)).setCell ⟨ob,1,none⟩ (.slice b2 d.ldn d2)).setCell ⟨ob,2,none⟩ (.slice b3 d.bkn d3)) cb ao n c a ob d b1 b2 b3 d1 d2 d3 q m j l o p:=by
 have h0:=h.lt;have f:cb≠ob:=by omega
 have g:∀ k,k<n->∀ b off,ao=some ⟨b,off,none⟩->b≠ob:=fun k i b off e=>by have:=hl k i b off e;omega
 have i:zA u (((u.setCell ⟨ob,0,none⟩ (.slice b1 d.san d1)).setCell ⟨ob,1,none⟩ (.slice b2 d.ldn d2)).setCell ⟨ob,2,none⟩ (.slice b3 d.bkn d3)) (fun b=>b=ob):=(((zA.refl u (fun b=>b=ob)).set (a:=⟨ob,0,none⟩) rfl _).set (a:=⟨ob,1,none⟩) rfl _).set (a:=⟨ob,2,none⟩) rfl _
 exact⟨((h.cur.box f g 0 _).box f g 1 _).box f g 2 _,Z0 (Z0 (Z0 h.kept (by omega) _ _) (by omega) _ _) (by omega) _ _,h.lt,zD (zD (zD h.res 0 _ (by omega)) 1 _ (by omega)) 2 _ (by omega),zfS h.box _ _ _,r.box i h.box (by decide)⟩
theorem zbu.other {g t:Nat}{cs:Array Value}(h:zbu w u cb ao n c a ob x a1 a2 a3 c1 c2 c3 L C A B D E)(i:cb<w.heap.size)(hl:Zh w ao n)(d:zA u u' (fun b=>b=g))(j:u.heap[g]?=some (.cells cs t (0,0)))
  (l:37≠t/\106≠t/\110≠t/\136≠t/\186≠t/\190≠t/\138≠t/\131≠t/\3≠t) (h1:ob<g):zbu w u' cb ao n c a ob x a1 a2 a3 c1 c2 c3 L C A B D E:=by
 have h0:=h.lt;exact⟨h.cur.far d (by omega) (fun k f b off e=>by have:=hl k f b off e;omega),h.kept.over d (fun b e=>by have e:b=g:=e;omega),h.lt,d.blk h.res (by omega),d.blk h.box (by omega),h.own.box d j l⟩
theorem zbu.ob_lt (h:zbu w u cb ao n c a ob x a1 a2 a3 c1 c2 c3 L C A B D E):ob<u.heap.size:=zZ h.box
theorem CurX.is (h:CurX u cb ao n c a):CurIs u cb ao n c a:=by
 obtain⟨p,s,d,b⟩:=h;exact b.is.more d
end
end
section
open Go.RowKit
structure zbv (w u:World)(f:Nat)(j:Option Addr)(n c a g:Nat)(N:Nat)(S:Nat->Sail)(d h i:Option Addr)(m2 m3 e k l:Nat)(L C:Nat->Value):Prop where
 cur:CurIs u f j n c a
 kept:zA w u (fun b=>b=f)
 lt:w.heap.size<g
 res:u.heap[w.heap.size]?=some (.cells #[.slice none 0 0,.slice none 0 0,.slice none 0 0] 66 (0,0))
 box:u.heap[g]?=some (.cells #[.slice d N e,.slice h m2 k,.slice i m3 l] 66 (0,0))
 sa:OwnSails u w.heap.size (.slice d N e) N S L C
section
variable {w u u' : World} {cb n c a a' ob N : Nat} {S : Nat -> Sail} {ao : Option Addr} {a1 a2 a3 : Option Addr} {m2 m3 c1 c2 c3 : Nat} {L C : Nat -> Value}
theorem zbu.weak {x:Off}{A B D E:Nat->Value}(h:zbu w u cb ao n c a ob x a1 a2 a3 c1 c2 c3 L C A B D E):zbv w u cb ao n c a ob x.san x.sa a1 a2 a3 x.ldn x.bkn c1 c2 c3 L C:=⟨h.cur,h.kept,h.lt,h.res,h.box,h.own.sa⟩
theorem zbv.on (h:zbv w u cb ao n c a ob N S a1 a2 a3 m2 m3 c1 c2 c3 L C)(i:cb<w.heap.size)(g:CurIs u' cb ao n c a')(d:zA u u' (fun b=>b=cb)):zbv w u' cb ao n c a' ob N S a1 a2 a3 m2 m3 c1 c2 c3 L C:=by
 have h1:=h.lt;obtain⟨⟨p,s,hp,f⟩,_⟩:=h.cur;exact⟨g,h.kept.trans d,h.lt,d.blk h.res (by omega),d.blk h.box (by omega),h.sa.other d (fun b e=>by have e:b=cb:=e;subst e;exact⟨_,_,f,by decide,by decide,by decide⟩)⟩
theorem zbv.below (h:zbv w u cb ao n c a ob N S a1 a2 a3 m2 m3 c1 c2 c3 L C)(b:Below u.heap.size u u'):zbv w u' cb ao n c a ob N S a1 a2 a3 m2 m3 c1 c2 c3 L C :=
 ⟨h.cur.below b,h.kept.trans (zA.of_below b),h.lt,zc h.res b,zc h.box b,h.sa.below b⟩
theorem zbv.more (h:zbv w u cb ao n c a ob N S a1 a2 a3 m2 m3 c1 c2 c3 L C)(b:a<=a'):zbv w u cb ao n c a' ob N S a1 a2 a3 m2 m3 c1 c2 c3 L C :=
 ⟨h.cur.more b,h.kept,h.lt,h.res,h.box,h.sa⟩
theorem zbv.sails (h:zbv w u cb ao n c a ob N S a1 a2 a3 m2 m3 c1 c2 c3 L C):∀ z,zA u z (fun b=>b=cb)->SailsAt z a1 N S:=fun z f=>by
 obtain⟨⟨p,s,hp,d⟩,_⟩:=h.cur;exact(h.sa.other f (fun b e=>by have e:b=cb:=e;subst e;exact⟨_,_,d,by decide,by decide,by decide⟩)).at
theorem zbv.s (h:zbv w u cb ao n c a ob N S a1 a2 a3 m2 m3 c1 c2 c3 L C):u.cell? ⟨ob,0,none⟩=some (.slice a1 N c1)/\u.cell? ⟨ob,1,none⟩=some (.slice a2 m2 c2)/\u.cell? ⟨ob,2,none⟩=some (.slice a3 m3 c3) :=
 ⟨za h.box 0 _ rfl,za h.box 1 _ rfl,za h.box 2 _ rfl⟩
theorem zbv.far {T:Nat->Prop}(h:zbv w u cb ao n c a ob N S a1 a2 a3 m2 m3 c1 c2 c3 L C)(o:cb<w.heap.size)(hl:Zh w ao n)(g:zA u u' T)
  (f:∀ b,T b->w.heap.size<=b/\∃ cs t,u.heap[b]?=some (.cells cs t (0,0))/\66≠t/\37≠t/\106≠t/\110≠t):zbv w u' cb ao n c a ob N S a1 a2 a3 m2 m3 c1 c2 c3 L C:=by
 have ne:∀ b cs,u.heap[b]?=some (.cells cs 66 (0,0))->¬ T b:=fun b cs m p=>by
  obtain⟨_,l,t,d,i,_⟩:=f b p;rw[m] at d;simp only[Option.some.injEq,Obj.cells.injEq] at d;exact i d.2.1
 exact⟨h.cur.far g (fun t=>by have:=(f _ t).1;omega) (fun k j b off e t=>by have:=hl k j b off e;have:=(f _ t).1;omega),h.kept.over g (fun b t=>(f b t).1),h.lt,g.blk h.res (ne _ _ h.res),g.blk h.box (ne _ _ h.box),h.sa.other g (fun b t=>by obtain⟨_,cs,q,d,_,i⟩:=f b t;exact⟨cs,q,d,i⟩)⟩
theorem zbv.put2 (h:zbv w u cb ao n c a ob N S a1 a2 a3 m2 m3 c1 c2 c3 L C)(g:cb<w.heap.size)(hl:Zh w ao n)(b3:Option Addr)(f d3:Nat):zbv w (u.setCell ⟨ob,2,none⟩ (.slice b3 f d3)) cb ao n c a ob N S a1 a2 b3 m2 f c1 c2 d3 L C:=by
 have h0:=h.lt;have d:zA u (u.setCell ⟨ob,2,none⟩ (.slice b3 f d3)) (fun b=>b=ob):=(zA.refl u (fun b=>b=ob)).set (a:=⟨ob,2,none⟩) rfl _
 exact⟨h.cur.box (by omega) (fun k d b off e=>by have:=hl k d b off e;omega) 2 _,Z0 h.kept (by omega) _ _,h.lt,zD h.res 2 _ (by omega),zy h.box 2 _,h.sa.other d (fun b e=>by have e:b=ob:=e;subst e;exact⟨_,_,h.box,by decide,by decide,by decide⟩)⟩
theorem zbv.fin (h:zbv w u cb ao n c a ob N S a1 a2 a3 m2 m3 c1 c2 c3 L C)(l:cb<w.heap.size)(hl:Zh w ao n)(d f g:Value) :
  CurIs (((u.setCell ⟨w.heap.size,0,none⟩ d).setCell ⟨w.heap.size,1,none⟩ f).setCell ⟨w.heap.size,2,none⟩ g) cb ao n c a/\zA w (((u.setCell ⟨w.heap.size,0,none⟩ d).setCell ⟨w.heap.size,1,none⟩ f).setCell ⟨w.heap.size,2,none⟩ g) (fun b=>b=cb)/\(((u.setCell ⟨w.heap.size,0,none⟩ d).setCell ⟨w.heap.size,1,none⟩ f).setCell ⟨w.heap.size,2,none⟩ g).heap[w.heap.size]?=some (.cells #[d,f,g] 66 (0,0)) /\
   OwnSails (((u.setCell ⟨w.heap.size,0,none⟩ d).setCell ⟨w.heap.size,1,none⟩ f).setCell ⟨w.heap.size,2,none⟩ g) w.heap.size (.slice a1 N c1) N S L C:=by
 have i:zA u (((u.setCell ⟨w.heap.size,0,none⟩ d).setCell ⟨w.heap.size,1,none⟩ f).setCell ⟨w.heap.size,2,none⟩ g) (fun b=>b=w.heap.size):=(((zA.refl u (fun b=>b=w.heap.size)).set (a:=⟨w.heap.size,0,none⟩) rfl _).set (a:=⟨w.heap.size,1,none⟩) rfl _).set (a:=⟨w.heap.size,2,none⟩) rfl _
 exact⟨h.cur.far i (by omega) (fun k j b off e=>by have:=hl k j b off e;omega),h.kept.over i (fun b e=>by have e:b=w.heap.size:=e;omega),zfS h.res _ _ _,h.sa.other i (fun b e=>by have e:b=w.heap.size:=e;subst e;exact⟨_,_,h.res,by decide,by decide,by decide⟩)⟩
end
end
end Go.Proofs.YtfallpinmhbemaaGreatDoor
