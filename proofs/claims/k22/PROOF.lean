import PyProof.Rows.All
import Wide.All
import OpenK.AllK
import Wide.FinOn
import Lean
import PyProof.EqAt
import PyProof.EqKinds
import PyProof.TupleCall
import KE.KIntText
import PySem.Challenge.RW_surefoot_k22_whole_decimals
set_option Elab.async false
set_option linter.all false
set_option maxRecDepth 100000
namespace L2
open PySem PySem.Spec PyProof.Rows
noncomputable abbrev Key:=Sum Int Str
noncomputable def E5:Key->Value->Bool
 |.inl k,v=>Value.isInt k v
 |.inr x,v=>Value.isStrOf x v
noncomputable def M'(w:World):Key->Int
 |.inl k=>hashInt k
 |.inr x=>hashStr w x
theorem cE:∀{k:Key}{v:Value},E5 k v=true->(∃i t,k=Sum.inl i/\v=Value.int i t)\/(∃x t,k=Sum.inr x/\v=Value.str x t)
 |.inl i,v,h=>by
  obtain⟨t,e⟩:=Value.isInt_shape (k:=i) (v:=v) h;exact .inl ⟨i,t,rfl,e⟩
 |.inr x,v,h=>by
  obtain⟨t,e⟩:=Value.isStrOf_shape (x:=x) (v:=v) h;exact .inr ⟨x,t,rfl,e⟩
theorem Gr(a b:Int):decide ((Sum.inl a:Key)=Sum.inl b)=(a==b):=by
 by_cases e:a=b
 ·subst e;simp
 ·have h:¬(Sum.inl a:Key)=Sum.inl b:=fun q=>e (Sum.inl.inj q);rw[decide_eq_false h];exact(beq_eq_false_iff_ne.mpr e).symm
theorem Gs(a b:Str):decide ((Sum.inr a:Key)=Sum.inr b)=decide (a=b):=by
 by_cases e:a=b
 ·subst e;simp
 ·have h:¬(Sum.inr a:Key)=Sum.inr b:=fun q=>e (Sum.inr.inj q);rw[decide_eq_false h,decide_eq_false e]
theorem Gu(a:Int)(b:Str):decide ((Sum.inl a:Key)=Sum.inr b)=false:=decide_eq_false (fun q=>nomatch q)
theorem Gv(a:Str)(b:Int):decide ((Sum.inr a:Key)=Sum.inl b)=false:=decide_eq_false (fun q=>nomatch q)
noncomputable def pJ(prog:Program)(w:World):PySem.KeyKind prog w Key where
 is:=E5
 hash:=M' w
 inj:=fun v a b ha hb=>by
  rcases cE ha with⟨i,t,rfl,rfl⟩|⟨x,t,rfl,rfl⟩
  ·rcases cE hb with⟨j,u,rfl,e⟩|⟨y,u,rfl,e⟩
   ·injection e with e1 _;rw[e1]
   ·exact nomatch e
  ·rcases cE hb with⟨j,u,rfl,e⟩|⟨y,u,rfl,e⟩
   ·exact nomatch e
   ·injection e with e1 _;rw[e1]
 byValue:=fun k v h=>by
  rcases cE h with⟨i,t,rfl,rfl⟩|⟨x,t,rfl,rfl⟩<;>rfl
 pyHash:=fun hv h=>by
  rcases cE hv with⟨i,t,rfl,rfl⟩|⟨x,t,rfl,rfl⟩
  ·exact wpAny_pyHash_int h
  ·exact wpAny_pyHash_str h
 eqBool:=fun hu hv h=>by
  rcases cE hu with⟨i,t,rfl,rfl⟩|⟨x,t,rfl,rfl⟩
  ·rcases cE hv with⟨j,u,rfl,rfl⟩|⟨y,u,rfl,rfl⟩
   ·rw[Gr] at h;exact wpAny_eqBool_int h
   ·rw[Gu] at h;exact SeqAt.EqAt.int_str i t y u _ _ _ _ h
  ·rcases cE hv with⟨j,u,rfl,rfl⟩|⟨y,u,rfl,rfl⟩
   ·rw[Gv] at h;exact SeqAt.EqAt.str_int x t j u _ _ _ _ h
   ·rw[Gs] at h;exact wpAny_eqBool_str h
 «strs»:=fun k x t v h=>by
  rcases cE h with⟨i,u,rfl,e⟩|⟨y,u,rfl,e⟩
  ·exact nomatch e
  ·injection e with e1 _;subst e1;cases v<;>rfl
end L2
namespace L2
open PySem PySem.Spec PyProof.Rows
inductive V where
 |eT|bl (b:Bool)|int (i:Int)|str (x:Str)|wV (b:Array UInt8)|Gw (b:UInt64)|ref (a:Addr)|ty (n:String)
 deriving DecidableEq
noncomputable def RelV:V->Value->Prop
 |.eT,u=>u=Value.none
 |.bl b,u=>u=Value.bool b
 |.int i,u=>∃t,u=Value.int i t
 |.str x,u=>∃t,u=Value.str x t
 |.wV b,u=>∃t,u=Value.bytes b t
 |.Gw b,u=>∃t,u=Value.float b t
 |.ref a,u=>u=Value.ref a
 |.ty n,u=>u=Value.type n
noncomputable abbrev Vals:List V->List Value->Prop:=Paired RelV
theorem Vals.length{xs:List V}{us:List Value}(r:Vals xs us):xs.length=us.length:=Paired.length r
theorem Vals.get:∀{xs:List V}{us:List Value}{i:Nat}{x:V},Vals xs us->xs[i]?=some x->∃u,us[i]?=some u/\RelV x u
 |_,_,_,_,.nil,e=>by simp at e
 |_,_,0,_,.cons r _,e=>by simp at e;subst e;exact⟨_,rfl,r⟩
 |_,_,i+1,x,.cons _ t,e=>by
  obtain⟨u,h1,h2⟩:=Vals.get (i:=i) (x:=x) t (by simpa using e);exact⟨u,by simpa using h1,h2⟩
theorem Vals.set{x:V}{u:Value}(r:RelV x u):∀{xs:List V}{us:List Value}(i:Nat),Vals xs us->Vals (xs.set i x) (us.set i u)
 |_,_,_,.nil=>.nil
 |_,_,0,.cons _ t=>.cons r t
 |_,_,i+1,.cons q t=>.cons q (Vals.set r i t)
theorem Vals.append:∀{xs ys:List V}{us ws:List Value},Vals xs us->Vals ys ws->Vals (xs++ys) (us++ws)
 |_,_,_,_,.nil,s=>s
 |_,_,_,_,.cons r t,s=>.cons r (Vals.append t s)
theorem Vals.take:∀{xs:List V}{us:List Value}(n:Nat),Vals xs us->Vals (xs.take n) (us.take n)
 |_,_,0,_=>.nil
 |_,_,_+1,.nil=>.nil
 |_,_,n+1,.cons r t=>.cons r (Vals.take n t)
theorem Vals.drop:∀{xs:List V}{us:List Value}(n:Nat),Vals xs us->Vals (xs.drop n) (us.drop n)
 |_,_,0,r=>r
 |_,_,_+1,.nil=>.nil
 |_,_,n+1,.cons _ t=>Vals.drop n t
noncomputable def uS:Option V->Option Value->Prop
 |some v,some u=>RelV v u
 |none,none=>True
 |_,_=>False
noncomputable def KV{κ:Type}:List (κ×V)->List (κ×Value)->Prop:=Paired fun(p:κ×V)(q:κ×Value)=>p.1=q.1/\RelV p.2 q.2
noncomputable def kV:Key->V
 |.inl i=>.int i
 |.inr x=>.str x
inductive HO where
 |lst (xs:List V)
 |tup (xs:List V)
 |dK (iK:List (Key×V))|dT (iK:List (List Key×V))
 |set (S:Int->Bool) (n:Nat)
 |ins (C dx:Addr) (fs:List (Str×V))
 |own (x:Addr)
 |xd (fs:List (Str×V))
 |met (f x:Addr)
 |Na (lo hi:Int)
 |wW (o:Obj) (u:HO)
 |Gx (ps:Array Value)
 |ext (φ:Heap->Prop)
noncomputable abbrev Hp:=Addr->Option HO
noncomputable def upd(H:Hp)(a:Addr)(o:HO):Hp:=fun b=>if b=a then some o else H b
theorem ak{H:Hp}{a:Addr}{o:HO}:upd H a o a=some o:=by unfold upd;rw[if_pos rfl]
theorem aH{H:Hp}{a b:Addr}{o:HO}(h:b≠a):upd H a o b=H b:=by unfold upd;rw[if_neg h]
theorem aI{H:Hp}{a b:Addr}{o:HO}(h:H a=some o)(h':H b=none):a≠b:=by
 intro e;subst e;rw[h] at h';cases h'
section
variable (P:Program) (w:World)
noncomputable def dY(H:Hp)(h:Heap)(a:Addr):HO->Prop
 |.lst xs=>xs.length<=sizeLine/\∃(aX:List Value)(n:Nat),Vals xs aX/\h.get? a=some {cls:=.type "list",data:=.seq aX.toArray n}
 |.tup xs=>xs.length<=sizeLine/\∃aX:List Value,Vals xs aX/\IsTup h a aX.toArray
 |.dK iK=>iK.length<=sizeLine/\(a==sysModules)=false/\∃vs,KV iK vs/\h.DictOf (pJ P w) a vs
 |.dT iK=>iK.length<=sizeLine/\(a==sysModules)=false/\∃xs:List (List Key×Addr×Value),
  Paired (fun(p:List Key×V)(q:List Key×Addr×Value)=>p.1=q.1/\H q.2.1=some (.tup (p.1.map kV))/\RelV p.2 q.2.2) iK xs/\
  ∃o es ep,h.get? a=some o/\o.ExactDict/\o.data=.dict es ep/\es.toList=xs.map (entryOfKey (tupleKind (pJ P w)))/\(xs.map (·.1)).Nodup
 |.set S n=>h.SetOf (intKind P w) a S n
 |.ins C dx fs=>H dx=some (.own a)/\fs.length<=1000/\dx≠a/\h.get? a=some (PySem.W.instObj C dx)/\
  ∃mA,h.Ns1 dx mA/\(∀f,uS (fs.lookup f) (mA f))/\PySem.Within mA (fs.map (·.1))
 |.own _=>∃o,h.get? a=some o
 |.xd fs=>∃mA,h.Ns1 a mA/\∀f,uS (fs.lookup f) (mA f)
 |.Na lo hi=>∃t u v,h.get? a=some {cls:=.type "range",data:=.fields #[.int lo t,.int hi u,.int 1 v]}
 |.wW o u=>h.get? a=some o/\dY H h a u
 |.Gx ps=>h.get? a=some {cls:=.none,data:=.fields ps}
 |.met f x=>h.get? a=some (PySem.W.methodObj (.ref f) (.ref x))
 |.ext φ=>φ h/\(∃o,h.get? a=some o)/\∀h1 h2:Heap,φ h1->(∀o,h1.get? a=some o->h2.get? a=some o)->φ h2
noncomputable def lS(H:Hp)(h:Heap):Prop:=∀a o,H a=some o->dY P w H h a o
end
section
variable {P:Program} {w:World} {H H':Hp} {h h':Heap} {a:Addr} {o:HO}
theorem dY.lt(x:dY P w H h a o):a<h.objs.size:=by
 cases o with
 |lst xs=>obtain⟨_,_,_,_,e⟩:=x;exact Heap.lt_size e
 |tup xs=>obtain⟨_,_,_,p⟩:=x;exact p.lt
 |dK iK=>obtain⟨_,_,_,_,o,_,_,e,_⟩:=x;exact Heap.lt_size e
 |dT iK=>obtain⟨_,_,_,_,o,_,_,e,_⟩:=x;exact Heap.lt_size e
 |set S n=>obtain⟨o,_,_,_,e,_⟩:=x;exact Heap.lt_size e
 |ins C dx fs=>obtain⟨_,_,_,e,_⟩:=x;exact Heap.lt_size e
 |own y=>obtain⟨_,e⟩:=x;exact Heap.lt_size e
 |xd fs=>obtain⟨_,⟨_,_,_,e,_⟩,_⟩:=x;exact Heap.lt_size e
 |Na lo hi=>obtain⟨_,_,_,e⟩:=x;exact Heap.lt_size e
 |wW ob u=>obtain⟨e,_⟩:=x;exact Heap.lt_size e
 |Gx ps=>exact Heap.lt_size (show h.get? a=some _ from x)
 |met f y=>exact Heap.lt_size (show h.get? a=some _ from x)
 |ext φ=>obtain⟨_,⟨_,e⟩,_⟩:=x;exact Heap.lt_size e
theorem Paired.Jr{α β:Type}{F G:α->β->Prop}:∀{l₁:List α}{Js:List β},Paired F l₁ Js->(∀a b,F a b->G a b)->Paired G l₁ Js
 |_,_,.nil,_=>.nil
 |_,_,.cons r t,f=>.cons (f _ _ r) (Paired.Jr t f)
theorem dY.yG(x:dY P w H h a o)(k:∀b u,(b=a\/H b=some (.own a))->h.get? b=some u->h'.get? b=some u)(ho:∀b,H b=some (.own a)->H' b=some (.own a))(ht:∀b xs,H b=some (.tup xs)->H' b=some (.tup xs)):dY P w H' h' a o:=by
 induction o with
 |lst xs=>obtain⟨z,aX,n,r,e⟩:=x;exact⟨z,aX,n,r,k _ _ (.inl rfl) e⟩
 |tup xs=>obtain⟨z,aX,r,ob,e,c⟩:=x;exact⟨z,aX,r,ob,k _ _ (.inl rfl) e,c⟩
 |dK iK=>obtain⟨z,y,vs,r,ob,es,ep,e,c⟩:=x;exact⟨z,y,vs,r,ob,es,ep,k _ _ (.inl rfl) e,c⟩
 |dT iK=>
  obtain⟨z,y,xs,r,ob,es,ep,e,c⟩:=x;exact⟨z,y,xs,Paired.Jr r fun p q z=>⟨z.1,ht _ _ z.2.1,z.2.2⟩,ob,es,ep,k _ _ (.inl rfl) e,c⟩
 |set S n=>obtain⟨ob,es,ep,t,e,c⟩:=x;exact⟨ob,es,ep,t,k _ _ (.inl rfl) e,c⟩
 |ins C dx fs=>
  obtain⟨d,z,ne,e,mA,⟨od,es,ep,e2,c⟩,r⟩:=x;exact⟨ho _ d,z,ne,k _ _ (.inl rfl) e,mA,⟨od,es,ep,k _ _ (.inr d) e2,c⟩,r⟩
 |own y=>obtain⟨ob,e⟩:=x;exact⟨ob,k _ _ (.inl rfl) e⟩
 |xd fs=>obtain⟨mA,⟨od,es,ep,e,c⟩,r⟩:=x;exact⟨mA,⟨od,es,ep,k _ _ (.inl rfl) e,c⟩,r⟩
 |Na lo hi=>obtain⟨t,u,v,e⟩:=x;exact⟨t,u,v,k _ _ (.inl rfl) e⟩
 |wW ob u ih=>obtain⟨e,q⟩:=x;exact⟨k _ _ (.inl rfl) e,ih q⟩
 |Gx ps=>
  have e:h.get? a=some {cls:=.none,data:=.fields ps}:=x;show h'.get? a=some {cls:=.none,data:=.fields ps};exact k a _ (.inl rfl) e
 |met f y=>
  have e:h.get? a=some (PySem.W.methodObj (.ref f) (.ref y)):=x;show h'.get? a=some (PySem.W.methodObj (.ref f) (.ref y));exact k a _ (.inl rfl) e
 |ext φ=>obtain⟨p,⟨o,e⟩,st⟩:=x;exact⟨st _ _ p fun o q=>k _ _ (.inl rfl) q,⟨o,k _ _ (.inl rfl) e⟩,st⟩
theorem lS.lt(x:lS P w H h)(e:H a=some o):a<h.objs.size:=(x a o e).lt
theorem lS.fresh(x:lS P w H h)(e:h.objs.size<=a):H a=none:=by
 cases q:H a with
 |none=>rfl
 |some u=>exact absurd (Nat.lt_of_lt_of_le (x.lt q) e) (Nat.lt_irrefl _)
theorem lS.kept(x:lS P w H h)(k:∀b u,h.get? b=some u->h'.get? b=some u):lS P w H h':=fun a o e=>
 (x a o e).yG (fun b u _ q=>k b u q) (fun _ q=>q) fun _ _ q=>q
theorem lS.laid(x:lS P w H h)(k:∀b u,h.get? b=some u->h'.get? b=some u)(hp:h.objs.size<=a)(new:dY P w (upd H a o) h' a o):lS P w (upd H a o) h':=fun b u e=>by
 have hn:=x.fresh hp;by_cases hb:b=a
 ·subst hb;rw[ak] at e;cases e;exact new
 ·rw[aH hb] at e;exact(x b u e).yG (fun c v _ q=>k c v q) (fun c q=>by rw[aH (aI q hn)];exact q) fun c xs q=>by rw[aH (aI q hn)];exact q
end
noncomputable def Rd(H:Hp)(a:Addr)(u:HO):Prop:=H a=some u\/∃o,H a=some (.wW o u)
theorem Rd.ok{P:Program}{w:World}{H:Hp}{h:Heap}{a:Addr}{u:HO}(r:Rd H a u)(x:lS P w H h):dY P w H h a u:=by
 rcases r with r|⟨o,r⟩
 ·exact x a u r
 ·obtain⟨_,q⟩:=x a _ r;exact q
noncomputable def Mc:Option HO->Prop
 |some (.lst _)=>True
 |some (.dK _)=>True
 |some (.dT _)=>True
 |some (.set _ _)=>True
 |some (.ins _ _ _)=>True
 |some (.ext _)=>True
 |_=>False
section
variable {P:Program} {w:World} {H:Hp} {h h':Heap} {x e:Addr} {o':HO}
theorem lS.write(ok:lS P w H h)(mu:Mc (H x))(he:e=x\/H e=some (.own x))(k:∀b u,b≠e->h.get? b=some u->h'.get? b=some u)(IQ:∃u,h'.get? e=some u)(new:dY P w (upd H x o') h' x o'):lS P w (upd H x o') h':=fun b u q=>by
 have Jt:∀c y,H c=some (.own y)->c≠x:=fun c y r z=>by subst z;rw[r] at mu;exact mu
 have Nb:∀c xs,H c=some (.tup xs)->c≠x:=fun c xs r z=>by subst z;rw[r] at mu;exact mu
 by_cases hb:b=x
 ·subst hb;rw[ak] at q;cases q;exact new
 ·rw[aH hb] at q;by_cases Gy:b=e
  ·have q':H b=some (.own x):=by
    rcases he with z|z
    ·exact absurd (Gy.trans z) hb
    ·rw[Gy];exact z
   rw[q] at q';cases q';obtain⟨v,hv⟩:=IQ;exact⟨v,by rw[Gy];exact hv⟩
  ·refine(ok b u q).yG (fun c v hc r=>k c v ?_ r) (fun c r=>by rw[aH (Jt c b r)];exact r) fun c xs r=>by rw[aH (Nb c xs r)];exact r
   rcases hc with rfl|hc
   ·exact Gy
   ·rintro rfl;rcases he with z|z
    ·exact Jt c b hc z
    ·rw[hc] at z;cases z;exact hb rfl
end
structure Un(fs ex:List Addr)(H H':Hp)(h h':Heap):Prop where
 keep:∀b o,h.get? b=some o->H b=none->b∉fs->b∉ex->h'.get? b=some o
 slot:∀b o,h.get? b=some o->H b=none->b∈fs->b∉ex->∃sl,h'.get? b=some {o with slots:=sl}
 free:∀b o,h.get? b=some o->H b=none->b∉ex->H' b=none
 there:∀b o,h.get? b=some o->b∉ex->∃o',h'.get? b=some o'
 rL:∀b xs,H b=some (.tup xs)->H' b=some (.tup xs)
 pK:∀b o u,H b=some (.wW o u)->H' b=some (.wW o u)
 rM:∀b ps,H b=some (.Gx ps)->∃more,H' b=some (.Gx (ps++more))
section
variable {fs Ss ex Wb:List Addr} {H H1 H2:Hp} {h h1 h2 h':Heap} {a x e:Addr} {o:HO}
theorem Un.any(u:Un fs ex H H1 h h1){b:Addr}{ob:Obj}(q:h.get? b=some ob)(n:H b=none)(hx:b∉ex):∃sl,h1.get? b=some {ob with slots:=sl}:=by
 by_cases hb:b∈fs
 ·exact u.slot b ob q n hb hx
 ·exact⟨ob.slots,u.keep b ob q n hb hx⟩
theorem Un.kept(k:∀b u,h.get? b=some u->h'.get? b=some u):Un fs ex H H h h':=
 ⟨fun b ob q _ _ _=>k b ob q,fun b ob q _ _ _=>⟨ob.slots,k b ob q⟩,fun _ _ _ n _=>n,fun b ob q _=>⟨ob,k b ob q⟩,fun _ _ q=>q,fun _ _ _ q=>q,fun _ ps q=>⟨#[],by rw[q];simp⟩⟩
theorem Un.refl:Un fs ex H H h h:=Un.kept fun _ _ q=>q
theorem Un.laid(k:∀b u,h.get? b=some u->h'.get? b=some u)(hp:h.objs.size<=a)(hn:H a=none):Un fs ex H (upd H a o) h h' where
 keep:=fun b u q _ _ _=>k b u q
 slot:=fun b u q _ _ _=>⟨u.slots,k b u q⟩
 free:=fun b u q n _=>by rw[aH (Nat.ne_of_lt (Nat.lt_of_lt_of_le (Heap.lt_size q) hp))];exact n
 there:=fun b u q _=>⟨u,k b u q⟩
 rL:=fun b xs q=>by rw[aH (aI q hn)];exact q
 pK:=fun b u xs q=>by rw[aH (aI q hn)];exact q
 rM:=fun b ps q=>⟨#[],by rw[aH (aI q hn),q];simp⟩
theorem Un.write(mu:Mc (H x))(he:e=x\/H e=some (.own x))(k:∀b u,b≠e->h.get? b=some u->h'.get? b=some u)(IQ:∃u,h'.get? e=some u):Un fs ex H (upd H x o) h h':=by
 have hx:∀b,H b=none->b≠x:=fun b n z=>by subst z;rw[n] at mu;exact mu
 have hb:∀b,H b=none->b≠e:=fun b n z=>by
  subst z;rcases he with r|r
  ·exact hx b n r
  ·rw[n] at r;cases r
 have hm:∀b u,H b=some u->¬Mc (some u)->b≠x:=fun b u q nm z=>by subst z;rw[q] at mu;exact nm mu
 refine⟨fun b u q n _ _=>k b u (hb b n) q,fun b u q n _ _=>⟨u.slots,k b u (hb b n) q⟩,fun b u q n _=>by rw[aH (hx b n)];exact n,fun b u q _=>?_,
  fun b xs q=>by rw[aH (hm b _ q fun z=>z)];exact q,fun b u xs q=>by rw[aH (hm b _ q fun z=>z)];exact q,fun b ps q=>⟨#[],by rw[aH (hm b _ q fun z=>z),q];simp⟩⟩;by_cases Gy:b=e
 ·subst Gy;exact IQ
 ·exact⟨u,k b u Gy q⟩
end
noncomputable def Md(h:Heap)(H:Hp):List Addr:=(List.range h.objs.size).filter fun a=>(H a).isSome
noncomputable def pL(h:Heap)(H:Hp):Heap:=PySem.W.hideAll h (Md h H)
theorem yH(h:Heap)(H:Hp):(pL h H).objs.size=h.objs.size:=PySem.W.hideAll_size _ _
theorem Ah{h:Heap}{H:Hp}{b:Addr}{o:Obj}(e:h.get? b=some o)(n:H b=none):(pL h H).get? b=some o:=
 PySem.W.hideAll_get _ e fun hm=>by
  have q:(H b).isSome=true:=(List.mem_filter.mp hm).2;rw[n] at q;simp at q
theorem C5{h:Heap}{H:Hp}{b:Addr}{o:Obj}(e:(pL h H).get? b=some o):h.get? b=some o/\H b=none:=by
 have e':h.get? b=some o:=PySem.W.of_hideAll (Md h H) e;refine⟨e',?_⟩;cases q:H b with
 |none=>rfl
 |some x=>
  have hm:b∈Md h H:=List.mem_filter.mpr ⟨List.mem_range.mpr (Heap.lt_size e'),by simp[q]⟩;have z:(pL h H).get? b=none:=PySem.W.hideAll_none (Md h H) hm;rw[z] at e;cases e
noncomputable def C6(g h:Heap)(L:Addr):List (Addr×Obj):=(List.range h.objs.size).filterMap fun a=>if a=L\/(g.get? a).isSome=true then none else(h.get? a).map fun o=>(a,o)
noncomputable def rest(g h:Heap)(L d:Addr):List (Addr×Obj):=(C6 g h L).filter fun p=>decide (p.1≠d)
end L2
namespace L2
open PySem PySem.Spec PyProof.Rows
structure Mod(K:PySem.W.Frag)(mg:Str->Option Value)(base:Heap):Prop where
 Me:K.In base
 glob:base.Ns mainGlobals mg
 blt:∃mb,base.Ns builtinsNs mb/\∀x:Str,x≠"__name__"->mb x=bootBuiltins x
 nolimit:base.NoLimit
 seer:base.NoSeer
structure Cx where
 prog:Program
 w:World
 K:PySem.W.Frag
 mg:Str->Option Value
 base:Heap
 A:Around
 N:List Str
 fL:Shared
 Ai:Hp
 env:Env
 outer:List Env
 stack:List Env
 ex:List Addr
 fn:Str->Bool
 calm:Bool
 pn:List (Addr×Obj)
 xe:Value->Shared->Prop
noncomputable def yI(l:List Env):List Addr:=l.filterMap (·.frame)
noncomputable abbrev Cx.fs(X:Cx):List Addr:=yI X.outer
noncomputable def Nc(sc:Scope)(x:Str):Prop:=sc.names.lookup x=some .local\/sc.names.lookup x=some .cell\/sc.names.lookup x=some .free
noncomputable def Loc(sc:Scope)(x:Str):Prop:=sc.names.lookup x=some .local\/sc.names.lookup x=some .cell
noncomputable def Look(env:Env)(h:Heap)(m:Str->Option Value)(x:Str)(u:Value):Prop:=
 (env.kindOf x=some .local/\m x=some u)\/((env.kindOf x=some .cell\/env.kindOf x=some .free)/\∃c,env.cells.lookup x=some c/\h.IsCell c (some u))
structure Cx.Ok(X:Cx):Prop where
 mod:Mod X.K X.mg X.base
 kind:X.env.scope.kind=.function
 glob:X.env.globals=mainGlobals
 blt:X.env.builtins=builtinsNs
 above:X.fL.heap.objs.size<=X.env.locals
 inj:∀x y c,X.env.cells.lookup x=some c->X.env.cells.lookup y=some c->x=y
 has:∀x,(X.env.kindOf x=some .cell\/X.env.kindOf x=some .free)->∃c,X.env.cells.lookup x=some c
 Ju:∀x c,X.fn x=true->X.env.cells.lookup x=some c->X.fL.heap.objs.size<=c
 hd:X.calm=true->X.A.handled=none
 frames:X.A.frames=some X.stack
 Mf:X.stack=X.outer\/(X.stack=X.env::X.outer/\X.env.frame=some X.env.locals)
 Qh:∀b∈X.ex,b≠X.env.locals/\∀x c,X.env.cells.lookup x=some c->c≠b
 bs:∀b o,X.base.get? b=some o->X.fL.heap.get? b=some o/\X.Ai b=none
 C7:X.base.objs.size<=X.fL.heap.objs.size
 Aj:∀b o,X.base.get? b=some o->b∉X.ex
 C8:∀b∈X.ex,b∉X.fs
 lT:X.fL.heap.FunFrames X.base X.outer
 Gz:∀b∈X.fs,X.Ai b=none
structure Inv(X:Cx)(pins:List (Addr×Obj))(σ:List (Option V))(H:Hp)(s:Shared):Prop where
 ok:X.Ok
 os:s.os=X.fL.os
 bare:AllBare s.gens
 base:Un X.fs X.ex X.Ai H X.fL.heap s.heap
 loc:∃m,s.heap.Ns X.env.locals m/\∀(i:Nat)(x:Str)(v:V),X.N[i]?=some x->σ[i]?=some (some v)->Nc X.env.scope x->∃u,RelV v u/\Look X.env s.heap m x u
 cell:∀x c,X.env.cells.lookup x=some c->∃v,s.heap.IsCell c v
 free:H X.env.locals=none
 jt:∀x c,X.env.cells.lookup x=some c->H c=none
 pin:∀p∈X.pn++pins,s.heap.get? p.1=some p.2/\H p.1=none/\p.1≠X.env.locals/\p.1∉X.fs/\∀v,p.2.data≠.cell v
 dE:lS X.prog X.w H s.heap
 len:σ.length=X.N.length
section
variable {X:Cx} {pins:List (Addr×Obj)} {σ:List (Option V)} {H H':Hp} {s:Shared} {h':Heap}
theorem Cx.Ok.Nd(ok:X.Ok){b:Addr}{o:Obj}(e:X.base.get? b=some o):b∉X.fs:=fun hb=>by
 have:=(ok.lT.mem hb).1;rw[e] at this;cases this
theorem Inv.bs(I:Inv X pins σ H s):∀b o,X.base.get? b=some o->s.heap.get? b=some o/\H b=none:=fun b o e=>
 ⟨I.base.keep b o (I.ok.bs b o e).1 (I.ok.bs b o e).2 (I.ok.Nd e) (I.ok.Aj b o e),I.base.free b o (I.ok.bs b o e).1 (I.ok.bs b o e).2 (I.ok.Aj b o e)⟩
theorem Inv.bk(I:Inv X pins σ H s):∀b o,X.base.get? b=some o->s.heap.get? b=some o:=fun b o e=>(I.bs b o e).1
theorem Inv.mod(I:Inv X pins σ H s):Mod X.K X.mg X.base:=I.ok.mod
theorem Inv.og(I:Inv X pins σ H s):X.K.In s.heap:=I.ok.mod.Me.keeps I.bk
theorem Inv.nolimit(I:Inv X pins σ H s):s.heap.NoLimit:=I.ok.mod.nolimit.keeps I.bk
theorem Inv.lt(I:Inv X pins σ H s):X.env.locals<s.heap.objs.size:=let⟨_,hn,_⟩:=I.loc;hn.lt
theorem Inv.sz(I:Inv X pins σ H s):X.fL.heap.objs.size<=s.heap.objs.size:=Nat.le_trans I.ok.above (Nat.le_of_lt I.lt)
theorem Inv.Nf(I:Inv X pins σ H s){a:Addr}(h:s.heap.objs.size<=a):a∉X.fs:=fun hb=>by
 obtain⟨_,o,ho,_⟩:=I.ok.lT.mem hb;exact absurd (Nat.lt_of_lt_of_le (Heap.lt_size ho) (Nat.le_trans I.sz h)) (Nat.lt_irrefl _)
theorem Inv.GA(I:Inv X pins σ H s):∀x c,X.env.cells.lookup x=some c->c≠X.env.locals:=fun x c e z=>by
 obtain⟨v,o,ho,hd⟩:=I.cell x c e;obtain⟨m,⟨o',es,ep,Ak,IS,_⟩,_⟩:=I.loc;rw[z,Ak] at ho;cases ho;rw[IS] at hd;cases hd
theorem Inv.lT(I:Inv X pins σ H s):s.heap.FunFrames X.base X.outer:=by
 have all:∀(l:List Env),(∀b∈yI l,b∈X.fs)->X.fL.heap.FunFrames X.base l->s.heap.FunFrames X.base l:=by
  intro l
  induction l with
  |nil=>intro _ _;trivial
  |cons env r ih=>
   intro hs hl;obtain⟨hk,⟨L,o,hf,hn,ho,hd⟩,hr⟩:=hl;have hL:L∈X.fs:=hs L (by unfold yI;rw[List.filterMap_cons,hf];exact List.mem_cons_self);obtain⟨sl,e⟩:=I.base.slot L o ho (I.ok.Gz L hL) hL fun z=>I.ok.C8 L z hL;exact⟨hk,⟨L,_,hf,hn,e,hd⟩,ih (fun b hb=>hs b (by unfold yI;rw[List.filterMap_cons,hf];exact List.mem_cons_of_mem _ hb)) hr⟩
 exact all X.outer (fun _ hb=>hb) I.ok.lT
theorem Inv.stack(I:Inv X pins σ H s):s.heap.FunFrames X.base X.stack:=by
 rcases I.ok.Mf with e|⟨e,hf⟩
 ·rw[e];exact I.lT
 ·rw[e];obtain⟨m,hn,_⟩:=I.loc;refine .cons (by rw[I.ok.kind];decide) hf hn ?_ I.lT;exact Heap.get?_none_of_le (Nat.le_trans I.ok.C7 I.ok.above)
theorem Inv.pM(I:Inv X pins σ H s):∀b∈yI X.stack,b∈X.env.locals::X.fs:=fun b hb=>by
 rcases I.ok.Mf with e|⟨e,hf⟩
 ·rw[e] at hb;exact List.mem_cons_of_mem _ hb
 ·rw[e] at hb;unfold yI at hb;rw[List.filterMap_cons,hf] at hb;exact hb
theorem Inv.wX(I:Inv X pins σ H s):∀b∈yI X.stack,H b=none:=fun b hb=>by
 rcases List.mem_cons.mp (I.pM b hb) with e|hb
 ·rw[e];exact I.free
 ·obtain⟨_,o,ho,_⟩:=I.ok.lT.mem hb;exact I.base.free b o ho (I.ok.Gz b hb) fun z=>I.ok.C8 b z hb
theorem Inv.step{g':Array GenState}{t':Nat}{d':Drawn}{ch:List Addr}(I:Inv X pins σ H s)(rN:∀b∈ch,(b∈X.ex\/X.fL.heap.objs.size<=b)/\b≠X.env.locals/\(∀x c,X.env.cells.lookup x=some c->c≠b)/\∀p∈X.pn++pins,p.1≠b)(keep:∀b o,b≠X.env.locals->b∉X.fs->b∉ch->s.heap.get? b=some o->H b=none->h'.get? b=some o)(slot:∀b o,b≠X.env.locals->b∈X.fs->b∉ch->s.heap.get? b=some o->H b=none->∃sl,h'.get? b=some {o with slots:=sl})(free:∀b o,b∉ch->s.heap.get? b=some o->H b=none->H' b=none)(there:∀b o,b∉ch->s.heap.get? b=some o->∃o',h'.get? b=some o')(rL:∀b xs,H b=some (.tup xs)->H' b=some (.tup xs))(pK:∀b o u,H b=some (.wW o u)->H' b=some (.wW o u))(rM:∀b ps,H b=some (.Gx ps)->∃more,H' b=some (.Gx (ps++more)))(ns:∀m,s.heap.Ns X.env.locals m->h'.Ns X.env.locals m)(dE:lS X.prog X.w H' h')(hg:AllBare g'):
 Inv X pins σ H' {s with heap:=h',gens:=g',drawn:=d',toks:=t'}:=by
 have Qi:∀b o,X.fL.heap.get? b=some o->b≠X.env.locals:=fun b o e=>Nat.ne_of_lt (Nat.lt_of_lt_of_le (Heap.lt_size e) I.ok.above);have Jv:∀b o,X.fL.heap.get? b=some o->b∉X.ex->b∉ch:=fun b o e hx hb=>by
  rcases(rN b hb).1 with z|z
  ·exact hx z
  ·exact absurd (Nat.lt_of_lt_of_le (Heap.lt_size e) z) (Nat.lt_irrefl _)
 have cellK:∀x c,X.env.cells.lookup x=some c->∀v,s.heap.IsCell c v->h'.IsCell c v:=fun x c e v⟨o,ho,hd⟩=>by
  have Jw:c∉ch:=fun z=>(rN c z).2.2.1 x c e rfl;by_cases hc:c∈X.fs
  ·obtain⟨sl,q⟩:=slot c o (I.GA x c e) hc Jw ho (I.jt x c e);exact⟨_,q,hd⟩
  ·exact⟨o,keep c o (I.GA x c e) hc Jw ho (I.jt x c e),hd⟩
 refine⟨I.ok,I.os,hg,⟨fun b o e n hb hx=>?_,fun b o e n hb hx=>?_,fun b o e n hx=>?_,fun b o e hx=>?_,fun b xs e=>rL b xs (I.base.rL b xs e),fun b o xs e=>pK b o xs (I.base.pK b o xs e),fun b ps e=>?_⟩,?_,fun x c e=>?_,?_,fun x c e=>?_,fun p hp=>?_,dE,I.len⟩
 ·exact keep b o (Qi b o e) hb (Jv b o e hx) (I.base.keep b o e n hb hx) (I.base.free b o e n hx)
 ·obtain⟨sl,e1⟩:=I.base.slot b o e n hb hx;obtain⟨Su,e2⟩:=slot b _ (Qi b o e) hb (Jv b o e hx) e1 (I.base.free b o e n hx);exact⟨Su,e2⟩
 ·obtain⟨o',e1⟩:=I.base.there b o e hx;exact free b o' (Jv b o e hx) e1 (I.base.free b o e n hx)
 ·obtain⟨o',e1⟩:=I.base.there b o e hx;exact there b o' (Jv b o e hx) e1
 ·obtain⟨m1,e1⟩:=I.base.rM b ps e;obtain⟨m2,e2⟩:=rM b _ e1;exact⟨m1++m2,by rw[e2,Array.append_assoc]⟩
 ·obtain⟨m,hn,hl⟩:=I.loc;refine⟨m,ns m hn,fun i x v e1 e2 e3=>?_⟩;obtain⟨u,r,l⟩:=hl i x v e1 e2 e3;refine⟨u,r,?_⟩;rcases l with l|⟨k,c,e,z⟩
  ·exact .inl l
  ·exact .inr ⟨k,c,e,cellK x c e _ z⟩
 ·obtain⟨v,z⟩:=I.cell x c e;exact⟨v,cellK x c e v z⟩
 ·obtain⟨m,⟨o,_,_,ho,_⟩,_⟩:=I.loc;exact free _ o (fun z=>(rN _ z).2.1 rfl) ho I.free
 ·obtain⟨v,o,ho,hd⟩:=I.cell x c e;exact free c o (fun z=>(rN c z).2.2.1 x c e rfl) ho (I.jt x c e)
 ·obtain⟨e,n,ne,nf,d⟩:=I.pin p hp;have Jw:p.1∉ch:=fun z=>(rN p.1 z).2.2.2 p hp rfl;exact⟨keep p.1 p.2 ne nf Jw e n,free p.1 p.2 Jw e n,ne,nf,d⟩
theorem Inv.un{t':Nat}(I:Inv X pins σ H s)(u:Un X.fs [] H H' s.heap h')(dE:lS X.prog X.w H' h'):Inv X pins σ H' {s with heap:=h',toks:=t'}:=by
 obtain⟨m,⟨o,es,ep,ho,r⟩,_⟩:=id I.loc;obtain⟨sl,hL⟩:=u.any ho I.free (by simp);exact I.step (g':=s.gens) (d':=s.drawn) (ch:=[]) (fun _ z=>nomatch z) (fun b o _ hb _ e n=>u.keep b o e n hb (by simp)) (fun b o _ hb _ e n=>u.slot b o e n hb (by simp)) (fun b o _ e n=>u.free b o e n (by simp)) (fun b o _ e=>u.there b o e (by simp)) u.rL u.pK u.rM (fun m' hm=>by
  obtain⟨o',Ng,Nh,Ak,r'⟩:=hm
  rw[ho] at Ak;cases Ak
  exact⟨_,Ng,Nh,hL,r'⟩) dE I.bare
theorem Inv.call{g':Array GenState}{t':Nat}{d':Drawn}{ch:List Addr}(I:Inv X pins σ H s)(u:Un (yI X.stack) ch H H' s.heap h')(dE:lS X.prog X.w H' h')(hg:AllBare g')(rN:∀b∈ch,(b∈X.ex\/X.fL.heap.objs.size<=b)/\b≠X.env.locals/\(∀x c,X.env.cells.lookup x=some c->c≠b)/\∀p∈X.pn++pins,p.1≠b):
 Inv X pins σ H' {s with heap:=h',gens:=g',drawn:=d',toks:=t'}:=by
 obtain⟨m,⟨o,es,ep,ho,r⟩,_⟩:=id I.loc;obtain⟨sl,hL⟩:=u.any ho I.free fun z=>(rN _ z).2.1 rfl;exact I.step (ch:=ch) rN (fun b o hL hb hc e n=>u.keep b o e n (fun z=>(List.mem_cons.mp (I.pM b z)).elim hL hb) hc) (fun b o _ _ hc e n=>u.any e n hc) (fun b o hc e n=>u.free b o e n hc) (fun b o hc e=>u.there b o e hc) u.rL u.pK u.rM (fun m' hm=>by
  obtain⟨o',Ng,Nh,Ak,r'⟩:=hm
  rw[ho] at Ak;cases Ak
  exact⟨_,Ng,Nh,hL,r'⟩) dE hg
theorem Inv.turned{t':Nat}{it:Addr}(I:Inv X pins σ H s)(k:∀b o,b≠it->s.heap.get? b=some o->h'.get? b=some o)(hn:H it=none)(hL:it≠X.env.locals)(h1:it∈X.ex\/X.fL.heap.objs.size<=it)(h2:∀x c,X.env.cells.lookup x=some c->c≠it)(h3:∀p∈X.pn++pins,p.1≠it):Inv X pins σ H {s with heap:=h',toks:=t'}:=by
 have Qj:∀b u,H b=some u->b≠it:=fun b u e z=>by rw[z,hn] at e;cases e
 refine I.step (g':=s.gens) (d':=s.drawn) (ch:=[it]) (fun b hb=>?_) (fun b o _ _ hc e _=>k b o (fun z=>hc (by simp[z])) e) (fun b o _ _ hc e _=>⟨o.slots,k b o (fun z=>hc (by simp[z])) e⟩) (fun _ _ _ _ n=>n)
  (fun b o hc e=>⟨o,k b o (fun z=>hc (by simp[z])) e⟩) (fun _ _ e=>e) (fun _ _ _ e=>e) (fun b ps e=>⟨#[],by rw[e];simp⟩) (fun m hm=>?_) (fun b u e=>?_) I.bare
 ·have e:b=it:=by simpa using hb
  subst e;exact⟨h1,hL,h2,h3⟩
 ·obtain⟨o,es,ep,ho,r⟩:=hm;exact⟨o,es,ep,k _ o (Ne.symm hL) ho,r⟩
 ·refine(I.dE b u e).yG (fun c v hc q=>k c v ?_ q) (fun _ q=>q) fun _ _ q=>q;rcases hc with z|z
  ·rw[z];exact Qj b u e
  ·exact Qj c _ z
theorem Inv.tok(I:Inv X pins σ H s)(t:Nat):Inv X pins σ H {s with toks:=t}:=I.un (h':=s.heap) (t':=t) Un.refl I.dE
theorem Inv.kept{t':Nat}(I:Inv X pins σ H s)(k:∀b u,s.heap.get? b=some u->h'.get? b=some u):Inv X pins σ H {s with heap:=h',toks:=t'}:=I.un (Un.kept k) (I.dE.kept k)
theorem Inv.laid{a:Addr}{o:HO}{t':Nat}(I:Inv X pins σ H s)(k:∀b u,s.heap.get? b=some u->h'.get? b=some u)(hp:s.heap.objs.size<=a)(new:dY X.prog X.w (upd H a o) h' a o):
 Inv X pins σ (upd H a o) {s with heap:=h',toks:=t'}:=I.un (Un.laid k hp (I.dE.fresh hp)) (I.dE.laid k hp new)
theorem Inv.write{x e:Addr}{o:HO}{t':Nat}(I:Inv X pins σ H s)(mu:Mc (H x))(he:e=x\/H e=some (.own x))(k:∀b u,b≠e->s.heap.get? b=some u->h'.get? b=some u)(IQ:∃u,h'.get? e=some u)(new:dY X.prog X.w (upd H x o) h' x o):Inv X pins σ (upd H x o) {s with heap:=h',toks:=t'}:=I.un (Un.write mu he k IQ) (I.dE.write mu he k IQ new)
theorem Inv.wY{E6:List (Addr×Obj)}(I:Inv X pins σ H s)(h:∀p∈E6,s.heap.get? p.1=some p.2/\H p.1=none/\p.1≠X.env.locals/\p.1∉X.fs/\∀v,p.2.data≠.cell v):Inv X E6 σ H s:=
 ⟨I.ok,I.os,I.bare,I.base,I.loc,I.cell,I.free,I.jt,fun p hp=>(List.mem_append.mp hp).elim (fun z=>I.pin p (List.mem_append_left _ z)) (h p),I.dE,I.len⟩
theorem rO{N:List Str}(hN:N.Nodup){i j:Nat}{x:Str}(a:N[i]?=some x)(b:N[j]?=some x):i=j:=by
 obtain⟨h1,e1⟩:=List.getElem?_eq_some_iff.mp a;obtain⟨h2,e2⟩:=List.getElem?_eq_some_iff.mp b;exact(List.getElem_inj hN).mp (e1.trans e2.symm)
theorem oM{M:Model}{A:Around}{E:Value->Shared->Prop}{i:Nat}{x:Str}{v:V}{u:Value}{Q:Unit->Shared->Prop}(I:Inv X pins σ H s)(hN:X.N.Nodup)(hi:X.N[i]?=some x)(hx:Loc X.env.scope x)(r:RelV v u)(h:∀s',Inv X pins (σ.set i (some v)) H s'->(∃a,Heap.SameBut a s.heap s'.heap/\(a=X.env.locals\/X.env.cells.lookup x=some a))->Q () s')(hf:X.fn x=true\/X.env.scope.names.lookup x=some .local:=by first|exact .inl rfl|exact .inr rfl|assumption):wpAny M A (storeName X.env x u) Q E s:=by
 obtain⟨m,hn,hl⟩:=id I.loc;have Ni:(X.env.scope.kind==.class||(X.env.scope.kind==.module&&X.env.locals !=X.env.globals))=false:=by rw[I.ok.kind];rfl
 have Jx:i<σ.length:=by rw[I.len];exact(List.getElem?_eq_some_iff.mp hi).1
 have GA:=I.GA;have tracked:∀{a:Addr}{h':Heap},(∃o,s.heap.get? a=some o/\H a=none)->Heap.SameBut a s.heap h'->lS X.prog X.w H h':=fun{a h'} ha hs b ob e=>by
  obtain⟨_,_,E7⟩:=ha;refine(I.dE b ob e).yG (fun c w' hc q=>(hs.2 c ?_).trans q) (fun _ q=>q) fun _ _ q=>q;rintro rfl;rcases hc with rfl|hc
  ·rw[E7] at e;cases e
  ·rw[E7] at hc;cases hc
 rcases hx with hk|hk
 ·refine wpAny_storeName_local hk hn (fun h' Nj hs=>?_) Ni;obtain⟨oL,_,_,Sv,_⟩:=id hn;refine h _ ⟨I.ok,I.os,I.bare,⟨fun b o e n hb hx=>?_,fun b o e n hb hx=>?_,I.base.free,fun b o e hx=>?_,I.base.rL,I.base.pK,I.base.rM⟩,⟨_,Nj,fun j y v' e1 e2 e3=>?_⟩,fun y c e=>?_,I.free,I.jt,fun p hp=>?_,tracked ⟨oL,Sv,I.free⟩ hs,by simpa using I.len⟩ ⟨_,hs,.inl rfl⟩
  ·exact(hs.2 b (Nat.ne_of_lt (Nat.lt_of_lt_of_le (Heap.lt_size e) I.ok.above))).trans (I.base.keep b o e n hb hx)
  ·obtain⟨sl,e1⟩:=I.base.slot b o e n hb hx;exact⟨sl,(hs.2 b (Nat.ne_of_lt (Nat.lt_of_lt_of_le (Heap.lt_size e) I.ok.above))).trans e1⟩
  ·obtain⟨o',e1⟩:=I.base.there b o e hx;exact⟨o',(hs.2 b (Nat.ne_of_lt (Nat.lt_of_lt_of_le (Heap.lt_size e) I.ok.above))).trans e1⟩
  ·by_cases hj:j=i
   ·subst hj;rw[hi] at e1;cases e1;rw[List.getElem?_set_self Jx] at e2;cases e2;exact⟨u,r,.inl ⟨hk,by simp⟩⟩
   ·rw[List.getElem?_set_ne (Ne.symm hj)] at e2;obtain⟨u',r',q⟩:=hl j y v' e1 e2 e3;refine⟨u',r',?_⟩;rcases q with⟨k,e⟩|⟨k,c,e,z⟩
    ·refine .inl ⟨k,?_⟩;have:y≠x:=fun e=>hj (rO hN e1 (e▸hi));simp[this,e]
    ·exact .inr ⟨k,c,e,z.sameBut hs (GA y c e)⟩
  ·obtain⟨w',z⟩:=I.cell y c e;exact⟨w',z.sameBut hs (GA y c e)⟩
  ·obtain⟨e,n,ne,nf,d⟩:=I.pin p hp;exact⟨(hs.2 p.1 ne).trans e,n,ne,nf,d⟩
 ·have IT:X.fn x=true:=by
   rcases hf with z|z
   ·exact z
   ·rw[z] at hk;cases hk
  obtain⟨c,hc⟩:=I.ok.has x (.inl hk);obtain⟨w',z⟩:=I.cell x c hc;refine wpAny_storeName_cell I.ok.kind hk hc z (fun h' GB hs=>?_);obtain⟨oc,Qk,Nk⟩:=id z;refine h {s with heap:=h'} ⟨I.ok,I.os,I.bare,⟨fun b o e n hb hx=>?_,fun b o e n hb hx=>?_,I.base.free,fun b o e hx=>?_,I.base.rL,I.base.pK,I.base.rM⟩,⟨m,hn.sameBut hs (Ne.symm (GA x c hc)),fun j y v' e1 e2 e3=>?_⟩,fun y c' e=>?_,I.free,I.jt,fun p hp=>?_,tracked ⟨oc,Qk,I.jt x c hc⟩ hs,by simpa using I.len⟩ ⟨c,hs,.inr hc⟩
  ·exact(hs.2 b (Nat.ne_of_lt (Nat.lt_of_lt_of_le (Heap.lt_size e) (I.ok.Ju x c IT hc)))).trans (I.base.keep b o e n hb hx)
  ·obtain⟨sl,e1⟩:=I.base.slot b o e n hb hx;exact⟨sl,(hs.2 b (Nat.ne_of_lt (Nat.lt_of_lt_of_le (Heap.lt_size e) (I.ok.Ju x c IT hc)))).trans e1⟩
  ·obtain⟨o',e1⟩:=I.base.there b o e hx;exact⟨o',(hs.2 b (Nat.ne_of_lt (Nat.lt_of_lt_of_le (Heap.lt_size e) (I.ok.Ju x c IT hc)))).trans e1⟩
  ·by_cases hj:j=i
   ·subst hj;rw[hi] at e1;cases e1;rw[List.getElem?_set_self Jx] at e2;cases e2;exact⟨u,r,.inr ⟨.inl hk,c,hc,GB⟩⟩
   ·rw[List.getElem?_set_ne (Ne.symm hj)] at e2;obtain⟨u',r',q⟩:=hl j y v' e1 e2 e3;refine⟨u',r',?_⟩;rcases q with q|⟨k,c',e,z'⟩
    ·exact .inl q
    ·refine .inr ⟨k,c',e,z'.sameBut hs ?_⟩;rintro rfl;exact hj (rO hN e1 (I.ok.inj _ _ _ e hc▸hi))
  ·by_cases Nl:c'=c
   ·subst Nl;exact⟨_,GB⟩
   ·obtain⟨w2,z2⟩:=I.cell y c' e;exact⟨w2,z2.sameBut hs Nl⟩
  ·obtain⟨e,n,ne,nf,d⟩:=I.pin p hp;refine⟨(hs.2 p.1 ?_).trans e,n,ne,nf,d⟩;intro q;rw[q,Qk] at e;have q':oc=p.2:=Option.some.inj e;exact d w' (by rw[<-q'];exact Nk)
theorem rP{M:Model}{A:Around}{E:Value->Shared->Prop}{i:Nat}{x:Str}{v:V}{u:Value}{Q:Unit->Shared->Prop}(I:Inv X pins σ H s)(hN:X.N.Nodup)(hi:X.N[i]?=some x)(hx:Loc X.env.scope x)(r:RelV v u)(h:∀s',Inv X pins (σ.set i (some v)) H s'->Q () s')(hf:X.fn x=true\/X.env.scope.names.lookup x=some .local:=by first|exact .inl rfl|exact .inr rfl|assumption):wpAny M A (storeName X.env x u) Q E s:=
 oM I hN hi hx r (fun s' I' _=>h s' I') hf
theorem Inv.Jy{s':Shared}{ch:List Addr}(I:Inv X pins σ H s)(ho:s'.os=s.os)(u:Un (yI X.stack) ch H H' s.heap s'.heap)(dE:lS X.prog X.w H' s'.heap)(hg:AllBare s'.gens)(rN:∀b∈ch,(b∈X.ex\/X.fL.heap.objs.size<=b)/\b≠X.env.locals/\(∀x c,X.env.cells.lookup x=some c->c≠b)/\∀p∈X.pn++pins,p.1≠b):Inv X pins σ H' s':=by
 obtain⟨h',g',d',t',o'⟩:=s';have e:o'=s.os:=ho;subst e;exact I.call (g':=g') (t':=t') (d':=d') u dE hg rN
end
noncomputable abbrev XK:=Value->Option Addr->Hp->Prop
noncomputable abbrev St:=List (Option V)
noncomputable abbrev VK:=V->Hp->Prop
noncomputable abbrev TE:=St->Hp->VK->Prop
noncomputable abbrev TT:=St->Hp->(Bool->Hp->Prop)->Prop
noncomputable abbrev TA:=St->Hp->(List V->Hp->Prop)->Prop
structure Ends where
 nx:St->Hp->Prop
 rt:VK
 bk:St->Hp->Prop:=fun _ _=>False
 ct:St->Hp->Prop:=fun _ _=>False
noncomputable abbrev TS:=Ends->St->Hp->Prop
noncomputable def EP(X:Cx)(pins:List (Addr×Obj))(σ:St)(Q:VK)(u:Value)(s':Shared):Prop:=∃v H',Inv X pins σ H' s'/\RelV v u/\Q v H'
noncomputable def TP(X:Cx)(pins:List (Addr×Obj))(σ:St)(Q:Bool->Hp->Prop)(b:Bool)(s':Shared):Prop:=∃H',Inv X pins σ H' s'/\Q b H'
noncomputable def AP(X:Cx)(pins:List (Addr×Obj))(σ:St)(Q:List V->Hp->Prop)(us:List Value)(s':Shared):Prop:=∃vs H',Inv X pins σ H' s'/\Vals vs us/\Q vs H'
noncomputable def SP(X:Cx)(pins:List (Addr×Obj))(D:Ends)(f:Flow)(s':Shared):Prop:=
 match f with
 |.next=>∃cz H',Inv X pins cz H' s'/\D.nx cz H'
 |.brk=>∃cz H',Inv X pins cz H' s'/\D.bk cz H'
 |.cont=>∃cz H',Inv X pins cz H' s'/\D.ct cz H'
 |.ret u=>∃v cz H',Inv X pins cz H' s'/\RelV v u/\D.rt v H'
noncomputable def PE(X:Cx)(e:Expr)(t:TE):Prop:=
 ∀(pins:List (Addr×Obj))(s:Shared)(σ:St)(H:Hp)(Q:VK),Inv X pins σ H s->t σ H Q->wpAny (model X.prog X.w) X.A (eval e X.env) (EP X pins σ Q) X.xe s
noncomputable def PT(X:Cx)(e:Expr)(t:TT):Prop:=
 ∀(pins:List (Addr×Obj))(s:Shared)(σ:St)(H:Hp)(Q:Bool->Hp->Prop),Inv X pins σ H s->t σ H Q->wpAny (model X.prog X.w) X.A (isTrue e X.env (eval e X.env)) (TP X pins σ Q) X.xe s
noncomputable def PW(X:Cx)(e:Expr)(t:TT):Prop:=
 ∀(whole:Sem Value)(pins:List (Addr×Obj))(s:Shared)(σ:St)(H:Hp)(Q:Bool->Hp->Prop),Inv X pins σ H s->t σ H Q->wpAny (model X.prog X.w) X.A (isTrue e X.env whole) (TP X pins σ Q) X.xe s
theorem PW.pt{X:Cx}{e:Expr}{t:TT}(h:PW X e t):PT X e t:=h _
noncomputable def PA(X:Cx)(es:List Expr)(t:TA):Prop:=
 ∀(pos:Pos)(pins:List (Addr×Obj))(s:Shared)(σ:St)(H:Hp)(Q:List V->Hp->Prop),Inv X pins σ H s->t σ H Q->wpAny (model X.prog X.w) X.A (spliced (backTo pos (starEach es X.env))) (AP X pins σ Q) X.xe s
noncomputable def PS(X:Cx)(st:Stmt)(t:TS):Prop:=
 ∀(pins:List (Addr×Obj))(s:Shared)(σ:St)(H:Hp)(D:Ends),Inv X pins σ H s->t D σ H->wpAny (model X.prog X.w) X.A (exec st X.env) (SP X pins D) X.xe s
noncomputable def uM(X:Cx)(st:List Stmt)(t:TS):Prop:=
 ∀(pins:List (Addr×Obj))(s:Shared)(σ:St)(H:Hp)(D:Ends),Inv X pins σ H s->t D σ H->wpAny (model X.prog X.w) X.A (execs st X.env) (SP X pins D) X.xe s
theorem c_{α:Type}{t:Sem α}{Q Q':α->Shared->Prop}{M:Model}{A:Around}{E:Value->Shared->Prop}{s:Shared}(h:wpAny M A t Q E s)(hQ:∀a s,Q a s->Q' a s):wpAny M A t Q' E s:=wpAny_mono h hQ fun _ _ x=>x
end L2
namespace L2
open PySem PySem.Spec PyProof.Rows
section
variable {X:Cx}
noncomputable def GD(i:Nat):TE:=fun σ H Q=>∃v,σ[i]?=some (some v)/\Q v H
noncomputable def tC(v:V):TE:=fun _ H Q=>Q v H
theorem GF{i:Nat}{x:Str}{pos:Pos}(hN:X.N[i]?=some x)(hv:Nc X.env.scope x)(hd:(x==("__debug__":Str))=false:=by decide)(rG:(x==("__classdict__":Str))=false:=by decide):PE X (.Name x pos) (GD i):=by
 intro pins s σ H Q I h;obtain⟨v,e,h⟩:=h;obtain⟨m,hn,hl⟩:=I.loc;obtain⟨u,r,l⟩:=hl i x v hN e hv;have fin:EP X pins σ Q u s:=⟨v,H,I,r,h⟩;rcases l with⟨hk,hm⟩|⟨hk,c,hc,E8⟩
 ·exact wpAny_Name (wpAny_loadName_local I.ok.kind hk hn hm fin) hd
 ·rcases hk with hk|hk
  ·exact wpAny_Name (wpAny_loadName_cell I.ok.kind hk hc E8 fin) hd
  ·exact wpAny_Name (wpAny_loadName_free I.ok.kind hk hc E8 fin rG) hd
theorem af{i j pos}:PE X (.Constant (.int i) j pos) (tC (.int i)):=fun _ _ _ H _ I h=>wpAny_Constant_int ⟨.int i,H,I.tok _,⟨_,rfl⟩,h⟩
theorem mE{b j pos}:PE X (.Constant (.bool b) j pos) (tC (.bl b)):=fun _ _ _ H _ I h=>Constant_bool ⟨.bl b,H,I,rfl,h⟩
theorem fv{j pos}:PE X (.Constant .none j pos) (tC .eT):=fun _ _ _ H _ I h=>Constant_none ⟨.eT,H,I,rfl,h⟩
theorem eU{x j pos}:PE X (.Constant (.str x) j pos) (tC (.str x)):=fun _ _ _ H _ I h=>Calls.Constant_str ⟨.str x,H,I.tok _,⟨_,rfl⟩,h⟩
noncomputable def Gl(X:Cx)(x:Str):Prop:=X.env.kindOf x=some .globalImplicit
theorem pN{E:Value->Shared->Prop}{pins:List (Addr×Obj)}{s:Shared}{σ:St}{H:Hp}{x:Str}{u:Value}{pos:Pos}{Q:Value->Shared->Prop}(I:Inv X pins σ H s)(hg:Gl X x)(hm:X.mg x=some u)(h:Q u s)(hd:(x==("__debug__":Str))=false:=by decide):wpAny (model X.prog X.w) X.A (eval (.Name x pos) X.env) Q E s:=
 Calls.Name_function_global I.ok.kind hg (Calls.loadGlobal_global (by rw[I.ok.glob];exact I.mod.glob.keeps I.bk) hm h) hd
theorem gW{E:Value->Shared->Prop}{pins:List (Addr×Obj)}{s:Shared}{σ:St}{H:Hp}{x:Str}{u:Value}{pos:Pos}{Q:Value->Shared->Prop}(I:Inv X pins σ H s)(hg:Gl X x)(hm:X.mg x=none)(hv:bootBuiltins x=some u)(h:Q u s)(hn:x≠"__name__":=by decide)(hd:(x==("__debug__":Str))=false:=by decide):wpAny (model X.prog X.w) X.A (eval (.Name x pos) X.env) Q E s:=by
 obtain⟨mb,h1,h2⟩:=I.mod.blt;exact Calls.Name_function_global I.ok.kind hg (Calls.loadGlobal_builtin (by rw[I.ok.glob];exact I.mod.glob.keeps I.bk) hm (by rw[I.ok.blt];exact h1.keeps I.bk) ((h2 x hn).trans hv) h) hd
theorem C9{x:Str}{v:V}{u:Value}{pos:Pos}(hg:Gl X x)(hm:X.mg x=some u)(r:RelV v u)(hd:(x==("__debug__":Str))=false:=by decide):PE X (.Name x pos) (tC v):=
 fun _ _ _ H _ I h=>pN I hg hm ⟨v,H,I,r,h⟩ hd
theorem C_{x:Str}{v:V}{u:Value}{pos:Pos}(hg:Gl X x)(hm:X.mg x=none)(hv:bootBuiltins x=some u)(r:RelV v u)(hn:x≠"__name__":=by decide)(hd:(x==("__debug__":Str))=false:=by decide):PE X (.Name x pos) (tC v):=
 fun _ _ _ H _ I h=>gW I hg hm hv ⟨v,H,I,r,h⟩ hn hd
variable {a b:Expr} {ta tb:TE} {pos:Pos}
noncomputable def tB(t:TE):TT:=fun σ H Q=>t σ H fun x H1=>∃c,x=.bl c/\Q c H1
theorem pO{e:Expr}{t:TE}(h:PE X e t)(he:∀whole,isTrue e X.env whole=(do let v<-whole;standAt e.pos;holding [v] (truthy v)):=by intro _;rfl):PT X e (tB t):=by
 intro pins s σ H Q I hw;refine isTrue_plain (c_ (h pins s σ H _ I hw) fun v s1⟨x,H1,I1,r1,q1⟩=>?_) (he _);obtain⟨d,rfl,q⟩:=q1;cases r1;exact wpAny_truthy_bool ⟨H1,I1,q⟩
variable {tA Mg:TT} {rest:List Expr}
noncomputable def Jz(t u:TT):TT:=fun σ H Q=>t σ H fun c H1=>if c=true then u σ H1 Q else Q false H1
noncomputable def Ql(t u:TT):TT:=fun σ H Q=>t σ H fun c H1=>if c=true then Q true H1 else u σ H1 Q
noncomputable def JA(t:TT):TT:=fun σ H Q=>t σ H fun c H1=>Q (!c) H1
theorem gX(ha:PT X a tA):PW X (.BoolOp .And [a] pos) tA:=by
 intro wh pins s σ H Q I h;refine isTrue_and (c_ (ha pins s σ H Q I h) fun c s1 e=>?_);cases c with
 |true=>exact isTrue_and_nil e
 |false=>exact e
theorem Al(ha:PT X a tA):PW X (.BoolOp .Or [a] pos) tA:=by
 intro wh pins s σ H Q I h;refine isTrue_or (c_ (ha pins s σ H Q I h) fun c s1 e=>?_);cases c with
 |false=>exact isTrue_or_nil e
 |true=>exact e
theorem jy(ha:PT X a tA)(hb:PW X (.BoolOp .And (b::rest) pos) Mg):PW X (.BoolOp .And (a::b::rest) pos) (Jz tA Mg):=by
 intro wh pins s σ H Q I h;refine isTrue_and (c_ (ha pins s σ H _ I h) fun c s1⟨H1,I1,q1⟩=>?_);cases c with
 |true=>exact hb wh pins s1 σ H1 Q I1 q1
 |false=>exact⟨H1,I1,q1⟩
theorem wZ(ha:PT X a tA)(hb:PW X (.BoolOp .Or (b::rest) pos) Mg):PW X (.BoolOp .Or (a::b::rest) pos) (Ql tA Mg):=by
 intro wh pins s σ H Q I h;refine isTrue_or (c_ (ha pins s σ H _ I h) fun c s1⟨H1,I1,q1⟩=>?_);cases c with
 |true=>exact⟨H1,I1,q1⟩
 |false=>exact hb wh pins s1 σ H1 Q I1 q1
theorem mF(ha:PT X a tA):PT X (.UnaryOp .Not a pos) (JA tA):=by
 intro pins s σ H Q I h;exact isTrue_not (ha pins s σ H (fun c H1=>Q (!c) H1) I h)
noncomputable def E9(ta tb:TE):TE:=fun σ H Q=>ta σ H fun x H1=>∃c,x=.bl c/\if c=true then tb σ H1 Q else Q (.bl false) H1
noncomputable def Nn(ta tb:TE):TE:=fun σ H Q=>ta σ H fun x H1=>∃c,x=.bl c/\if c=true then Q (.bl true) H1 else tb σ H1 Q
noncomputable def JB(ta:TE):TE:=fun σ H Q=>ta σ H fun x H1=>∃c,x=.bl c/\Q (.bl (!c)) H1
theorem GG{op}{t:TE}(h:PE X a t):PE X (.BoolOp op [a] pos) t:=fun pins s σ H Q I hw=>BoolOp_one (h pins s σ H Q I hw)
theorem GH(ha:PE X a ta)(hb:PE X (.BoolOp .And (b::rest) pos) tb):PE X (.BoolOp .And (a::b::rest) pos) (E9 ta tb):=by
 intro pins s σ H Q I h;refine BoolOp_and (c_ (ha pins s σ H _ I h) fun v s1⟨x,H1,I1,r1,q1⟩=>?_);obtain⟨c,rfl,q1⟩:=q1;cases r1
 refine wpAny_truthy_bool ?_;cases c with
 |true=>exact hb pins s1 σ H1 Q I1 q1
 |false=>exact⟨.bl false,H1,I1,rfl,q1⟩
noncomputable def Qm(t:TT)(ta tb:TE):TE:=fun σ H Q=>t σ H fun c H1=>if c=true then ta σ H1 Q else tb σ H1 Q
theorem eD{c:Expr}(hc:PT X c tA)(ha:PE X a ta)(hb:PE X b tb):PE X (.IfExp c a b pos) (Qm tA ta tb):=by
 intro pins s σ H Q I h;refine wpAny_IfExp (c_ (hc pins s σ H _ I h) fun d s1⟨H1,I1,q1⟩=>?_);cases d with
 |true=>exact ha pins s1 σ H1 Q I1 q1
 |false=>exact hb pins s1 σ H1 Q I1 q1
end
end L2
namespace L2
open PySem PySem.Spec PyProof.Rows
noncomputable def aZ(K:PySem.W.Frag)(H:Hp)(a:Addr)(xs:List V):Prop:=
 Rd H a (.lst xs)\/
  ∃(o:Obj)(aX:Array Value)(n:Nat),K.lookup a=some o/\o.cls=.type "list"/\o.dict=none/\o.data=.seq aX n/\aX.size<=sizeLine/\Vals xs aX.toList
noncomputable def cC(K:PySem.W.Frag)(H:Hp)(a:Addr)(xs:List V):Prop:=
 Rd H a (.tup xs)\/
  ∃(o:Obj)(aX:Array Value)(n:Nat),K.lookup a=some o/\o.cls=.type "tuple"/\o.data=.seq aX n/\aX.size<=sizeLine/\Vals xs aX.toList
noncomputable def Np:Value->Option V
 |.none=>some .eT
 |.bool b=>some (.bl b)
 |.int i _=>some (.int i)
 |.str x _=>some (.str x)
 |.bytes b _=>some (.wV b)
 |.float b _=>some (.Gw b)
 |.ref a=>some (.ref a)
 |.type n=>some (.ty n)
 |_=>none
theorem RelV.abs{x:V}{u:Value}(r:RelV x u):Np u=some x:=by
 cases x with
 |eT=>cases r;rfl
 |bl _=>cases r;rfl
 |int _=>obtain⟨t,rfl⟩:=r;rfl
 |str _=>obtain⟨t,rfl⟩:=r;rfl
 |wV _=>obtain⟨t,rfl⟩:=r;rfl
 |Gw _=>obtain⟨t,rfl⟩:=r;rfl
 |ref _=>cases r;rfl
 |ty _=>cases r;rfl
theorem RelV.inj{x y:V}{u:Value}(r:RelV x u)(q:RelV y u):x=y:=Option.some.inj (r.abs.symm.trans q.abs)
theorem Vals.inj:∀{xs ys:List V}{us:List Value},Vals xs us->Vals ys us->xs=ys
 |_,_,_,.nil,.nil=>rfl
 |_,_,_,.cons r t,.cons r' t'=>by rw[r.inj r',Vals.inj t t']
section
variable {X:Cx} {pins:List (Addr×Obj)} {σ:St} {H:Hp} {s:Shared} {a:Addr} {xs ys:List V}
theorem aZ.of{K:PySem.W.Frag}(h:H a=some (.lst xs)):aZ K H a xs:=.inl (.inl h)
theorem cC.of{K:PySem.W.Frag}(h:H a=some (.tup xs)):cC K H a xs:=.inl (.inl h)
theorem Inv.list(I:Inv X pins σ H s)(h:aZ X.K H a xs):∃aX:List Value,Vals xs aX/\PlainL s.heap a aX.toArray/\xs.length<=sizeLine:=by
 rcases h with h|⟨o,aX,n,hk,hc,hd,hs,hz,r⟩
 ·obtain⟨z,aX,n,r,e⟩:=h.ok I.dE;exact⟨aX,r,⟨_,n,e,rfl,rfl,rfl⟩,z⟩
 ·refine⟨aX.toList,r,⟨o,n,I.og a o hk,hc,hd,by simpa using hs⟩,?_⟩;have e:=r.length;simp only[Array.length_toList] at e;lia
theorem Inv.tuple(I:Inv X pins σ H s)(h:cC X.K H a xs):∃aX:List Value,Vals xs aX/\IsTup s.heap a aX.toArray/\xs.length<=sizeLine:=by
 rcases h with h|⟨o,aX,n,hk,hc,hs,hz,r⟩
 ·obtain⟨z,aX,r,p⟩:=h.ok I.dE;exact⟨aX,r,p,z⟩
 ·refine⟨aX.toList,r,⟨o,I.og a o hk,hc,n,by simpa using hs⟩,?_⟩;have e:=r.length;simp only[Array.length_toList] at e;lia
theorem Inv.mG(I:Inv X pins σ H s)(h:aZ X.K H a xs)(h':aZ X.K H a ys):xs=ys:=by
 obtain⟨aX,r,⟨o,n,e,_,_,d⟩,_⟩:=I.list h;obtain⟨its',r',⟨o',n',e',_,_,d'⟩,_⟩:=I.list h';rw[e] at e';cases e';rw[d] at d';injection d' with d1 _;have:aX=its':=by simpa using congrArg Array.toList d1
 subst this;exact r.inj r'
end
noncomputable abbrev Cx.oi(X:Cx)(E:Value->Shared->Prop):Cx:={X with xe:=E}
noncomputable abbrev Cx.IU(X:Cx):Cx:=X.oi fun _ _=>False
theorem Cx.Ok.oi{X:Cx}(ok:X.Ok)(E:Value->Shared->Prop):(X.oi E).Ok:=
 ⟨ok.mod,ok.kind,ok.glob,ok.blt,ok.above,ok.inj,ok.has,ok.Ju,ok.hd,ok.frames,ok.Mf,ok.Qh,ok.bs,ok.C7,ok.Aj,ok.C8,ok.lT,ok.Gz⟩
theorem Cx.Ok.iO{X:Cx}{E:Value->Shared->Prop}(ok:(X.oi E).Ok):X.Ok:=
 ⟨ok.mod,ok.kind,ok.glob,ok.blt,ok.above,ok.inj,ok.has,ok.Ju,ok.hd,ok.frames,ok.Mf,ok.Qh,ok.bs,ok.C7,ok.Aj,ok.C8,ok.lT,ok.Gz⟩
section
variable {X:Cx} {pins:List (Addr×Obj)} {σ:St} {H:Hp} {s:Shared} {E:Value->Shared->Prop}
theorem Inv.oi(I:Inv X pins σ H s)(E:Value->Shared->Prop):Inv (X.oi E) pins σ H s:=⟨I.ok.oi E,I.os,I.bare,I.base,I.loc,I.cell,I.free,I.jt,I.pin,I.dE,I.len⟩
theorem Inv.iO(I:Inv (X.oi E) pins σ H s):Inv X pins σ H s:=⟨I.ok.iO,I.os,I.bare,I.base,I.loc,I.cell,I.free,I.jt,I.pin,I.dE,I.len⟩
theorem SP.iO{D:Ends}{f:Flow}{s':Shared}(h:SP (X.oi E) pins D f s'):SP X pins D f s':=by
 cases f with
 |next=>obtain⟨cz,H',I,q⟩:=h;exact⟨cz,H',I.iO,q⟩
 |brk=>obtain⟨cz,H',I,q⟩:=h;exact⟨cz,H',I.iO,q⟩
 |cont=>obtain⟨cz,H',I,q⟩:=h;exact⟨cz,H',I.iO,q⟩
 |ret u=>obtain⟨v,cz,H',I,r,q⟩:=h;exact⟨v,cz,H',I.iO,r,q⟩
theorem uM.IU{st:List Stmt}{t:TS}(h:uM X.IU st t):uM X st t:=fun pins s σ H D I hw=>
 wpAny_mono (h pins s σ H D (I.oi _) hw) (fun _ _ q=>q.iO) fun _ _ z=>False.elim z
end
section
variable {X:Cx} {st:Stmt} {rest:List Stmt} {t u:TS} {e:Expr} {te:TE} {pos:Pos}
noncomputable def E_:TS:=fun D σ H=>D.nx σ H
noncomputable def JC(t u:TS):TS:=fun D σ H=>t {D with nx:=u D} σ H
theorem aO:uM X [] E_:=fun _ _ σ H _ I h=>wpAny_execs_nil ⟨σ,H,I,h⟩
theorem ae(h1:PS X st t)(h2:uM X rest u):uM X (st::rest) (JC t u):=by
 intro pins s σ H D I h;refine wpAny_execs_cons (c_ (h1 pins s σ H {D with nx:=u D} I h) fun f s1 q=>?_);cases f with
 |next=>
  obtain⟨cz,H',I',q⟩:=q;exact h2 pins s1 cz H' D I' q
 |ret v=>exact q
 |brk=>exact q
 |cont=>exact q
theorem ah(h1:PS X st t):uM X [st] t:=by
 intro pins s σ H D I h;refine wpAny_execs_cons (c_ (h1 pins s σ H D I h) fun f s1 q=>?_);cases f with
 |next=>exact wpAny_execs_nil q
 |ret v=>exact q
 |brk=>exact q
 |cont=>exact q
theorem Inv.quiet{pins:List (Addr×Obj)}{σ:St}{H:Hp}{s:Shared}(I:Inv X pins σ H s):interactive X.env=false:=by simp[interactive,I.ok.kind]
noncomputable def Fb(te:TE):TS:=fun D σ H=>te σ H fun _ H1=>D.nx σ H1
theorem je(he:PE X e te)(hs:swapsWith e none pos.line X.env=pure false:=by rfl):PS X (.Expr e pos) (Fb te):=by
 intro pins s σ H D I h;exact wpAny_Expr_any (c_ (he pins s σ H _ I h) fun v s1⟨x,H1,I1,r1,q1⟩=>⟨σ,H1,I1,q1⟩) I.quiet hs
noncomputable def JD(te:TE):TS:=fun D σ H=>te σ H D.rt
theorem ax(he:PE X e te):PS X (.Return (some e) pos) (JD te):=by
 intro pins s σ H D I h;exact wpAny_Return_some (c_ (he pins s σ H _ I h) fun v s1⟨x,H1,I1,r1,q1⟩=>⟨x,σ,H1,I1,r1,q1⟩)
noncomputable def JE(c:TT)(t u:TS):TS:=fun D σ H=>c σ H fun b H1=>if b=true then t D σ H1 else u D σ H1
theorem bO{c:Expr}{a b:List Stmt}{tc:TT}(hc:PT X c tc)(ha:uM X a t)(hb:uM X b u):PS X (.If c a b pos) (JE tc t u):=by
 intro pins s σ H D I h;refine wpAny_If (c_ (hc pins s σ H _ I h) fun d s1⟨H1,I1,q1⟩=>?_);cases d with
 |true=>exact ha pins s1 σ H1 D I1 q1
 |false=>exact hb pins s1 σ H1 D I1 q1
noncomputable def Am:TS:=fun _ _ _=>False
theorem rQ:PS X st Am:=fun _ _ _ _ _ _ h=>h.elim
theorem yJ{Sw:List Stmt}:uM X Sw Am:=fun _ _ _ _ _ _ h=>h.elim
end
noncomputable abbrev TG:=V->St->Hp->(St->Hp->Prop)->Prop
noncomputable abbrev CP:=List V->St->Hp->(St->Hp->Prop)->Prop
noncomputable def PG(X:Cx)(target:Expr)(t:TG):Prop:=
 ∀(pins:List (Addr×Obj))(s:Shared)(σ:St)(H:Hp)(v:V)(u:Value)(Q:St->Hp->Prop),Inv X pins σ H s->RelV v u->t v σ H Q->
  wpAny (model X.prog X.w) X.A (assign target X.env u) (fun _ s'=>∃cz H',Inv X pins cz H' s'/\Q cz H') X.xe s
noncomputable def JF(X:Cx)(ts:List Expr)(t:CP):Prop:=
 ∀(pins:List (Addr×Obj))(s:Shared)(σ:St)(H:Hp)(vs:List V)(us:List Value)(Q:St->Hp->Prop),Inv X pins σ H s->Vals vs us->t vs σ H Q->
  wpAny (model X.prog X.w) X.A (assignInOrder ((assignEach ts X.env).map (·.2)) us) (fun _ s'=>∃cz H',Inv X pins cz H' s'/\Q cz H') X.xe s
noncomputable abbrev C':=V->V->V->Hp->(Hp->Prop)->Prop
noncomputable def JG(X:Cx)(t:C'):Prop:=
 ∀(pins:List (Addr×Obj))(s:Shared)(σ:St)(H:Hp)(o i v:V)(ov iv u:Value)(Q:Hp->Prop),Inv X pins σ H s->RelV o ov->RelV i iv->RelV v u->t o i v H Q->
  wpAny (model X.prog X.w) X.A (setItem ov iv u) (fun _ s'=>∃H',Inv X pins σ H' s'/\Q H') X.xe s
section
variable {X:Cx} {pos:Pos}
noncomputable def oN(i:Nat):TG:=fun v σ H Q=>Q (σ.set i (some v)) H
theorem aQ{i:Nat}{x:Str}(hN:X.N.Nodup)(hi:X.N[i]?=some x)(hx:Loc X.env.scope x)(hf:X.fn x=true\/X.env.scope.names.lookup x=some .local:=by first|exact .inl rfl|exact .inr rfl|assumption):PG X (.Name x pos) (oN i):=by
 intro pins s σ H v u Q I r h;exact wpAny_assign_Name (rP I hN hi hx r (fun s' I'=>⟨_,H,I',h⟩) hf)
noncomputable def JH:CP:=fun vs σ H Q=>vs=[]/\Q σ H
noncomputable def Fc(t:TG)(u:CP):CP:=fun vs σ H Q=>∃v r,vs=v::r/\t v σ H fun cz H'=>u r cz H' Q
theorem jf:JF X [] JH:=by
 intro pins s σ H vs us Q I r h;obtain⟨e,h⟩:=h;subst e;cases r;exact assignInOrder_nil ⟨σ,H,I,h⟩
theorem bL{e:Expr}{es:List Expr}{t:TG}{u:CP}(h1:PG X e t)(h2:JF X es u)(hs:(assignEach (e::es) X.env).map (·.2)=assign e X.env::(assignEach es X.env).map (·.2):=by rfl):JF X (e::es) (Fc t u):=by
 intro pins s σ H vs us Q I r h;obtain⟨v,vr,e1,h⟩:=h;subst e1;cases r with
 |cons r rr=>
  rw[hs];refine assignInOrder_cons (c_ (h1 pins s σ H _ _ _ I r h) fun _ s1 ⟨IV,H1,I1,q1⟩=>?_);exact h2 pins s1 IV H1 _ _ Q I1 rr q1
noncomputable def GI(K:PySem.W.Frag)(n:Nat)(t:CP):TG:=fun v σ H Q=>∃a xs,v=.ref a/\cC K H a xs/\xs.length=n/\t xs σ H Q
theorem kz{es:List Expr}{k:Nat}{t:CP}{n:Nat}(hc:X.calm=true)(h:JF X es t)(hn:(assignEach es X.env).length=n:=by rfl)(Fd:(assignEach es X.env).findIdx? (·.1)=none:=by rfl):PG X (.Tuple es k pos) (GI X.K n t):=by
 intro pins s σ H v u Q I r hw;obtain⟨a,xs,e1,hq,hl,hw⟩:=hw;subst e1;cases r;obtain⟨aX,rv,ht,hz⟩:=I.tuple hq;refine assign_Tuple_tuple (I.ok.hd hc) ht (by simp[hn,<-hl,rv.length]) Fd fun h' hx=>?_;have I1:Inv X pins σ H {s with heap:=h'}:=I.kept (t':=s.toks) fun b o e=>hx b o (Nat.ne_of_lt (Heap.lt_size e)) e;exact h pins _ σ H xs _ Q I1 (by simpa using rv) hw
noncomputable def JI(to ti:TE)(t:C'):TG:=fun v σ H Q=>to σ H fun o H1=>ti σ H1 fun i H2=>t o i v H2 fun H3=>Q σ H3
theorem An{o i:Expr}{to ti:TE}{t:C'}(ho:PE X o to)(hi:PE X i ti)(hs:JG X t)(ha:∀v,assign (.Subscript o i pos) X.env v=(do
 let ov<-holding [v] (eval o X.env)
 let iv<-holding [v,ov] (eval i X.env)
 standAt pos
 holding [v,ov,iv] (setItem ov iv v)
 release [v,ov,iv] []):=by intro _;rfl):PG X (.Subscript o i pos) (JI to ti t):=by
 intro pins s σ H v u Q I r h;rw[ha];refine wpAny_bind (wpAny_holding (c_ (ho pins s σ H _ I h) fun ov s1⟨x,H1,I1,r1,q1⟩=>?_));refine wpAny_bind (wpAny_holding (c_ (hi pins s1 σ H1 _ I1 q1) fun iv s2⟨y,H2,I2,r2,q2⟩=>?_));refine wpAny_bind (wpAny_standAt (wpAny_bind (wpAny_holding (c_ (hs pins s2 σ H2 x y v ov iv u _ I2 r1 r2 r q2) fun _ s3 ⟨H3,I3,q3⟩=>?_))));exact wpAny_release ⟨σ,H3,I3,q3⟩
noncomputable def Ao(te:TE)(g:TG):TS:=fun D σ H=>te σ H fun x H1=>g x σ H1 D.nx
theorem mH{tg e:Expr}{te:TE}{g:TG}(he:PE X e te)(hg:PG X tg g)(hs:swapsWithSole [tg] e pos.line X.env=pure false:=by rfl)(hw:swappedStores [tg] e X.env=pure none:=by rfl)(h1:(assignEach [tg] X.env).map (·.2)=[assign tg X.env]:=by rfl):PS X (.Assign [tg] e pos) (Ao te g):=by
 intro pins s σ H D I h;refine wpAny_Assign_stores (c_ (he pins s σ H _ I h) fun v s1⟨x,H1,I1,r1,q1⟩=>?_) hs hw;rw[h1];exact c_ (hg pins s1 σ H1 x v _ I1 r1 q1) fun _ s2 q=>q
theorem ai{i:Nat}{x:Str}{e:Expr}{te:TE}{pos':Pos}(hN:X.N.Nodup)(hi:X.N[i]?=some x)(hx:Loc X.env.scope x)(he:PE X e te)(hs:swapsWith e (some (.Name x pos')) pos.line X.env=pure false:=by rfl)(hf:X.fn x=true\/X.env.scope.names.lookup x=some .local:=by first|exact .inl rfl|exact .inr rfl|assumption):
 PS X (.Assign [.Name x pos'] e pos) (Ao te (oN i)):=by
 intro pins s σ H D I h;refine wpAny_Assign_Name (c_ (he pins s σ H _ I h) fun v s1⟨y,H1,I1,r1,q1⟩=>?_) hs;exact rP I1 hN hi hx r1 (fun s2 I2=>⟨_,H1,I2,q1⟩) hf
end
section
variable {X:Cx} {pos:Pos}
noncomputable def Ap(c:TT)(tb:TS):TS:=fun D σ H=>∃W:Nat->St->Hp->Prop,(∃m,W m σ H)/\∀m σ H,W m σ H->
 c σ H fun b H1=>if b=true then ∃N:St->Hp->Prop,(∀cz H',N cz H'->∃m',m'<m/\W m' cz H')/\tb {D with nx:=N,ct:=N,bk:=D.nx} σ H1 else D.nx σ H1
theorem cX{c:Expr}{body:List Stmt}{tc:TT}{tb:TS}(hp:PassesOwn (model X.prog X.w) X.A X.env X.xe)(hc:PT X c tc)(hb:uM X body tb):PS X (.While c body [] pos) (Ap tc tb):=by
 intro pins s σ H D I h;obtain⟨W,⟨m0,w0⟩,turn⟩:=h;refine wpAny_While (codeAny_whileLoop (fun n s'=>∃cz H',Inv X pins cz H' s'/\W n cz H') ?_ m0 ⟨σ,H,I,w0⟩);rintro n s1 ⟨IV,H1,I1,w1⟩;refine wpAny_passesOwn hp (c_ (hc pins s1 IV H1 _ I1 (turn n IV H1 w1)) fun b s2⟨H2,I2,q2⟩=>?_);cases b with
 |true=>
  obtain⟨N,hN,q2⟩:=q2;rw[if_pos rfl];refine wpAny_passesOwn hp (c_ (hb pins s2 IV H2 _ I2 q2) fun f s3 q3=>?_);cases f with
  |next=>
   obtain⟨Aq,H3,I3,n3⟩:=q3;obtain⟨m',hm,w3⟩:=hN Aq H3 n3;exact⟨m',hm,Aq,H3,I3,w3⟩
  |cont=>
   obtain⟨Aq,H3,I3,n3⟩:=q3;obtain⟨m',hm,w3⟩:=hN Aq H3 n3;exact⟨m',hm,Aq,H3,I3,w3⟩
  |brk=>exact q3
  |ret v=>exact q3
 |false=>
  rw[if_neg Bool.false_ne_true];exact wpAny_execs_nil ⟨IV,H2,I2,q2⟩
end
structure It where
 go:Nat->Hp->Prop
 uT:Nat->Hp->V->Hp->Prop
 stop:Nat->Hp->Prop
noncomputable def kA(X:Cx)(pins:List (Addr×Obj))(H:Hp)(b:Addr):Prop:=
 H b=none/\b≠X.env.locals/\b∉X.fs/\(b∈X.ex\/X.fL.heap.objs.size<=b)/\(∀x c,X.env.cells.lookup x=some c->c≠b)/\∀p∈X.pn++pins,p.1≠b
theorem Inv.rR{X:Cx}{pins:List (Addr×Obj)}{σ:St}{H H':Hp}{s:Shared}{b:Addr}(I:Inv X pins σ H s)(hb:s.heap.objs.size<=b)(hn:H' b=none):kA X pins H' b:=by
 refine⟨hn,Nat.ne_of_gt (Nat.lt_of_lt_of_le I.lt hb),I.Nf hb,.inr (Nat.le_trans I.sz hb),fun x c e z=>?_,fun p hp z=>?_⟩
 ·obtain⟨v,q⟩:=I.cell x c e;exact absurd (Nat.lt_of_lt_of_le q.lt (by rw[z];exact hb)) (Nat.lt_irrefl _)
 ·exact absurd (Nat.lt_of_lt_of_le (Heap.lt_size (I.pin p hp).1) (by rw[z];exact hb)) (Nat.lt_irrefl _)
structure Turn(P:Program)(w:World)(K:PySem.W.Frag)(tg:Expr)(J:It)(fp:List Addr)(it:Addr)(tn:Nat->Heap->Prop):Prop where
 mem:it∈fp
 obj:∀i h,tn i h->∀b∈fp,∃o,h.get? b=some o/\∀v,o.data≠.cell v
 keep:∀i h h',tn i h->(∀b∈fp,∀o,h.get? b=some o->h'.get? b=some o)->tn i h'
 item:∀(X:Cx),X.prog=P->X.w=w->X.K=K->X.calm=true->∀(i:Nat)(pins:List (Addr×Obj))(s:Shared)(σ:St)(H:Hp)(E:Value->Shared->Prop),Inv X pins σ H s->(∀b∈fp,kA X pins H b)->tn i s.heap->J.go i H->
  wpAny (model P w) X.A (pyNext (.ref it)) (fun r s1=>∃u,r=some u/\
   wpAny (model P w) X.A (letOwnedTupleGo tg (.ref it) u) (fun _ s2=>∃x H',Inv X pins σ H' s2/\RelV x u/\J.uT i H x H'/\tn (i+1) s2.heap/\∀b∈fp,H' b=none) E s1) E s
 done:∀(X:Cx),X.prog=P->X.w=w->X.K=K->X.calm=true->∀(i:Nat)(pins:List (Addr×Obj))(s:Shared)(σ:St)(H:Hp)(E:Value->Shared->Prop),Inv X pins σ H s->(∀b∈fp,kA X pins H b)->tn i s.heap->J.stop i H->
  wpAny (model P w) X.A (pyNext (.ref it)) (fun r s1=>r=none/\Inv X pins σ H s1) E s
 self:∀(A:Around)(i:Nat)(s:Shared)(Q:Value->Shared->Prop)(E:Value->Shared->Prop),tn i s.heap->Q (.ref it) s->wpAny (model P w) A (pyIter (.ref it)) Q E s
noncomputable abbrev TI:=St->Hp->(It->Hp->Prop)->Prop
noncomputable def Qn(X:Cx)(pins:List (Addr×Obj))(σ:St)(tg:Expr)(R:It->Hp->Prop)(Mh:Value)(s2:Shared):Prop:=
 ∃(it:Addr)(fp:List Addr)(tn:Nat->Heap->Prop)(J:It)(H':Hp),Mh=.ref it/\Inv X pins σ H' s2/\Turn X.prog X.w X.K tg J fp it tn/\tn 0 s2.heap/\(∀b∈fp,kA X pins H' b)/\R J H'
noncomputable def PI(X:Cx)(tg iter:Expr)(wi:TI):Prop:=
 ∀(pins:List (Addr×Obj))(s:Shared)(σ:St)(H:Hp)(R:It->Hp->Prop),Inv X pins σ H s->wi σ H R->
  wpAny (model X.prog X.w) X.A (eval iter X.env) (fun v s1=>wpAny (model X.prog X.w) X.A (pyIter v) (Qn X pins σ tg R) X.xe s1) X.xe s
theorem rS{M:Model}{A:Around}{E:Value->Shared->Prop}{s:Shared}{tg:Expr}{it:Addr}{u:Value}{o:Obj}{n:String}{vs:Array Value}{Q:Unit->Shared->Prop}(ho:s.heap.get? it=some o)(hc:o.cls=.type n)(hd:o.data=.fields vs)(hn:["enumerate","zip","dict_itemiterator","dict_reverseitemiterator","odict_iterator","itertools.zip_longest","itertools.pairwise"].contains n=false)(hQ:Q () s):wpAny M A (letOwnedTupleGo tg (.ref it) u) Q E s:=by
 unfold letOwnedTupleGo;cases tg<;>first
  |exact wpAny_pure hQ
  |(cases u<;>first
     |exact wpAny_pure hQ
     |(refine wpAny_bind (wpAny_load ho ?_)
       rw[hc,hd]
       show wpAny M A (if(["enumerate","zip","dict_itemiterator","dict_reverseitemiterator","odict_iterator","itertools.zip_longest","itertools.pairwise"].contains n&&vs[0]?==some (rawInt _))=true then _ else _) Q E s
       rw[if_neg (by intro h;rw[hn,Bool.false_and] at h;cases h)]
       exact wpAny_pure hQ))
noncomputable def rH(K:PySem.W.Frag)(a:Addr):It:=
 ⟨fun i H=>∃xs x,aZ K H a xs/\xs[i]?=some x,fun i H x H'=>H'=H/\∀xs,aZ K H a xs->xs[i]?=some x,fun i H=>∃xs,aZ K H a xs/\xs.length<=i⟩
noncomputable def Dc(lo:Int)(n:Nat):It:=⟨fun i _=>i<n,fun i H x H'=>H'=H/\x=.int (lo+i),fun i _=>n<=i⟩
theorem yK{P:Program}{w:World}{K:PySem.W.Frag}{tg:Expr}(a it:Addr):Turn P w K tg (rH K a) [it] it (fun i h=>h.IsListIter it a i) where
 mem:=by simp
 obj:=fun i h st b hb=>by
  have e:b=it:=by simpa using hb
  subst e;obtain⟨o,e,c,d⟩:=st;exact⟨o,e,fun v z=>by rw[d] at z;cases z⟩
 keep:=fun i h h' st k=>st.at fun o e=>k it (by simp) o e
 item:=by
  intro X hP hw hK hc i pins s σ H E I hf st hg;subst hP hw hK;obtain⟨xs,x,hq,hx⟩:=hg;obtain⟨aX,rv,p,hz⟩:=I.list hq;obtain⟨u,hu,ru⟩:=rv.get hx;obtain⟨f0,f1,f2,f3,f4,f5⟩:=hf it (by simp);refine wpAny_pyNext_list_item st p.isList (x:=u) (by simpa using hu) fun h' Fe sb=>?_;have I1:Inv X pins σ H {s with heap:=h'}:=I.turned (t':=s.toks) (fun b o hb e=>(sb.2 b hb).trans e) f0 f1 f3 f4 f5;obtain⟨o,e,c,d⟩:=id Fe;exact⟨u,rfl,rS (s:={s with heap:=h'}) e c d (by decide) ⟨x,H,I1,ru,⟨rfl,fun ys hy=>by rw[I.mG hy hq];exact hx⟩,Fe,fun b hb=>(hf b hb).1⟩⟩
 done:=by
  intro X hP hw hK hc i pins s σ H E I hf st hg;subst hP hw hK;obtain⟨xs,hq,hx⟩:=hg;obtain⟨aX,rv,p,hz⟩:=I.list hq;obtain⟨f0,f1,f2,f3,f4,f5⟩:=hf it (by simp);have hl:=rv.length;exact wpAny_pyNext_list_end (I.ok.hd hc) st p.isList (by simp;lia) fun h' eb=>⟨rfl,I.turned (t':=s.toks) (fun b o hb e=>eb b o hb e) f0 f1 f3 f4 f5⟩
 self:=fun _ _ _ _ _ st h=>wpAny_pyIter_listiter st h
theorem uU{P:Program}{w:World}{K:PySem.W.Frag}{tg:Expr}(it:Addr)(lo:Int)(n:Nat):Turn P w K tg (Dc lo n) [it] it (fun i h=>IsRangeIter h it (lo+(i:Nat)*1) ((n:Int)-(i:Nat)) 1) where
 mem:=by simp
 obj:=fun i h st b hb=>by
  have e:b=it:=by simpa using hb
  subst e;exact⟨_,st,fun v z=>by
   have z':Data.fields _=Data.cell v:=z
   cases z'⟩
 keep:=fun i h h' st k=>k it (by simp) _ st
 item:=by
  intro X hP hw hK hc i pins s σ H E I hf st hg;subst hP hw hK;obtain⟨f0,f1,f2,f3,f4,f5⟩:=hf it (by simp);have W:=Walks.range (prog:=X.prog) (w:=X.w) (I.ok.hd hc) it lo 1 n;refine W.item i s _ _ hg st fun v h' tk hv Fe kk=>?_;obtain⟨t,rfl⟩:=hv;have I1:Inv X pins σ H {s with heap:=h',toks:=tk}:=I.turned (fun b o hb e=>kk b o (by simpa using hb) e) f0 f1 f3 f4 f5;refine⟨_,rfl,rS (s:={s with heap:=h',toks:=tk}) (n:="range_iterator") Fe rfl rfl (by decide) ⟨.int (lo+i),H,I1,⟨t,?_⟩,⟨rfl,rfl⟩,Fe,fun b hb=>(hf b hb).1⟩⟩;rw[Int.mul_one]
 done:=by
  intro X hP hw hK hc i pins s σ H E I hf st hg;subst hP hw hK;obtain⟨f0,f1,f2,f3,f4,f5⟩:=hf it (by simp);exact wpAny_pyNext_range_end (I.ok.hd hc) st (by have:n<=i:=hg;lia) fun h' eb=>⟨rfl,I.turned (t':=s.toks) (fun b o hb e=>eb b o hb e) f0 f1 f3 f4 f5⟩
 self:=fun _ _ _ _ _ st h=>wpAny_pyIter_rangeiter st h
end L2
namespace L2
open PySem PySem.Spec PyProof.Rows
section
variable {X:Cx} {tg:Expr}
noncomputable def Ff(K:PySem.W.Frag)(tl:TE):TI:=fun σ H R=>tl σ H fun x H1=>∃a,x=.ref a/\(∃xs,aZ K H1 a xs)/\R (rH K a) H1
theorem gn{l:Expr}{tl:TE}(hl:PE X l tl):PI X tg l (Ff X.K tl):=by
 intro pins s σ H R I h;refine c_ (hl pins s σ H _ I h) fun v s1⟨x,H1,I1,r1,q1⟩=>?_;obtain⟨a,e,⟨xs,hq⟩,q⟩:=q1;subst e;cases r1;obtain⟨aX,rv,p,hz⟩:=I1.list hq;refine wpAny_pyIter_list p.isList ?_;refine⟨s1.heap.objs.size,[s1.heap.objs.size],_,_,H1,rfl,I1.kept (t':=s1.toks) fun b o e=>Heap.get?_push_of_some _ e,yK a _,⟨_,Heap.get?_push_size _ rfl,rfl,rfl⟩,fun b hb=>?_,q⟩;have e:b=s1.heap.objs.size:=by simpa using hb
 subst e;exact I1.rR (Nat.le_refl _) (I1.dE.fresh (Nat.le_refl _))
theorem Ar{pins:List (Addr×Obj)}{σ:St}{H:Hp}{s:Shared}{R:It->Hp->Prop}{E:Value->Shared->Prop}{lo hi:Int}{t u v:Tok}{tk:Nat}(I:Inv X pins σ H s)(h1:-(2^62)<=lo)(h2:lo<2^62)(h3:-(2^62)<=hi)(h4:hi<2^62)(q:R (Dc lo (hi-lo).toNat) H):wpAny (model X.prog X.w) X.A (pyIter (.ref s.heap.objs.size)) (Qn X pins σ tg R) E {s with heap:=s.heap.push {cls:=.type "range",data:=.fields #[.int lo t,.int hi u,.int 1 v]},toks:=tk}:=by
 refine wpAny_pyIter_range (IsRange.new ..) (small_one h1 h2 h3 h4) ?_;have I1:Inv X pins σ H {s with heap:=s.heap.push {cls:=.type "range",data:=.fields #[.int lo t,.int hi u,.int 1 v]},toks:=tk}:=I.kept fun b o e=>Heap.get?_push_of_some _ e;refine⟨(s.heap.push {cls:=.type "range",data:=.fields #[.int lo t,.int hi u,.int 1 v]}).objs.size,[(s.heap.push {cls:=.type "range",data:=.fields #[.int lo t,.int hi u,.int 1 v]}).objs.size],_,_,H,rfl,
  I1.kept (t':=tk) fun b o e=>Heap.get?_push_of_some _ e,uU _ lo (hi-lo).toNat,?_,fun b hb=>?_,q⟩
 ·have e1:lo+((0:Nat):Int)*1=lo:=by simp
  have e2:(((hi-lo).toNat:Nat):Int)-((0:Nat):Int)=Builtin.Range.rangeSize lo hi 1:=by rw[rangeSize_one];split<;>lia
  show IsRangeIter _ _ (lo+((0:Nat):Int)*1) ((((hi-lo).toNat:Nat):Int)-((0:Nat):Int)) 1;rw[e1,e2];exact Heap.get?_push_size _ rfl
 ·have e:b=(s.heap.push {cls:=.type "range",data:=.fields #[.int lo t,.int hi u,.int 1 v]}).objs.size:=by simpa using hb
  subst e;exact I1.rR (Nat.le_refl _) (I1.dE.fresh (Nat.le_refl _))
noncomputable def Fg(ta:TA):TI:=fun σ H R=>ta σ H fun vs H1=>∃j:Int,vs=[.int j]/\-(2^62)<=j/\j<2^62/\R (Dc 0 j.toNat) H1
noncomputable def JJ(ta:TA):TI:=fun σ H R=>ta σ H fun vs H1=>∃i j:Int,vs=[.int i,.int j]/\(-(2^62)<=i/\i<2^62/\-(2^62)<=j/\j<2^62)/\R (Dc i (j-i).toNat) H1
theorem oO{a:Expr}{ta:TA}{p pos:Pos}(hg:Gl X "range")(hm:X.mg "range"=none)(ha:PA X [a] ta)(hs:starEach [a] X.env=[(false,eval a X.env)]:=by rfl):PI X tg (.Call (.Name "range" p) [a] [] pos) (Fg ta):=by
 intro pins s σ H R I h;refine Call_ (gW I hg hm boot_range (PyProof.Rows.callWith_type1 (c_ (ha pos pins s σ H _ I h) fun us s1⟨vs,H1,I1,r1,q1⟩=>?_) hs rfl));obtain⟨j,e,q1,q2,q⟩:=q1;subst e;cases r1 with
 |cons r rr=>
  cases rr;obtain⟨t,rfl⟩:=r;exact call_range_1 (Ar I1 (by lia) (by lia) q1 q2 (by simpa using q))
noncomputable def JK(wi:TI)(g:TG)(tb:TS):TS:=fun D σ H=>wi σ H fun J H1=>∃W:Nat->Nat->St->Hp->Prop,(∃m,W 0 m σ H1)/\∀i m σ H,W i m σ H->
 (J.stop i H/\D.nx σ H)\/(J.go i H/\∃N:St->Hp->Prop,(∀cz H',N cz H'->∃m',m'<m/\W (i+1) m' cz H')/\∀x H',J.uT i H x H'->g x σ H' fun fM H2=>tb {D with nx:=N,ct:=N,bk:=D.nx} fM H2)
noncomputable def pP(fp:List Addr)(h:Heap):List (Addr×Obj):=fp.filterMap fun b=>(h.get? b).map fun o=>(b,o)
theorem gY{fp:List Addr}{h:Heap}{b:Addr}{o:Obj}(hb:b∈fp)(e:h.get? b=some o):(b,o)∈pP fp h:=List.mem_filterMap.mpr ⟨b,hb,by rw[e];rfl⟩
theorem yL{fp:List Addr}{h:Heap}{p:Addr×Obj}(hp:p∈pP fp h):p.1∈fp/\h.get? p.1=some p.2:=by
 obtain⟨b,hb,e⟩:=List.mem_filterMap.mp hp;cases q:h.get? b with
 |none=>rw[q] at e;cases e
 |some o=>
  rw[q] at e;have e':(b,o)=p:=Option.some.inj e;subst e';exact⟨hb,q⟩
theorem Inv.pinned{pins:List (Addr×Obj)}{σ:St}{H:Hp}{s:Shared}{fp:List Addr}(I:Inv X pins σ H s)(hf:∀b∈fp,kA X pins H b)(ho:∀b∈fp,∃o,s.heap.get? b=some o/\∀v,o.data≠.cell v):Inv X (pins++pP fp s.heap) σ H s:=
 I.wY fun p hp=>(List.mem_append.mp hp).elim (fun z=>I.pin p (List.mem_append_right _ z)) fun z=>by
  obtain⟨hb,e⟩:=yL z;obtain⟨f0,f1,f2,_⟩:=hf p.1 hb;obtain⟨o,e',d⟩:=ho p.1 hb;rw[e] at e';cases e';exact⟨e,f0,f1,f2,d⟩
theorem Inv.jU{pins pl:List (Addr×Obj)}{σ:St}{H:Hp}{s:Shared}(I:Inv X (pins++pl) σ H s):Inv X pins σ H s:=I.wY fun p hp=>I.pin p (List.mem_append_right _ (List.mem_append_left _ hp))
theorem gx{iter:Expr}{body:List Stmt}{wi:TI}{g:TG}{tb:TS}{pos:Pos}(hp:PassesOwn (model X.prog X.w) X.A X.env X.xe)(hc:X.calm=true)(hi:PI X tg iter wi)(hg:PG X tg g)(hb:uM X body tb)(hs:∀x,foldedSetIterable iter X.env x=pure x:=by intro _;rfl):PS X (.For tg iter body [] pos) (JK wi g tb):=by
 intro pins s σ H D I h;refine wpAny_For (c_ (hi pins s σ H _ I h) fun v s1 h1=>c_ h1 fun Mh s2 h2=>?_) hs;obtain⟨it,fp,tn,J,H2,e,I2,T,GJ,f2,W,⟨m0,w0⟩,turn⟩:=h2;subst e;have uV:∀{H':Hp},(∀b∈fp,H' b=none)->∀b∈fp,kA X pins H' b:=fun hn b hb=>⟨hn b hb,(f2 b hb).2⟩;refine codeAny_forLoop_any (fun n s'=>∃i cz H',Inv X pins cz H' s'/\tn i s'.heap/\(∀b∈fp,H' b=none)/\W i n cz H') ?_ m0 ⟨0,σ,H2,I2,GJ,fun b hb=>(f2 b hb).1,w0⟩;rintro n s3 ⟨i,Aq,H3,I3,IW,Qo,w3⟩;rcases turn i n Aq H3 w3 with⟨stop,qn⟩|⟨go,N,hN,step⟩
 ·refine wpAny_passesOwn hp (c_ (T.done X rfl rfl rfl hc i pins s3 Aq H3 X.xe I3 (uV Qo) IW stop) fun r s4⟨hr,I4⟩=>?_);subst hr;exact wpAny_execs_nil ⟨Aq,H3,I4,qn⟩
 ·refine wpAny_passesOwn hp (c_ (T.item X rfl rfl rfl hc i pins s3 Aq H3 X.xe I3 (uV Qo) IW go) fun r s4⟨u,hr,h4⟩=>?_);subst hr;refine wpAny_passesOwn hp (c_ h4 fun _ s5 ⟨x,H5,I5,r5,y5,IX,Mi⟩=>?_);have Sy:=I5.pinned (uV Mi) (T.obj _ _ IX);refine wpAny_passesOwn hp (c_ (hg _ s5 Aq H5 x u _ Sy r5 (step x H5 y5)) fun _ s6 ⟨Sz,H6,I6,q6⟩=>?_);refine wpAny_passesOwn hp (c_ (hb _ s6 Sz H6 _ I6 q6) fun f s7 q7=>?_);have again:∀{As:St}{H7:Hp},Inv X (pins++pP fp s5.heap) As H7 s7->N As H7->∃m,m<n/\∃i cz H',Inv X pins cz H' s7/\tn i s7.heap/\(∀b∈fp,H' b=none)/\W i m cz H':=fun{As H7} I7 n7=>by
   obtain⟨m',hm,w7⟩:=hN As H7 n7;refine⟨m',hm,i+1,As,H7,I7.jU,T.keep _ _ _ IX fun b hb o e=>(I7.pin (b,o) (List.mem_append_right _ (List.mem_append_right _ (gY hb e)))).1,fun b hb=>?_,w7⟩;obtain⟨o,e,d⟩:=T.obj _ _ IX b hb;exact(I7.pin (b,o) (List.mem_append_right _ (List.mem_append_right _ (gY hb e)))).2.1
  cases f with
  |next=>obtain⟨As,H7,I7,n7⟩:=q7;exact again I7 n7
  |cont=>obtain⟨As,H7,I7,n7⟩:=q7;exact again I7 n7
  |brk=>obtain⟨As,H7,I7,q7⟩:=q7;exact⟨As,H7,I7.jU,q7⟩
  |ret v=>obtain⟨x7,As,H7,I7,r7,q7⟩:=q7;exact⟨x7,As,H7,I7.jU,r7,q7⟩
end
theorem rT{K:PySem.W.Frag}{a:Addr}{xs:List V}{g:TG}{tb:TS}{D:Ends}{σ:St}{H:Hp}(Pv:Nat->St->Hp->Prop)(h0:Pv 0 σ H)(hl:∀i σ H,i<=xs.length->Pv i σ H->aZ K H a xs)(hs:∀i x σ H,xs[i]?=some x->Pv i σ H->g x σ H fun fM H2=>tb {D with nx:=Pv (i+1),ct:=Pv (i+1),bk:=D.nx} fM H2)(hd:∀σ H,Pv xs.length σ H->D.nx σ H):
 ∃W:Nat->Nat->St->Hp->Prop,(∃m,W 0 m σ H)/\∀i m σ H,W i m σ H->
  ((rH K a).stop i H/\D.nx σ H)\/((rH K a).go i H/\∃N:St->Hp->Prop,(∀cz H',N cz H'->∃m',m'<m/\W (i+1) m' cz H')/\∀x H',(rH K a).uT i H x H'->g x σ H' fun fM H2=>tb {D with nx:=N,ct:=N,bk:=D.nx} fM H2):=by
 refine⟨fun i m σ H=>m=xs.length-i/\i<=xs.length/\Pv i σ H,⟨xs.length,by simp,Nat.zero_le _,h0⟩,?_⟩;rintro i m σ H ⟨rfl,hi,p⟩;have q:=hl i σ H hi p;by_cases eE:i<xs.length
 ·refine .inr ⟨⟨xs,xs[i],q,by simp[eE]⟩,Pv (i+1),fun cz H' p'=>⟨xs.length-(i+1),by lia,rfl,eE,p'⟩,fun x H' y=>?_⟩;obtain⟨e,y⟩:=y;subst e;exact hs i x σ _ (y xs q) p
 ·have e:i=xs.length:=by lia
  subst e;exact .inl ⟨⟨xs,q,Nat.le_refl _⟩,hd σ H p⟩
theorem oP{lo:Int}{n:Nat}{g:TG}{tb:TS}{D:Ends}{σ:St}{H:Hp}(Pv:Nat->St->Hp->Prop)(h0:Pv 0 σ H)(hs:∀i σ H,i<n->Pv i σ H->g (.int (lo+i)) σ H fun fM H2=>tb {D with nx:=Pv (i+1),ct:=Pv (i+1),bk:=D.nx} fM H2)(hd:∀σ H,Pv n σ H->D.nx σ H):
 ∃W:Nat->Nat->St->Hp->Prop,(∃m,W 0 m σ H)/\∀i m σ H,W i m σ H->
  ((Dc lo n).stop i H/\D.nx σ H)\/((Dc lo n).go i H/\∃N:St->Hp->Prop,(∀cz H',N cz H'->∃m',m'<m/\W (i+1) m' cz H')/\∀x H',(Dc lo n).uT i H x H'->g x σ H' fun fM H2=>tb {D with nx:=N,ct:=N,bk:=D.nx} fM H2):=by
 refine⟨fun i m σ H=>m=n-i/\i<=n/\Pv i σ H,⟨n,by simp,Nat.zero_le _,h0⟩,?_⟩;rintro i m σ H ⟨rfl,hi,p⟩;by_cases eE:i<n
 ·refine .inr ⟨eE,Pv (i+1),fun cz H' p'=>⟨n-(i+1),by lia,rfl,eE,p'⟩,fun x H' y=>?_⟩;obtain⟨e,y⟩:=y;subst e y;exact hs i σ _ eE p
 ·have e:i=n:=by lia
  subst e;exact .inl ⟨Nat.le_refl _,hd σ H p⟩
end L2
namespace L2
open PySem PySem.Spec PyProof.Rows
noncomputable abbrev R2:=V->V->Hp->VK->Prop
noncomputable def me(X:Cx)(f:Value->Value->Sem Value)(r:R2):Prop:=
 ∀(pins:List (Addr×Obj))(s:Shared)(σ:St)(H:Hp)(x y:V)(v u:Value)(Q:VK),Inv X pins σ H s->RelV x v->RelV y u->r x y H Q->
  wpAny (model X.prog X.w) X.A (f v u) (EP X pins σ Q) X.xe s
noncomputable def Nq(X:Cx)(f:Value->Sem Value)(r:V->Hp->VK->Prop):Prop:=
 ∀(pins:List (Addr×Obj))(s:Shared)(σ:St)(H:Hp)(x:V)(v:Value)(Q:VK),Inv X pins σ H s->RelV x v->r x H Q->
  wpAny (model X.prog X.w) X.A (f v) (EP X pins σ Q) X.xe s
noncomputable def fN(X:Cx)(f:Value)(r:List V->Hp->VK->Prop):Prop:=
 ∀(pins:List (Addr×Obj))(s:Shared)(σ:St)(H:Hp)(xs:List V)(us:List Value)(Q:VK),Inv X pins σ H s->Vals xs us->r xs H Q->
  wpAny (model X.prog X.w) X.A (call f us) (EP X pins σ Q) X.xe s
noncomputable def Nr(X:Cx)(r:V->Hp->(Bool->Hp->Prop)->Prop):Prop:=
 ∀(pins:List (Addr×Obj))(s:Shared)(σ:St)(H:Hp)(x:V)(v:Value)(Q:Bool->Hp->Prop),Inv X pins σ H s->RelV x v->r x H Q->
  wpAny (model X.prog X.w) X.A (truthy v) (TP X pins σ Q) X.xe s
noncomputable def JL(r:R2)(ta tb:TE):TE:=fun σ H Q=>ta σ H fun x H1=>tb σ H1 fun y H2=>r x y H2 Q
noncomputable def Qp(r:V->Hp->VK->Prop)(ta:TE):TE:=fun σ H Q=>ta σ H fun x H1=>r x H1 Q
noncomputable def rI(C:Int->Int->Prop)(g:Int->Int->V):R2:=fun x y H Q=>∃i j,x=.int i/\y=.int j/\C i j/\Q (g i j) H
noncomputable def Fh(g:Int->Int->V):R2:=fun x y H Q=>∃i j,x=.int i/\y=.int j/\Q (g i j) H
noncomputable def rU(g:Int->V):V->Hp->VK->Prop:=fun x H Q=>∃i,x=.int i/\Q (g i) H
section
variable {X:Cx} {a b c:Expr} {ta tb tc:TE} {pos:Pos}
theorem GK(ha:PE X a ta)(hb:PE X b tb){pins:List (Addr×Obj)}{s:Shared}{σ:St}{H:Hp}{R:V->V->Hp->Prop}(I:Inv X pins σ H s)(h:ta σ H fun x H1=>tb σ H1 fun y H2=>R x y H2){Q:Value->Shared->Prop}{f:Value->Value->Sem Value}(hf:∀v u s2 x y H2,Inv X pins σ H2 s2->RelV x v->RelV y u->R x y H2->wpAny (model X.prog X.w) X.A (f v u) Q X.xe s2):
 wpAny (model X.prog X.w) X.A (eval a X.env) (fun v cq=>wpAny (model X.prog X.w) X.A (eval b X.env) (fun u rV=>wpAny (model X.prog X.w) X.A (f v u) Q X.xe rV) X.xe cq) X.xe s:=by
 refine c_ (ha pins s σ H _ I h) fun v s1⟨x,H1,I1,r1,q1⟩=>?_;refine c_ (hb pins s1 σ H1 _ I1 q1) fun u s2⟨y,H2,I2,r2,q2⟩=>?_;exact hf v u s2 x y H2 I2 r1 r2 q2
theorem aj{op:Operator}{r:R2}(ho:me X (binaryOp op) r)(ha:PE X a ta)(hb:PE X b tb):PE X (.BinOp a op b pos) (JL r ta tb):=by
 intro pins s σ H Q I h;exact wpAny_BinOp (GK ha hb I h fun v u s2 x y H2 I2 rx ry q=>ho pins s2 σ H2 x y v u Q I2 rx ry q)
theorem dn{op:UnaryOp}{r:V->Hp->VK->Prop}(ho:Nq X (unaryOp op) r)(ha:PE X a ta):PE X (.UnaryOp op a pos) (Qp r ta):=by
 intro pins s σ H Q I h;exact UnaryOp_ (c_ (ha pins s σ H _ I h) fun v s1⟨x,H1,I1,r1,q1⟩=>ho pins s1 σ H1 x v Q I1 r1 q1)
theorem Mj{f:Value->Value->Sem Value}{C:Int->Int->Prop}{g:Int->Int->Int}(rule:∀(i j:Int)(t u:Tok)(s:Shared)(Q:Value->Shared->Prop)(E:Value->Shared->Prop),C i j->Q (.int (g i j) s.toks) {s with toks:=s.toks+1}->wpAny (model X.prog X.w) X.A (f (.int i t) (.int j u)) Q E s):
 me X f (rI C fun i j=>.int (g i j)):=by
 intro pins s σ H x y v u Q I rx ry h;obtain⟨i,j,rfl,rfl,hc,q⟩:=h;obtain⟨t,rfl⟩:=rx;obtain⟨t',rfl⟩:=ry;exact rule i j t t' s _ _ hc ⟨.int (g i j),H,I.tok _,⟨_,rfl⟩,q⟩
theorem JM{f:Value->Value->Sem Value}{g:Int->Int->Int}(rule:∀(i j:Int)(t u:Tok)(s:Shared)(Q:Value->Shared->Prop)(E:Value->Shared->Prop),Q (.int (g i j) s.toks) {s with toks:=s.toks+1}->wpAny (model X.prog X.w) X.A (f (.int i t) (.int j u)) Q E s):
 me X f (Fh fun i j=>.int (g i j)):=by
 intro pins s σ H x y v u Q I rx ry h;obtain⟨i,j,rfl,rfl,q⟩:=h;obtain⟨t,rfl⟩:=rx;obtain⟨t',rfl⟩:=ry;exact rule i j t t' s _ _ ⟨.int (g i j),H,I.tok _,⟨_,rfl⟩,q⟩
theorem GL{f:Value->Value->Sem Value}{g:Int->Int->Bool}(rule:∀(i j:Int)(t u:Tok)(s:Shared)(Q:Value->Shared->Prop)(E:Value->Shared->Prop),Q (.bool (g i j)) s->wpAny (model X.prog X.w) X.A (f (.int i t) (.int j u)) Q E s):
 me X f (Fh fun i j=>.bl (g i j)):=by
 intro pins s σ H x y v u Q I rx ry h;obtain⟨i,j,rfl,rfl,q⟩:=h;obtain⟨t,rfl⟩:=rx;obtain⟨t',rfl⟩:=ry;exact rule i j t t' s _ _ ⟨.bl (g i j),H,I,rfl,q⟩
noncomputable def Nt(i j:Int):Prop:=0<=j/\j<=1000000/\i.natAbs<2^64
theorem bA:me X (binaryOp .Add) (Fh fun i j=>.int (i+j)):=JM fun _ _ _ _ _ _ _ q=>add_int q
theorem bJ:me X (binaryOp .Sub) (Fh fun i j=>.int (i-j)):=JM fun _ _ _ _ _ _ _ q=>sub_int q
theorem cF:me X (binaryOp .Mod) (rI (fun _ j=>j≠0) fun i j=>.int (i.fmod j)):=Mj fun _ _ _ _ _ _ _ hc q=>mod_int' hc q
theorem Au:me X (binaryOp .Pow) (rI Nt fun i j=>.int (i^j.toNat)):=Mj fun _ _ _ _ _ _ _ hc q=>pow_int_small hc.1 hc.2.1 hc.2.2 q
theorem SA{f:Value->Sem Value}{g:Int->Int}(rule:∀(i:Int)(t:Tok)(s:Shared)(Q:Value->Shared->Prop)(E:Value->Shared->Prop),Q (.int (g i) s.toks) {s with toks:=s.toks+1}->wpAny (model X.prog X.w) X.A (f (.int i t)) Q E s):
 Nq X f (rU fun i=>.int (g i)):=by
 intro pins s σ H x v Q I rx h;obtain⟨i,rfl,q⟩:=h;obtain⟨t,rfl⟩:=rx;exact rule i t s _ _ ⟨.int (g i),H,I.tok _,⟨_,rfl⟩,q⟩
theorem bY:Nq X (unaryOp .USub) (rU fun i=>.int (-i)):=SA fun _ _ _ _ _ q=>neg_int q
end
noncomputable def GN:V->V->Bool
 |.eT,.eT=>true|.eT,.int _=>true|.int _,.eT=>true|.eT,.bl _=>true|.bl _,.eT=>true|.eT,.str _=>true|.str _,.eT=>true
 |.int _,.int _=>true|.bl _,.bl _=>true|.str _,.str _=>true|.wV _,.wV _=>true
 |.int _,.str _=>true|.str _,.int _=>true|.bl _,.str _=>true|.str _,.bl _=>true
 |_,_=>false
noncomputable def Ml:R2:=fun x y H Q=>GN x y=true/\Q (.bl (decide (x=y))) H
noncomputable def Nu:R2:=fun x y H Q=>GN x y=true/\Q (.bl (!decide (x=y))) H
theorem w4{i j:Int}:decide (V.int i=V.int j)=(i==j):=by
 rw[Bool.eq_iff_iff];simp
theorem Av{i j:Bool}:decide (V.bl i=V.bl j)=(i==j):=by
 rw[Bool.eq_iff_iff];simp
theorem w6{i j:Str}:decide (V.str i=V.str j)=(i==j):=by
 rw[Bool.eq_iff_iff];simp
theorem w8{i j:Array UInt8}:decide (V.wV i=V.wV j)=(i.toList==j.toList):=by
 rw[Bool.eq_iff_iff];cases i;cases j;simp
section
variable {X:Cx} {a b c:Expr} {ta tb tc:TE} {pos:Pos}
theorem a_{pins:List (Addr×Obj)}{σ:St}{H:Hp}{s:Shared}{Q:VK}{k k':Bool}(I:Inv X pins σ H s)(q:Q (.bl k) H)(e:k=k'):EP X pins σ Q (.bool k') s:=by
 subst e;exact⟨.bl k,H,I,rfl,q⟩
theorem dN:me X (compareOp .Eq) Ml:=by
 intro pins s σ H x y v u Q I rx ry h;obtain⟨hs,q⟩:=h;cases x with
 |eT=>
  cases rx
  cases y with
  |eT=>cases ry;exact PySem.EqNone.eq_none_none (a_ I q (by simp))
  |bl j=>cases ry;exact PySem.EqNone.eq_none_bool (a_ I q (by simp))
  |int j=>obtain⟨t',rfl⟩:=ry;exact PySem.EqNone.eq_none_int (a_ I q (by simp))
  |str j=>obtain⟨t',rfl⟩:=ry;exact PySem.EqNone.eq_none_str (a_ I q (by simp))
  |_=>exact absurd (show false=true from hs) Bool.false_ne_true
 |bl i=>
  cases rx
  cases y with
  |eT=>cases ry;exact PySem.EqNone.eq_bool_none (a_ I q (by simp))
  |bl j=>cases ry;exact eq_bool (a_ I q Av)
  |str j=>obtain⟨t',rfl⟩:=ry;exact PySem.EqMixed.eq_bool_str (a_ I q (by simp))
  |_=>exact absurd (show false=true from hs) Bool.false_ne_true
 |int i=>
  obtain⟨t,rfl⟩:=rx;cases y with
  |eT=>cases ry;exact PySem.EqNone.eq_int_none (a_ I q (by simp))
  |int j=>obtain⟨t',rfl⟩:=ry;exact eq_int (a_ I q w4)
  |str j=>obtain⟨t',rfl⟩:=ry;exact PySem.EqMixed.eq_int_str (a_ I q (by simp))
  |_=>exact absurd (show false=true from hs) Bool.false_ne_true
 |str i=>
  obtain⟨t,rfl⟩:=rx;cases y with
  |eT=>cases ry;exact PySem.EqNone.eq_str_none (a_ I q (by simp))
  |bl j=>cases ry;exact PySem.EqMixed.eq_str_bool (a_ I q (by simp))
  |int j=>obtain⟨t',rfl⟩:=ry;exact PySem.EqMixed.eq_str_int (a_ I q (by simp))
  |str j=>obtain⟨t',rfl⟩:=ry;exact eq_str (a_ I q w6)
  |_=>exact absurd (show false=true from hs) Bool.false_ne_true
 |wV i=>
  obtain⟨t,rfl⟩:=rx;cases y with
  |wV j=>obtain⟨t',rfl⟩:=ry;exact PySem.W.eq_bytes (a_ I q w8)
  |_=>exact absurd (show false=true from hs) Bool.false_ne_true
 |_=>cases y<;>exact absurd (show false=true from hs) Bool.false_ne_true
theorem mI:me X (compareOp .NotEq) Nu:=by
 intro pins s σ H x y v u Q I rx ry h;obtain⟨hs,q⟩:=h;cases x with
 |eT=>
  cases rx
  cases y with
  |eT=>cases ry;exact PySem.EqNone.ne_none_none (a_ I q (by simp))
  |bl j=>cases ry;exact PySem.EqNone.ne_none_bool (a_ I q (by simp))
  |int j=>obtain⟨t',rfl⟩:=ry;exact PySem.EqNone.ne_none_int (a_ I q (by simp))
  |str j=>obtain⟨t',rfl⟩:=ry;exact PySem.EqNone.ne_none_str (a_ I q (by simp))
  |_=>exact absurd (show false=true from hs) Bool.false_ne_true
 |bl i=>
  cases rx
  cases y with
  |eT=>cases ry;exact PySem.EqNone.ne_bool_none (a_ I q (by simp))
  |bl j=>cases ry;exact ne_bool (a_ I q (congrArg not Av))
  |str j=>obtain⟨t',rfl⟩:=ry;exact PySem.EqMixed.ne_bool_str (a_ I q (by simp))
  |_=>exact absurd (show false=true from hs) Bool.false_ne_true
 |int i=>
  obtain⟨t,rfl⟩:=rx;cases y with
  |eT=>cases ry;exact PySem.EqNone.ne_int_none (a_ I q (by simp))
  |int j=>obtain⟨t',rfl⟩:=ry;exact ne_int (a_ I q (congrArg not w4))
  |str j=>obtain⟨t',rfl⟩:=ry;exact PySem.EqMixed.ne_int_str (a_ I q (by simp))
  |_=>exact absurd (show false=true from hs) Bool.false_ne_true
 |str i=>
  obtain⟨t,rfl⟩:=rx;cases y with
  |eT=>cases ry;exact PySem.EqNone.ne_str_none (a_ I q (by simp))
  |bl j=>cases ry;exact PySem.EqMixed.ne_str_bool (a_ I q (by simp))
  |int j=>obtain⟨t',rfl⟩:=ry;exact PySem.EqMixed.ne_str_int (a_ I q (by simp))
  |str j=>obtain⟨t',rfl⟩:=ry;exact ne_str (a_ I q (congrArg not w6))
  |_=>exact absurd (show false=true from hs) Bool.false_ne_true
 |wV i=>
  obtain⟨t,rfl⟩:=rx;cases y with
  |wV j=>obtain⟨t',rfl⟩:=ry;exact PySem.W.ne_bytes (a_ I q (congrArg not w8))
  |_=>exact absurd (show false=true from hs) Bool.false_ne_true
 |_=>cases y<;>exact absurd (show false=true from hs) Bool.false_ne_true
theorem iL:me X (compareOp .Lt) (Fh fun i j=>.bl (decide (i<j))):=GL fun _ _ _ _ _ _ _ q=>lt_int q
theorem fO:me X (compareOp .Gt) (Fh fun i j=>.bl (decide (j<i))):=GL fun _ _ _ _ _ _ _ q=>gt_int q
theorem Fi:me X (compareOp .GtE) (Fh fun i j=>.bl (decide (j<=i))):=GL fun _ _ _ _ _ _ _ q=>ge_int q
theorem yM:me X (compareOp .In) (fun x y H Q=>∃i j,x=.str i/\y=.str j/\Q (.bl (!(Builtin.Str.occurrences j i 0 j.length 1).isEmpty)) H):=by
 intro pins s σ H x y v u Q I rx ry h;obtain⟨i,j,rfl,rfl,q⟩:=h;obtain⟨t,rfl⟩:=rx;obtain⟨t',rfl⟩:=ry;exact in_str (a_ I q rfl)
theorem pQ:me X (compareOp .Is) (fun x y H Q=>y=.eT/\Q (.bl (decide (x=.eT))) H):=by
 intro pins s σ H x y v u Q I rx ry h;obtain⟨rfl,q⟩:=h;cases ry;refine is_none_gen (a_ I q ?_);cases x<;>first
  |(cases rx;rfl)
  |(obtain⟨t,rfl⟩:=rx;rfl)
theorem w_:me X (compareOp .IsNot) (fun x y H Q=>y=.eT/\Q (.bl (!decide (x=.eT))) H):=by
 intro pins s σ H x y v u Q I rx ry h;obtain⟨rfl,q⟩:=h;cases ry;refine isnot_none_gen (a_ I q ?_);cases x<;>first
  |(cases rx;rfl)
  |(obtain⟨t,rfl⟩:=rx;rfl)
theorem aE(b:Expr){op:CmpOp}(h:op≠.In:=by decide)(h2:op≠.NotIn:=by decide):behindInMarks op b=false:=by
 have e1:(op==CmpOp.In)=false:=by cases op<;>first|rfl|exact absurd rfl h
 have e2:(op==CmpOp.NotIn)=false:=by cases op<;>first|rfl|exact absurd rfl h2
 cases b<;>simp[behindInMarks,e1,e2]
theorem eF{op:CmpOp}{r:R2}(ho:me X (compareOp op) r)(ha:PE X a ta)(hb:PE X b tb)(hm:behindInMarks op b=false):PE X (.Compare a [op] [b] pos) (JL r ta tb):=by
 intro pins s σ H Q I h;exact wpAny_Compare1 (GK ha hb I h fun v u s2 x y H2 I2 rx ry q=>ho pins s2 σ H2 x y v u Q I2 rx ry q) hm
noncomputable def Fj(t:TE):TT:=fun σ H Q=>t σ H fun x H'=>∃k,x=.bl k/\Q k H'
theorem aB{op:CmpOp}{r:R2}(ho:me X (compareOp op) r)(ha:PE X a ta)(hb:PE X b tb)(hm:behindInMarks op b=false):PT X (.Compare a [op] [b] pos) (Fj (JL r ta tb)):=by
 intro pins s σ H Q I h;refine wpAny_isTrue_Compare1 (c_ (ha pins s σ H _ I h) fun v s1⟨x,H1,I1,r1,q1⟩=>c_ (hb pins s1 σ H1 _ I1 q1) fun u s2⟨y,H2,I2,r2,q2⟩=>
  c_ (ho pins s2 σ H2 x y v u _ I2 r1 r2 q2) fun c s3⟨z,H3,I3,r3,k,e,q3⟩=>?_) hm;subst e;cases r3;exact wpAny_truthy_bool ⟨H3,I3,q3⟩
noncomputable def Dd(K:PySem.W.Frag)(x:V)(H:Hp)(k:Bool):Prop:=
 match x with
 |.eT=>k=false
 |.bl b=>k=b
 |.int i=>k=(i !=0)
 |.str y=>y.length<=sizeLine/\k=((y.length:Int)!=0)
 |.wV y=>y.size<=sizeLine/\k=((y.size:Int)!=0)
 |.ref p=>(∃xs,aZ K H p xs/\k=!xs.isEmpty)\/(∃xs,cC K H p xs/\k=!xs.isEmpty)\/∃iK,H p=some (.dK iK)/\k=!iK.isEmpty
 |_=>False
theorem uW{κ:Type}{iK:List (κ×V)}{vs:List (κ×Value)}(r:KV iK vs):(!vs.isEmpty)=!iK.isEmpty:=by
 cases r<;>rfl
theorem mJ{xs:List V}{aX:List Value}(r:Vals xs aX):(!aX.toArray.isEmpty)=!xs.isEmpty:=by
 cases r<;>simp
theorem jz:(sizeLine:Nat)<2^63:=by rw[sizeLine_eq];decide
theorem GO:Nr X (fun x H Q=>∃k,Dd X.K x H k/\Q k H):=by
 intro pins s σ H x v Q I rx h;obtain⟨k,e,q⟩:=h;have hl:=jz;have hs:sizeLine=16777216:=sizeLine_eq;cases x with
 |eT=>
  cases rx;have e':k=false:=e;subst e';exact truthy_none ⟨H,I,q⟩
 |bl b=>
  cases rx;have e':k=b:=e;subst e';exact wpAny_truthy_bool ⟨H,I,q⟩
 |int i=>
  obtain⟨t,rfl⟩:=rx;have e':k=(i !=0):=e;subst e';exact PySem.P.truthy_int ⟨H,I,q⟩
 |str y=>
  obtain⟨t,rfl⟩:=rx;obtain⟨hy,e'⟩:y.length<=sizeLine/\k=((y.length:Int)!=0):=e;subst e';exact PySem.P.truthy_str (by lia) ⟨H,I.tok _,q⟩
 |wV y=>
  obtain⟨t,rfl⟩:=rx;obtain⟨hy,e'⟩:y.size<=sizeLine/\k=((y.size:Int)!=0):=e;subst e';exact PySem.W.truthy_bytes (by lia) ⟨H,I.tok _,q⟩
 |ref p=>
  cases rx;have e':(∃xs,aZ X.K H p xs/\k=!xs.isEmpty)\/(∃xs,cC X.K H p xs/\k=!xs.isEmpty)\/∃iK,H p=some (.dK iK)/\k=!iK.isEmpty:=e;rcases e' with⟨xs,hx,e'⟩|⟨xs,hx,e'⟩|⟨iK,hx,e'⟩
  ·subst e';obtain⟨aX,r,pl,hz⟩:=I.list hx;have hlen:=r.length;exact wpAny_truthy_list pl.isList (by simp only[List.size_toArray];lia) ⟨H,I.tok _,by rw[mJ r];exact q⟩
  ·subst e';obtain⟨aX,r,pl,hz⟩:=I.tuple hx;have hlen:=r.length;exact truthy_tuple pl (by simp only[List.size_toArray];lia) ⟨H,I.tok _,by rw[mJ r];exact q⟩
  ·subst e';obtain⟨hz,hS,vs,r,m⟩:iK.length<=sizeLine/\(p==sysModules)=false/\∃vs,KV iK vs/\s.heap.DictOf (pJ X.prog X.w) p vs:=I.dE p _ hx;have hlen:iK.length=vs.length:=Paired.length r;exact wpAny_truthy_dict hS m (by lia) ⟨H,I.tok _,by rw[uW r];exact q⟩
 |_=>exact(show False from e).elim
theorem fP(ha:PE X a ta)(he:∀whole,isTrue a X.env whole=(do let v<-whole;standAt a.pos;holding [v] (truthy v))):
 PT X a (fun σ H Q=>ta σ H fun x H'=>∃k,Dd X.K x H' k/\Q k H'):=by
 intro pins s σ H Q I h;exact isTrue_plain (c_ (ha pins s σ H _ I h) fun v s1⟨x,H1,I1,r1,q1⟩=>GO pins s1 σ H1 x v Q I1 r1 q1) (he _)
theorem fQ:me X (binaryOp .Add) (fun x y H Q=>∃i j,x=.str i/\y=.str j/\i.length+j.length<=sizeLine/\Q (.str (i++j)) H):=by
 intro pins s σ H x y v u Q I rx ry h;obtain⟨i,j,rfl,rfl,hz,q⟩:=h;obtain⟨t,rfl⟩:=rx;obtain⟨t',rfl⟩:=ry;exact add_str (fun t' tk=>⟨.str (i++j),H,I.tok _,⟨_,rfl⟩,q⟩) hz
theorem vals1{x:V}{us:List Value}(r:Vals [x] us):∃u,us=[u]/\RelV x u:=by
 cases r with
 |cons r1 r2=>cases r2;exact⟨_,rfl,r1⟩
theorem vals2{x y:V}{us:List Value}(r:Vals [x,y] us):∃u w',us=[u,w']/\RelV x u/\RelV y w':=by
 cases r with
 |cons r1 r2=>
  cases r2 with
  |cons r3 r4=>cases r4;exact⟨_,_,rfl,r1,r3⟩
theorem cK:fN X (.builtin "abs") (fun xs H Q=>∃i,xs=[.int i]/\Q (.int (if i<0 then -i else i)) H):=by
 intro pins s σ H xs us Q I r h;obtain⟨i,rfl,q⟩:=h;obtain⟨u,rfl,t,rfl⟩:=vals1 r;exact call_abs_int fun u tk=>⟨.int (if i<0 then -i else i),H,I.tok _,⟨_,rfl⟩,q⟩
theorem yN(hc:X.calm=true):fN X (.builtin "max") (fun xs H Q=>∃i j,xs=[.int i,.int j]/\Q (.int (if j>i then j else i)) H):=by
 intro pins s σ H xs us Q I r h;obtain⟨i,j,rfl,q⟩:=h;obtain⟨u,w',rfl,⟨t,rfl⟩,⟨t',rfl⟩⟩:=vals2 r;refine max_two_ints (I.ok.hd hc) fun h' tk k=>⟨_,H,I.kept k,?_,q⟩;by_cases hj:j>i
 ·rw[if_pos hj,if_pos hj];exact⟨_,rfl⟩
 ·rw[if_neg hj,if_neg hj];exact⟨_,rfl⟩
theorem kB(hc:X.calm=true):fN X (.builtin "min") (fun xs H Q=>∃i j,xs=[.int i,.int j]/\Q (.int (if j<i then j else i)) H):=by
 intro pins s σ H xs us Q I r h;obtain⟨i,j,rfl,q⟩:=h;obtain⟨u,w',rfl,⟨t,rfl⟩,⟨t',rfl⟩⟩:=vals2 r;refine min_two_ints (I.ok.hd hc) fun h' tk k=>⟨_,H,I.kept k,?_,q⟩;by_cases hj:j<i
 ·rw[if_pos hj,if_pos hj];exact⟨_,rfl⟩
 ·rw[if_neg hj,if_neg hj];exact⟨_,rfl⟩
theorem fF:fN X (.type "int") (fun xs H Q=>(∃i,xs=[.int i]/\Q (.int i) H)\/∃k,xs=[.bl k]/\Q (.int (if k then 1 else 0)) H):=by
 intro pins s σ H xs us Q I r h;rcases h with⟨i,rfl,q⟩|⟨k,rfl,q⟩
 ·obtain⟨u,rfl,t,rfl⟩:=vals1 r;exact call_int_int ⟨.int i,H,I,⟨_,rfl⟩,q⟩
 ·obtain⟨u,rfl,r1⟩:=vals1 r;cases r1;exact call_int_bool ⟨.int (if k then 1 else 0),H,I.tok _,⟨_,rfl⟩,q⟩
theorem pR:fN X (.type "str") (fun xs H Q=>∃i,xs=[.int i]/\i.natAbs.log2<1920/\Q (.str (toString i)) H):=by
 intro pins s σ H xs us Q I r h;obtain⟨i,rfl,hz,q⟩:=h;obtain⟨u,rfl,t,rfl⟩:=vals1 r;exact PySem.P.str_of_int hz ⟨.str _,H,I.tok _,⟨_,rfl⟩,q⟩
end
end L2
namespace L2
open PySem PySem.Spec PyProof.Rows
structure yO(h:Heap)(x dx C:Addr)(mA:Str->Option Value):Prop where
 obj:h.get? x=some (PySem.W.instObj C dx)
 ns:h.Ns1 dx mA
 ne:dx≠x
theorem yP{h:Heap}{dx:Addr}{mA:Str->Option Value}(n:h.Ns1 dx mA):∃od,h.get? dx=some od/\∀name,PySem.W.lookIn name od=some (mA name):=by
 obtain⟨o,es,ep,ho,hd,hk,_,hm⟩:=n;refine⟨o,ho,fun name=>?_⟩;have e:=hm name;unfold nsFind findBy at e;rw[<-Array.find?_toList] at e;unfold PySem.W.lookIn;rw[hd]
 dsimp only
 split
 ·rename_i y q;rw[q] at e;exact congrArg some e
 ·rename_i q;rw[q] at e;have a:es.toList.any (·.refKey)=false:=by
   rw[List.any_eq_false];intro y hy;obtain⟨z,t,Nx⟩:=hk y (Array.mem_toList_iff.mp hy);simp[DictEntry.refKey,Nx]
  have a':¬es.toList.any (·.refKey)=true:=by rw[a];exact Bool.false_ne_true
  rw[if_neg a'];exact congrArg some e
theorem yO.look{h:Heap}{x dx C:Addr}{mA:Str->Option Value}(I:yO h x dx C mA):∃od,PySem.W.InstAt h x (PySem.W.instObj C dx) C (some od)/\∀name,PySem.W.lookIn name od=some (mA name):=
 let⟨od,ho,hl⟩:=yP I.ns
 ⟨od,⟨I.obj,rfl,rfl,ho⟩,hl⟩
section
variable {prog:Program} {w:World} {A:Around} {E:Value->Shared->Prop} {s:Shared} {K:PySem.W.Frag} {x dx C f:Addr} {mA:Str->Option Value} {name:Str} {v:Value}
theorem get_map{expr:Bool}{Q:Value->Shared->Prop}(X:K.In s.heap)(I:yO s.heap x dx C mA)(hg:PySem.W.plainGet K C name=true)(hh:PySem.W.hasDictIn K C=true)(ha:PySem.W.findIn K (.ref C) name=some none)(hv:mA name=some v)(De:PySem.W.handedIn v=true)(h:Q v {s with toks:=s.toks+1}):
 wpAny (model prog w) A (getAttr (.ref x) name expr) Q E s:=by
 obtain⟨od,J,hl⟩:=I.look;exact PySem.W.get_value X J (PySem.W.plainGet_of hg).1 (PySem.W.findObj_own hh ha rfl (by rw[hl,hv])) De h
theorem Df{ns:List Str}{Q:Unit->Shared->Prop}(X:K.In s.heap)(I:yO s.heap x dx C mA)(hs:PySem.W.findIn K (.ref C) "__setattr__"=some (some (.builtin "object.__setattr__")))(hp:PySem.W.plainOver K C=true)(ht:PySem.W.takerIn K C name=some none)(hh:PySem.W.hasDictIn K C=true)(hw:PySem.Within mA ns)(xc:ns.length<=sizeLine)(h:∀h',yO h' x dx C (fun y=>if y=name then some v else mA y)->Heap.SameBut dx s.heap h'->Q () {s with heap:=h',toks:=s.toks+2}):
 wpAny (model prog w) A (setAttr (.ref x) name v) Q E s:=by
 obtain⟨od,J,hl⟩:=I.look;refine PySem.W.set_plain X J hs (PySem.W.osa_open (s:={s with toks:=s.toks+1}) (r:=none) X J hp ht fun b=>?_);obtain⟨cd,hc,IS⟩:=PySem.W.any_some hh;have hx:s.heap.get? x=some ⟨.ref C,some dx,.plain,#[]⟩:=I.obj;refine wpAny_bind (wpAny_pure (wpAny_bind (wpAny_bind (wpAny_loadPart hx (wpAny_bind (PySem.W.Looks.here (s:={s with toks:=s.toks+1}) (PySem.W.looks_clsIn X hc) ?_))))));rw[IS];refine wpAny_pure (a:=some dx) (wpAny_bind (wpAny_pure (wpAny_bind ?_)));refine wpAny_nsSet1 (s:={s with toks:=s.toks+1}) I.ns fun h' GP CQ=>?_;obtain⟨oD,Wc,Wd,SD,SE,SG⟩:=GP.count (PySem.Within.cons name v hw);refine wpAny_bind (wpAny_lookBehind SD (by rw[SE];exact pastItsLine_dict (Nat.le_trans SG (by rw[List.length_cons];lia))) ?_);exact wpAny_pure (h _ ⟨(CQ.2 _ (Ne.symm I.ne)).trans I.obj,GP,I.ne⟩ CQ)
theorem Aw{R:Result->Shared->Prop}{vs:List Value}{kw:List (Str×Value)}(X:K.In s.heap)(hm:PySem.W.makesIn K C=true)(hi:PySem.W.findIn K (.ref C) "__init__"=some (some (.ref f)))(hf:PySem.W.typeIn K (.ref f)=some (.type "function"))(h:codeAny (model prog w) (A.under (.builtin "type.__call__" ⟨.ref C::vs,kw⟩)) (.call (.ref f) ⟨.ref (s.heap.objs.size+1)::vs,kw⟩) (PySem.W.InitBack (s.heap.objs.size+1) R)
 {s with heap:=(s.heap.push PySem.W.emptyDict).push (PySem.W.instObj C s.heap.objs.size)}):
 codeAny (model prog w) A (.call (.ref C) ⟨vs,kw⟩) R s:=by
 obtain⟨hh,g,d,t,os⟩:=s;exact PySem.W.make_core (PySem.W.makes_of X hm) (PySem.W.looks_findIn X hi) (fun self=>PySem.W.bind_fn X self hf) (.inl rfl) h
end
noncomputable def jr(f:Str)(v:V):List (Str×V)->List (Str×V)
 |[]=>[(f,v)]
 |(g,x)::r=>if g=f then(g,v)::r else(g,x)::jr f v r
theorem lr(f g:Str)(v:V):∀fs:List (Str×V),(jr f v fs).lookup g=if g=f then some v else fs.lookup g
 |[]=>by
  show List.lookup g [(f,v)]=_;by_cases h:g=f
  ·have hb:(g==f)=true:=beq_iff_eq.mpr h;simp only[List.lookup,hb,if_pos h]
  ·have hb:(g==f)=false:=beq_eq_false_iff_ne.mpr h;simp only[List.lookup,hb,if_neg h]
 |(k,x)::r=>by
  have ih:=lr f g v r;rw[show jr f v ((k,x)::r)=(if k=f then(k,v)::r else(k,x)::jr f v r) from rfl];by_cases hk:k=f
  ·rw[if_pos hk];by_cases h:g=k
   ·have hb:(g==k)=true:=beq_iff_eq.mpr h;simp only[List.lookup,hb,if_pos (h.trans hk)]
   ·have hb:(g==k)=false:=beq_eq_false_iff_ne.mpr h;simp only[List.lookup,hb,if_neg (fun e:g=f=>h (e.trans hk.symm))]
  ·rw[if_neg hk];by_cases h:g=k
   ·have hb:(g==k)=true:=beq_iff_eq.mpr h;simp only[List.lookup,hb,if_neg (fun e:g=f=>hk (h.symm.trans e))]
   ·have hb:(g==k)=false:=beq_eq_false_iff_ne.mpr h;simp only[List.lookup,hb];exact ih
theorem kC(f:Str)(v:V):∀fs:List (Str×V),f∈(jr f v fs).map (·.1)/\∀g,g∈fs.map (·.1)->g∈(jr f v fs).map (·.1)
 |[]=>⟨by simp[jr],fun g h=>by simp at h⟩
 |(k,x)::r=>by
  obtain⟨i1,i2⟩:=kC f v r;rw[show jr f v ((k,x)::r)=(if k=f then(k,v)::r else(k,x)::jr f v r) from rfl];by_cases hk:k=f
  ·rw[if_pos hk];subst hk;exact⟨by simp,fun g h=>by simpa using h⟩
  ·rw[if_neg hk];refine⟨?_,fun g h=>?_⟩
   ·rw[List.map_cons];exact List.mem_cons_of_mem _ i1
   ·rw[List.map_cons] at h ⊢;rcases List.mem_cons.mp h with e|e
    ·exact List.mem_cons.mpr (.inl e)
    ·exact List.mem_cons_of_mem _ (i2 g e)
theorem fj(f:Str)(v:V):∀fs:List (Str×V),(jr f v fs).length<=fs.length+1
 |[]=>by simp[jr]
 |(k,x)::r=>by
  have ih:=fj f v r;rw[show jr f v ((k,x)::r)=(if k=f then(k,v)::r else(k,x)::jr f v r) from rfl];by_cases hk:k=f
  ·rw[if_pos hk,List.length_cons,List.length_cons];lia
  ·rw[if_neg hk,List.length_cons,List.length_cons];lia
theorem uS.some_of{v:V}{o:Option Value}(r:uS (some v) o):∃u,o=some u/\RelV v u:=by
 cases o with
 |none=>exact(show False from r).elim
 |some u=>exact⟨u,rfl,r⟩
theorem yQ{v:V}{u:Value}(r:RelV v u):PySem.W.handedIn u=true:=by
 cases v with
 |eT=>cases (show u=Value.none from r);rfl
 |bl b=>cases (show u=Value.bool b from r);rfl
 |int i=>obtain⟨t,e⟩:=(show ∃t,u=Value.int i t from r);cases e;rfl
 |str x=>obtain⟨t,e⟩:=(show ∃t,u=Value.str x t from r);cases e;rfl
 |wV b=>obtain⟨t,e⟩:=(show ∃t,u=Value.bytes b t from r);cases e;rfl
 |Gw b=>obtain⟨t,e⟩:=(show ∃t,u=Value.float b t from r);cases e;rfl
 |ref a=>cases (show u=Value.ref a from r);rfl
 |ty n=>cases (show u=Value.type n from r);rfl
section
variable {P:Program} {w:World} {H H':Hp} {h h':Heap} {a C dx:Addr} {fs Ss:List (Str×V)}
theorem pS(dE:lS P w H h)(e:H a=some (.ins C dx fs)):∃mA,yO h a dx C mA/\(∀f,uS (fs.lookup f) (mA f))/\PySem.Within mA (fs.map (·.1))/\fs.length<=1000/\H dx=some (.own a):=by
 obtain⟨d,z,ne,ob,mA,n,r,q⟩:=(show dY P w H h a (.ins C dx fs) from dE a _ e);exact⟨mA,⟨ob,n,ne⟩,r,q,z,d⟩
end
structure Dh(K:PySem.W.Frag)(C:Addr):Prop where
 pg:PySem.W.plainGet K C Str.empty=true
 hd:PySem.W.hasDictIn K C=true
 po:PySem.W.plainOver K C=true
 sa:PySem.W.findIn K (.ref C) "__setattr__"=some (some (.builtin "object.__setattr__"))
theorem Dh.get{K:PySem.W.Frag}{C:Addr}(c:Dh K C)(f:Str):PySem.W.plainGet K C f=true:=c.pg
noncomputable def gZ(K:PySem.W.Frag)(C:Addr)(f:Str):Prop:=PySem.W.findIn K (.ref C) f=some none
theorem gZ.JN{K:PySem.W.Frag}{C:Addr}{f:Str}(n:gZ K C f):PySem.W.takerIn K C f=some none:=by
 unfold PySem.W.takerIn;rw[show PySem.W.findIn K (.ref C) f=some none from n];rfl
structure We(K:PySem.W.Frag)(C:Addr)(f:Str)(v:V)(u:Value):Prop where
 at_:PySem.W.findIn K (.ref C) f=some (some u)
 rel:RelV v u
 get:PySem.W.specialIn K u "__get__"=some none
 cp:PySem.W.copiedNames.contains f=false
structure Meth(K:PySem.W.Frag)(C:Addr)(m:Str)(f:Addr):Prop where
 at_:PySem.W.findIn K (.ref C) m=some (some (.ref f))
 fn:PySem.W.isFn K (.ref f)=true
 kp:PySem.W.keepIn K (.ref f)=true
section
variable {X:Cx} {pins:List (Addr×Obj)} {σ:St} {H:Hp} {s:Shared} {a C dx:Addr} {fs:List (Str×V)} {f:Str} {v:V} {A:Around} {E:Value->Shared->Prop}
theorem uX{b:Bool}{Q:Value->Shared->Prop}(I:Inv X pins σ H s)(e:H a=some (.ins C dx fs))(c:Dh X.K C)(n:gZ X.K C f)(l:fs.lookup f=some v)(h:∀u s',Inv X pins σ H s'->RelV v u->Q u s'):wpAny (model X.prog X.w) A (getAttr (.ref a) f b) Q E s:=by
 obtain⟨mA,O,r,_,_,_⟩:=pS I.dE e;obtain⟨u,hu,ru⟩:=uS.some_of (v:=v) (o:=mA f) (by rw[<-l];exact r f);exact get_map I.og O (c.get f) c.hd n hu (yQ ru) (h u _ (I.tok _) ru)
theorem uY{y:V}{u:Value}{Q:Unit->Shared->Prop}(I:Inv X pins σ H s)(e:H a=some (.ins C dx fs))(c:Dh X.K C)(n:gZ X.K C f)(hl:fs.length<1000)(ry:RelV y u)(h:∀s',Inv X pins σ (upd H a (.ins C dx (jr f y fs))) s'->Q () s'):wpAny (model X.prog X.w) A (setAttr (.ref a) f u) Q E s:=by
 obtain⟨mA,O,r,wi,_,ho⟩:=pS I.dE e;have hz:(fs.map (·.1)).length<=sizeLine:=by rw[List.length_map,sizeLine_eq];lia
 refine Df I.og O c.sa c.po n.JN c.hd wi hz fun h' O' sb=>h _ ?_;have hd:∃o,h'.get? dx=some o:=let⟨o,_,_,e',_⟩:=O'.ns;⟨o,e'⟩;refine I.write (x:=a) (e:=dx) (by rw[e];exact True.intro) (.inr ho) (fun b q hb z=>(sb.2 b hb).trans z) hd ?_;refine⟨by rw[aH O.ne];exact ho,?_,O.ne,O'.obj,_,O'.ns,fun g=>?_,fun g hg=>?_⟩
 ·have:=fj f y fs;lia
 ·show uS ((jr f y fs).lookup g) (if g=f then some u else mA g);rw[lr];by_cases q:g=f
  ·rw[if_pos q,if_pos q];exact ry
  ·rw[if_neg q,if_neg q];exact r g
 ·by_cases q:g=f
  ·rw[q];exact(kC f y fs).1
  ·refine(kC f y fs).2 g (wi g fun z=>hg ?_);show(if g=f then some u else mA g)=none;rw[if_neg q];exact z
theorem Inv.made(I:Inv X pins σ H s):Inv X pins σ (upd (upd H s.heap.objs.size (.own (s.heap.objs.size+1))) (s.heap.objs.size+1) (.ins C s.heap.objs.size []))
 {s with heap:=(s.heap.push PySem.W.emptyDict).push (PySem.W.instObj C s.heap.objs.size)}:=by
 have e1:(s.heap.push PySem.W.emptyDict).get? s.heap.objs.size=some PySem.W.emptyDict:=Heap.get?_push_size s.heap rfl;have e2:((s.heap.push PySem.W.emptyDict).push (PySem.W.instObj C s.heap.objs.size)).get? (s.heap.objs.size+1)=some (PySem.W.instObj C s.heap.objs.size):=by
  have:=Heap.get?_push_size (s.heap.push PySem.W.emptyDict) (o:=PySem.W.instObj C s.heap.objs.size) rfl
  rwa [Heap.size_push] at this
 have e3:(s.heap.push PySem.W.emptyDict).Ns s.heap.objs.size (fun _=>none):=⟨PySem.W.emptyDict,#[],_,e1,rfl,(fun e he=>absurd he (by simp)),fun _=>rfl⟩;have I1:=I.laid (a:=s.heap.objs.size) (o:=.own (s.heap.objs.size+1)) (h':=s.heap.push PySem.W.emptyDict) (t':=s.toks) (fun b u q=>Heap.get?_push_of_some _ q) (Nat.le_refl _) ⟨_,e1⟩;refine I1.laid (a:=s.heap.objs.size+1) (o:=.ins C s.heap.objs.size []) (t':=s.toks) (fun b u q=>Heap.get?_push_of_some _ q) (Nat.le_of_eq (Heap.size_push _ _)) ?_;have ne:s.heap.objs.size≠s.heap.objs.size+1:=Nat.ne_of_lt (Nat.lt_succ_self _);refine⟨by rw[aH ne,ak],Nat.zero_le _,ne,e2,fun _=>none,(Heap.Ns1.of_empty e3).at fun o q=>Heap.get?_push_of_some _ q,fun _=>True.intro,fun y hy=>absurd rfl hy⟩
theorem Di{prog:Program}{w:World}{env:Env}{e:Expr}{f:Str}{pos:Pos}{s:Shared}{Q:Value->Shared->Prop}(hb:attributeBase e f env (eval e env)=eval e env)(h:wpAny (model prog w) A (eval e env) (fun o cq=>wpAny (model prog w) A (getAttr o f true) Q E cq) E s):wpAny (model prog w) A (eval (.Attribute e f pos) env) Q E s:=
 Attribute_any_ h (by rw[arm_eval_Attribute,hb])
end
noncomputable def Ny(K:PySem.W.Frag)(ta:TE)(f:Str):TE:=fun σ H Q=>ta σ H fun x H1=>∃a C dx fs v,x=.ref a/\H1 a=some (.ins C dx fs)/\Dh K C/\gZ K C f/\fs.lookup f=some v/\Q v H1
noncomputable def Nz(K:PySem.W.Frag)(ta tv:TE)(f:Str):TS:=fun D σ H=>tv σ H fun y H1=>ta σ H1 fun x H2=>∃a C dx fs,x=.ref a/\H2 a=some (.ins C dx fs)/\Dh K C/\gZ K C f/\fs.length<1000/\
 D.nx σ (upd H2 a (.ins C dx (jr f y fs)))
section
variable {X:Cx} {o e value:Expr} {f:Str} {pos pos' SH:Pos} {ta tv:TE}
theorem kD(he:PE X e ta)(hb:attributeBase e f X.env (eval e X.env)=eval e X.env):PE X (.Attribute e f pos) (Ny X.K ta f):=by
 intro pins s σ H Q I h;refine Di hb (c_ (he pins s σ H _ I h) fun u s1⟨x,H1,I1,rx,a,C,dx,fs,v,ex,ea,c,n,l,q⟩=>?_);subst ex;obtain rfl:u=Value.ref a:=rx;exact uX I1 ea c n l fun u' s2 I2 ru=>⟨v,H1,I2,ru,q⟩
theorem uZ(ha:PE X o ta)(hv:PE X value tv)(hs:swapsWith value (some (.Attribute o f pos')) pos.line X.env=pure false):PS X (.Assign [.Attribute o f pos'] value pos) (Nz X.K ta tv f):=by
 intro pins s σ H D I h;refine plainObj_wpAny_Assign_Attribute (c_ (hv pins s σ H _ I h) fun u s1⟨y,H1,I1,ry,q⟩=>c_ (ha pins s1 σ H1 _ I1 q) fun ov s2⟨x,H2,I2,rx,a,C,dx,fs,ex,ea,c,n,l,q2⟩=>?_) hs;subst ex;obtain rfl:ov=Value.ref a:=rx;exact uY I2 ea c n l ry fun s3 I3=>⟨σ,_,I3,q2⟩
end
section
variable {X:Cx} {pins:List (Addr×Obj)} {σ:St} {H:Hp} {s:Shared} {A:Around} {E:Value->Shared->Prop} {Q:Value->Shared->Prop} {c:Value} {b:Bool}
inductive kE(K:PySem.W.Frag)(H:Hp):V->Value->Prop where
 |eT:kE K H .eT (.type "NoneType")
 |bl (x:Bool):kE K H (.bl x) (.type "bool")
 |int (i:Int):kE K H (.int i) (.type "int")
 |str (x:Str):kE K H (.str x) (.type "str")
 |Gw (x:UInt64):kE K H (.Gw x) (.type "float")
 |lst {a:Addr} {xs:List V} (e:H a=some (.lst xs)):kE K H (.ref a) (.type "list")
 |wW {a:Addr} {o:Obj} {xs:List V} (e:H a=some (.wW o (.lst xs))):kE K H (.ref a) (.type "list")
 |tup {a:Addr} {xs:List V} (e:H a=some (.tup xs)):kE K H (.ref a) (.type "tuple")
 |dK {a:Addr} {iK:List (Key×V)} (e:H a=some (.dK iK)):kE K H (.ref a) (.type "dict")
 |dT {a:Addr} {iK:List (List Key×V)} (e:H a=some (.dT iK)):kE K H (.ref a) (.type "dict")
 |ins {a C dx:Addr} {fs:List (Str×V)} (e:H a=some (.ins C dx fs)) (cl:Dh K C) (ha:PySem.W.findIn K (.ref C) "__class__"=some (some (.builtin "object.__class__")))
  (hn:PySem.W.specialIn K (.builtin "object.__class__") "__get__"=some (some (.builtin "getset_descriptor.__get__"))) (Qq:PySem.W.takesIn K (.builtin "object.__class__")=some true)
  (hm:PySem.W.mroIn K C (.type "object")=some true):kE K H (.ref a) (.ref C)
theorem yR{x:V}{u t:Value}(I:Inv X pins σ H s)(rx:RelV x u)(ty:kE X.K H x t)(e:PySem.W.kitOne X.K t c=some b)(h:∀tk,Q (.bool b) {s with toks:=tk}):
 wpAny (model X.prog X.w) A (call (.builtin "isinstance") [u,c]) Q E s:=by
 cases ty with
 |eT=>cases (show u=Value.none from rx);exact PySem.W.kia_one PySem.W.kitx_none I.og True.intro e (fun z=>nomatch z) h
 |bl y=>cases (show u=Value.bool y from rx);exact PySem.W.kia_one PySem.W.kitx_bool I.og True.intro e (fun z=>nomatch z) h
 |int i=>obtain⟨t,q⟩:=(show ∃t,u=Value.int i t from rx);cases q;exact PySem.W.kia_one PySem.W.kitx_int I.og True.intro e (fun z=>nomatch z) h
 |str y=>obtain⟨t,q⟩:=(show ∃t,u=Value.str y t from rx);cases q;exact PySem.W.kia_one PySem.W.kitx_str I.og True.intro e (fun z=>nomatch z) h
 |Gw y=>obtain⟨t,q⟩:=(show ∃t,u=Value.float y t from rx);cases q;exact PySem.W.kia_one PySem.W.kitx_float I.og True.intro e (fun z=>nomatch z) h
 |@lst a xs ea=>
  cases (show u=Value.ref a from rx);obtain⟨_,_,n,_,h1⟩:=(show dY X.prog X.w H s.heap a (.lst xs) from I.dE a _ ea);exact PySem.W.kia_one PySem.W.kitx_list I.og ⟨_,h1,rfl⟩ e (fun z=>nomatch z) h
 |@wW a ob xs ea=>
  cases (show u=Value.ref a from rx);obtain⟨_,_,_,n,_,h1⟩:=(show dY X.prog X.w H s.heap a (.wW ob (.lst xs)) from I.dE a _ ea);exact PySem.W.kia_one PySem.W.kitx_list I.og ⟨_,h1,rfl⟩ e (fun z=>nomatch z) h
 |@tup a xs ea=>
  cases (show u=Value.ref a from rx);obtain⟨_,_,_,p⟩:=(show dY X.prog X.w H s.heap a (.tup xs) from I.dE a _ ea);obtain⟨o,h1,h2,_⟩:=p;exact PySem.W.kia_one PySem.W.kitx_tuple I.og ⟨o,h1,h2⟩ e (fun z=>nomatch z) h
 |@dK a iK ea=>
  cases (show u=Value.ref a from rx);obtain⟨_,_,vs,_,p⟩:=(show dY X.prog X.w H s.heap a (.dK iK) from I.dE a _ ea);obtain⟨o,es,ep,h1,h2,_⟩:=p;exact PySem.W.kia_one PySem.W.kitx_dict I.og ⟨o,h1,h2.1⟩ e (fun z=>nomatch z) h
 |@dT a iK ea=>
  cases (show u=Value.ref a from rx);obtain⟨_,_,xs,_,o,es,ep,h1,h2,_⟩:=(show dY X.prog X.w H s.heap a (.dT iK) from I.dE a _ ea);exact PySem.W.kia_one PySem.W.kitx_dict I.og ⟨o,h1,h2.1⟩ e (fun z=>nomatch z) h
 |@ins a C dx fs ea cl ha hn Qq hm=>
  cases (show u=Value.ref a from rx);obtain⟨mA,O,_⟩:=pS I.dE ea;obtain⟨od,J,_⟩:=O.look;exact PySem.W.kia_one (PySem.W.kitx_own (cl.get _) cl.hd ha hn Qq hm) I.og J e (fun z=>nomatch z) h
end
end L2
namespace L2
open PySem PySem.Spec PyProof.Rows
structure fk(k:Nat)(A:Around):Prop where
 hd:A.handled=none
 dp:A.depth+3*k+5<recursionLimit
 un:A.units+16*k+200<cLine
theorem fk.mono{j k:Nat}{A:Around}(r:fk k A)(h:j<=k):fk j A:=⟨r.hd,by have:=r.dp;lia,by have:=r.un;lia⟩
theorem fk.deeper{k:Nat}{A:Around}(r:fk (k+1) A)(env:Env):fk k (A.deeper env):=
 ⟨r.hd,by have:=r.dp;show A.depth+1+3*k+5<_;lia,by have:=r.un;show A.units+3+16*k+200<_;lia⟩
theorem u5{A:Around}{C:Addr}{us:List Value}{kw:List (Str×Value)}:(A.under (.builtin "type.__call__" ⟨.ref C::us,kw⟩)).depth=A.depth+1:=by
 first|rfl|simp[Around.under,Code.weight,Code.isCreation,Code.isGuard,Code.isCaller,Code.frames,Code.isFrame,guardIds]
theorem u6{A:Around}{C:Addr}{us:List Value}{kw:List (Str×Value)}:(A.under (.builtin "type.__call__" ⟨.ref C::us,kw⟩)).units=A.units+1:=by
 first|rfl|simp[Around.under,Code.cUnits,Code.frames,Code.isFrame]
theorem fk.make{k:Nat}{A:Around}(r:fk (k+1) A)(C:Addr)(us:List Value)(kw:List (Str×Value)):fk k (A.under (.builtin "type.__call__" ⟨.ref C::us,kw⟩)):=
 ⟨r.hd,by have:=r.dp;rw[u5];lia,by have:=r.un;rw[u6];lia⟩
theorem fk.depth{k:Nat}{A:Around}(r:fk k A):A.depth<recursionLimit:=by have:=r.dp;lia
theorem fk.Ax{k:Nat}{A:Around}(r:fk k A):A.units<cLine:=by have:=r.un;lia
noncomputable def JO:TA:=fun _ H Q=>Q [] H
noncomputable def Fl(ta:TE)(tr:TA):TA:=fun σ H Q=>ta σ H fun x H1=>tr σ H1 fun xs H2=>Q (x::xs) H2
section
variable {X:Cx} {e:Expr} {es:List Expr} {te:TE} {t:TA} {pos:Pos}
theorem ag:PA X [] JO:=fun _ _ _ _ H Q I h=>Calls.spliced_nil ⟨[],H,I,.nil,h⟩
theorem aa(ha:PE X e te)(hr:PA X es t)(hs:starEach (e::es) X.env=(false,eval e X.env)::starEach es X.env:=by rfl):PA X (e::es) (Fl te t):=by
 intro pos pins s σ H Q I h;rw[hs];show wpAny _ _ (spliced ((false,eval e X.env)::backTo pos (starEach es X.env))) _ _ s;refine Calls.spliced_cons (c_ (ha pins s σ H _ I h) fun u s1⟨x,H1,I1,r1,q1⟩=>?_);exact c_ (hr pos pins s1 σ H1 _ I1 q1) fun us s2⟨xs,H2,I2,r2,q2⟩=>⟨x::xs,H2,I2,.cons r1 r2,q2⟩
noncomputable def JP(t:TA):TE:=fun σ H Q=>t σ H fun xs H1=>xs.length<=sizeLine/\∀p,H1 p=none->Q (.ref p) (upd H1 p (.tup xs))
noncomputable def JQ(t:TA):TE:=fun σ H Q=>t σ H fun xs H1=>xs.length<=sizeLine/\∀p,H1 p=none->Q (.ref p) (upd H1 p (.lst xs))
theorem cL{x1}(h:PA X es t):PE X (.Tuple es x1 pos) (JP t):=by
 intro pins s σ H Q I hq;refine wpAny_Tuple_spliced (c_ (h pos pins s σ H _ I hq) fun us s1⟨xs,H1,I1,r,z,q⟩=>⟨by rw[<-r.length];exact z,?_⟩);have hf:H1 s1.heap.objs.size=none:=I1.dE.fresh (Nat.le_refl _);refine⟨.ref s1.heap.objs.size,upd H1 s1.heap.objs.size (.tup xs),I1.laid (t':=s1.toks) (fun b u e=>Heap.get?_push_of_some _ e) (Nat.le_refl _) ?_,rfl,q _ hf⟩;exact⟨z,us,r,⟨_,Heap.get?_push_size _ rfl,rfl,_,rfl⟩⟩
theorem eV(h:PA X es t):PE X (.List es pos) (JQ t):=by
 intro pins s σ H Q I hq;refine wpAny_List_spliced (c_ (h pos pins s σ H _ I hq) fun us s1⟨xs,H1,I1,r,z,q⟩=>⟨by rw[<-r.length];exact z,?_⟩);have hf:H1 s1.heap.objs.size=none:=I1.dE.fresh (Nat.le_refl _);refine⟨.ref s1.heap.objs.size,upd H1 s1.heap.objs.size (.lst xs),I1.laid (t':=s1.toks) (fun b u e=>Heap.get?_push_of_some _ e) (Nat.le_refl _) ?_,rfl,q _ hf⟩;exact⟨z,us,0,r,Heap.get?_push_size _ rfl⟩
end
noncomputable abbrev Sp:=List V->Hp->VK->XK->Prop
noncomputable abbrev z0:=List Env->Hp->Shared->XK->Value->Shared->Prop
structure u7(P:Program)(w:World)(K:PySem.W.Frag)(mg:Str->Option Value)(base:Heap)(A:Around)(outer:List Env)(s:Shared)(H:Hp):Prop where
 frames:A.frames=some outer
 mod:Mod K mg base
 bs:∀b o,base.get? b=some o->s.heap.get? b=some o/\H b=none
 C7:base.objs.size<=s.heap.objs.size
 lT:s.heap.FunFrames base outer
 Gz:∀b∈yI outer,H b=none
 dE:lS P w H s.heap
 bare:AllBare s.gens
noncomputable def CE(outer:List Env)(P:Program)(w:World)(H:Hp)(s:Shared)(Q:VK)(u:Value)(s':Shared):Prop:=
 ∃v H',s'.os=s.os/\AllBare s'.gens/\Un (yI outer) [] H H' s.heap s'.heap/\lS P w H' s'.heap/\RelV v u/\Q v H'
noncomputable def CR(CX:z0)(outer:List Env)(P:Program)(w:World)(H:Hp)(s:Shared)(Q:VK)(E:XK)(r:Result)(s':Shared):Prop:=
 match r with
 |.ok (.ret u)=>CE outer P w H s Q u s'
 |.ok _=>False
 |.error e=>CX outer H s E e s'
structure iN(P:Program)(w:World)(K:PySem.W.Frag)(mg:Str->Option Value)(base:Heap)(CX:z0)(k:Nat)(f:Addr)(fd:FuncData)(ps:List Str)(sp:Sp):Prop where
 len:∀vs H Q E,sp vs H Q E->vs.length=ps.length
 run:∀(A:Around)(outer:List Env)(s:Shared)(H:Hp)(args:Args)(us:List Value)(vs:List V)(Q:VK)(E:XK),fk k A->u7 P w K mg base A outer s H->BindsTo s fd args (ps.zip us)->Vals vs us->sp vs H Q E->
  codeAny (model P w) A (.call (.ref f) args) (CR CX outer P w H s Q E) s
theorem iN.mono{P:Program}{w:World}{K:PySem.W.Frag}{mg:Str->Option Value}{base:Heap}{CX:z0}{j k:Nat}{f:Addr}{fd:FuncData}{ps:List Str}{sp:Sp}(F:iN P w K mg base CX j f fd ps sp)(h:j<=k):
 iN P w K mg base CX k f fd ps sp:=⟨F.len,fun A outer s H args us vs Q E hr=>F.run A outer s H args us vs Q E (hr.mono h)⟩
theorem u7.make{P:Program}{w:World}{K:PySem.W.Frag}{mg:Str->Option Value}{base:Heap}{A:Around}{outer:List Env}{s:Shared}{H:Hp}(e:u7 P w K mg base A outer s H)(C:Addr)(us:List Value)(kw:List (Str×Value)):
 u7 P w K mg base (A.under (.builtin "type.__call__" ⟨.ref C::us,kw⟩)) outer s H:=⟨by first|exact e.frames|(simpa[Around.under,Code.envs,Code.isFrame,pushEnvs] using e.frames),e.mod,e.bs,e.C7,e.lT,e.Gz,e.dE,e.bare⟩
section
variable {X:Cx} {pins:List (Addr×Obj)} {σ:St} {H:Hp} {s s':Shared}
theorem Inv.JR(I:Inv X pins σ H s):u7 X.prog X.w X.K X.mg X.base X.A X.stack s H:=
 ⟨I.ok.frames,I.ok.mod,I.bs,Nat.le_trans I.ok.C7 I.sz,I.stack,I.wX,I.dE,I.bare⟩
theorem Inv.after{Q:VK}{u:Value}(I:Inv X pins σ H s)(h:CE X.stack X.prog X.w H s Q u s'):EP X pins σ Q u s':=by
 obtain⟨v,H',os,bare,un,dE,r,q⟩:=h;obtain⟨hh,g,d,t,SI⟩:=s';obtain rfl:SI=s.os:=os;exact⟨v,H',I.call (h':=hh) (g':=g) (d':=d) (t':=t) (ch:=[]) un dE bare (fun b z=>absurd z (by simp)),r,q⟩
end
noncomputable def Ay(sp:Sp)(dvs:List V)(E:XK)(t:TA):TE:=fun σ H Q=>t σ H fun vs H1=>sp (vs++dvs) H1 Q E
noncomputable def Fm(C:Addr)(sp:Sp)(dvs:List V)(E:XK)(t:TA):TE:=fun σ H Q=>t σ H fun vs H1=>∀x dx,H1 x=none->H1 dx=none->dx≠x->
 sp (.ref x::(vs++dvs)) (upd (upd H1 dx (.own x)) x (.ins C dx [])) (fun v H2=>v=.eT/\Q (.ref x) H2) E
noncomputable def Binds(K:PySem.W.Frag)(fd:FuncData)(ps:List Str)(ds:List Value):Prop:=
 ∀(s:Shared)(us:List Value),K.In s.heap->(us++ds).length=ps.length->BindsTo s fd ⟨us,[]⟩ (ps.zip (us++ds))
theorem Binds.all{K:PySem.W.Frag}{fd:FuncData}{ps:List Str}(h:∀us:List Value,us.length=ps.length->bindArgs fd ⟨us,[]⟩=pure (ps.zip us)):Binds K fd ps []:=fun s us _ hl=>by
 rw[List.append_nil] at hl ⊢;exact .of_eq (h us hl)
noncomputable def Passes(CX:z0)(X:Cx)(E:XK):Prop:=∀(pins:List (Addr×Obj))(σ:St)(H:Hp)(s:Shared)(e:Value)(s':Shared),Inv X pins σ H s->CX X.stack H s E e s'->X.xe e s'
section
variable {X:Cx} {CX:z0} {k:Nat} {f C:Addr} {fd:FuncData} {ps:List Str} {sp:Sp} {dvs:List V} {ds:List Value} {E:XK} {x m:Str} {p pos apos:Pos} {e o:Expr} {es:List Expr} {ta:TE} {t:TA}
theorem GQ{pins:List (Addr×Obj)}{σ:St}{H:Hp}{s:Shared}{Q:VK}{us:List Value}{vs:List V}(F:iN X.prog X.w X.K X.mg X.base CX k f fd ps sp)(hr:fk k X.A)(hb:Binds X.K fd ps ds)(hd:Vals dvs ds)(hx:Passes CX X E)(I:Inv X pins σ H s)(r:Vals vs us)(h:sp (vs++dvs) H Q E):wpAny (model X.prog X.w) X.A (call (.ref f) us) (EP X pins σ Q) X.xe s:=by
 have r2:Vals (vs++dvs) (us++ds):=r.append hd;have hl:(us++ds).length=ps.length:=by rw[<-r2.length];exact F.len _ _ _ _ h
 refine wpAny_call (codeAny_mono (F.run X.A X.stack s H ⟨us,[]⟩ (us++ds) (vs++dvs) Q E hr I.JR (hb s us I.og hl) r2 h) fun r s' hq=>?_);cases r with
 |error e=>exact hx pins σ H s e s' I hq
 |ok fl=>
  cases fl with
  |ret u=>exact I.after hq
  |next=>exact False.elim hq
  |brk=>exact False.elim hq
  |cont=>exact False.elim hq
theorem Dj(F:iN X.prog X.w X.K X.mg X.base CX k f fd ps sp)(hr:fk k X.A)(hg:Gl X x)(hm:X.mg x=some (.ref f))(hk:PySem.W.keepIn X.K (.ref f)=true)(hb:Binds X.K fd ps ds)(hd:Vals dvs ds)(hx:Passes CX X E)(ha:PA X (e::es) t)(Dk:(x==("__debug__":Str))=false:=by decide)(he:starEach (e::es) X.env=(false,eval e X.env)::starEach es X.env:=by rfl)(rJ:(backTo pos (starEach es X.env)).any (·.1)=false:=by rfl):
 PE X (.Call (.Name x p) (e::es) [] pos) (Ay sp dvs E t):=by
 intro pins s σ H Q I h;refine wpAny_Call_Name_kw (pN I hg hm ?_ Dk);refine PySem.W.callWith_K (h₀:=X.base) I.ok.mod.Me hk (c_ (ha pos pins s σ H _ I h) fun us s1⟨vs,H1,I1,r,q⟩=>⟨I1.og,?_⟩) he rJ;exact GQ F hr hb hd hx I1 r q
structure Mk(K:PySem.W.Frag)(C f:Addr):Prop where
 makes:PySem.W.makesIn K C=true
 init:PySem.W.findIn K (.ref C) "__init__"=some (some (.ref f))
 fn:PySem.W.isFn K (.ref f)=true
 kp:PySem.W.keepIn K (.ref C)=true
theorem Az{pins:List (Addr×Obj)}{σ:St}{H:Hp}{s:Shared}{Q:VK}{us:List Value}{vs:List V}(M:Mk X.K C f)(F:iN X.prog X.w X.K X.mg X.base CX k f fd ps sp)(hr:fk (k+1) X.A)(hb:Binds X.K fd ps ds)(hd:Vals dvs ds)(hx:Passes CX X E)(I:Inv X pins σ H s)(r:Vals vs us)(h:∀x dx,H x=none->H dx=none->dx≠x->sp (.ref x::(vs++dvs)) (upd (upd H dx (.own x)) x (.ins C dx [])) (fun v H2=>v=.eT/\Q (.ref x) H2) E):
 wpAny (model X.prog X.w) X.A (call (.ref C) us) (EP X pins σ Q) X.xe s:=by
 have hq:=h (s.heap.objs.size+1) s.heap.objs.size (I.dE.fresh (Nat.le_succ _)) (I.dE.fresh (Nat.le_refl _)) (Nat.ne_of_lt (Nat.lt_succ_self _));have I2:=Inv.made (C:=C) I;have r2:Vals (V.ref (s.heap.objs.size+1)::(vs++dvs)) (Value.ref (s.heap.objs.size+1)::(us++ds)):=.cons rfl (r.append hd);have hl:(Value.ref (s.heap.objs.size+1)::us++ds).length=ps.length:=by
  have e:=r2.length;rw[F.len _ _ _ _ hq] at e;exact e.symm
 refine wpAny_call (Aw (f:=f) I.og M.makes M.init (beq_iff_eq.mp M.fn) (codeAny_mono (F.run _ X.stack _ _ ⟨Value.ref (s.heap.objs.size+1)::us,[]⟩ (Value.ref (s.heap.objs.size+1)::(us++ds)) _ _ E (hr.make C us [])
  (I2.JR.make C us []) (hb _ (Value.ref (s.heap.objs.size+1)::us) I2.og hl) r2 hq) fun r s' JS=>?_));cases r with
 |error e=>exact hx pins σ _ _ e s' I2 JS
 |ok fl=>
  cases fl with
  |ret u=>
   obtain⟨v,H',I3,rv,ev,q3⟩:=I2.after JS;subst ev;exact⟨rv,⟨V.ref (s.heap.objs.size+1),H',I3,rfl,q3⟩⟩
  |next=>exact False.elim JS
  |brk=>exact False.elim JS
  |cont=>exact False.elim JS
theorem xf(M:Mk X.K C f)(F:iN X.prog X.w X.K X.mg X.base CX k f fd ps sp)(hr:fk (k+1) X.A)(hg:Gl X x)(hm:X.mg x=some (.ref C))(hb:Binds X.K fd ps ds)(hd:Vals dvs ds)(hx:Passes CX X E)(ha:PA X (e::es) t)(Dk:(x==("__debug__":Str))=false:=by decide)(he:starEach (e::es) X.env=(false,eval e X.env)::starEach es X.env:=by rfl)(rJ:(backTo pos (starEach es X.env)).any (·.1)=false:=by rfl):
 PE X (.Call (.Name x p) (e::es) [] pos) (Fm C sp dvs E t):=by
 intro pins s σ H Q I h;refine wpAny_Call_Name_kw (pN I hg hm ?_ Dk);refine PySem.W.callWith_K (h₀:=X.base) I.ok.mod.Me M.kp (c_ (ha pos pins s σ H _ I h) fun us s1⟨vs,H1,I1,r,q⟩=>⟨I1.og,?_⟩) he rJ;exact Az M F hr hb hd hx I1 r q
end
section
variable {X:Cx} {CX:z0} {k:Nat} {f C:Addr} {fd:FuncData} {ps ks:List Str} {sp:Sp} {E:XK} {x m:Str} {p pos apos SJ:Pos} {e o:Expr} {es:List Expr} {Wf:List Keyword} {te ta:TE} {t tk:TA} {nm:Option Str}
structure NA(K:PySem.W.Frag)(fd:FuncData)(ps ks:List Str)(g:List Value->List Value->List Value)(gV:List V->List V->List V):Prop where
 to:∀(s:Shared)(us ws:List Value),K.In s.heap->(g us ws).length=ps.length->BindsTo s fd ⟨us,ks.zip ws⟩ (ps.zip (g us ws))
 rel:∀{vs:List V}{us:List Value}{zs:List V}{ws:List Value},Vals vs us->Vals zs ws->Vals (gV vs zs) (g us ws)
variable {g:List Value->List Value->List Value} {gV:List V->List V->List V}
end
structure aA(N P:List Str)(sc:Scope):Prop where
 kind:sc.kind=.function
 co:sc.isCoroutine=false
 gen:sc.isGenerator=false
 nd:N.Nodup
 pre:N.take P.length=P
 par:∀x∈P,sc.names.lookup x=some .local\/sc.names.lookup x=some .cell
 GR:∀y∈sc.names,y.2≠.free
theorem oQ{kindOf:Str->Option NameKind}{x:Str}:∀{binds:List (Str×Value)}{m:Str->Option Value},(∀v,(x,v)∉binds)->bindL kindOf binds m x=m x
 |[],_,_=>rfl
 |(n,v)::r,m,h=>by
  unfold bindL;rw[oQ fun w hw=>h w (List.mem_cons_of_mem _ hw)];split
  ·have:x≠n:=by rintro rfl;exact h v List.mem_cons_self
   simp[this]
  ·rfl
theorem oR{kindOf:Str->Option NameKind}{x:Str}:∀{binds:List (Str×Value)}{m:Str->Option Value},(∀v,(x,v)∉binds)->bindC kindOf binds m x=m x
 |[],_,_=>rfl
 |(n,v)::r,m,h=>by
  unfold bindC;rw[oR fun w hw=>h w (List.mem_cons_of_mem _ hw)];split
  ·rfl
  ·have:x≠n:=by rintro rfl;exact h v List.mem_cons_self
   simp[this]
theorem oS{kindOf:Str->Option NameKind}{x:Str}{v:Value}:∀{P:List Str}{vs:List Value}{i:Nat}{m:Str->Option Value},P.Nodup->P[i]?=some x->vs[i]?=some v->kindOf x=some .local->
 bindL kindOf (P.zip vs) m x=some v
 |[],_,_,_,_,h,_,_=>by simp at h
 |_::_,[],_,_,_,_,h,_=>by simp at h
 |p::P,w::vs,0,m,nd,h1,h2,hk=>by
  simp at h1 h2;subst h1;subst h2;show bindL kindOf ((p,w)::P.zip vs) m p=_;unfold bindL;rw[oQ fun v hv=>(List.nodup_cons.mp nd).1 (List.of_mem_zip hv).1,if_pos hk];simp
 |p::P,w::vs,i+1,m,nd,h1,h2,hk=>by
  show bindL kindOf ((p,w)::P.zip vs) m x=_;unfold bindL;exact oS (i:=i) (List.nodup_cons.mp nd).2 (by simpa using h1) (by simpa using h2) hk
theorem oT{kindOf:Str->Option NameKind}{x:Str}{v:Value}:∀{P:List Str}{vs:List Value}{i:Nat}{m:Str->Option Value},P.Nodup->P[i]?=some x->vs[i]?=some v->kindOf x≠some .local->
 bindC kindOf (P.zip vs) m x=some v
 |[],_,_,_,_,h,_,_=>by simp at h
 |_::_,[],_,_,_,_,h,_=>by simp at h
 |p::P,w::vs,0,m,nd,h1,h2,hk=>by
  simp at h1 h2;subst h1;subst h2;show bindC kindOf ((p,w)::P.zip vs) m p=_;unfold bindC;rw[oR fun v hv=>(List.nodup_cons.mp nd).1 (List.of_mem_zip hv).1,if_neg hk];simp
 |p::P,w::vs,i+1,m,nd,h1,h2,hk=>by
  show bindC kindOf ((p,w)::P.zip vs) m x=_;unfold bindC;exact oT (i:=i) (List.nodup_cons.mp nd).2 (by simpa using h1) (by simpa using h2) hk
noncomputable def start(N:List Str)(vs:List V):St:=vs.map some++List.replicate (N.length-vs.length) none
noncomputable def u9(CX:z0)(P:Program)(w:World)(K:PySem.W.Frag)(mg:Str->Option Value)(base:Heap)(N:List Str)(qual:Str)(scope:Scope)(f:Addr)(cd:Value)(A:Around)(outer:List Env)(s:Shared)(H:Hp)(E:XK):Cx where
 prog:=P
 w:=w
 K:=K
 mg:=mg
 base:=base
 A:=A.deeper (envOfC qual scope s.heap.objs.size f cd)
 N:=N
 fL:=s
 Ai:=H
 env:=envOfC qual scope s.heap.objs.size f cd
 outer:=outer
 stack:=envOfC qual scope s.heap.objs.size f cd::outer
 ex:=[]
 calm:=true
 fn:=fun _=>true
 pn:=[]
 xe:=fun e s'=>wpAny (model P w) (A.deeper (envOfC qual scope s.heap.objs.size f cd)) (leaving (envOfC qual scope s.heap.objs.size f cd) e) (fun _ NC=>CX outer H s E e NC) (fun e' NC=>CX outer H s E e' NC) s'
theorem rW{sc:Scope}{n:Nat}{x:Str}(h:sc.names.lookup x=some .cell):∃c,(cellsFrom n sc.names []).lookup x=some c:=by
 have q:=PySem.W.cellsFrom_some sc.names n [] (.inl h);exact Option.isSome_iff_exists.mp q
theorem yS{CX:z0}{P:Program}{w:World}{K:PySem.W.Frag}{mg:Str->Option Value}{base:Heap}{N ps:List Str}{qual:Str}{scope:Scope}{f:Addr}{cd:Value}{A:Around}{outer:List Env}{s s1:Shared}{H:Hp}{E:XK}{us:List Value}{vs:List V}(S:aA N ps scope)(hd:A.handled=none)(e0:u7 P w K mg base A outer s H)(hl:vs.length=ps.length)(r:Vals vs us)(x:InCallC s s.heap.objs.size (bindL (envOfC qual scope s.heap.objs.size f cd).kindOf (ps.zip us) fun _=>none) (cellsFrom (s.heap.objs.size+1) scope.names []) (bindC (envOfC qual scope s.heap.objs.size f cd).kindOf (ps.zip us) fun _=>none) s1):
 Inv (u9 CX P w K mg base N qual scope f cd A outer s H E) [] (start N vs) H s1:=by
 have rJ:ps.length<=N.length:=by have:=congrArg List.length S.pre;rw[List.length_take] at this;lia
 obtain⟨h1,tk,rfl,hk⟩:=x.done;have JT:∀b:Addr,b∉(u9 CX P w K mg base N qual scope f cd A outer s H E).ex:=fun b z=>absurd (show b∈([]:List Addr) from z) (by simp);refine⟨⟨e0.mod,S.kind,rfl,rfl,Nat.le_refl _,fun y z c h1 h2=>?_,fun y hy=>?_,fun y c _ h=>?_,fun _=>hd,Around.frames_deeper e0.frames,.inr ⟨rfl,rfl⟩,fun b z=>absurd z (JT b),e0.bs,e0.C7,fun b _ _=>JT b,fun b z=>absurd z (JT b),e0.lT,e0.Gz⟩,
  rfl,e0.bare,Un.kept hk,⟨_,x.toInCall.ns,fun i y v h1 h2 h3=>?_⟩,fun y c h=>⟨_,x.cell y c h⟩,e0.dE.fresh (Nat.le_refl _),fun y c h=>?_,fun p hp=>absurd (show p∈([]:List (Addr×Obj)) from hp) (by simp),e0.dE.kept hk,?_⟩
 ·exact name_of_addr x.apart (PySem.mem_of_lookup h1) (PySem.mem_of_lookup h2)
 ·have hy:scope.names.lookup y=some .cell\/scope.names.lookup y=some .free:=hy;rcases hy with hy|hy
  ·exact rW hy
  ·exact absurd rfl (S.GR _ (PySem.mem_of_lookup hy))
 ·exact Nat.le_of_lt (x.above y c (PySem.mem_of_lookup h))
 ·have hi:i<vs.length:=by
   unfold start at h2;by_cases hi:i<vs.length
   ·exact hi
   ·rw[List.getElem?_append_right (by simpa using hi)] at h2;rw[List.getElem?_replicate] at h2;split at h2<;>cases h2
  have ha:vs[i]?=some v:=by
   unfold start at h2;rw[List.getElem?_append_left (by simpa using hi),List.getElem?_map] at h2;cases e:vs[i]? with
   |none=>rw[e] at h2;cases h2
   |some a=>rw[e] at h2;cases h2;rfl
  obtain⟨u,hu,rv⟩:=r.get ha;have hp:ps[i]?=some y:=by
   rw[<-S.pre,List.getElem?_take_of_lt (by lia)];exact h1
  have Qr:ps.Nodup:=by rw[<-S.pre];exact S.nd.sublist (List.take_sublist _ _)
  refine⟨u,rv,?_⟩;rcases S.par y (List.mem_of_getElem? hp) with k|k
  ·exact .inl ⟨k,oS Qr hp hu k⟩
  ·obtain⟨c,e⟩:=rW (n:=s.heap.objs.size+1) k;refine .inr ⟨.inl k,c,e,?_⟩;have q:=x.cell y c e;rw[oT Qr hp hu (by show scope.names.lookup y≠_;rw[k];decide)] at q;exact q
 ·exact e0.dE.fresh (Nat.le_of_lt (x.above y c (PySem.mem_of_lookup h)))
 ·unfold start;show _=N.length;rw[List.length_append,List.length_map,List.length_replicate];lia
theorem Fn{CX:z0}{P:Program}{w:World}{K:PySem.W.Frag}{mg:Str->Option Value}{base:Heap}{k:Nat}{f:Addr}{name qual:Str}{params:Arguments}{body:List Stmt}{scope:Scope}{dV kV doc pm cD ct oc:Value}{an od:Option Addr}{xg:Array (Option Value)}{N ps:List Str}{sp:Sp}(lk:K.lookup f=some ⟨oc,od,.func (PySem.W.fnOf name qual params body scope dV kV doc pm an cD ct),xg⟩)(rG:PySem.W.codeIn K cD qual=true)(S:aA N ps scope)(len:∀vs H Q E,sp vs H Q E->vs.length=ps.length)(rX:∀(A:Around)(outer:List Env)(s:Shared)(H:Hp)(vs:List V)(Q:VK)(E:XK),fk k (A.deeper (envOfC qual scope s.heap.objs.size f cD))->sp vs H Q E->
 ∃t,uM (u9 CX P w K mg base N qual scope f cD A outer s H E) body t/\t {nx:=fun _ H'=>Q .eT H',rt:=Q} (start N vs) H):
 iN P w K mg base CX (k+1) f (PySem.W.fnOf name qual params body scope dV kV doc pm an cD ct) ps sp:=by
 refine⟨len,fun A outer s H args us vs Q E hr e0 hb r xh=>?_⟩;have hl:=len _ _ _ _ xh;have KX:K.In s.heap:=e0.mod.Me.keeps fun b o e=>(e0.bs b o e).1;have lim:s.heap.NoLimit:=e0.mod.nolimit.keeps fun b o e=>(e0.bs b o e).1;have JU:∀y∈ps.zip us,scope.names.lookup y.1=some .local\/(scope.names.lookup y.1=some .cell/\((cellsFrom (s.heap.objs.size+1) scope.names []).lookup y.1).isSome=true):=fun⟨n,v⟩ hy=>by
  rcases S.par n (List.of_mem_zip hy).1 with q|q
  ·exact .inl q
  ·exact .inr ⟨q,PySem.W.cellsFrom_some _ _ _ (.inl q)⟩
 refine codeAny_call_function hr.depth (KX _ _ lk) rfl S.co S.gen rfl (PySem.W.codeRec_of KX rG) (hb _ _ _ _ ?_);refine wpAny_newFunctionEnv_cells S.kind JU fun env he s1 x=>?_;subst he;refine⟨lim.keeps x.toInCall.keep,codeAny_func ?_⟩;obtain⟨t,ht,hq⟩:=rX A outer s H vs Q E (hr.deeper _) xh;have I:Inv (u9 CX P w K mg base N qual scope f cD A outer s H E) [] (start N vs) H s1:=yS S hr.hd e0 hl r x;refine wpAny_mono (ht [] s1 (start N vs) H _ I hq) (fun fl s' hs=>?_) fun e s' hs=>hs;have fin:∀{cz:St}{H':Hp}{v:V}{u:Value},Inv (u9 CX P w K mg base N qual scope f cD A outer s H E) [] cz H' s'->RelV v u->Q v H'->CE outer P w H s Q u s':=
  fun{cz H' v u} J rv q=>⟨v,H',J.os,J.bare,J.base,J.dE,rv,q⟩
 cases fl with
 |ret u=>
  obtain⟨v,cz,H',J,rv,q⟩:=hs;exact fin J rv q
 |next=>
  obtain⟨cz,H',J,q⟩:=hs;exact fin (v:=V.eT) (u:=Value.none) J rfl q
 |brk=>
  obtain⟨_,_,_,q⟩:=hs;exact False.elim q
 |cont=>
  obtain⟨_,_,_,q⟩:=hs;exact False.elim q
end L2
namespace L2
open PySem PySem.Spec PyProof.Rows
section
variable {X:Cx} {x:Str} {p pos:Pos} {e:Expr} {es:List Expr} {t:TA} {id T:String} {r:List V->Hp->VK->Prop}
noncomputable def ND(r:List V->Hp->VK->Prop)(t:TA):TE:=fun σ H Q=>t σ H fun vs H1=>r vs H1 Q
theorem aG(hc:fN X (.builtin id) r)(hg:Gl X x)(hm:X.mg x=none)(hv:bootBuiltins x=some (.builtin id))(ha:PA X (e::es) t)(hn:x≠"__name__":=by decide)(Dk:(x==("__debug__":Str))=false:=by decide)(he:starEach (e::es) X.env=(false,eval e X.env)::starEach es X.env:=by rfl)(rJ:(backTo pos (starEach es X.env)).any (·.1)=false:=by rfl):PE X (.Call (.Name x p) (e::es) [] pos) (ND r t):=by
 intro pins s σ H Q I h;refine wpAny_Call_Name_kw (gW I hg hm hv ?_ hn Dk);exact PyProof.Rows.callWith_builtin1 (c_ (ha pos pins s σ H _ I h) fun us s1⟨vs,H1,I1,r1,q1⟩=>hc pins s1 σ H1 vs us Q I1 r1 q1) he rJ
theorem da(hc:fN X (.type T) r)(hg:Gl X x)(hm:X.mg x=none)(hv:bootBuiltins x=some (.type T))(ha:PA X (e::es) t)(hn:x≠"__name__":=by decide)(Dk:(x==("__debug__":Str))=false:=by decide)(he:starEach (e::es) X.env=(false,eval e X.env)::starEach es X.env:=by rfl)(rJ:(backTo pos (starEach es X.env)).any (·.1)=false:=by rfl):PE X (.Call (.Name x p) (e::es) [] pos) (ND r t):=by
 intro pins s σ H Q I h;refine wpAny_Call_Name_kw (gW I hg hm hv ?_ hn Dk);exact PyProof.Rows.callWith_type1 (c_ (ha pos pins s σ H _ I h) fun us s1⟨vs,H1,I1,r1,q1⟩=>hc pins s1 σ H1 vs us Q I1 r1 q1) he rJ
end
end L2
namespace HT
open PySem PyProof.Rows
section
open PySem.SeqAt
open PySem.AutoSeq1 (wpAny_loadPart')
open PySem.MeetsSeq PySem.MeetsSeq2 PySem.MeetsSeq3
end
section
variable {prog:Program} {w:World} {A:Around} {E:Value->Shared->Prop} {s:Shared}
noncomputable def rK(n d:Nat):Option Int->Nat
 |none=>d
 |some v=>if v<0 then(v+(n:Int)).toNat else min v.toNat n
theorem mK(n d:Nat):rK n d none=d:=rfl
theorem xi(n d k:Nat):rK n d (some (k:Int))=min k n:=by
 show(if(k:Int)<0 then((k:Int)+(n:Int)).toNat else min (k:Int).toNat n)=min k n;rw[if_neg (by lia),Int.toNat_natCast]
end
end HT
namespace L2
open PySem PySem.Spec PyProof.Rows
noncomputable abbrev TO:=St->Hp->(Option Int->Hp->Prop)->Prop
noncomputable def PO(X:Cx)(e:Option Expr)(t:TO):Prop:=
 ∀(pins:List (Addr×Obj))(s:Shared)(σ:St)(H:Hp)(Q:Option Int->Hp->Prop),Inv X pins σ H s->t σ H Q->
  wpAny (model X.prog X.w) X.A (evalPart e X.env) (fun u s'=>∃o H',Inv X pins σ H' s'/\IsPart u o/\Q o H') X.xe s
noncomputable def xj:TO:=fun _ H Q=>Q none H
noncomputable def Fo(t:TE):TO:=fun σ H Q=>t σ H fun x H1=>∃i,x=.int i/\Q (some i) H1
theorem intsAre_of{ns:List Int}:∀{us:List Value},Vals (ns.map V.int) us->IntsAre us ns:=by
 induction ns with
 |nil=>intro us r;rw[List.map_nil] at r;cases r;exact .nil
 |cons n ns ih=>
  intro us r;rw[List.map_cons] at r;cases r with
  |cons r1 r2=>
   obtain⟨t,e⟩:=r1;subst e;exact .cons n t (ih r2)
section
variable {X:Cx} {e:Expr} {te:TE} {lo hi:Option Expr} {tl th:TO} {pos p2:Pos}
theorem fz:PO X none xj:=by
 intro pins s σ H Q I h;rw[evalPart_none];exact wpAny_pure ⟨none,H,I,.none,h⟩
theorem fA(h:PE X e te):PO X (some e) (Fo te):=by
 intro pins s σ H Q I hw;rw[evalPart_some];refine c_ (h pins s σ H _ I hw) fun u s1⟨x,H1,I1,r1,q1⟩=>?_;obtain⟨i,rfl,q⟩:=q1;obtain⟨t,rfl⟩:=r1;exact⟨some i,H1,I1,.int i t,q⟩
noncomputable def NF(X:Cx)(r:V->Option Int->Option Int->Hp->VK->Prop):Prop:=
 ∀(pins:List (Addr×Obj))(s:Shared)(σ:St)(H:Hp)(x:V)(v vl vu:Value)(lo hi:Option Int)(sl:Addr)(Q:VK),Inv X pins σ H s->RelV x v->s.heap.IsSliceOf sl vl vu .none->IsPart vl lo->IsPart vu hi->r x lo hi H Q->
  ∃T id,typeLookup (.type T) "__getitem__"=pure (some (.builtin id))/\s.TypeIs v T/\wpAny (model X.prog X.w) X.A (getItem v (.ref sl)) (EP X pins σ Q) X.xe s
noncomputable def Qs(r:V->Option Int->Option Int->Hp->VK->Prop)(te:TE)(tl th:TO):TE:=fun σ H Q=>te σ H fun x H1=>tl σ H1 fun l H2=>th σ H2 fun u H3=>r x l u H3 Q
theorem eH{r:V->Option Int->Option Int->Hp->VK->Prop}(hr:NF X r)(he:PE X e te)(hl:PO X lo tl)(hu:PO X hi th):PE X (.Subscript e (.Slice lo hi none p2) pos) (Qs r te tl th):=by
 intro pins s σ H Q I h;refine Subscript_ (c_ (he pins s σ H _ I h) fun v s1⟨x,H1,I1,r1,q1⟩=>?_);refine wpAny_Slice (c_ (hl pins s1 σ H1 _ I1 q1) fun vl s2⟨l,H2,I2,pl,q2⟩=>c_ (hu pins s2 σ H2 _ I2 q2) fun vu s3⟨u,H3,I3,pu,q3⟩=>?_);rw[evalPart_none];refine wpAny_pure ?_;have I4:Inv X pins σ H3 {s3 with heap:=s3.heap.push {cls:=.type "slice",data:=.fields #[vl,vu,.none]}}:=I3.kept (t':=s3.toks) fun b ob q=>Heap.get?_push_of_some _ q;obtain⟨T,id,hT,ht,hg⟩:=hr pins {s3 with heap:=s3.heap.push {cls:=.type "slice",data:=.fields #[vl,vu,.none]}} σ H3 x v vl vu l u s3.heap.objs.size Q I4 r1 (Heap.IsSliceOf.new ..) pl pu q3;show wpAny (model X.prog X.w) X.A (subscriptTail e (.Slice lo hi none p2) v (.ref s3.heap.objs.size)) (EP X pins σ Q) X.xe {s3 with heap:=s3.heap.push {cls:=.type "slice",data:=.fields #[vl,vu,.none]}};exact tail_any (ops:=[.ref s3.heap.objs.size,v]) ht hT hg (by with_unfolding_all rfl)
noncomputable def gE(xs:List V)(lo hi:Option Int):List V:=(xs.drop (HT.rK xs.length 0 lo)).take (HT.rK xs.length xs.length hi-HT.rK xs.length 0 lo)
theorem rY(xs:List V)(lo hi:Option Int):(gE xs lo hi).length<=xs.length:=by
 unfold gE;rw[List.length_take,List.length_drop];lia
end
end L2
namespace L2
open PySem PySem.Spec PyProof.Rows
noncomputable def u_(n:Nat)(i:Int):Option Nat:=if 0<=i then(if i<n then some i.toNat else none) else if -(n:Int)<=i then some (i+n).toNat else none
noncomputable def mf{α:Type}(xs:List α)(i:Int):Option α:=(u_ xs.length i).bind fun j=>xs[j]?
theorem xk{n:Nat}{i:Int}{j:Nat}(h:u_ n i=some j):seqIndex? i n=some j/\j<n/\-(n:Int)<=i/\i<n:=by
 unfold u_ at h;by_cases h0:0<=i
 ·rw[if_pos h0] at h;by_cases h1:i<n
  ·rw[if_pos h1] at h;have e:i.toNat=j:=Option.some.inj h;exact⟨by rw[seqIndex_of h0 h1,e],by lia,by lia,h1⟩
  ·rw[if_neg h1] at h;cases h
 ·rw[if_neg h0] at h;by_cases h1:-(n:Int)<=i
  ·rw[if_pos h1] at h;have e:(i+n).toNat=j:=Option.some.inj h;exact⟨by rw[seqIndex_neg (by lia) h1,e],by lia,h1,by lia⟩
  ·rw[if_neg h1] at h;cases h
theorem pT{α:Type}{xs:List α}{i:Int}{v:α}(h:mf xs i=some v):∃j,seqIndex? i xs.length=some j/\xs[j]?=some v/\j<xs.length/\-(xs.length:Int)<=i/\i<xs.length:=by
 unfold mf at h;cases e:u_ xs.length i with
 |none=>rw[e] at h;cases h
 |some j=>
  rw[e] at h;obtain⟨h1,h2,h3,h4⟩:=xk e;exact⟨j,h1,h,h2,h3,h4⟩
theorem pU{α:Type}{xs:List α}{j:Nat}{v:α}(h:xs[j]?=some v):mf xs (j:Int)=some v:=by
 have hj:j<xs.length:=(List.getElem?_eq_some_iff.mp h).1;have e:u_ xs.length (j:Int)=some j:=by
  unfold u_;rw[if_pos (by lia),if_pos (by lia)];simp
 unfold mf;rw[e];exact h
noncomputable def Dl(b:Expr):Prop:=∀o i,subscripted b false o i=operate [o,i] (getItem o i)
noncomputable def Mm(X:Cx)(r:R2):Prop:=
 ∀(value slice:Expr)(pins:List (Addr×Obj))(s:Shared)(σ:St)(H:Hp)(x y:V)(v u:Value)(Q:VK),Inv X pins σ H s->RelV x v->RelV y u->r x y H Q->
  subscripted slice false v u=operate [v,u] (getItem v u)->wpAny (model X.prog X.w) X.A (subscriptTail value slice v u) (EP X pins σ Q) X.xe s
noncomputable def Qt(X:Cx)(id:String)(r:V->List V->Hp->VK->Prop):Prop:=
 ∀(pins:List (Addr×Obj))(s:Shared)(σ:St)(H:Hp)(x:V)(xs:List V)(v:Value)(us:List Value)(Q:VK),Inv X pins σ H s->RelV x v->Vals xs us->r x xs H Q->
  wpAny (model X.prog X.w) X.A (call (.builtin id) (v::us)) (EP X pins σ Q) X.xe s
section
variable {X:Cx} {a b:Expr} {ta tb:TE} {pos:Pos}
theorem aD{r:R2}(hr:Mm X r)(ha:PE X a ta)(hb:PE X b tb)(hs:Dl b):PE X (.Subscript a b pos) (JL r ta tb):=by
 intro pins s σ H Q I h;exact Subscript_ (GK ha hb I h fun v u s2 x y H2 I2 rx ry q=>hr a b pins s2 σ H2 x y v u Q I2 rx ry q (hs _ _))
noncomputable def JV(K:PySem.W.Frag):R2:=fun x y H Q=>∃p xs i v,x=.ref p/\y=.int i/\aZ K H p xs/\mf xs i=some v/\Q v H
noncomputable def JW(K:PySem.W.Frag):R2:=fun x y H Q=>∃p xs i v,x=.ref p/\y=.int i/\cC K H p xs/\mf xs i=some v/\Q v H
noncomputable def NG:R2:=fun x y H Q=>∃z i c,x=.str z/\y=.int i/\z.length<=sizeLine/\mf z.cps.toList i=some c/\Q (.str ⟨#[c]⟩) H
theorem bI:Mm X (JV X.K):=by
 intro value slice pins s σ H x y v u Q I rx ry h hs;obtain⟨p,xs,i,z,rfl,rfl,hq,he,q⟩:=h;cases rx;obtain⟨t,rfl⟩:=ry;obtain⟨aX,r,pl,hz⟩:=I.list hq;obtain⟨j,h1,h2,h3,h4,h5⟩:=pT he;obtain⟨w,ew,NH⟩:=r.get h2;have hl:=r.length;have hn:=jz;have fin:EP X pins σ Q w s:=⟨z,H,I,NH,q⟩;by_cases h0:0<=i
 ·have hj:i.toNat=j:=by
   rw[seqIndex_of h0 h5] at h1;exact Option.some.inj h1
  exact item_listR pl.isList h0 (by lia) (by rw[hj];simpa using ew) fin hs
 ·have hj:(i+(aX.toArray.size:Int)).toNat=j:=by
   rw[seqIndex_neg (by lia) h4] at h1;rw[List.size_toArray,<-hl];exact Option.some.inj h1
  exact subscriptTail_builtinR (x:=w) pl.isList.typeIs slot_list_getitem.lookup
   (wpAny_getItem_list_neg (Q:=fun r s'=>r=w/\EP X pins σ Q r s') pl.isList (by lia) (by rw[List.size_toArray]<;>lia) (by lia) (by rw[hj];simpa using ew) ⟨rfl,fin⟩) hs
theorem aC:Mm X (JW X.K):=by
 intro value slice pins s σ H x y v u Q I rx ry h hs;obtain⟨p,xs,i,z,rfl,rfl,hq,he,q⟩:=h;cases rx;obtain⟨t,rfl⟩:=ry;obtain⟨aX,r,pl,hz⟩:=I.tuple hq;obtain⟨j,h1,h2,h3,h4,h5⟩:=pT he;obtain⟨w,ew,NH⟩:=r.get h2;have hl:=r.length;have hn:=jz;have fin:EP X pins σ Q w s:=⟨z,H,I,NH,q⟩;exact subscriptTail_builtinR (x:=w) pl.typeIs slot_tuple_getitem.lookup
  (getItem_tuple (j:=j) (Q:=fun r s'=>r=w/\EP X pins σ Q r s') pl (by lia) (by lia) (by rw[List.size_toArray,<-hl];exact h1) (by simpa using ew) ⟨rfl,fin⟩) hs
theorem GS:Mm X NG:=by
 intro value slice pins s σ H x y v u Q I rx ry h hs;obtain⟨z,i,c,rfl,rfl,hz,he,q⟩:=h;obtain⟨t,rfl⟩:=rx;obtain⟨t',rfl⟩:=ry;obtain⟨j,h1,h2,h3,h4,h5⟩:=pT he;have hl:z.cps.toList.length=z.length:=by simp[Str.length]
 rw[hl] at h1 h4 h5;have hn:=jz;exact tail_any (typeIs_str s z t) slot_str_getitem.lookup (getItem_str (c:=c) (by
  have e1:decide (i< -(2^63:Int))=false:=decide_eq_false (by lia)
  have e2:decide (i>=2^63)=false:=decide_eq_false (by lia)
  rw[e1,e2,Bool.or_false]) (by rw[h1];simpa using h2) ⟨.str ⟨#[c]⟩,H,I.tok _,⟨_,rfl⟩,q⟩) hs
theorem va(aX:List Value)(n j:Nat)(u:Value):Obj.mapSeq (·.setIfInBounds j u) {cls:=.type "list",data:=.seq aX.toArray n}={cls:=.type "list",data:=.seq (aX.set j u).toArray n}:=by
 simp[Obj.mapSeq]
theorem Inv.lst{pins:List (Addr×Obj)}{σ:St}{H:Hp}{s:Shared}{p:Addr}{xs:List V}(I:Inv X pins σ H s)(h:H p=some (.lst xs)):
 ∃(aX:List Value)(n:Nat),Vals xs aX/\s.heap.get? p=some {cls:=.type "list",data:=.seq aX.toArray n}/\xs.length<=sizeLine:=by
 obtain⟨z,aX,n,r,e⟩:=I.dE p _ h;exact⟨aX,n,r,e,z⟩
theorem Inv.GU{pins:List (Addr×Obj)}{σ:St}{H:Hp}{s:Shared}{p:Addr}{xs ys:List V}{aX its':List Value}{n n':Nat}{f:Obj->Obj}(I:Inv X pins σ H s)(h:H p=some (.lst xs))(ho:s.heap.get? p=some {cls:=.type "list",data:=.seq aX.toArray n})(hf:f {cls:=.type "list",data:=.seq aX.toArray n}={cls:=.type "list",data:=.seq its'.toArray n'})(r:Vals ys its')(hz:ys.length<=sizeLine)(t:Nat):
 Inv X pins σ (upd H p (.lst ys)) {s with heap:=s.heap.update p f,toks:=t}:=by
 have e:(s.heap.update p f).get? p=some {cls:=.type "list",data:=.seq its'.toArray n'}:=by
  rw[Heap.get?_update_self f ho (by rw[hf]<;>rfl),hf]
 refine I.write (x:=p) (e:=p) (by rw[h];trivial) (.inl rfl) (fun b u hb q=>(Heap.get?_update_other _ _ (Ne.symm hb)).trans q) ⟨_,e⟩ ?_;exact⟨hz,its',n',r,e⟩
noncomputable def JX:V->V->V->Hp->(Hp->Prop)->Prop:=fun o i v H Q=>∃p xs k j,o=.ref p/\i=.int k/\H p=some (.lst xs)/\u_ xs.length k=some j/\Q (upd H p (.lst (xs.set j v)))
theorem set_list:JG X JX:=by
 intro pins s σ H o i v ov iv u Q I ro ri rv h;obtain⟨p,xs,k,j,rfl,rfl,hp,hj,q⟩:=h;cases ro;obtain⟨t,rfl⟩:=ri;obtain⟨aX,n,r,ho,hz⟩:=I.lst hp;obtain⟨h1,h2,h3,h4⟩:=xk hj;have hl:=r.length;have hn:=jz;have I':Inv X pins σ (upd H p (.lst (xs.set j v))) {s with heap:=s.heap.update p (Obj.mapSeq (·.setIfInBounds j u))}:=
  I.GU hp ho (va aX n j u) (r.set rv j) (by rw[List.length_set];exact hz) s.toks
 by_cases h0:0<=k
 ·have hk:k.toNat=j:=by
   rw[seqIndex_of h0 h4] at h1;exact Option.some.inj h1
  exact PySem.W.ki_setAt ho h0 (by lia) (by rw[List.size_toArray,<-hl];exact h4) (by rw[hk];exact⟨_,I',q⟩)
 ·have hk:(k+(aX.toArray.size:Int)).toNat=j:=by
   rw[seqIndex_neg (by lia) h3] at h1;rw[List.size_toArray,<-hl];exact Option.some.inj h1
  exact PySem.W.ki_setBack ho (by lia) (by rw[List.size_toArray,<-hl];exact h3) (by lia) (by rw[hk];exact⟨_,I',q⟩)
theorem pV(lo hi:Option Int)(n:Nat):(sliceBounds lo hi none n).1=((HT.rK n 0 lo:Nat):Int)/\(sliceBounds lo hi none n).2.1=((HT.rK n n hi:Nat):Int)/\(sliceBounds lo hi none n).2.2=1:=by
 refine⟨?_,?_,rfl⟩
 ·cases lo with
  |none=>simp[sliceBounds,HT.rK]
  |some i=>
   simp only[sliceBounds,HT.rK,Option.getD_none,show(1:Int)>0 by decide,if_true];by_cases h:i<0
   ·simp only[h,if_true]<;>lia
   ·simp only[h,if_false]<;>lia
 ·cases hi with
  |none=>simp[sliceBounds,HT.rK]
  |some i=>
   simp only[sliceBounds,HT.rK,Option.getD_none,show(1:Int)>0 by decide,if_true];by_cases h:i<0
   ·simp only[h,if_true]<;>lia
   ·simp only[h,if_false]<;>lia
theorem oj(aX:List Value)(lo hi:Option Int):slicePick aX.toArray lo hi none=((aX.drop (HT.rK aX.length 0 lo)).take (HT.rK aX.length aX.length hi-HT.rK aX.length 0 lo)).toArray:=by
 obtain⟨h1,h2,h3⟩:=pV lo hi aX.toArray.size;unfold slicePick;rw[h1,h2,h3];simp only[sliceRange_one,pick_run,List.size_toArray]<;>rfl
noncomputable def NI(K:PySem.W.Frag):V->Option Int->Option Int->Hp->VK->Prop:=fun x lo hi H Q=>∃a xs,x=.ref a/\aZ K H a xs/\∀p,H p=none->Q (.ref p) (upd H p (.lst (gE xs lo hi)))
theorem mi:NF X (NI X.K):=by
 intro pins s σ H x v vl vu lo hi sl Q I rx hs pl pu h;obtain⟨a,xs,rfl,hx,q⟩:=h;cases rx;obtain⟨aX,r,ht,hz⟩:=I.list hx;have hlen:=r.length;refine⟨"list",_,slot_list_getitem.lookup,ht.isList.typeIs,?_⟩;refine wpAny_getItem_list_slice ht.isList hs pl pu .none (by simp) ?_ (by rw[List.size_toArray]<;>lia);rw[oj,<-hlen];refine⟨.ref s.heap.objs.size,_,I.laid (t':=s.toks) (o:=.lst (gE xs lo hi)) (fun b ob q=>Heap.get?_push_of_some _ q) (Nat.le_refl _) ?_,rfl,q _ (I.dE.fresh (Nat.le_refl _))⟩;exact⟨Nat.le_trans (rY xs lo hi) hz,_,0,(r.drop (HT.rK xs.length 0 lo)).take (HT.rK xs.length xs.length hi-HT.rK xs.length 0 lo),Heap.get?_push_size _ rfl⟩
theorem aW:fN X (.builtin "len") (fun xs H Q=>∃p ys,xs=[.ref p]/\(aZ X.K H p ys\/cC X.K H p ys)/\Q (.int ys.length) H):=by
 intro pins s σ H xs us Q I r h;obtain⟨p,ys,rfl,hq,q⟩:=h;obtain⟨u,rfl,rx⟩:=vals1 r;cases rx
 have hn:=jz;rcases hq with hq|hq
 ·obtain⟨aX,r',pl,hz⟩:=I.list hq;have hlen:=r'.length;exact Calls.call_len_list pl.isList (by simp only[List.size_toArray]<;>lia) ⟨.int ys.length,H,I.tok _,⟨s.toks+1,by rw[List.size_toArray,hlen]⟩,q⟩
 ·obtain⟨aX,r',pl,hz⟩:=I.tuple hq;have hlen:=r'.length;exact len_tuple pl (by simp only[List.size_toArray]<;>lia) ⟨.int ys.length,H,I.tok _,⟨s.toks+1,by rw[List.size_toArray,hlen]⟩,q⟩
theorem g7:fN X (.builtin "len") (fun xs H Q=>∃z,xs=[.str z]/\z.length<=sizeLine/\Q (.int z.length) H):=by
 intro pins s σ H xs us Q I r h;obtain⟨z,rfl,hz,q⟩:=h;obtain⟨u,rfl,t,rfl⟩:=vals1 r;have hn:=jz;exact len_str (by lia) ⟨.int z.length,H,I.tok _,⟨_,rfl⟩,q⟩
theorem jV:fN X (.type "list") (fun xs H Q=>∃p ys,xs=[.ref p]/\(aZ X.K H p ys\/cC X.K H p ys)/\∀l,H l=none->Q (.ref l) (upd H l (.lst ys))):=by
 intro pins s σ H xs us Q I r h;obtain⟨p,ys,rfl,hq,q⟩:=h;obtain⟨u,rfl,rx⟩:=vals1 r;cases rx;have fin:∀(aX:List Value),Vals ys aX->ys.length<=sizeLine->∀(h':Heap)(c':Nat),(∀b o',s.heap.get? b=some o'->h'.get? b=some o')->
  h'.get? s.heap.objs.size=some {cls:=.type "list",dict:=none,data:=.seq aX.toArray c',slots:=#[]}->EP X pins σ Q (.ref s.heap.objs.size) {s with heap:=h'}:=fun aX r' hz h' c' kp e=>
  ⟨.ref s.heap.objs.size,_,I.laid (t':=s.toks) kp (Nat.le_refl _) (show dY X.prog X.w _ h' _ (.lst ys) from⟨hz,aX,c',r',e⟩),rfl,q _ (I.dE.fresh (Nat.le_refl _))⟩
 rcases hq with hq|hq
 ·obtain⟨aX,r',pl,hz⟩:=I.list hq;have hlen:=r'.length;obtain⟨o,ho,hc,n,hd⟩:=pl.isList;exact call_list_seq p (.inl rfl) ho hc hd (fun h' c' kp e=>fin aX r' hz h' c' kp e) (by simp only[List.size_toArray]<;>lia)
 ·obtain⟨aX,r',pl,hz⟩:=I.tuple hq;have hlen:=r'.length;obtain⟨o,ho,hc,n,hd⟩:=pl;exact call_list_seq p (.inr rfl) ho hc hd (fun h' c' kp e=>fin aX r' hz h' c' kp e) (by simp only[List.size_toArray]<;>lia)
noncomputable def Mn(K:PySem.W.Frag)(T:String)(x:V)(H:Hp):Prop:=match x with
 |.str _=>T="str"
 |.int _=>T="int"
 |.ref p=>(T="list"/\∃xs,aZ K H p xs)\/(T="tuple"/\∃o,K.lookup p=some o/\o.cls=.type "tuple"/\o.dict=none)\/
  (T="dict"/\((∃iK,H p=some (.dK iK))\/∃iK,H p=some (.dT iK)))\/(T="set"/\∃S n,H p=some (.set S n))
 |_=>False
theorem AA{pins:List (Addr×Obj)}{σ:St}{H:Hp}{s:Shared}{T:String}{x:V}{v:Value}(I:Inv X pins σ H s)(r:RelV x v)(ty:Mn X.K T x H):
 s.TypeIs v T/\∀a,v=.ref a->∃ob,s.heap.get? a=some ob/\ob.dict=none:=by
 cases x with
 |str z=>
  obtain⟨t,rfl⟩:=r;cases (show T="str" from ty);exact⟨typeIs_str s z t,fun _ e=>nomatch e⟩
 |int i=>
  obtain⟨t,rfl⟩:=r;cases (show T="int" from ty);exact⟨typeIs_int s i t,fun _ e=>nomatch e⟩
 |ref p=>
  cases r
  rcases ty with⟨rfl,xs,hq⟩|⟨rfl,o,hk,hc,hd⟩|⟨rfl,hk⟩|⟨rfl,S,n,hk⟩
  ·obtain⟨aX,_,pl,_⟩:=I.list hq;refine⟨pl.isList.typeIs,fun a e=>?_⟩;cases e;obtain⟨o,n,e,c,hd,_⟩:=pl;exact⟨o,e,hd⟩
  ·refine⟨⟨o,I.og p o hk,hc⟩,fun a e=>?_⟩;cases e;exact⟨o,I.og _ o hk,hd⟩
  ·have z:∃o,s.heap.get? p=some o/\o.ExactDict:=by
    rcases hk with⟨iK,hk⟩|⟨iK,hk⟩
    ·obtain⟨_,_,_,_,o,_,_,e,ex,_⟩:=I.dE p _ hk;exact⟨o,e,ex⟩
    ·obtain⟨_,_,_,_,o,_,_,e,ex,_⟩:=I.dE p _ hk;exact⟨o,e,ex⟩
   obtain⟨o,e,ex⟩:=z;refine⟨⟨o,e,ex.1⟩,fun a e2=>?_⟩;cases e2;exact⟨o,e,ex.2.1⟩
  ·obtain⟨o,_,_,_,e,ex,_⟩:=I.dE p _ hk;refine⟨⟨o,e,ex.1⟩,fun a e2=>?_⟩;cases e2;exact⟨o,e,ex.2.1⟩
 |_=>exact False.elim ty
noncomputable def NJ(K:PySem.W.Frag)(T:String)(r:V->List V->Hp->VK->Prop)(to:TE):TE:=fun σ H Q=>to σ H fun x H1=>Mn K T x H1/\r x [] H1 Q
noncomputable def Qu(K:PySem.W.Frag)(T:String)(r:V->List V->Hp->VK->Prop)(to:TE)(t:TA):TE:=fun σ H Q=>to σ H fun x H1=>Mn K T x H1/\t σ H1 fun xs H2=>r x xs H2 Q
variable {o e:Expr} {es:List Expr} {to:TE} {t:TA} {name:Str} {apos pW:Pos} {T id:String} {r:V->List V->Hp->VK->Prop}
theorem vb(pa:PlainAttrs T)(slot:Slot T name id)(NK:typeOf (.builtin id)=pure (.type "method_descriptor"))(hm:Qt X id r)(ho:PE X o to)(AB:attributeBase o name X.env (eval o X.env)=eval o X.env:=by rfl)(AD:(apos.endLine==pW.line)=true:=by rfl):PE X (.Call (.Attribute o name apos) [] [] pW) (NJ X.K T r to):=by
 intro pins s σ H Q I h;refine wpAny_Call_method0_late AB AD (c_ (ho pins s σ H _ I h) fun v s1⟨x,H1,I1,r1,ty,q1⟩=>?_);obtain⟨h1,h2⟩:=AA I1 r1 ty;exact⟨T,id,pa,slot,NK,h1,h2,Calls.callWith_builtin rfl (PySem.evalArgs_none (hm pins s1 σ H1 x [] v [] Q I1 r1 .nil q1))⟩
theorem lA(pa:PlainAttrs T)(slot:Slot T name id)(NK:typeOf (.builtin id)=pure (.type "method_descriptor"))(hm:Qt X id r)(ho:PE X o to)(ha:PA X (e::es) t)(AB:attributeBase o name X.env (eval o X.env)=eval o X.env:=by rfl)(NL:((backTo pW (starEach (e::es) X.env)).all (fun x=>!x.1)&&(backToKw pW (keywordEach [] X.env)).all (fun x=>x.1.isSome)
 &&decide ((e::es).length+([]:List Keyword).length+(if([]:List Keyword).isEmpty then 0 else 1)<30))=true:=by rfl)(AD:(apos.endLine==pW.line)=true:=by rfl)(hs:starEach (e::es) X.env=(false,eval e X.env)::starEach es X.env:=by rfl)(GV:(backTo pW (starEach es X.env)).any (·.1)=false:=by rfl):
 PE X (.Call (.Attribute o name apos) (e::es) [] pW) (Qu X.K T r to t):=by
 intro pins s σ H Q I h;refine wpAny_Call_method_late AB NL AD rfl (c_ (ho pins s σ H _ I h) fun v s1⟨x,H1,I1,r1,ty,q1⟩=>?_);obtain⟨h1,h2⟩:=AA I1 r1 ty;refine⟨T,id,pa,slot,NK,h1,h2,?_⟩;have hA:=ha pW pins s1 σ H1 _ I1 q1;rw[hs] at hA ⊢;refine Calls.callWith_builtin (by show(false||(backTo pW (starEach es X.env)).any (·.1))=false;rw[GV]<;>rfl) (Calls.evalArgs_plain ?_);exact c_ hA fun us s2⟨vs,H2,I2,r2,q2⟩=>hm pins s2 σ H2 x vs v us Q I2 r1 r2 q2
end
end L2
namespace L2
open PySem PySem.Spec PyProof.Rows
noncomputable def Mo(X:Cx)(id:String)(r:V->List V->Hp->VK->Prop):Prop:=
 ∀(pins:List (Addr×Obj))(s:Shared)(σ:St)(H:Hp)(x:V)(xs:List V)(v:Value)(us:List Value)(Q:VK),Inv X pins σ H s->RelV x v->Vals xs us->r x xs H Q->
  wpAny (model X.prog X.w) X.A (call (.builtin id) (v::us)) (EP X pins σ Q) X.xe s
theorem Vals.one:∀{x:V}{us:List Value},Vals [x] us->∃u,us=[u]/\RelV x u
 |_,_,.cons r .nil=>⟨_,rfl,r⟩
theorem Vals.zero:∀{us:List Value},Vals [] us->us=[]
 |_,.nil=>rfl
theorem Vals.dropLast{xs:List V}{us:List Value}(h:Vals xs us):Vals xs.dropLast us.dropLast:=by
 induction h with
 |nil=>exact .nil
 |cons r t ih=>
  cases t with
  |nil=>exact .nil
  |cons q t'=>exact .cons r ih
theorem vc{α:Type}(l:List α):l.eraseIdx (l.length-1)=l.dropLast:=by
 induction l with
 |nil=>rfl
 |cons a r ih=>
  cases r with
  |nil=>rfl
  |cons b r=>
   have e:(a::b::r).length-1=((b::r).length-1)+1:=by
    have h1:(a::b::r).length=r.length+2:=rfl;have h2:(b::r).length=r.length+1:=rfl;lia
   rw[e,List.eraseIdx_cons_succ,ih]
   all_goals rfl
section
variable {X:Cx} {pins:List (Addr×Obj)} {σ:St} {H:Hp} {s:Shared} {l b:Addr} {xs ys zs:List V}
theorem Inv.JY{aX its':List Value}{n:Nat}{f:Array Value->Array Value}{t':Nat}(I:Inv X pins σ H s)(hH:H l=some (.lst xs))(e:s.heap.get? l=some {cls:=.type "list",data:=.seq aX.toArray n})(hf:f aX.toArray=its'.toArray)(hv:Vals ys its')(hz:ys.length<=sizeLine):
 Inv X pins σ (upd H l (.lst ys)) {s with heap:=s.heap.update l (Obj.mapSeq f),toks:=t'}:=by
 have q:=PySem.IsL.update e f;rw[hf] at q;refine I.write (x:=l) (e:=l) (by rw[hH];exact trivial) (.inl rfl) (fun b' u hb hu=>(Heap.get?_update_other s.heap (Obj.mapSeq f) (Ne.symm hb)).trans hu) ⟨_,q⟩ ?_;exact⟨hz,its',_,hv,q⟩
theorem Inv.JZ{aX:List Value}{t':Nat}(I:Inv X pins σ H s)(hv:Vals ys aX)(hz:ys.length<=sizeLine):
 Inv X pins σ (upd H s.heap.objs.size (.lst ys)) {s with heap:=s.heap.push {cls:=.type "list",data:=.seq aX.toArray},toks:=t'}:=
 I.laid (fun _ _ q=>Heap.get?_push_of_some _ q) (Nat.le_refl _) ⟨hz,aX,0,hv,Heap.get?_push_size _ rfl⟩
theorem Inv.fresh(I:Inv X pins σ H s):H s.heap.objs.size=none:=I.dE.fresh (Nat.le_refl _)
theorem Inv.J0(I:Inv X pins σ H s)(hH:H l=some (.lst xs)):xs.length<=sizeLine/\∃(aX:List Value)(n:Nat),Vals xs aX/\xs.length=aX.length/\s.heap.get? l=some {cls:=.type "list",data:=.seq aX.toArray n}:=by
 obtain⟨z,aX,n,r,e⟩:=I.dE l _ hH;exact⟨z,aX,n,r,r.length,e⟩
end
section
variable {X:Cx}
noncomputable def Dm:V->List V->Hp->VK->Prop:=fun x vs H Q=>∃l xs y,x=.ref l/\vs=[y]/\H l=some (.lst xs)/\xs.length<sizeLine/\Q .eT (upd H l (.lst (xs++[y])))
theorem eW:Mo X "list.append" Dm:=by
 intro pins s σ H x vs v us Q I rx rv h;obtain⟨l,xs,y,rfl,rfl,hH,hz,q⟩:=h;cases rx;obtain⟨u,rfl,ru⟩:=rv.one;obtain⟨z,aX,n,r,hl,e⟩:=I.J0 hH;refine call_meets F.slot_list_append ⟨_,e,rfl⟩ F.entry_list_append (F.args_list_append_2 _ _) (PySem.list_append l aX.toArray n u (by rw[List.size_toArray];lia)) ⟨e,?_⟩;refine⟨.eT,_,I.JY (its':=aX++[u]) hH e (by simp) (r.append (.cons ru .nil)) ?_,rfl,q⟩;rw[List.length_append,List.length_singleton];lia
noncomputable def NM:V->List V->Hp->VK->Prop:=fun x vs H Q=>∃l xs y,x=.ref l/\vs=[]/\H l=some (.lst xs)/\xs[xs.length-1]?=some y/\Q y (upd H l (.lst xs.dropLast))
theorem vd:Mo X "list.pop" NM:=by
 intro pins s σ H x vs v us Q I rx rv h;obtain⟨l,xs,y,rfl,rfl,hH,hy,q⟩:=h;cases rx;have SK:=rv.zero;subst SK;obtain⟨z,aX,n,r,hl,e⟩:=I.J0 hH;obtain⟨u,hu,ru⟩:=r.get hy;have SM:aX.toArray[aX.toArray.size-1]?=some u:=by
  show aX.toArray[aX.length-1]?=some u;rw[<-Array.getElem?_toList,<-hl];exact hu
 refine call_meets F.slot_list_pop ⟨_,e,rfl⟩ F.entry_list_pop (F.args_list_pop_1 _) (MeetsSeq.list_pop_last l aX.toArray n u SM (by rw[List.size_toArray];lia)) ⟨e,?_⟩;refine⟨y,_,I.JY (its':=aX.dropLast) hH e ?_ r.dropLast ?_,ru,q⟩
 ·show aX.toArray.eraseIdxIfInBounds (aX.toArray.size-1)=aX.dropLast.toArray;rw[List.size_toArray,List.eraseIdxIfInBounds_toArray,vc]
 ·rw[List.length_dropLast];lia
end
section
variable {prog:Program} {w:World} {A:Around} {E:Value->Shared->Prop} {s:Shared}
end
section
variable {X:Cx}
end
end L2
namespace Qv
open PySem PySem.W PySem.Calls PyProof.Rows
theorem lW{P:Params}{h:Heap}:∀(ns:List Int)(vs:List Value),WellAll P h vs (ns.map WData.int)->IntsAre vs ns:=by
 intro ns
 induction ns with
 |nil=>
  intro vs w;rw[List.map_nil] at w;cases w;exact .nil
 |cons n ns ih=>
  intro vs w;rw[List.map_cons] at w;cases w with
  |cons a b=>
   cases a;exact .cons _ _ (ih _ b)
theorem yT{l:OpenLaw}{n:Nat}(hn:l.most=some n){P:Params}{h:Heap}{args:List WData}{vals:List Value}(yU:l.row.toRowW.claim.pre args=true)(NN:WellAll P h vals args):
 ∃a vs ns,vals=[Value.ref a]/\args=[WData.list (ns.map WData.int)]/\h.get? a=some {cls:=.type "list",data:=.seq vs.toArray}/\IntsAre vs ns/\ns.length<=n:=by
 have Mp:WShape.hasAll [] args [.list .int]=true:=(pre_splitW yU).1;have hc:l.pre.holds [] {args:=args}=true:=(pre_splitW yU).2;obtain⟨d,r,rfl,h1,h2⟩:=hasAllW_cons Mp;obtain rfl:=hasAllW_nil h2;obtain⟨xs,rfl,h3⟩:=hasW_list h1;obtain⟨ns,rfl⟩:=items_int h3;have hlen:ns.length<=n:=by
  unfold OpenLaw.pre at hc;have h4:(WTm.not (.lt (.lit (.int (n:Int))) (.len (.arg 0)))).holds [] {args:=[.list (ns.map .int)]}=true:=by
   have h4:=(holds_andW hc).1;rw[hn] at h4;exact h4
  have h5:=condW_of h4 (w_not (w_lt w_lit (w_len_list (w_arg rfl))));rw[List.length_map] at h5;refine Nat.le_of_not_lt fun q=>?_;have q':(n:Int)<((ns.length:Nat):Int):=by lia
  first
   |(rw[decide_eq_true q'] at h5;exact absurd h5 (by decide))
   |(simp at h5;lia)
 cases NN with
 |cons w1 w2=>
  cases w2
  cases w1 with
  |list ho mL=>exact⟨_,_,ns,rfl,rfl,ho,lW ns _ mL,hlen⟩
theorem yV(l:OpenLaw)(args:List WData):l.row.toRowW.claim.post args (.bool true) args=true:=
 postW_of (r:=l.row.toRowW) (X:=(true==true))
  (show WShape.has [] (.bool true) .bool=true by first|rfl|decide|simp[WShape.has,WShape.arms,WShape.armsAll])
  (show(WTm.eq .res (.lit (.bool true))).value [] {args:=args,res:=some (.bool true),after:=args}=some (.bool (true==true)) from w_eq_bool (w_res rfl) w_lit) rfl
theorem rZ{l:OpenLaw}{n:Nat}{q:Program}{loose:List Str}{XP:(Str->Option Value)->Heap->Prop}{YP:World->Heap->Prop}{d:DefRec}(hn:l.most=some n)(J3:d.params.defaults=[])(call:∀(w:World)(fL cq:Shared)(mg mb:Str->Option Value)(fa:Addr)(o:Obj)(pm cd doc:Value)(a:Addr)(vs:List Value)(ns:List Int),
 Ground q loose [] XP w fL mg mb cq.heap->YP w cq.heap->
 cq.heap.get? fa=some o->o.data=.func (docDef d.name d.params d.body d.scope pm cd doc)->cq.heap.CodeRec cd d.name->mg d.name=some (.ref fa)->
 cq.heap.get? a=some {cls:=.type "list",data:=.seq vs.toArray}->IntsAre vs ns->ns.length<=n->cq.gens=#[]->
 codeAny (model l.prog w) callerA (.call (.ref fa) ⟨[.ref a],[]⟩) (fun r s'=>r=.ok (.ret (.bool true))/\OldK cq.heap s'.heap/\s'.os=cq.os/\AllBare s'.gens) cq):
 WalkO q loose XP YP l.row.toRowW d [] (fun f vs=>PySem.call f vs):=by
 intro w fL cq mg mb G Y fa o pm cd doc dV kV ho hd rG hD J4 hg args vals as yU SN Wg NN Dn;obtain rfl:dV=.none:=Dflts.none hD J3;obtain rfl:kV=.none:=Dflts.noKw hD;obtain⟨a,vs,ns,rfl,rfl,GW,hints,hlen⟩:=yT hn yU NN;refine enter_call (codeAny_mono (call w fL cq mg mb fa o pm cd doc a vs ns G Y ho (fd_plain hd) rG J4 GW hints hlen hg) fun r s' hq=>?_);obtain⟨rfl,h2,h3,h4⟩:=hq;exact⟨.inl ⟨.bool true,.bool true,[],rfl,fun _=>rfl,.bool true,yV l _,fun _=>⟨List.Pairwise.nil,fun _ hm=>(nomatch hm)⟩⟩,h2,h3,h4⟩
section
variable {prog:Program} {w:World} {A:Around} {E:Value->Shared->Prop} {s:Shared} {K:Frag}
end
end Qv
namespace L2
open PySem PySem.Spec PyProof.Rows
theorem oU:∀{vs:List Value}{ns:List Int},IntsAre vs ns->Vals (ns.map V.int) vs
 |_,_,.nil=>.nil
 |_,_,.cons n t h=>.cons ⟨t,rfl⟩ (oU h)
noncomputable def GX(H:Hp):Prop:=∀b,H b=none\/∃o xs,H b=some (.wW o (.lst xs))
theorem AE{P:Program}{w:World}{K:PySem.W.Frag}{mg mb:Str->Option Value}{CX:z0}{k:Nat}{fa a:Addr}{fd:FuncData}{x:Str}{sp:Sp}{cq:Shared}{vs:List Value}{ns:List Int}(KX:K.In cq.heap)(CT:cq.heap.Ns mainGlobals mg)(hb:cq.heap.Ns builtinsNs mb)(Mq:∀x:Str,x≠"__name__"->mb x=bootBuiltins x)(NO:cq.heap.NoLimit)(xl:cq.heap.NoSeer)(hg:cq.gens=#[])(ha:cq.heap.get? a=some {cls:=.type "list",data:=.seq vs.toArray})(hi:IntsAre vs ns)(hl:ns.length<=sizeLine)(hr:fk k callerA)(F:∀base:Heap,K.In base->base.Ns mainGlobals mg->iN P w K mg base CX k fa fd [x] sp)(J5:∀(s:Shared)(u:Value),BindsTo s fd ⟨[u],[]⟩ [(x,u)])(xh:∀H:Hp,GX H->aZ K H a (ns.map V.int)->sp [.ref a] H (fun v _=>v=.bl true) fun _ _ _=>False)(NP:∀H e s',CX [] H cq (fun _ _ _=>False) e s'->False):
 codeAny (model P w) callerA (.call (.ref fa) ⟨[.ref a],[]⟩) (fun r s'=>r=.ok (.ret (.bool true))/\OldK cq.heap s'.heap/\s'.os=cq.os/\AllBare s'.gens) cq:=by
 have rv:=oU hi;have NQ:=hi.length;have core:∀H:Hp,GX H->aZ K H a (ns.map V.int)->lS P w H cq.heap->(∀b,H b≠none->b=a)->(H a≠none->K.lookup a=none)->
  codeAny (model P w) callerA (.call (.ref fa) ⟨[.ref a],[]⟩) (fun r s'=>r=.ok (.ret (.bool true))/\OldK cq.heap s'.heap/\s'.os=cq.os/\AllBare s'.gens) cq:=by
  intro H hO hS dE hA hK;have pY:∀{b:Addr}{o:Obj},cq.heap.get? b=some o->H b=none->(pL cq.heap H).get? b=some o:=fun e n=>Ah e n;have JT:∀{b:Addr}{o:Obj}{es:Array DictEntry}{ep:Nat},cq.heap.get? b=some o->o.data=.dict es ep->H b=none:=fun{b o es ep} e d=>by
   cases q:H b with
   |none=>rfl
   |some u=>
    have e':b=a:=hA b (by rw[q];simp);subst e';rw[ha] at e;cases e;have d':Data.seq vs.toArray _=Data.dict es ep:=d;cases d'
  have Fp:∀{b:Addr}{m:Str->Option Value},cq.heap.Ns b m->(pL cq.heap H).Ns b m:=fun{b m}⟨o,es,ep,e,d,r⟩=>⟨o,es,ep,pY e (JT e d),d,r⟩;have Qw:K.In (pL cq.heap H):=fun b o e=>pY (KX b o e) (by
   cases q:H b with
   |none=>rfl
   |some u=>
    have e':b=a:=hA b (by rw[q];simp)
    subst e'
    rw[hK (by rw[q];simp)] at e;cases e);have hM:Mod K mg (pL cq.heap H):=⟨Qw,Fp CT,⟨mb,Fp hb,Mq⟩,(let⟨mc,h1,h2⟩:=NO;⟨mc,Fp h1,h2⟩),(let⟨mc,h1,h2⟩:=xl.statics;⟨mc,Fp h1,h2⟩),(let⟨mc,h1,h2⟩:=xl.mods;⟨mc,Fp h1,h2⟩),(let⟨mc,h1,h2⟩:=xl.imp;⟨mc,Fp h1,h2⟩),
   (let⟨g,bm,ob,h1,h2,h3,h4,h5⟩:=xl.main;⟨g,bm,ob,Fp h1,h2,pY h3 (by
     cases q:H bm with
     |none=>rfl
     |some u=>
      have e':bm=a:=hA bm (by rw[q];simp)
      subst e'
      rw[ha] at h3;cases h3;exact absurd (Value.type.inj h4) (by decide)),h4,h5⟩)⟩;have e0:u7 P w K mg (pL cq.heap H) callerA [] cq H:=⟨rfl,hM,fun b o e=>C5 e,Nat.le_of_eq (yH _ _),trivial,fun b hb=>absurd (show b∈([]:List Addr) from hb) (by simp),dE,.of_eq hg⟩;refine codeAny_mono ((F _ Qw (Fp CT)).run callerA [] cq H ⟨[.ref a],[]⟩ [.ref a] [.ref a] _ _ hr e0 (J5 cq (.ref a)) (.cons rfl .nil) (xh H hO hS)) fun r s' h=>?_;cases r with
  |error e=>exact(NP H e s' h).elim
  |ok fl=>
   cases fl with
   |next=>exact False.elim h
   |brk=>exact False.elim h
   |cont=>exact False.elim h
   |ret u=>
    obtain⟨v,H',os,bare,un,NR,r',q⟩:=h;have q':v=.bl true:=q;subst q';obtain rfl:u=Value.bool true:=r';refine⟨rfl,OldK.of_keep fun b o e=>?_,os,bare⟩;cases q:H b with
    |none=>exact un.keep b o e q (by intro z;exact absurd (show b∈([]:List Addr) from z) (by simp)) (by simp)
    |some u=>
     rcases hO b with z|⟨ob,xs,z⟩
     ·rw[q] at z;cases z
     ·have z2:=un.pK b ob _ z;obtain⟨e1,_⟩:=dE b _ z;obtain⟨e2,_⟩:=NR b _ z2;rw[e] at e1;cases e1;exact e2
 cases hk:K.lookup a with
 |some o=>
  have e:=KX a o hk;rw[ha] at e;cases e;refine core (fun _=>none) (fun _=>.inl rfl) (.inr ⟨_,vs.toArray,_,hk,rfl,rfl,rfl,by rw[List.size_toArray,NQ];exact hl,by simpa using rv⟩) (fun b u z=>by have z':(none:Option HO)=some u:=z;cases z') (fun b z=>absurd rfl z) fun z=>absurd rfl z
 |none=>
  refine core (fun b=>if b=a then some (.wW {cls:=.type "list",data:=.seq vs.toArray} (.lst (ns.map V.int))) else none) (fun b=>?_) (.inl (.inr ⟨{cls:=.type "list",data:=.seq vs.toArray},if_pos rfl⟩)) (fun b u z=>?_) (fun b z=>?_) fun _=>hk
  ·by_cases hb:b=a
   ·exact .inr ⟨_,_,if_pos hb⟩
   ·exact .inl (if_neg hb)
  ·by_cases hb:b=a
   ·have z':=(if_pos hb).symm.trans z;cases z';subst hb;exact⟨ha,by rw[List.length_map];exact hl,vs,_,rv,ha⟩
   ·have z':=(if_neg hb).symm.trans z;cases z'
  ·by_cases hb:b=a
   ·exact hb
   ·exact absurd (if_neg hb) z
end L2
namespace L2
open PySem PySem.Spec PyProof.Rows
noncomputable abbrev Wh{K:PySem.W.Frag}{h:Heap}(_:K.In h):PySem.W.Frag:=K
theorem Dp{l:PySem.W.OpenLaw}{n k:Nat}{q:Program}{loose:List Str}{XP:(Str->Option Value)->Heap->Prop}{YP:World->Heap->Prop}{d:DefRec}{K:Params->PySem.W.Frag}{CX:World->z0}{sp:World->Sp}{x:Str}(hn:l.most=some n)(GP:n<=sizeLine)(J3:d.params.defaults=[])(hr:fk k callerA)(hY:∀(w:World)(h:Heap),YP w h->(K w.params).In h)(F:∀(w:World)(mg:Str->Option Value)(fa:Addr)(h:Heap),(K w.params).In h->h.Ns mainGlobals mg->mg d.name=some (.ref fa)->
 ∃fd:FuncData,(∀(s:Shared)(u:Value),BindsTo s fd ⟨[u],[]⟩ [(x,u)])/\
  ∀base:Heap,(K w.params).In base->base.Ns mainGlobals mg->iN l.prog w (K w.params) mg base (CX w) k fa fd [x] (sp w))(xh:∀(w:World)(H:Hp)(a:Addr)(ns:List Int),ns.length<=n->GX H->aZ (K w.params) H a (ns.map V.int)->sp w [.ref a] H (fun v _=>v=.bl true) fun _ _ _=>False)(NP:∀(w:World)(H:Hp)(s:Shared)(e:Value)(s':Shared),CX w [] H s (fun _ _ _=>False) e s'->False)(hi:importsNone q=true):
 PySem.W.WalkO q loose XP YP l.row.toRowW d [] (fun f vs=>PySem.call f vs):=by
 refine Qv.rZ hn J3 fun w fL cq mg mb fa o pm cd doc a vs ns G Y ho hd rG J4 GW hints hlen hg=>?_;have KX:=hY w _ Y;obtain⟨fd,hb,hF⟩:=F w mg fa _ KX G.T.g J4;exact AE KX G.T.g G.T.b G.T.builtins G.T.nolimit (G.T.seer hi) hg GW hints (Nat.le_trans hlen GP) hr hF hb (fun H hO hS=>xh w H a ns hlen hO hS) fun H e s'=>NP w H cq e s'
end L2
namespace L2
open PySem PySem.Spec PyProof.Rows
noncomputable def inClass(s:Stmt)(j:Nat):Stmt:=match s with
 |.ClassDef _ _ _ body _ _ _ _ _ _ _=>body.getD j (.Pass ⟨0,0,0,0⟩)
 |_=>.Pass ⟨0,0,0,0⟩
noncomputable def fB(s:Stmt):Arguments:=match s with
 |.FunctionDef _ a _ _ _ _ _ _ _ _=>a
 |_=>{posonlyargs:=[],args:=[],vararg:=none,kwonlyargs:=[],kw_defaults:=[],kwarg:=none,defaults:=[]}
noncomputable def eI(s:Stmt):List Stmt:=match s with
 |.FunctionDef _ _ b _ _ _ _ _ _ _=>b
 |_=>[]
noncomputable def ao(s:Stmt):Scope:=match s with
 |.FunctionDef _ _ _ _ _ _ sc _ _ _=>sc
 |_=>{kind:=.function,names:=[],isGenerator:=false,isCoroutine:=false}
noncomputable abbrev z_:z0:=fun _ _ _ _ _ _=>False
noncomputable abbrev E0:XK:=fun _ _ _=>False
theorem AF{X:Cx}:Passes z_ X E0:=fun _ _ _ _ _ _ _ h=>h.elim
structure Dq(K:PySem.W.Frag)(x qual:Str)(st:Stmt)(f:Addr)(fd:FuncData):Prop where
 ex:∃(oc:Value)(od:Option Addr)(kV doc pm:Value)(an:Option Addr)(cD ct:Value)(xg:Array (Option Value)),
  fd=PySem.W.fnOf x qual (fB st) (eI st) (ao st) .none kV doc pm an cD ct/\K.lookup f=some ⟨oc,od,.func fd,xg⟩/\PySem.W.codeIn K cD qual=true
 kp:PySem.W.keepIn K (.ref f)=true
section
variable {P:Program} {w:World} {K:PySem.W.Frag} {mg:Str->Option Value} {base:Heap}
theorem Dq.ok{x qual:Str}{st:Stmt}{f:Addr}{fd:FuncData}{N ps:List Str}{k:Nat}{sp:Sp}(F:Dq K x qual st f fd)(S:aA N ps (ao st))(len:∀vs H Q E,sp vs H Q E->vs.length=ps.length)(rX:∀(cD:Value)(A:Around)(outer:List Env)(s:Shared)(H:Hp)(vs:List V)(Q:VK)(E:XK),fk k (A.deeper (envOfC qual (ao st) s.heap.objs.size f cD))->sp vs H Q E->
 ∃t,uM (u9 z_ P w K mg base N qual (ao st) f cD A outer s H E).IU (eI st) t/\t {nx:=fun _ H'=>Q .eT H',rt:=Q} (start N vs) H):iN P w K mg base z_ (k+1) f fd ps sp:=by
 obtain⟨oc,od,kV,doc,pm,an,cD,ct,xg,rfl,lk,rG⟩:=F.ex;refine Fn lk rG S len fun A outer s H vs Q E hr xh=>?_;obtain⟨t,h,q⟩:=rX cD A outer s H vs Q E hr xh;exact⟨t,h.IU,q⟩
theorem Dq.binds{x qual:Str}{st:Stmt}{f:Addr}{fd:FuncData}{ps:List Str}(F:Dq K x qual st f fd)(h:∀(kV doc pm:Value)(an:Option Addr)(cD ct:Value)(us:List Value),us.length=ps.length->bindArgs (PySem.W.fnOf x qual (fB st) (eI st) (ao st) .none kV doc pm an cD ct) ⟨us,[]⟩=pure (ps.zip us)):Binds K fd ps []:=by
 obtain⟨oc,od,kV,doc,pm,an,cD,ct,xg,rfl,lk,rG⟩:=F.ex;exact .all (h kV doc pm an cD ct)
theorem AG{x qual:Str}{st:Stmt}{f:Addr}{oc:Value}{od an:Option Addr}{xg:Array (Option Value)}{kV doc pm cD ct:Value}(l:K.lookup f=some ⟨oc,od,.func (PySem.W.fnOf x qual (fB st) (eI st) (ao st) .none kV doc pm an cD ct),xg⟩)(c:PySem.W.codeIn K cD qual=true)(k:PySem.W.keepIn K (.ref f)=true):Dq K x qual st f (PySem.W.fnOf x qual (fB st) (eI st) (ao st) .none kV doc pm an cD ct):=⟨⟨oc,od,kV,doc,pm,an,cD,ct,xg,rfl,l,c⟩,k⟩
end
theorem yW{n:Nat}(h:n<=1000):n<sizeLine:=Nat.lt_of_le_of_lt h (by decide)
section
variable {X:Cx}
theorem pv(i:Nat){x:Str}{pos:Pos}(hN:X.N[i]?=some x:=by rfl)(hv:Nc X.env.scope x:=by first|exact Or.inl rfl|exact Or.inr (Or.inl rfl)|exact Or.inr (Or.inr rfl))(hd:(x==("__debug__":Str))=false:=by decide)(rG:(x==("__classdict__":Str))=false:=by decide):PE X (.Name x pos) (GD i):=GF hN hv hd rG
end
theorem kF{A B:Prop}(h:B):if false=true then A else B:=by
 rw[if_neg Bool.false_ne_true];exact h
theorem NS{A B:Prop}(h:A):if true=true then A else B:=by
 rw[if_pos rfl];exact h
theorem dI{c A B:Prop}[Decidable c](h1:c->A)(h2:¬c->B):if c then A else B:=by
 by_cases h:c
 ·rw[if_pos h];exact h1 h
 ·rw[if_neg h];exact h2 h
theorem Fq{c A B:Prop}[Decidable c](hc:c)(h:B):if(!decide c)=true then A else B:=by
 rw[decide_eq_true hc];exact kF h
noncomputable def au(H H':Hp):Prop:=∀b o,H b=some o->H' b=some o
theorem au.refl(H:Hp):au H H:=fun _ _ h=>h
theorem au.trans{H H1 H2:Hp}(a:au H H1)(b:au H1 H2):au H H2:=fun c o h=>b c o (a c o h)
theorem au.free{H H':Hp}(e:au H H'){l:Addr}(h:H' l=Option.none):H l=Option.none:=by
 cases q:H l with
 |none=>rfl
 |some o=>
  rw[e l o q] at h;cases h
theorem au.seq{K:PySem.W.Frag}{H H':Hp}{a:Addr}{xs:List V}(e:au H H')(h:aZ K H a xs):aZ K H' a xs:=by
 rcases h with(h|⟨o,h⟩)|h
 ·exact .inl (.inl (e _ _ h))
 ·exact .inl (.inr ⟨o,e _ _ h⟩)
 ·exact .inr h
end L2
set_option maxHeartbeats 4000000
namespace L2
open PySem PySem.Spec PyProof.Rows
section
variable {X:Cx} {a b c:Expr} {ta tb tc:TE} {pos:Pos}
theorem aw:me X (binaryOp .Mult) (rI (fun i j=>IntMulOk i j) fun i j=>.int (i*j)):=
 Mj fun _ _ _ _ _ _ _ hc q=>mul_int q hc
theorem cY:me X (binaryOp .FloorDiv) (rI (fun _ j=>j≠0/\j.natAbs.log2<9000) fun i j=>.int (i.fdiv j)):=
 Mj fun _ _ _ _ _ _ _ hc q=>floordiv_int hc.1 q (.inl (PyProof.noPylong_of_log2 hc.2))
theorem J6{x:Str}{T:String}{pos:Pos}(hg:Gl X x)(hm:X.mg x=none)(hv:bootBuiltins x=some (.type T))(hn:x≠"__name__":=by decide)(hd:(x==("__debug__":Str))=false:=by decide):PE X (.Name x pos) (tC (.ty T)):=
 C_ (v:=V.ty T) hg hm hv rfl hn hd
noncomputable def NT(K:PySem.W.Frag):List V->Hp->VK->Prop:=fun xs H Q=>∃x T t r,xs=[x,.ty T]/\kE K H x t/\PySem.W.kitOne K t (.type T)=some r/\Q (.bl r) H
theorem r_:fN X (.builtin "isinstance") (NT X.K):=by
 intro pins s σ H xs us Q I r h;obtain⟨x,T,t,bb,rfl,ty,e,q⟩:=h;obtain⟨u,w',rfl,rx,ry⟩:=vals2 r;obtain rfl:w'=Value.type T:=ry;exact yR I rx ty e fun tk=>⟨.bl bb,H,I.tok _,rfl,q⟩
theorem AH{K:PySem.W.Frag}(T:String):PySem.W.kitOne K (.type T) (.type T)=some true:=by
 unfold PySem.W.kitOne;rw[if_pos (beq_self_eq_true _)]
noncomputable def NU(K:PySem.W.Frag):R2:=fun x y H Q=>∃(p q:Addr)(xs ys:List Int),x=.ref p/\y=.ref q/\aZ K H p (xs.map V.int)/\aZ K H q (ys.map V.int)/\Q (.bl (decide (xs=ys))) H
theorem int_at{xs:List Int}{aX:List Value}(r:Vals (xs.map V.int) aX){j:Nat}(h:j<xs.length)(h':j<aX.length):∃t,aX[j]=Value.int xs[j] t:=by
 have e:(xs.map V.int)[j]?=some (V.int xs[j]):=by rw[List.getElem?_map,List.getElem?_eq_getElem h]<;>rfl
 obtain⟨u,hu,t,rfl⟩:=r.get e;rw[List.getElem?_eq_getElem h'] at hu;exact⟨t,Option.some.inj hu⟩
theorem GY(xs ys:List Int)(hl:xs.length=ys.length):((List.range xs.length).all fun j=>xs.getD j 0==ys.getD j 0)=decide (xs=ys):=by
 rw[Bool.eq_iff_iff,List.all_eq_true,decide_eq_true_eq];constructor
 ·intro h;refine List.ext_getElem hl fun j h1 h2=>?_;have:=h j (List.mem_range.mpr h1);rw[beq_iff_eq,List.getD_eq_getElem?_getD,List.getD_eq_getElem?_getD,List.getElem?_eq_getElem h1,List.getElem?_eq_getElem h2] at this;exact this
 ·rintro rfl j _;exact beq_self_eq_true _
theorem GZ(hu:X.A.units<cLine):me X (compareOp .Eq) (NU X.K):=by
 intro pins s σ H x y v u Q I rx ry h;obtain⟨p,q,xs,ys,rfl,rfl,hp,hq,h⟩:=h;cases rx;cases ry;obtain⟨aX,r,pl,hz⟩:=I.list hp;obtain⟨J7,r2,Mr,NV⟩:=I.list hq;have l1:=r.length;have l2:=r2.length;rw[List.length_map] at l1 l2;by_cases hl:xs.length=ys.length
 ·refine SeqAt.eq_listAt (e:=fun j=>xs.getD j 0==ys.getD j 0) pl.isList Mr.isList (by simp only[List.size_toArray];lia) hu (fun j h1 h2=>?_) ?_
  ·simp only[List.size_toArray] at h1 h2;obtain⟨t,e⟩:=int_at r (j:=j) (by lia) h1;obtain⟨t',e'⟩:=int_at r2 (j:=j) (by lia) h2;have z:SeqAt.EqAt X.A.in1 s aX[j] J7[j] (xs[j]==ys[j]):=by
    rw[e,e'];exact SeqAt.EqAt.int_int _ _ _ _
   rw[List.getD_eq_getElem?_getD,List.getD_eq_getElem?_getD,List.getElem?_eq_getElem (show j<xs.length by lia),List.getElem?_eq_getElem (show j<ys.length by lia)];simpa using z
  ·have e:(List.range aX.toArray.size).all (fun j=>xs.getD j 0==ys.getD j 0)=decide (xs=ys):=by
    rw[<-GY xs ys hl,l1,List.size_toArray]
   rw[e];exact⟨.bl _,H,I,rfl,h⟩
 ·have e:decide (xs=ys)=false:=decide_eq_false fun z=>hl (by rw[z]);rw[e] at h;exact SeqAt.eq_list_lengthsAt pl.isList Mr.isList (by simp only[List.size_toArray,bne_iff_ne,ne_eq];lia) hu ⟨.bl false,H,I,rfl,h⟩
end
noncomputable def yX(lo st:Int)(n:Nat):It:=⟨fun i _=>i<n,fun i H x H'=>H'=H/\x=.int (lo+i*st),fun i _=>n<=i⟩
theorem sf{P:Program}{w:World}{K:PySem.W.Frag}{tg:Expr}(it:Addr)(lo st:Int)(n:Nat):
 Turn P w K tg (yX lo st n) [it] it (fun i h=>IsRangeIter h it (lo+(i:Nat)*st) ((n:Int)-(i:Nat)) st) where
 mem:=List.mem_singleton.mpr rfl
 obj:=fun i h q b hb=>by
  obtain rfl:=List.mem_singleton.mp hb;exact⟨_,q,fun v z=>by cases (show Data.fields _=Data.cell v from z)⟩
 keep:=fun i h h' q k=>k it (List.mem_singleton.mpr rfl) _ q
 item:=by
  intro X e1 e2 e3 hc i pins s σ H E I hf q hg;subst e1 e2 e3;obtain⟨f0,f1,f2,f3,f4,f5⟩:=hf it (List.mem_singleton.mpr rfl);refine(Walks.range (prog:=X.prog) (w:=X.w) (I.ok.hd hc) it lo st n).item i s _ _ hg q fun v h' tk hv q' kk=>?_;obtain⟨t,rfl⟩:=hv;have I1:Inv X pins σ H {s with heap:=h',toks:=tk}:=I.turned (fun b o hb e=>kk b o (fun z=>hb (List.mem_singleton.mp z)) e) f0 f1 f3 f4 f5;exact⟨_,rfl,rS (s:={s with heap:=h',toks:=tk}) (n:="range_iterator") q' rfl rfl (by decide) ⟨.int (lo+i*st),H,I1,⟨t,rfl⟩,⟨rfl,rfl⟩,q',fun b hb=>(hf b hb).1⟩⟩
 done:=by
  intro X e1 e2 e3 hc i pins s σ H E I hf q hg;subst e1 e2 e3;obtain⟨f0,f1,f2,f3,f4,f5⟩:=hf it (List.mem_singleton.mpr rfl);exact wpAny_pyNext_range_end (I.ok.hd hc) q (by have:n<=i:=hg;lia) fun h' eb=>⟨rfl,I.turned (t':=s.toks) (fun b o hb e=>eb b o hb e) f0 f1 f3 f4 f5⟩
 self:=fun _ _ _ _ _ q h=>wpAny_pyIter_rangeiter q h
noncomputable def Fs(ta:TA):TI:=fun σ H R=>ta σ H fun vs H1=>∃(i j k:Int)(n:Nat),vs=[.int i,.int j,.int k]/\k≠0/\k.natAbs<1073741824/\Builtin.Range.small i j k=true/\Builtin.Range.rangeSize i j k=n/\R (yX i k n) H1
theorem yY{X:Cx}{tg a b c:Expr}{ta:TA}{p pos:Pos}(hg:Gl X "range")(hm:X.mg "range"=none)(ha:PA X [a,b,c] ta)(hs:starEach [a,b,c] X.env=[(false,eval a X.env),(false,eval b X.env),(false,eval c X.env)]:=by rfl)(CQ:starEach [b,c] X.env=[(false,eval b X.env),(false,eval c X.env)]:=by rfl):PI X tg (.Call (.Name "range" p) [a,b,c] [] pos) (Fs ta):=by
 intro pins s σ H R I h;refine Call_ (gW I hg hm boot_range (PyProof.Rows.callWith_type1 (c_ (ha pos pins s σ H _ I h) fun us s1 q1=>?_) (by rw[hs,CQ]) (by rw[CQ];rfl)));obtain⟨vs,H1,I1,r1,i,j,k,n,rfl,hk,SO,SQ,hn,q⟩:=q1;cases r1 with
 |cons ra rr=>
  cases rr with
  |cons rb rr=>
   cases rr with
   |cons rc rr=>
    cases rr;obtain⟨t,rfl⟩:=ra;obtain⟨u,rfl⟩:=rb;obtain⟨v,rfl⟩:=rc;refine call_range_3 hk ?_ (.inl (PyProof.noPylong_small SO));refine wpAny_pyIter_range (IsRange.new ..) SQ ?_;have I2:Inv X pins σ H1 {s1 with heap:=s1.heap.push {cls:=.type "range",data:=.fields #[.int i t,.int j u,.int k v]}}:=I1.kept (t':=s1.toks) fun b o e=>Heap.get?_push_of_some _ e;refine⟨_,[_],_,_,H1,rfl,I2.kept (t':=s1.toks) fun b o e=>Heap.get?_push_of_some _ e,sf _ i k n,?_,fun b hb=>?_,q⟩
    ·have e1:i+((0:Nat):Int)*k=i:=by simp
     have e2:((n:Nat):Int)-((0:Nat):Int)=Builtin.Range.rangeSize i j k:=by rw[hn];simp
     show IsRangeIter _ _ (i+((0:Nat):Int)*k) (((n:Nat):Int)-((0:Nat):Int)) k;rw[e1,e2];exact Heap.get?_push_size _ rfl
    ·obtain rfl:=List.mem_singleton.mp hb;exact I2.rR (Nat.le_refl _) (I2.dE.fresh (Nat.le_refl _))
theorem ve{lo st:Int}{n:Nat}{g:TG}{tb:TS}{D:Ends}{σ:St}{H:Hp}(Pv:Nat->St->Hp->Prop)(h0:Pv 0 σ H)(hs:∀i σ H,i<n->Pv i σ H->g (.int (lo+i*st)) σ H fun fM H2=>tb {D with nx:=Pv (i+1),ct:=Pv (i+1),bk:=D.nx} fM H2)(hd:∀σ H,Pv n σ H->D.nx σ H):
 ∃W:Nat->Nat->St->Hp->Prop,(∃m,W 0 m σ H)/\∀i m σ H,W i m σ H->
  ((yX lo st n).stop i H/\D.nx σ H)\/((yX lo st n).go i H/\∃N:St->Hp->Prop,(∀cz H',N cz H'->∃m',m'<m/\W (i+1) m' cz H')/\∀x H',(yX lo st n).uT i H x H'->g x σ H' fun fM H2=>tb {D with nx:=N,ct:=N,bk:=D.nx} fM H2):=by
 refine⟨fun i m σ H=>m=n-i/\i<=n/\Pv i σ H,⟨n,rfl,Nat.zero_le _,h0⟩,fun i m σ H q=>?_⟩;obtain⟨rfl,hi,p⟩:=q;by_cases eE:i<n
 ·refine .inr ⟨eE,Pv (i+1),fun cz H' p'=>⟨n-(i+1),by lia,rfl,eE,p'⟩,fun x H' y=>?_⟩;obtain⟨rfl,rfl⟩:=y;exact hs i σ _ eE p
 ·obtain rfl:i=n:=by lia
  exact .inl ⟨Nat.le_refl _,hd σ H p⟩
structure bq(P:Program)(w:World)(K:PySem.W.Frag)(mg:Str->Option Value)(base:Heap)(k:Nat)(x:Str)(ps:List Str)(sp:Sp):Prop where
 ex:∃f fd,iN P w K mg base z_ k f fd ps sp/\mg x=some (.ref f)/\PySem.W.keepIn K (.ref f)=true/\Binds K fd ps []
structure aL(K:PySem.W.Frag)(mg:Str->Option Value)(x:Str)(st:Stmt)(ps:List Str):Prop where
 ex:∃f fd,Dq K x x st f fd/\mg x=some (.ref f)/\Binds K fd ps []
section
variable {P:Program} {w:World} {K:PySem.W.Frag} {mg:Str->Option Value} {base:Heap} {x:Str} {st:Stmt} {N ps:List Str} {j k:Nat} {sp Wi:Sp}
theorem bq.mono(F:bq P w K mg base j x ps sp)(h:j<=k):bq P w K mg base k x ps sp:=
 let⟨f,fd,a,b,c,d⟩:=F.ex
 ⟨f,fd,a.mono h,b,c,d⟩
theorem aL.ok(D:aL K mg x st ps)(S:aA N ps (ao st))(len:∀vs H Q E,sp vs H Q E->vs.length=ps.length)(rX:∀(f:Addr)(cD:Value)(A:Around)(outer:List Env)(s:Shared)(H:Hp)(vs:List V)(Q:VK)(E:XK),fk k (A.deeper (envOfC x (ao st) s.heap.objs.size f cD))->sp vs H Q E->
 ∃t,uM (u9 z_ P w K mg base N x (ao st) f cD A outer s H E).IU (eI st) t/\t {nx:=fun _ H'=>Q .eT H',rt:=Q} (start N vs) H):bq P w K mg base (k+1) x ps sp:=
 let⟨f,fd,a,b,c⟩:=D.ex
 ⟨f,fd,a.ok S len fun cD A outer s H vs Q E=>rX f cD A outer s H vs Q E,b,a.kp,c⟩
end
theorem aM{K:PySem.W.Frag}{h:Heap}{mg:Str->Option Value}{x:Str}{st:Stmt}{ps:List Str}{f:Addr}{od an:Option Addr}{sl:Array (Option Value)}{oc kV doc pm cd ct:Value}(X:K.In h)(G:h.Ns mainGlobals mg)(a:PySem.W.nsIn K mainGlobals x=some (some (.ref f)))(l:K.lookup f=some ⟨oc,od,.func (PySem.W.fnOf x x (fB st) (eI st) (ao st) .none kV doc pm an cd ct),sl⟩)(c:PySem.W.codeIn K cd x=true)(k:PySem.W.keepIn K (.ref f)=true)(b:∀(kV doc pm:Value)(an:Option Addr)(cD ct:Value)(us:List Value),us.length=ps.length->bindArgs (PySem.W.fnOf x x (fB st) (eI st) (ao st) .none kV doc pm an cD ct) ⟨us,[]⟩=pure (ps.zip us)):aL K mg x st ps:=
 have F:=AG (st:=st) l c k
 ⟨_,_,F,PySem.W.mg_of X G a,F.binds b⟩
theorem av{X:Cx}{k:Nat}{x:Str}{ps:List Str}{sp:Sp}{p pos:Pos}{e:Expr}{es:List Expr}{t:TA}(F:bq X.prog X.w X.K X.mg X.base k x ps sp)(hr:fk k X.A)(ha:PA X (e::es) t)(hg:Gl X x:=by rfl)(Dk:(x==("__debug__":Str))=false:=by decide)(he:starEach (e::es) X.env=(false,eval e X.env)::starEach es X.env:=by rfl)(rJ:(backTo pos (starEach es X.env)).any (·.1)=false:=by rfl):PE X (.Call (.Name x p) (e::es) [] pos) (Ay sp [] E0 t):=
 let⟨_,_,a,b,c,d⟩:=F.ex
 Dj a hr hg b c d .nil AF ha Dk he rJ
section
variable {σ:St} {H:Hp} {Q:VK} {D:Ends} {te ta tb:TE} {tr:TA} {ts us:TS} {tt uu:TT} {QB:Bool->Hp->Prop} {QA:List V->Hp->Prop}
theorem J8(h:ts {D with nx:=us D} σ H):JC ts us D σ H:=h
theorem J9{i:Nat}(h:te σ H fun x H1=>D.nx (σ.set i (some x)) H1):Ao te (oN i) D σ H:=h
theorem J_{g:TG}(h:te σ H fun x H1=>g x σ H1 D.nx):Ao te g D σ H:=h
theorem J'(h:te σ H D.rt):JD te D σ H:=h
theorem G0(h:te σ H fun _ H1=>D.nx σ H1):Fb te D σ H:=h
theorem G1(h:D.nx σ H):E_ D σ H:=h
theorem Ka{i:Nat}{v:V}(e:σ[i]?=some (some v))(h:Q v H):GD i σ H Q:=⟨v,e,h⟩
theorem Kb{wi:TI}{g:TG}(h:wi σ H fun J H1=>∃W:Nat->Nat->St->Hp->Prop,(∃m,W 0 m σ H1)/\∀i m σ H,W i m σ H->
 (J.stop i H/\D.nx σ H)\/(J.go i H/\∃N:St->Hp->Prop,(∀cz H',N cz H'->∃m',m'<m/\W (i+1) m' cz H')/\∀x H',J.uT i H x H'->g x σ H' fun fM H2=>ts {D with nx:=N,ct:=N,bk:=D.nx} fM H2)):JK wi g ts D σ H:=h
theorem G2{R:It->Hp->Prop}(h:tr σ H fun vs H1=>∃(i j k:Int)(n:Nat),vs=[.int i,.int j,.int k]/\k≠0/\k.natAbs<1073741824/\Builtin.Range.small i j k=true/\Builtin.Range.rangeSize i j k=n/\R (yX i k n) H1):Fs tr σ H R:=h
theorem Dr{i:Nat}{v:V}{R:St->Hp->Prop}(h:R (σ.set i (some v)) H):oN i v σ H R:=h
theorem kG{K:PySem.W.Frag}{n:Nat}{t:CP}{a:Addr}{xs:List V}{R:St->Hp->Prop}(hs:cC K H a xs)(hl:xs.length=n)(h:t xs σ H R):GI K n t (.ref a) σ H R:=⟨a,xs,rfl,hs,hl,h⟩
theorem Ds{t:TG}{u:CP}{v:V}{r:List V}{R:St->Hp->Prop}(h:t v σ H fun cz H'=>u r cz H' R):Fc t u (v::r) σ H R:=⟨v,r,rfl,h⟩
theorem G3{R:St->Hp->Prop}(h:R σ H):JH [] σ H R:=⟨rfl,h⟩
theorem SR{v:V}(h:Q v H):tC v σ H Q:=h
theorem NW{r:R2}(h:ta σ H fun x H1=>tb σ H1 fun y H2=>r x y H2 Q):JL r ta tb σ H Q:=h
theorem NX{r:V->Hp->VK->Prop}(h:ta σ H fun x H1=>r x H1 Q):Qp r ta σ H Q:=h
theorem NY{g:Int->Int->V}{i j:Int}(h:Q (g i j) H):Fh g (.int i) (.int j) H Q:=⟨i,j,rfl,rfl,h⟩
theorem bN{C:Int->Int->Prop}{g:Int->Int->V}{i j:Int}(c:C i j)(h:Q (g i j) H):rI C g (.int i) (.int j) H Q:=⟨i,j,rfl,rfl,c,h⟩
theorem SS{g:Int->V}{i:Int}(h:Q (g i) H):rU g (.int i) H Q:=⟨i,rfl,h⟩
theorem G4(h:te σ H fun x H'=>∃k,x=.bl k/\QB k H'):Fj te σ H QB:=h
theorem NZ(h:te σ H fun x H'=>∃k,x=.bl k/\QB k H'):tB te σ H QB:=h
theorem N0{k:Bool}{R:Bool->Prop}(h:R k):∃k',V.bl k=.bl k'/\R k':=⟨k,rfl,h⟩
theorem Kc{i j:Int}(h:Q (.bl (decide (i=j))) H):Ml (.int i) (.int j) H Q:=⟨rfl,by rw[show decide (V.int i=V.int j)=decide (i=j) by rw[Bool.eq_iff_iff];simp];exact h⟩
theorem Kd{i j:Int}(h:Q (.bl (!decide (i=j))) H):Nu (.int i) (.int j) H Q:=⟨rfl,by rw[show decide (V.int i=V.int j)=decide (i=j) by rw[Bool.eq_iff_iff];simp];exact h⟩
theorem Ke(h:tt σ H fun b H1=>if b=true then ts D σ H1 else us D σ H1):JE tt ts us D σ H:=h
theorem Kf(h:tt σ H fun c H1=>if c=true then ta σ H1 Q else tb σ H1 Q):Qm tt ta tb σ H Q:=h
theorem Kg(h:tt σ H fun c H1=>if c=true then uu σ H1 QB else QB false H1):Jz tt uu σ H QB:=h
theorem N1(h:tt σ H fun c H1=>if c=true then QB true H1 else uu σ H1 QB):Ql tt uu σ H QB:=h
theorem Kh(h:tt σ H fun c H1=>QB (!c) H1):JA tt σ H QB:=h
theorem G5(h:ta σ H fun x H1=>∃c,x=.bl c/\if c=true then tb σ H1 Q else Q (.bl false) H1):E9 ta tb σ H Q:=h
theorem Ki(h:ta σ H fun x H1=>∃c,x=.bl c/\if c=true then Q (.bl true) H1 else tb σ H1 Q):Nn ta tb σ H Q:=h
theorem G6(h:ta σ H fun x H1=>∃c,x=.bl c/\Q (.bl (!c)) H1):JB ta σ H Q:=h
theorem Kj(h:QA [] H):JO σ H QA:=h
theorem G7(h:te σ H fun x H1=>tr σ H1 fun xs H2=>QA (x::xs) H2):Fl te tr σ H QA:=h
theorem G8{sp:Sp}{E:XK}(h:tr σ H fun vs H1=>sp (vs++[]) H1 Q E):Ay sp [] E tr σ H Q:=h
theorem N2{r:List V->Hp->VK->Prop}(h:tr σ H fun vs H1=>r vs H1 Q):ND r tr σ H Q:=h
theorem Kk(h:tr σ H fun xs H1=>xs.length<=sizeLine/\∀p,H1 p=none->Q (.ref p) (upd H1 p (.tup xs))):JP tr σ H Q:=h
theorem Km(h:tr σ H fun xs H1=>xs.length<=sizeLine/\∀p,H1 p=none->Q (.ref p) (upd H1 p (.lst xs))):JQ tr σ H Q:=h
theorem Kn{K:PySem.W.Frag}{i:Int}{R:Bool->Prop}(h:R (i !=0)):∃k,Dd K (.int i) H k/\R k:=⟨_,rfl,h⟩
theorem aK{K:PySem.W.Frag}{p:Addr}{xs:List V}{i:Int}{v:V}(hs:cC K H p xs)(he:mf xs i=some v)(h:Q v H):JW K (.ref p) (.int i) H Q:=⟨p,xs,i,v,rfl,rfl,hs,he,h⟩
theorem dr{K:PySem.W.Frag}{p:Addr}{xs:List V}{i:Int}{v:V}(hs:aZ K H p xs)(he:mf xs i=some v)(h:Q v H):JV K (.ref p) (.int i) H Q:=⟨p,xs,i,v,rfl,rfl,hs,he,h⟩
theorem bZ{n:Nat}(h:n<=1000):n<=sizeLine:=Nat.le_of_lt (yW h)
theorem au.new{H:Hp}{p:Addr}(h:H p=none)(o:HO):au H (upd H p o):=fun b u q=>by rw[aH (aI q h)];exact q
end
end L2
namespace L2
open PySem PySem.Spec PyProof.Rows
noncomputable def AI(K:PySem.W.Frag)(a:Addr):It:=
 ⟨fun i H=>∃xs x,aZ K H a xs/\xs[i]?=some x,fun i H x H'=>∃p y,H p=none/\x=.ref p/\H'=upd H p (.tup [.int (i:Int),y])/\∀xs,aZ K H a xs->xs[i]?=some y,fun i H=>∃xs,aZ K H a xs/\xs.length<=i⟩
noncomputable def IY(K:PySem.W.Frag)(a:Addr)(n:Nat):It:=
 ⟨fun i H=>i<n/\∃xs x,aZ K H a xs/\xs[n-1-i]?=some x,fun i H x H'=>H'=H/\∀xs,aZ K H a xs->xs[n-1-i]?=some x,fun i _=>i=n⟩
theorem mj{b e it:Addr}(h:b∈[e,it]):b=e\/b=it:=by
 rcases List.mem_cons.mp h with z|z
 ·exact .inl z
 ·exact .inr (List.mem_singleton.mp z)
theorem yZ{P:Program}{w:World}{K:PySem.W.Frag}{es:List Expr}{k:Nat}{tp:Pos}(a e it:Addr)(eQ:e≠it):
 Turn P w K (.Tuple es k tp) (AI K a) [e,it] e (fun i h=>∃old,IsEnum h e it ((i:Nat):Int) old/\h.IsListIter it a i) where
 mem:=List.mem_cons_self
 obj:=fun i h q b hb=>by
  obtain⟨old,q1,o,q2,c2,d2⟩:=q;rcases mj hb with rfl|rfl
  ·exact⟨_,q1,fun v z=>by cases (show Data.fields _=Data.cell v from z)⟩
  ·exact⟨o,q2,fun v z=>by rw[d2] at z;cases z⟩
 keep:=fun i h h' q kk=>by
  obtain⟨old,q1,q2⟩:=q;exact⟨old,kk e List.mem_cons_self _ q1,q2.at fun o z=>kk it (List.mem_cons_of_mem _ (List.mem_singleton.mpr rfl)) o z⟩
 item:=by
  intro X e1 e2 e3 hc i pins s σ H E I hf q hg;subst e1 e2 e3;obtain⟨old,q1,q2⟩:=q;obtain⟨xs,x,hq,hx⟩:=hg;obtain⟨aX,rv,pl,hz⟩:=I.list hq;obtain⟨u,hu,ru⟩:=rv.get hx;obtain⟨f0,f1,f2,f3,f4,f5⟩:=hf e List.mem_cons_self;obtain⟨g0,g1,g2,g3,g4,g5⟩:=hf it (List.mem_cons_of_mem _ (List.mem_singleton.mpr rfl));refine wpAny_pyNext_enum_item q1 q2 pl.isList (x:=u) (by simpa using hu) eQ fun h1 eo SU tu xc hk=>?_;refine⟨_,rfl,wpAny_letOwnedTupleGo_enum eo fun h2 SV sb=>?_⟩;have N3:Heap.SameBut e h1 h2:=sb;have IZ:H s.heap.objs.size=none:=I.fresh;have hp:e≠s.heap.objs.size:=Nat.ne_of_lt (Heap.lt_size q1);have kp:∀b o,b≠e->b≠it->s.heap.get? b=some o->h2.get? b=some o:=fun b o h3 h4 z=>N3.extBut b o h3 (hk b o h3 h4 z);have Ms:∀b o,H b=some o->b≠e/\b≠it:=fun b o z=>⟨aI z f0,aI z g0⟩;have N4:IsTup h2 s.heap.objs.size [Value.int (i:Int) s.toks,u].toArray:=⟨_,(N3.2 _ (Ne.symm hp)).trans tu,rfl,_,rfl⟩;have rt:Vals [V.int (i:Int),x] [Value.int (i:Int) s.toks,u]:=.cons ⟨_,rfl⟩ (.cons ru .nil);have dE:lS X.prog X.w (upd H s.heap.objs.size (.tup [.int (i:Int),x])) h2:=fun b o z=>by
   by_cases hb:b=s.heap.objs.size
   ·subst hb;rw[ak] at z;cases z;exact⟨by show 2<=sizeLine;decide,_,rt,N4⟩
   ·rw[aH hb] at z;refine(I.dE b o z).yG (fun c v GB r=>?_) (fun c r=>by rw[aH (aI r IZ)];exact r) fun c ys r=>by rw[aH (aI r IZ)];exact r
    rcases GB with rfl|GB
    ·exact kp _ _ (Ms _ _ z).1 (Ms _ _ z).2 r
    ·exact kp _ _ (Ms _ _ GB).1 (Ms _ _ GB).2 r
  have I0:∀{b:Addr},b∉[e,it]->b≠e/\b≠it:=fun h3=>⟨fun z=>h3 (by rw[z];exact List.mem_cons_self),fun z=>h3 (by rw[z];exact List.mem_cons_of_mem _ (List.mem_singleton.mpr rfl))⟩;have un:Un (yI X.stack) [e,it] H (upd H s.heap.objs.size (.tup [.int (i:Int),x])) s.heap h2:=
   ⟨fun b o z _ _ h4=>kp b o (I0 h4).1 (I0 h4).2 z,fun b o z _ _ h4=>⟨o.slots,kp b o (I0 h4).1 (I0 h4).2 z⟩,
    fun b o z n _=>by rw[aH (Nat.ne_of_lt (Heap.lt_size z))];exact n,fun b o z h4=>⟨o,kp b o (I0 h4).1 (I0 h4).2 z⟩,
    fun b ys z=>by rw[aH (aI z IZ)];exact z,fun b o u z=>by rw[aH (aI z IZ)];exact z,fun b ps z=>⟨#[],by rw[aH (aI z IZ),z];simp⟩⟩
  have I2:Inv X pins σ (upd H s.heap.objs.size (.tup [.int (i:Int),x])) {s with heap:=h2,toks:=s.toks+1}:=
   I.call (g':=s.gens) (d':=s.drawn) (t':=s.toks+1) (ch:=[e,it]) un dE I.bare fun b hb=>by
    rcases mj hb with rfl|rfl
    ·exact⟨f3,f1,f4,f5⟩
    ·exact⟨g3,g1,g4,g5⟩
  have i2:h2.IsListIter it a (i+1):=SU.at fun o z=>N3.extBut it o (Ne.symm eQ) z;refine⟨.ref s.heap.objs.size,_,I2,rfl,⟨_,x,IZ,rfl,rfl,fun ys hy=>by rw[I.mG hy hq];exact hx⟩,⟨u,SV,i2⟩,fun b hb=>?_⟩;rcases mj hb with rfl|rfl
  ·rw[aH hp];exact f0
  ·obtain⟨o,z,_⟩:=q2;rw[aH (Nat.ne_of_lt (Heap.lt_size z))];exact g0
 done:=by
  intro X e1 e2 e3 hc i pins s σ H E I hf q hg;subst e1 e2 e3;obtain⟨old,q1,q2⟩:=q;obtain⟨xs,hq,hx⟩:=hg;obtain⟨aX,rv,pl,hz⟩:=I.list hq;have hl:=rv.length;obtain⟨g0,g1,g2,g3,g4,g5⟩:=hf it (List.mem_cons_of_mem _ (List.mem_singleton.mpr rfl));exact wpAny_pyNext_enum_end (I.ok.hd hc) q1 q2 pl.isList (by simp;lia) fun h' eb=>⟨rfl,I.turned (t':=s.toks) (fun b o hb z=>eb b o hb z) g0 g1 g3 g4 g5⟩
 self:=fun _ _ _ _ _ q h=>let⟨_,q1,_⟩:=q;wpAny_pyIter_enum q1 h
noncomputable def Ft(K:PySem.W.Frag)(ta:TA):TI:=fun σ H R=>ta σ H fun vs H1=>∃a,vs=[.ref a]/\(∃xs,aZ K H1 a xs)/\R (AI K a) H1
theorem pZ{X:Cx}{es:List Expr}{k:Nat}{tp:Pos}{a:Expr}{ta:TA}{p pos:Pos}(hg:Gl X "enumerate")(hm:X.mg "enumerate"=none)(ha:PA X [a] ta)(hs:starEach [a] X.env=[(false,eval a X.env)]:=by rfl):
 PI X (.Tuple es k tp) (.Call (.Name "enumerate" p) [a] [] pos) (Ft X.K ta):=by
 intro pins s σ H R I h;refine Call_ (gW I hg hm boot_enumerate (PyProof.Rows.callWith_type1 (c_ (ha pos pins s σ H _ I h) fun us s1 q1=>?_) hs rfl));obtain⟨vs,H1,I1,r1,l,rfl,⟨xs,hq⟩,q⟩:=q1;obtain⟨u,rfl,rx⟩:=vals1 r1;cases rx;obtain⟨aX,rv,pl,hz⟩:=I1.list hq;refine call_enumerate_list pl.isList fun h' he hit xc hk=>?_;have I2:Inv X pins σ H1 {s1 with heap:=h'}:=I1.kept (t':=s1.toks) hk;refine wpAny_pyIter_enum he ?_;have old:∀b,s1.heap.objs.size<=b->kA X pins H1 b:=fun b hb=>I1.rR hb (I1.dE.fresh hb);refine⟨_,[_,_],_,_,H1,rfl,I2,yZ l _ _ (Nat.succ_ne_self _),⟨_,he,hit⟩,fun b hb=>?_,q⟩;rcases mj hb with rfl|rfl
 ·exact old _ (Nat.le_succ _)
 ·exact old _ (Nat.le_refl _)
theorem AJ{P:Program}{w:World}{K:PySem.W.Frag}{tg:Expr}(a it:Addr)(n:Nat):Turn P w K tg (IY K a n) [it] it (fun i h=>i<=n/\h.IsRevIter it a ((n:Int)-1-(i:Nat))) where
 mem:=List.mem_singleton.mpr rfl
 obj:=fun i h q b hb=>by
  obtain rfl:=List.mem_singleton.mp hb;obtain⟨_,o,e,c,d⟩:=q;exact⟨o,e,fun v z=>by rw[d] at z;cases z⟩
 keep:=fun i h h' q kk=>⟨q.1,q.2.at fun o z=>kk it (List.mem_singleton.mpr rfl) o z⟩
 item:=by
  intro X e1 e2 e3 hc i pins s σ H E I hf q hg;subst e1 e2 e3;obtain⟨Mt,q⟩:=q;obtain⟨hi,xs,x,hq,hx⟩:=hg;obtain⟨aX,rv,pl,hz⟩:=I.list hq;obtain⟨u,hu,ru⟩:=rv.get hx;obtain⟨f0,f1,f2,f3,f4,f5⟩:=hf it (List.mem_singleton.mpr rfl);have ei:(n:Int)-1-(i:Nat)=((n-1-i:Nat):Int):=by lia
  rw[ei] at q;refine wpAny_pyNext_rev_item q pl.isList (x:=u) (by simpa using hu) fun h' q' sb=>?_;have I1:Inv X pins σ H {s with heap:=h'}:=I.turned (t':=s.toks) (fun b o hb z=>sb.extBut b o hb z) f0 f1 f3 f4 f5;obtain⟨o,eo,co,SW⟩:=id q';refine⟨u,rfl,rS (s:={s with heap:=h'}) eo co SW (by decide) ⟨x,H,I1,ru,⟨rfl,fun ys hy=>by rw[I.mG hy hq];exact hx⟩,⟨by lia,?_⟩,fun b hb=>(hf b hb).1⟩⟩;have e2:(n:Int)-1-((i+1:Nat):Int)=((n-1-i:Nat):Int)-1:=by lia
  show h'.IsRevIter it a ((n:Int)-1-((i+1:Nat):Int));rw[e2];exact q'
 done:=by
  intro X e1 e2 e3 hc i pins s σ H E I hf q hg;subst e1 e2 e3;obtain⟨Mt,q⟩:=q;have Dt:i=n:=hg;subst Dt;obtain⟨f0,f1,f2,f3,f4,f5⟩:=hf it (List.mem_singleton.mpr rfl);have ei:(i:Int)-1-(i:Nat)=-1:=by lia
  rw[ei] at q;exact wpAny_pyNext_rev_end (I.ok.hd hc) q fun h' eb=>⟨rfl,I.turned (t':=s.toks) (fun b o hb z=>eb b o hb z) f0 f1 f3 f4 f5⟩
 self:=fun _ _ _ _ _ q h=>wpAny_pyIter_revIter q.2 h
noncomputable def Ko(K:PySem.W.Frag)(ta:TA):TI:=fun σ H R=>ta σ H fun vs H1=>∃a xs,vs=[.ref a]/\aZ K H1 a xs/\R (IY K a xs.length) H1
theorem vf{X:Cx}{tg a:Expr}{ta:TA}{p pos:Pos}(hg:Gl X "reversed")(hm:X.mg "reversed"=none)(ha:PA X [a] ta)(hs:starEach [a] X.env=[(false,eval a X.env)]:=by rfl):
 PI X tg (.Call (.Name "reversed" p) [a] [] pos) (Ko X.K ta):=by
 intro pins s σ H R I h;refine Call_ (gW I hg hm boot_reversed (PyProof.Rows.callWith_type1 (c_ (ha pos pins s σ H _ I h) fun us s1 q1=>?_) hs rfl));obtain⟨vs,H1,I1,r1,l,xs,rfl,hq,q⟩:=q1;obtain⟨u,rfl,rx⟩:=vals1 r1;cases rx;obtain⟨aX,rv,pl,hz⟩:=I1.list hq;refine call_reversed_list pl.isList ?_;have e0:(aX.toArray.size:Int)-1=(xs.length:Int)-1-((0:Nat):Int):=by rw[List.size_toArray,<-rv.length];simp
 rw[e0];have I2:Inv X pins σ H1 {s1 with heap:=s1.heap.push (revObj l ((xs.length:Int)-1-((0:Nat):Int)))}:=I1.kept (t':=s1.toks) fun b o e=>Heap.get?_push_of_some _ e;have q0:(s1.heap.push (revObj l ((xs.length:Int)-1-((0:Nat):Int)))).IsRevIter s1.heap.objs.size l ((xs.length:Int)-1-((0:Nat):Int)):=⟨_,Heap.get?_push_size _ rfl,rfl,rfl⟩;refine wpAny_pyIter_revIter q0 ?_;refine⟨_,[_],_,_,H1,rfl,I2,AJ l _ xs.length,⟨Nat.zero_le _,q0⟩,fun b hb=>?_,q⟩;obtain rfl:=List.mem_singleton.mp hb;exact I1.rR (Nat.le_refl _) (I1.dE.fresh (Nat.le_refl _))
end L2
namespace L2
open PySem PySem.Spec PyProof.Rows
section
variable {prog:Program} {w:World} {A:Around} {R:Result->Shared->Prop} {s:Shared}
theorem y3{elt tg Qx:Expr}{sc:Scope}{ps:Pos}{it acc:Value}{en:Env}(J:Nat->Shared->Prop)(turn:∀n s,J n s->wpAny (model prog w) A (pyNext it) (fun r s1=>match r with
 |none=>R (.ok .next) s1
 |some v=>wpAny (model prog w) A (letOwnedTupleGo tg it v) (fun _ s2=>wpAny (model prog w) A (assign tg en v) (fun _ s3=>wpAny (model prog w) A (eval elt en) (fun x s4=>
  wpAny (model prog w) A (call (.builtin "list.append") [acc,x]) (fun _ s5=>∃m,m<n/\J m s5) (fun _ _=>False) s4) (fun _ _=>False) s3) (fun _ _=>False) s2) (fun _ _=>False) s1) (fun _ _=>False) s)(n:Nat)(h:J n s):codeAny (model prog w) A (.compLoop (.ListComp elt [⟨tg,Qx,[],0⟩] sc ps) 0 it acc en) R s:=by
 refine codeAny_loop rfl J (fun n s hJ=>?_) n h;show wpAny (model prog w) A ((compTurn (.ListComp elt [⟨tg,Qx,[],0⟩] sc ps) 0 it acc en).onRaise (fun x=>do noteFrame x en;theTreesLotGoes x)) _ _ s;refine wpAny_noted ?_;rw[compTurn_list1];have no:∀{α:Type}{t:Sem α}{Q:α->Shared->Prop}{E:Value->Shared->Prop}{s:Shared},wpAny (model prog w) A t Q (fun _ _=>False) s->wpAny (model prog w) A t Q E s:=
  fun h=>wpAny_mono h (fun _ _ q=>q) fun _ _ z=>z.elim
 refine wpAny_bind (wpAny_standAt (wpAny_bind (c_ (no (turn n s hJ)) fun r s1 h1=>?_)));cases r with
 |none=>exact wpAny_pure h1
 |some v=>
  refine wpAny_bind (c_ (no h1) fun _ s2 h2=>?_);refine wpAny_bind (c_ (no h2) fun _ s3 h3=>?_);refine wpAny_bind (wpAny_bind (c_ (no h3) fun x s4 h4=>?_));refine wpAny_bind (c_ (no h4) fun _ s5 h5=>?_);exact wpAny_pure (wpAny_pure ⟨rfl,h5⟩)
end
noncomputable def eX(X:Cx)(scope:Scope)(cl:List (Str×Addr))(C:Addr)(s:Shared)(H:Hp)(M:List Str)(ex:List Addr)(pins:List (Addr×Obj)):Cx:=
 {X with N:=M,fL:=s,Ai:=H,env:=compEnvC scope cl C X.env,outer:=X.stack,ex:=ex,fn:=fun _=>false,pn:=X.pn++pins,xe:=fun _ _=>False}
structure mM(X:Cx)(scope:Scope)(cl:List (Str×Addr))(own:List Str)(fr:List Nat)(M:List Str):Prop where
 AK:closureFor scope X.env=pure cl
 kind:scope.kind=.function
 names:∀x∈scope.names,x.2=.local->scope.names.lookup x.1=some .local
 mN:∀x∈scope.names,x.2≠.cell
 cls:∀x c,cl.lookup x=some c->X.env.cells.lookup x=some c
 has:∀x,((relabel scope X.env).names.lookup x=some .cell\/(relabel scope X.env).names.lookup x=some .free)->∃c,cl.lookup x=some c
 len:M.length=own.length+fr.length
 N5:∀(i:Nat) x,own[i]?=some x->M[i]?=some x
 Fu:∀(j i:Nat) x,fr[j]?=some i->M[own.length+j]?=some x->X.N[i]?=some x/\X.env.scope.names.lookup x=some .cell/\(∃c,cl.lookup x=some c)/\((relabel scope X.env).names.lookup x=some .cell\/(relabel scope X.env).names.lookup x=some .free)
noncomputable def g8(own:List Str)(fr:List Nat)(σ:St):St:=List.replicate own.length none++fr.map fun i=>(σ[i]?).join
section
variable {X:Cx} {pins:List (Addr×Obj)} {σ:St} {H:Hp} {s:Shared} {scope:Scope} {cl:List (Str×Addr)} {own:List Str} {fr:List Nat} {M:List Str}
theorem Inv.comp(I:Inv X pins σ H s)(K:mM X scope cl own fr M){fp:List Addr}(hf:∀b∈fp,kA X pins H b)(ho:∀b∈fp,∃o,s.heap.get? b=some o/\∀v,o.data≠.cell v){h':Heap}{m:Str->Option Value}{tk:Nat}(hn:h'.Ns s.heap.objs.size m)(hk:∀b u,s.heap.get? b=some u->h'.get? b=some u):
 Inv (eX X scope cl s.heap.objs.size s H M fp pins) [] (g8 own fr σ) H {s with heap:=h',toks:=tk}:=by
 have hC:H s.heap.objs.size=none:=I.dE.fresh (Nat.le_refl _);have N6:∀{b o},s.heap.get? b=some o->b≠s.heap.objs.size:=fun e=>Nat.ne_of_lt (Heap.lt_size e);have Jv:∀x c,X.env.cells.lookup x=some c->c≠s.heap.objs.size:=fun x c e=>by
  obtain⟨v,o,q,_⟩:=I.cell x c e;exact N6 q
 have Qy:∀b,b≠X.env.locals->b∉X.fs->b∉yI X.stack:=fun b h1 h2 z=>(List.mem_cons.mp (I.pM b z)).elim h1 h2;refine⟨⟨I.ok.mod,K.kind,I.ok.glob,I.ok.blt,Nat.le_refl _,fun x y c h1 h2=>I.ok.inj x y c (K.cls x c h1) (K.cls y c h2),fun x hx=>K.has x hx,(fun x c h _=>Bool.noConfusion h),I.ok.hd,I.ok.frames,.inl rfl,fun b hb=>?_,I.bs,Nat.le_trans I.ok.C7 I.sz,fun b o e hb=>?_,fun b hb=>?_,I.stack,I.wX⟩,
  rfl,I.bare,Un.kept hk,⟨m,hn,fun i x v h1 h2 h3=>?_⟩,fun x c h=>?_,hC,fun x c h=>I.jt x c (K.cls x c h),fun p hp=>?_,I.dE.kept hk,?_⟩
 ·obtain⟨o,e,_⟩:=ho b hb;exact⟨N6 e,fun x c h z=>(hf b hb).2.2.2.2.1 x c (K.cls x c h) z⟩
 ·have:=(hf b hb);rcases this.2.2.2.1 with z|z
  ·exact I.ok.Aj b o e z
  ·exact absurd (Nat.lt_of_lt_of_le (Heap.lt_size e) (Nat.le_trans I.ok.C7 z)) (Nat.lt_irrefl _)
 ·exact Qy b (hf b hb).2.1 (hf b hb).2.2.1
 ·unfold g8 at h2;by_cases hi:i<own.length
  ·rw[List.getElem?_append_left (by simpa using hi),List.getElem?_replicate,if_pos hi] at h2;cases h2
  ·obtain⟨j,rfl⟩:∃j,i=own.length+j:=⟨i-own.length,by lia⟩;rw[List.getElem?_append_right (by simp),List.length_replicate,Nat.add_sub_cancel_left,List.getElem?_map] at h2;cases e:fr[j]? with
   |none=>rw[e] at h2;cases h2
   |some k=>
    rw[e] at h2;have Mu:(σ[k]?).join=some v:=Option.some.inj h2;obtain⟨q1,q2,⟨c,q3⟩,q4⟩:=K.Fu j k x e h1;have h5:σ[k]?=some (some v):=by
     cases z:σ[k]? with
     |none=>rw[z] at Mu;cases Mu
     |some y=>
      rw[z] at Mu;exact congrArg some Mu
    obtain⟨m0,_,hl⟩:=I.loc;obtain⟨u,r,l⟩:=hl k x v q1 h5 (.inr (.inl q2));refine⟨u,r,.inr ⟨q4,c,q3,?_⟩⟩;rcases l with⟨k1,_⟩|⟨_,c',e1,z⟩
    ·have QC:X.env.scope.names.lookup x=some .local:=k1;rw[q2] at QC;cases QC
    ·have e2:=K.cls x c q3;rw[e1] at e2;cases e2;obtain⟨o,eo,ed⟩:=z;exact⟨o,hk _ _ eo,ed⟩
 ·obtain⟨v,o,eo,ed⟩:=I.cell x c (K.cls x c h);exact⟨v,o,hk _ _ eo,ed⟩
 ·have SX:p∈X.pn++pins:=by
   rcases List.mem_append.mp hp with z|z
   ·exact z
   ·cases z
  obtain⟨e,n,ne,nf,d⟩:=I.pin p SX;exact⟨hk _ _ e,n,N6 e,Qy _ ne nf,d⟩
 ·unfold g8;rw[List.length_append,List.length_replicate,List.length_map];exact K.len.symm
theorem Inv.G9{h:Heap}{s':Shared}{H':Hp}{cz:St}{C:Addr}{fp:List Addr}(I:Inv X pins σ H s)(hf:∀b∈fp,kA X pins H b)(I':Inv (eX X scope cl C s H M fp pins) [] cz H' s'):Inv X pins σ H' s':=
 I.Jy I'.os I'.base I'.dE I'.bare fun b hb=>⟨(hf b hb).2.2.2.1,(hf b hb).2.1,(hf b hb).2.2.2.2.1,(hf b hb).2.2.2.2.2⟩
noncomputable def xm(own:List Str)(fr:List Nat)(wi:TI)(g:TG)(te:TE):TE:=fun σ H Q=>wi σ H fun J H1=>∀D,H1 D=none->∃W:Nat->Nat->St->Hp->Prop,(∃m,W 0 m (g8 own fr σ) (upd H1 D (.lst [])))/\∀i m fM H2,W i m fM H2->
 (J.stop i H2/\Q (.ref D) H2)\/(J.go i H2/\∀x H3,J.uT i H2 x H3->g x fM H3 fun dw H4=>te dw H4 fun y H5=>∃ys,H5 D=some (.lst ys)/\ys.length<sizeLine/\∃m',m'<m/\W (i+1) m' dw (upd H5 D (.lst (ys++[y]))))
theorem mO{elt tg iter:Expr}{ps:Pos}{g:TG}{te:TE}{it D:Addr}{fp:List Addr}{tn:Nat->Heap->Prop}{J:It}{H1:Hp}{s3:Shared}{W:Nat->Nat->St->Hp->Prop}{Qz:Hp->Prop}{Rz:Result->Shared->Prop}{C:Addr}(hc:X.calm=true)(K:mM X scope cl own fr M)(I3:Inv X pins σ H1 s3)(T:Turn X.prog X.w X.K tg J fp it tn)(st:tn 0 s3.heap)(hf:∀b∈fp,kA X pins H1 b)(hg:PG (eX X scope cl C s3 H1 M fp pins) tg g)(he:PE (eX X scope cl C s3 H1 M fp pins) elt te)(w0:∃m,W 0 m (g8 own fr σ) H1)(turn:∀i m fM H2,W i m fM H2->(J.stop i H2/\Qz H2)\/(J.go i H2/\∀x H3,J.uT i H2 x H3->g x fM H3 fun dw H4=>te dw H4 fun y H5=>∃ys,H5 D=some (.lst ys)/\ys.length<sizeLine/\∃m',m'<m/\W (i+1) m' dw (upd H5 D (.lst (ys++[y]))))){h':Heap}{m0:Str->Option Value}{tk:Nat}(hC:C=s3.heap.objs.size)(hn:h'.Ns C m0)(hk:∀b u,s3.heap.get? b=some u->h'.get? b=some u)(fin:∀s' H' m',Inv X pins σ H' s'->H' C=none->s'.heap.Ns C m'->Qz H'->Rz (.ok .next) s'):
 codeAny (model X.prog X.w) X.A (.compStart (.ListComp elt [⟨tg,iter,[],0⟩] scope ps) 0 (.ref it) (.ref D) (compEnvC scope cl C X.env)) Rz {s3 with heap:=h',toks:=tk}:=by
 subst hC;have I4:=I3.comp K hf (T.obj _ _ st) (tk:=tk) hn hk;have QD:tn 0 h':=T.keep _ _ _ st fun b _ o e=>hk b o e;have uV:∀{H':Hp},(∀b∈fp,H' b=none)->∀b∈fp,kA (eX X scope cl s3.heap.objs.size s3 H1 M fp pins) [] H' b:=fun{H'} hz b hb=>by
  obtain⟨o,e,_⟩:=T.obj _ _ st b hb;obtain⟨_,f1,f2,f3,f4,f5⟩:=hf b hb;refine⟨hz b hb,Nat.ne_of_lt (Heap.lt_size e),fun z=>(List.mem_cons.mp (I3.pM b z)).elim f1 f2,.inl hb,fun x c h=>f4 x c (K.cls x c h),fun p hp=>f5 p ?_⟩;rcases List.mem_append.mp hp with z|z
  ·exact z
  ·cases z
 have loop:codeAny (model X.prog X.w) X.A (.compLoop (.ListComp elt [⟨tg,iter,[],0⟩] scope ps) 0 (.ref it) (.ref D) (compEnvC scope cl s3.heap.objs.size X.env)) Rz {s3 with heap:=h',toks:=tk}:=by
  obtain⟨m,w0⟩:=w0;refine y3 (fun n s'=>∃i cz H',Inv (eX X scope cl s3.heap.objs.size s3 H1 M fp pins) [] cz H' s'/\tn i s'.heap/\(∀b∈fp,H' b=none)/\W i n cz H') (fun n s5 hJ=>?_) m ⟨0,_,H1,I4,QD,fun b hb=>(hf b hb).1,w0⟩;obtain⟨i,Mv,H5,I5,IX,Mi,w5⟩:=hJ;rcases turn i n Mv H5 w5 with⟨stop,qz⟩|⟨go,step⟩
  ·refine c_ (T.done (eX X scope cl s3.heap.objs.size s3 H1 M fp pins) rfl rfl rfl hc i [] s5 Mv H5 _ I5 (uV Mi) IX stop) fun r s6 q6=>?_;obtain⟨hr,I6⟩:=q6;subst hr;obtain⟨m6,n6,_⟩:=I6.loc;exact fin s6 H5 m6 (I3.G9 (h:=h') hf I6) I6.free n6 qz
  ·refine c_ (T.item (eX X scope cl s3.heap.objs.size s3 H1 M fp pins) rfl rfl rfl hc i [] s5 Mv H5 _ I5 (uV Mi) IX go) fun r s6 q6=>?_;obtain⟨u,hr,h6⟩:=q6;subst hr;refine c_ h6 fun _ s7 q7=>?_;obtain⟨x,H7,I7,r7,y7,N7,SY⟩:=q7;have S0:=I7.pinned (uV SY) (T.obj _ _ N7);refine c_ (hg _ s7 Mv H7 x u _ S0 r7 (step x H7 y7)) fun _ s8 q8=>?_;obtain⟨N8,H8,I8,q8⟩:=q8;refine c_ (he _ s8 N8 H8 _ I8 q8) fun v s9 q9=>?_;obtain⟨y,H9,I9,r9,ys,hD,hz,m',hm,w9⟩:=q9;refine c_ (eW (X:=eX X scope cl s3.heap.objs.size s3 H1 M fp pins) _ s9 N8 H9 (.ref D) [y] (.ref D) [v] (fun v' H'=>v'=.eT/\H'=upd H9 D (.lst (ys++[y]))) I9 rfl (.cons r9 .nil) ⟨D,ys,y,rfl,rfl,hD,hz,rfl,rfl⟩) fun v' QE S1=>?_;obtain⟨v10,CU,N9,_,rfl,rfl⟩:=S1;refine⟨m',hm,i+1,N8,_,N9.jU,T.keep _ _ _ N7 fun b hb o e=>(N9.pin (b,o) (List.mem_append_right _ (List.mem_append_right _ (gY hb e)))).1,fun b hb=>?_,w9⟩;obtain⟨o,e,_⟩:=T.obj _ _ N7 b hb;exact(N9.pin (b,o) (List.mem_append_right _ (List.mem_append_right _ (gY hb e)))).2.1
 exact codeAny_compStart_list loop (T.self X.A 0 _ _ _ QD loop)
theorem g9{elt tg iter:Expr}{ps:Pos}{wi:TI}{g:TG}{te:TE}(hc:X.calm=true)(hx:X.xe=fun _ _=>False)(K:mM X scope cl own fr M)(hi:PI X tg iter wi)(hg:∀C s3 H1 fp pins,PG (eX X scope cl C s3 H1 M fp pins) tg g)(he:∀C s3 H1 fp pins,PE (eX X scope cl C s3 H1 M fp pins) elt te)(hs:∀x,foldedSetIterable iter X.env x=pure x:=by intro _;rfl):PE X (.ListComp elt [⟨tg,iter,[],0⟩] scope ps) (xm own fr wi g te):=by
 intro pins s σ H Q I h;rw[eval_ListComp];refine wpAny_comprehension_free (use:=none) rfl hs K.AK K.kind K.names ?_;show wpAny _ _ (eval iter X.env) _ _ _;refine c_ (hi pins s σ H _ I h) fun v s1 h1=>c_ h1 fun Mh s2 h2=>?_;obtain⟨it,fp,tn,J,H2,e,I2,T,GJ,f2,hW⟩:=h2;subst e;refine wpAny_newObj_type (hd:=by size_fits) ?_;have I3:Inv X pins σ (upd H2 s2.heap.objs.size (.lst [])) {s2 with heap:=s2.heap.push {cls:=.type "list",dict:=none,data:=.seq ([]:List Value).toArray}}:=I2.JZ (t':=s2.toks) .nil (Nat.zero_le _);obtain⟨W,w0,turn⟩:=hW s2.heap.objs.size I2.fresh;have IW:tn 0 (s2.heap.push {cls:=.type "list",dict:=none,data:=.seq ([]:List Value).toArray}):=T.keep _ _ _ GJ fun b _ o e=>Heap.get?_push_of_some _ e;have f3:∀b∈fp,kA X pins (upd H2 s2.heap.objs.size (.lst [])) b:=fun b hb=>by
  obtain⟨o,e,_⟩:=T.obj _ _ GJ b hb;obtain⟨f0,f'⟩:=f2 b hb;exact⟨by rw[aH (Nat.ne_of_lt (Heap.lt_size e))];exact f0,f'⟩
 refine wpAny_newFunctionEnv K.mN (fun y hy=>nomatch hy) (fun h' CT Kp=>?_) K.kind;have hk:∀b u,(s2.heap.push {cls:=.type "list",dict:=none,data:=.seq ([]:List Value).toArray}).get? b=some u->h'.get? b=some u:=fun b u e=>
  Kp.extBut b u (Nat.ne_of_lt (Heap.lt_size e)) (Heap.get?_push_of_some _ e)
 refine mO (g:=g) (te:=te) (W:=W) (Qz:=fun H'=>Q (.ref s2.heap.objs.size) H') hc K I3 T IW f3 (hg _ _ _ _ _) (he _ _ _ _ _) w0 turn rfl CT hk fun s' H' m' J1 Kq N_ qz=>?_;refine⟨m',N_,fun h2 sb=>⟨.ref s2.heap.objs.size,H',?_,rfl,qz⟩⟩;obtain⟨_,f1,_,N',f4,f5⟩:=I3.rR (H':=H') (Nat.le_refl _) Kq;exact J1.turned (t':=s'.toks) (fun b o hb e=>sb.extBut b o hb e) Kq f1 N' f4 f5
theorem Du{i:Nat}{y:Str}{py:Pos}{elt tg iter:Expr}{ps Kr:Pos}{wi:TI}{g:TG}{te:TE}(hN:X.N.Nodup)(Oa:X.N[i]?=some y)(hc:X.calm=true)(hx:X.xe=fun _ _=>False)(K:mM X scope cl own fr M)(hi:PI X tg iter wi)(hg:∀C s3 H1 fp pins,PG (eX X scope cl C s3 H1 M fp pins) tg g)(he:∀C s3 H1 fp pins,PE (eX X scope cl C s3 H1 M fp pins) elt te)(hy:X.env.scope.names.lookup y=some .local)(S2:swapsWith (.ListComp elt [⟨tg,iter,[],0⟩] scope ps) (some (.Name y py)) Kr.line X.env=pure true:=by rfl)(hs:∀x,foldedSetIterable iter X.env x=pure x:=by intro _;rfl):PS X (.Assign [.Name y py] (.ListComp elt [⟨tg,iter,[],0⟩] scope ps) Kr) (Ao (xm own fr wi g te) (oN i)):=by
 intro pins s σ H D I h;rw[exec_Assign_Name_used _ _ _ _ S2];refine wpAny_bind (wpAny_standAt (wpAny_bind ?_));show wpAny _ _ (do let _<-comprehension (.ListComp elt [⟨tg,iter,[],0⟩] scope ps) scope X.env _ (newList []) false (eval iter X.env) (some (assign (.Name y py) X.env))) _ _ s;refine wpAny_bind (c_ (Q:=fun _ s'=>SP X pins D .next s') (wpAny_comprehension_free (use:=some (assign (.Name y py) X.env)) rfl hs K.AK K.kind K.names ?_) fun _ s' q=>wpAny_pure (wpAny_pure q));refine c_ (hi pins s σ H _ I h) fun v s1 h1=>c_ h1 fun Mh s2 h2=>?_;obtain⟨it,fp,tn,J,H2,e,I2,T,GJ,f2,hW⟩:=h2;subst e;refine wpAny_newObj_type (hd:=by size_fits) ?_;have I3:Inv X pins σ (upd H2 s2.heap.objs.size (.lst [])) {s2 with heap:=s2.heap.push {cls:=.type "list",dict:=none,data:=.seq ([]:List Value).toArray}}:=I2.JZ (t':=s2.toks) .nil (Nat.zero_le _);obtain⟨W,w0,turn⟩:=hW s2.heap.objs.size I2.fresh;have IW:tn 0 (s2.heap.push {cls:=.type "list",dict:=none,data:=.seq ([]:List Value).toArray}):=T.keep _ _ _ GJ fun b _ o e=>Heap.get?_push_of_some _ e;have f3:∀b∈fp,kA X pins (upd H2 s2.heap.objs.size (.lst [])) b:=fun b hb=>by
  obtain⟨o,e,_⟩:=T.obj _ _ GJ b hb;obtain⟨f0,f'⟩:=f2 b hb;exact⟨by rw[aH (Nat.ne_of_lt (Heap.lt_size e))];exact f0,f'⟩
 refine wpAny_newFunctionEnv K.mN (fun y hy=>nomatch hy) (fun h' CT Kp=>?_) K.kind;have hk:∀b u,(s2.heap.push {cls:=.type "list",dict:=none,data:=.seq ([]:List Value).toArray}).get? b=some u->h'.get? b=some u:=fun b u e=>
  Kp.extBut b u (Nat.ne_of_lt (Heap.lt_size e)) (Heap.get?_push_of_some _ e)
 refine mO (g:=g) (te:=te) (W:=W) (Qz:=fun H'=>oN i (.ref s2.heap.objs.size) σ H' D.nx) hc K I3 T IW f3 (hg _ _ _ _ _) (he _ _ _ _ _) w0 turn rfl CT hk fun s' H' m' J1 Kq N_ qz=>?_;show wpAny _ _ (assign (.Name y py) X.env (.ref s2.heap.objs.size)) _ _ s';obtain⟨_,f1,_,N',f4,f5⟩:=I3.rR (H':=H') (Nat.le_refl _) Kq;refine wpAny_assign_Name (oM J1 hN Oa (.inl hy) (v:=.ref s2.heap.objs.size) rfl (fun s4 J2 sb=>?_) (.inr hy));obtain⟨a,sa,S3⟩:=sb;have eQ:(s2.heap.push {cls:=.type "list",dict:=none,data:=.seq ([]:List Value).toArray}).objs.size≠a:=by
  rcases S3 with z|z
  ·rw[z];exact f1
  ·exact fun e=>f4 y a z e.symm
 refine⟨m',N_.sameBut sa eQ,fun h2 S4=>⟨_,H',?_,qz⟩⟩;exact J2.turned (t':=s4.toks) (fun b o hb e=>S4.extBut b o hb e) Kq f1 N' f4 f5
end
end L2
namespace L2
open PySem PySem.Spec PyProof.Rows
section
variable {X:Cx}
end
end L2
namespace L2
open PySem PySem.Spec PyProof.Rows
noncomputable def AL(env:Env):List (Str×Addr)->Prop
 |[]=>True
 |p::r=>env.cells.lookup p.1=some p.2/\AL env r
noncomputable def sh(X:Cx)(scope:Scope)(cl:List (Str×Addr)):List Nat->List Str->Prop
 |[],[]=>True
 |i::r,x::y=>(X.N[i]?=some x/\X.env.scope.names.lookup x=some .cell/\(cl.lookup x).isSome=true/\((relabel scope X.env).names.lookup x=some .cell\/(relabel scope X.env).names.lookup x=some .free))/\sh X scope cl r y
 |_,_=>False
theorem AL.get{env:Env}:∀{cl:List (Str×Addr)},AL env cl->∀x c,cl.lookup x=some c->env.cells.lookup x=some c
 |[],_,x,c,h=>by simp at h
 |(y,d)::r,k,x,c,h=>by
  rw[List.lookup_cons] at h;cases e:x==y with
  |true=>
   rw[e] at h;have e1:x=y:=eq_of_beq e;have e2:d=c:=Option.some.inj h;rw[e1,<-e2];exact k.1
  |false=>
   rw[e] at h;exact AL.get k.2 x c h
theorem sh.len{X:Cx}{scope:Scope}{cl:List (Str×Addr)}:∀{fr:List Nat}{fs:List Str},sh X scope cl fr fs->fr.length=fs.length
 |[],[],_=>rfl
 |_::r,_::y,h=>congrArg Nat.succ (sh.len (fr:=r) (fs:=y) h.2)
 |[],_::_,h=>h.elim
 |_::_,[],h=>h.elim
theorem sh.get{X:Cx}{scope:Scope}{cl:List (Str×Addr)}:∀{fr:List Nat}{fs:List Str},sh X scope cl fr fs->∀(j i:Nat) x,fr[j]?=some i->fs[j]?=some x->
 X.N[i]?=some x/\X.env.scope.names.lookup x=some .cell/\(∃c,cl.lookup x=some c)/\((relabel scope X.env).names.lookup x=some .cell\/(relabel scope X.env).names.lookup x=some .free)
 |[],[],_,j,i,x,h,_=>by simp at h
 |k::r,z::y,H,0,i,x,h1,h2=>by
  simp at h1 h2;subst h1 h2;exact⟨H.1.1,H.1.2.1,Option.isSome_iff_exists.mp H.1.2.2.1,H.1.2.2.2⟩
 |k::r,z::y,H,j+1,i,x,h1,h2=>sh.get (fr:=r) (fs:=y) H.2 j i x (by simpa using h1) (by simpa using h2)
 |[],_::_,h,_,_,_,_,_=>h.elim
 |_::_,[],h,_,_,_,_,_=>h.elim
theorem iP{X:Cx}{scope:Scope}{cl:List (Str×Addr)}{own fs:List Str}{fr:List Nat}(AK:closureFor scope X.env=pure cl)(kind:scope.kind=.function)(names:∀x∈scope.names,x.2=.local->scope.names.lookup x.1=some .local)(mN:∀x∈scope.names,x.2≠.cell)(c:AL X.env cl)(h:((relabel scope X.env).names.all fun p=>!(p.2==.cell||p.2==.free)||(cl.lookup p.1).isSome)=true)(f:sh X scope cl fr fs):mM X scope cl own fr (own++fs) where
 AK:=AK
 kind:=kind
 names:=names
 mN:=mN
 cls:=c.get
 has:=fun x hx=>by
  have hm:∃k,(x,k)∈(relabel scope X.env).names/\(k=.cell\/k=.free):=by
   rcases hx with z|z
   ·exact⟨_,PySem.mem_of_lookup z,.inl rfl⟩
   ·exact⟨_,PySem.mem_of_lookup z,.inr rfl⟩
  obtain⟨k,hk,Ob⟩:=hm;have:=List.all_eq_true.mp h (x,k) hk;rcases Ob with rfl|rfl
  ·exact Option.isSome_iff_exists.mp (by simpa using this)
  ·exact Option.isSome_iff_exists.mp (by simpa using this)
 len:=by rw[List.length_append,f.len]
 N5:=fun i x hi=>by
  rw[List.getElem?_append_left (List.getElem?_eq_some_iff.mp hi).1];exact hi
 Fu:=fun j i x h1 h2=>by
  rw[List.getElem?_append_right (Nat.le_add_right _ _),Nat.add_sub_cancel_left] at h2;exact f.get j i x h1 h2
noncomputable def p_(fr:List Nat)(σ:St):St:=fr.map fun i=>(σ[i]?).join
section
variable {own:List Str} {fr:List Nat} {g:TG} {te:TE} {σ:St} {H1:Hp} {Q:VK}
theorem qa{J:It}(n:Nat)(Pv:List V->Prop)(hz:n<=sizeLine)(p0:Pv [])(hs:∀(i:Nat)(r:St)(ys:List V)(H2:Hp),i<n->r.length=own.length->ys.length=i->Pv ys->au H1 H2->J.go i H2/\∀x H3,J.uT i H2 x H3->au H2 H3/\∀Z:V->St->Hp->Prop,(∀y dw H5,au H3 H5->Pv (ys++[y])->(∃r',r'.length=own.length/\dw=r'++p_ fr σ)->Z y dw H5)->g x (r++p_ fr σ) H3 fun dw H4=>te dw H4 fun y H5=>Z y dw H5)(he:∀H2,au H1 H2->J.stop n H2)(hq:∀D H2 ys,H1 D=none->au H1 H2->H2 D=some (.lst ys)->ys.length=n->Pv ys->Q (.ref D) H2):
 ∀D,H1 D=none->∃W:Nat->Nat->St->Hp->Prop,(∃m,W 0 m (g8 own fr σ) (upd H1 D (.lst [])))/\∀i m fM H2,W i m fM H2->
  (J.stop i H2/\Q (.ref D) H2)\/(J.go i H2/\∀x H3,J.uT i H2 x H3->g x fM H3 fun dw H4=>te dw H4 fun y H5=>∃ys,H5 D=some (.lst ys)/\ys.length<sizeLine/\∃m',m'<m/\W (i+1) m' dw (upd H5 D (.lst (ys++[y])))):=by
 intro D hD;refine⟨fun i m fM H2=>m=n-i/\i<=n/\au H1 H2/\(∃r:St,r.length=own.length/\fM=r++p_ fr σ)/\∃ys,ys.length=i/\Pv ys/\H2 D=some (.lst ys),⟨n,rfl,Nat.zero_le _,au.new hD _,⟨_,List.length_replicate,rfl⟩,[],rfl,p0,ak⟩,fun i m fM H2 w=>?_⟩;obtain⟨rfl,hi,dJ,⟨r,hr,rfl⟩,ys,hl,hp,hy⟩:=w;by_cases eE:i<n
 ·obtain⟨go,st⟩:=hs i r ys H2 eE hr hl hp dJ;refine .inr ⟨go,fun x H3 y=>?_⟩;obtain⟨Mw,gg⟩:=st x H3 y;refine gg (fun v dw H5=>∃ys,H5 D=some (.lst ys)/\ys.length<sizeLine/\∃m',m'<n-i/\(m'=n-(i+1)/\i+1<=n/\au H1 (upd H5 D (.lst (ys++[v])))/\(∃r:St,r.length=own.length/\dw=r++p_ fr σ)/\∃zs,zs.length=i+1/\Pv zs/\upd H5 D (.lst (ys++[v])) D=some (.lst zs))) fun v dw H5 AM pv⟨r',Dw,e⟩=>?_;refine⟨ys,AM _ _ (Mw _ _ hy),by lia,n-(i+1),by lia,rfl,eE,fun b o q=>?_,⟨r',Dw,e⟩,ys++[v],by rw[List.length_append,hl];rfl,pv,ak⟩;rw[aH (aI q hD)];exact AM _ _ (Mw _ _ (dJ _ _ q))
 ·obtain rfl:i=n:=by lia
  exact .inl ⟨he H2 dJ,hq D H2 ys hD dJ hy hl hp⟩
theorem oV{K:PySem.W.Frag}{a:Addr}{xs:List V}(hS:aZ K H1 a xs)(Pv:List V->Prop)(hz:xs.length<=sizeLine)(p0:Pv [])(hs:∀(i:Nat)(x:V)(r:St)(ys:List V)(H2:Hp),xs[i]?=some x->r.length=own.length->ys.length=i->Pv ys->au H1 H2->∀Z:V->St->Hp->Prop,(∀y dw H5,au H2 H5->Pv (ys++[y])->(∃r',r'.length=own.length/\dw=r'++p_ fr σ)->Z y dw H5)->g x (r++p_ fr σ) H2 fun dw H4=>te dw H4 fun y H5=>Z y dw H5)(hq:∀D H2 ys,H1 D=none->au H1 H2->H2 D=some (.lst ys)->ys.length=xs.length->Pv ys->Q (.ref D) H2):
 ∀D,H1 D=none->∃W:Nat->Nat->St->Hp->Prop,(∃m,W 0 m (g8 own fr σ) (upd H1 D (.lst [])))/\∀i m fM H2,W i m fM H2->
  ((rH K a).stop i H2/\Q (.ref D) H2)\/((rH K a).go i H2/\∀x H3,(rH K a).uT i H2 x H3->g x fM H3 fun dw H4=>te dw H4 fun y H5=>∃ys,H5 D=some (.lst ys)/\ys.length<sizeLine/\∃m',m'<m/\W (i+1) m' dw (upd H5 D (.lst (ys++[y])))):=
 qa xs.length Pv hz p0 (fun i r ys H2 hi hr hl hp dJ=>⟨⟨xs,xs[i],dJ.seq hS,by simp[hi]⟩,fun x H3 y=>by
  obtain⟨rfl,y⟩:=y
  exact⟨au.refl _,hs i x r ys _ (y xs (dJ.seq hS)) hr hl hp dJ⟩⟩) (fun H2 dJ=>⟨xs,dJ.seq hS,Nat.le_refl _⟩) hq
theorem y4{K:PySem.W.Frag}{a:Addr}{xs:List V}(hS:aZ K H1 a xs)(Pv:List V->Prop)(hz:xs.length<=sizeLine)(p0:Pv [])(hs:∀(i:Nat)(x:V)(p:Addr)(r:St)(ys:List V)(H2:Hp),xs[i]?=some x->r.length=own.length->ys.length=i->Pv ys->au H1 H2->H2 p=some (.tup [.int (i:Int),x])->
 ∀Z:V->St->Hp->Prop,(∀y dw H5,au H2 H5->Pv (ys++[y])->(∃r',r'.length=own.length/\dw=r'++p_ fr σ)->Z y dw H5)->g (.ref p) (r++p_ fr σ) H2 fun dw H4=>te dw H4 fun y H5=>Z y dw H5)(hq:∀D H2 ys,H1 D=none->au H1 H2->H2 D=some (.lst ys)->ys.length=xs.length->Pv ys->Q (.ref D) H2):
 ∀D,H1 D=none->∃W:Nat->Nat->St->Hp->Prop,(∃m,W 0 m (g8 own fr σ) (upd H1 D (.lst [])))/\∀i m fM H2,W i m fM H2->
  ((AI K a).stop i H2/\Q (.ref D) H2)\/((AI K a).go i H2/\∀x H3,(AI K a).uT i H2 x H3->g x fM H3 fun dw H4=>te dw H4 fun y H5=>∃ys,H5 D=some (.lst ys)/\ys.length<sizeLine/\∃m',m'<m/\W (i+1) m' dw (upd H5 D (.lst (ys++[y])))):=
 qa xs.length Pv hz p0 (fun i r ys H2 hi hr hl hp dJ=>⟨⟨xs,xs[i],dJ.seq hS,by simp[hi]⟩,fun x H3 y=>by
  obtain⟨p,z,hn,rfl,rfl,y⟩:=y
  exact⟨au.new hn _,hs i z p r ys _ (y xs (dJ.seq hS)) hr hl hp (dJ.trans (au.new hn _)) ak⟩⟩) (fun H2 dJ=>⟨xs,dJ.seq hS,Nat.le_refl _⟩) hq
end
theorem si{K:PySem.W.Frag}{a:Addr}{xs:List V}{g:TG}{tb:TS}{D:Ends}{σ:St}{H:Hp}(Pv:Nat->St->Hp->Prop)(h0:Pv 0 σ H)(hl:∀i σ H,i<=xs.length->Pv i σ H->aZ K H a xs)(hs:∀i x p σ H,xs[i]?=some x->H p=none->Pv i σ H->g (.ref p) σ (upd H p (.tup [.int (i:Int),x])) fun fM H2=>tb {D with nx:=Pv (i+1),ct:=Pv (i+1),bk:=D.nx} fM H2)(hd:∀σ H,Pv xs.length σ H->D.nx σ H):
 ∃W:Nat->Nat->St->Hp->Prop,(∃m,W 0 m σ H)/\∀i m σ H,W i m σ H->
  ((AI K a).stop i H/\D.nx σ H)\/((AI K a).go i H/\∃N:St->Hp->Prop,(∀cz H',N cz H'->∃m',m'<m/\W (i+1) m' cz H')/\∀x H',(AI K a).uT i H x H'->g x σ H' fun fM H2=>tb {D with nx:=N,ct:=N,bk:=D.nx} fM H2):=by
 refine⟨fun i m σ H=>m=xs.length-i/\i<=xs.length/\Pv i σ H,⟨xs.length,rfl,Nat.zero_le _,h0⟩,fun i m σ H w=>?_⟩;obtain⟨rfl,hi,p⟩:=w;have q:=hl i σ H hi p;by_cases eE:i<xs.length
 ·refine .inr ⟨⟨xs,xs[i],q,by simp[eE]⟩,Pv (i+1),fun cz H' p'=>⟨xs.length-(i+1),by lia,rfl,eE,p'⟩,fun x H' y=>?_⟩;obtain⟨t,z,hn,rfl,rfl,y⟩:=y;exact hs i z t σ H (y xs q) hn p
 ·obtain rfl:i=xs.length:=by lia
  exact .inl ⟨⟨xs,q,Nat.le_refl _⟩,hd σ H p⟩
theorem qb{K:PySem.W.Frag}{a:Addr}{xs:List V}{g:TG}{tb:TS}{D:Ends}{σ:St}{H:Hp}(Pv:Nat->St->Hp->Prop)(h0:Pv 0 σ H)(hl:∀i σ H,i<=xs.length->Pv i σ H->aZ K H a xs)(hs:∀i x σ H,i<xs.length->xs[xs.length-1-i]?=some x->Pv i σ H->g x σ H fun fM H2=>tb {D with nx:=Pv (i+1),ct:=Pv (i+1),bk:=D.nx} fM H2)(hd:∀σ H,Pv xs.length σ H->D.nx σ H):
 ∃W:Nat->Nat->St->Hp->Prop,(∃m,W 0 m σ H)/\∀i m σ H,W i m σ H->
  ((IY K a xs.length).stop i H/\D.nx σ H)\/((IY K a xs.length).go i H/\∃N:St->Hp->Prop,(∀cz H',N cz H'->∃m',m'<m/\W (i+1) m' cz H')/\∀x H',(IY K a xs.length).uT i H x H'->g x σ H' fun fM H2=>tb {D with nx:=N,ct:=N,bk:=D.nx} fM H2):=by
 refine⟨fun i m σ H=>m=xs.length-i/\i<=xs.length/\Pv i σ H,⟨xs.length,rfl,Nat.zero_le _,h0⟩,fun i m σ H w=>?_⟩;obtain⟨rfl,hi,p⟩:=w;have q:=hl i σ H hi p;by_cases eE:i<xs.length
 ·have hx:xs.length-1-i<xs.length:=by lia
  refine .inr ⟨⟨eE,xs,xs[xs.length-1-i],q,List.getElem?_eq_getElem hx⟩,Pv (i+1),fun cz H' p'=>⟨xs.length-(i+1),by lia,rfl,eE,p'⟩,fun x H' y=>?_⟩;obtain⟨rfl,y⟩:=y;exact hs i x σ _ eE (y xs q) p
 ·obtain rfl:i=xs.length:=by lia
  exact .inl ⟨rfl,hd σ H p⟩
theorem cM{c:TT}{tb:TS}{D:Ends}{σ:St}{H:Hp}(Pv:Nat->St->Hp->Prop)(h0:∃m,Pv m σ H)(hs:∀m σ H,Pv m σ H->c σ H fun b H1=>if b=true then ∃N:St->Hp->Prop,(∀cz H',N cz H'->∃m',m'<m/\Pv m' cz H')/\tb {D with nx:=N,ct:=N,bk:=D.nx} σ H1 else D.nx σ H1):Ap c tb D σ H:=⟨Pv,h0,hs⟩
section
variable {σ:St} {H:Hp} {R:It->Hp->Prop} {tl:TE} {tr:TA} {Q:VK}
theorem Dx{K:PySem.W.Frag}(h:tl σ H fun x H1=>∃a,x=.ref a/\(∃xs,aZ K H1 a xs)/\R (rH K a) H1):Ff K tl σ H R:=h
theorem G_(h:tr σ H fun vs H1=>∃j:Int,vs=[.int j]/\-(2^62)<=j/\j<2^62/\R (Dc 0 j.toNat) H1):Fg tr σ H R:=h
theorem G'(h:tr σ H fun vs H1=>∃i j:Int,vs=[.int i,.int j]/\(-(2^62)<=i/\i<2^62/\-(2^62)<=j/\j<2^62)/\R (Dc i (j-i).toNat) H1):JJ tr σ H R:=h
theorem Dy{K:PySem.W.Frag}(h:tr σ H fun vs H1=>∃a,vs=[.ref a]/\(∃xs,aZ K H1 a xs)/\R (AI K a) H1):Ft K tr σ H R:=h
theorem Ha{K:PySem.W.Frag}(h:tr σ H fun vs H1=>∃a xs,vs=[.ref a]/\aZ K H1 a xs/\R (IY K a xs.length) H1):Ko K tr σ H R:=h
theorem Hb{te:TE}{S:Option Int->Hp->Prop}(h:te σ H fun x H1=>∃i,x=.int i/\S (some i) H1):Fo te σ H S:=h
theorem AN{S:Option Int->Hp->Prop}(h:S none H):xj σ H S:=h
theorem Dz{r:V->Option Int->Option Int->Hp->VK->Prop}{QF QG:TO}(h:tl σ H fun x H1=>QF σ H1 fun l H2=>QG σ H2 fun u H3=>r x l u H3 Q):Qs r tl QF QG σ H Q:=h
theorem Ks{to ti:TE}{t:C'}{v:V}{S:St->Hp->Prop}(h:to σ H fun o H1=>ti σ H1 fun i H2=>t o i v H2 fun H3=>S σ H3):JI to ti t v σ H S:=h
end
theorem vg{K:PySem.W.Frag}{H:Hp}{p:Addr}{xs:List V}{R:Bool->Prop}(hs:aZ K H p xs)(h:R (!xs.isEmpty)):∃k,Dd K (.ref p) H k/\R k:=⟨_,.inl ⟨xs,hs,rfl⟩,h⟩
end L2
namespace SF
open Lean.Grind
section
variable {R:Type} [CommRing R]
noncomputable def ay(f:Nat->R):Nat->R
 |0=>0
 |n+1=>ay f n+f n
theorem aJ{f g:Nat->R}:∀{n:Nat},(∀i,i<n->f i=g i)->ay f n=ay g n
 |0,_=>rfl
 |n+1,h=>by
  show ay f n+f n=ay g n+g n;rw[aJ (fun i hi=>h i (Nat.lt_succ_of_lt hi)),h n (Nat.lt_succ_self n)]
theorem eJ(f g:Nat->R):∀n,ay (fun i=>f i+g i) n=ay f n+ay g n
 |0=>by show(0:R)=0+0;grind
 |n+1=>by
  show ay (fun i=>f i+g i) n+(f n+g n)=ay f n+f n+(ay g n+g n);rw[eJ f g n];grind
theorem cu(c:R)(f:Nat->R):∀n,ay (fun i=>c*f i) n=c*ay f n
 |0=>by show(0:R)=c*0;grind
 |n+1=>by
  show ay (fun i=>c*f i) n+c*f n=c*(ay f n+f n);rw[cu c f n];grind
theorem jg(c:R)(f:Nat->R)(n:Nat):ay (fun i=>f i*c) n=ay f n*c:=by
 rw[aJ (g:=fun i=>c*f i) (fun i _=>by grind),cu];grind
theorem oW(n:Nat):ay (fun _=>(0:R)) n=0:=by
 induction n with
 |zero=>rfl
 |succ n ih=>show ay (fun _=>(0:R)) n+0=0;rw[ih];grind
theorem cv{f:Nat->R}{n:Nat}(h:∀i,i<n->f i=0):ay f n=0:=by
 rw[aJ h,oW]
theorem dZ(f:Nat->R):∀n,ay f (n+1)=f 0+ay (fun i=>f (i+1)) n
 |0=>by show(0:R)+f 0=f 0+0;grind
 |n+1=>by
  show ay f (n+1)+f (n+1)=f 0+(ay (fun i=>f (i+1)) n+f (n+1));rw[dZ f n];grind
theorem cw(f:Nat->R)(m:Nat):∀n,ay f (m+n)=ay f m+ay (fun i=>f (m+i)) n
 |0=>by show ay f m=ay f m+0;grind
 |n+1=>by
  show ay f (m+n)+f (m+n)=ay f m+(ay (fun i=>f (m+i)) n+f (m+n));rw[cw f m n];grind
theorem sj(f:Nat->R):∀n,ay f (n+1)=ay (fun i=>f (n-i)) (n+1)
 |0=>rfl
 |n+1=>by
  rw[dZ (fun i=>f (n+1-i)) (n+1)];show ay f (n+1)+f (n+1)=f (n+1)+ay (fun i=>f (n+1-(i+1))) (n+1);rw[sj f n,aJ (f:=fun i=>f (n+1-(i+1))) (g:=fun i=>f (n-i)) (fun i _=>by rw[Nat.add_sub_add_right])];grind
theorem mP(F:Nat->Nat->R):∀n,ay (fun i=>ay (fun j=>F j (i-j)) (i+1)) n=ay (fun j=>ay (fun k=>F j k) (n-j)) n
 |0=>rfl
 |n+1=>by
  show ay (fun i=>ay (fun j=>F j (i-j)) (i+1)) n+ay (fun j=>F j (n-j)) (n+1)=ay (fun j=>ay (fun k=>F j k) (n+1-j)) n+ay (fun k=>F n k) (n+1-n);rw[mP F n];have e1:ay (fun j=>ay (fun k=>F j k) (n+1-j)) n=ay (fun j=>ay (fun k=>F j k) (n-j)+F j (n-j)) n:=by
   refine aJ fun j hj=>?_;have e:n+1-j=(n-j)+1:=by lia
   rw[e];rfl
  rw[e1,eJ];have e2:n+1-n=1:=by lia
  rw[e2];show _+(ay (fun j=>F j (n-j)) n+F n (n-n))=_+(0+F n 0);rw[Nat.sub_self];grind
end
structure PS(R:Type) where
 c:Nat->R
namespace PS
variable {R:Type} [CommRing R]
theorem ext{f g:PS R}(h:∀i,f.c i=g.c i):f=g:=by
 cases f;cases g;congr;exact funext h
noncomputable def Oc(f g:PS R):PS R:=⟨fun i=>f.c i+g.c i⟩
noncomputable def Od(f g:PS R):PS R:=⟨fun n=>ay (fun i=>f.c i*g.c (n-i)) (n+1)⟩
noncomputable def Oe(f:PS R):PS R:=⟨fun i=>-f.c i⟩
noncomputable def Of(f g:PS R):PS R:=⟨fun i=>f.c i-g.c i⟩
noncomputable def C(a:R):PS R:=⟨fun i=>if i=0 then a else 0⟩
noncomputable instance:Add (PS R):=⟨Oc⟩
noncomputable instance:Mul (PS R):=⟨Od⟩
noncomputable instance:Neg (PS R):=⟨Oe⟩
noncomputable instance:Sub (PS R):=⟨Of⟩
theorem mQ(f g:PS R)(i:Nat):(f+g).c i=f.c i+g.c i:=rfl
theorem AO(f:PS R)(i:Nat):(-f).c i=-f.c i:=rfl
theorem Hc(f g:PS R)(i:Nat):(f-g).c i=f.c i-g.c i:=rfl
theorem dz(f g:PS R)(n:Nat):(f*g).c n=ay (fun i=>f.c i*g.c (n-i)) (n+1):=rfl
theorem mR(a:R)(i:Nat):(C a).c i=if i=0 then a else 0:=rfl
theorem mul_comm(f g:PS R):f*g=g*f:=by
 apply ext;intro n;rw[dz,dz,sj];refine aJ fun i hi=>?_;have e:n-(n-i)=i:=by lia
 rw[e];grind
theorem lB(a:R)(f:PS R)(n:Nat):(C a*f).c n=a*f.c n:=by
 rw[dz,dZ];rw[cv (fun i _=>by rw[mR,if_neg (by lia)];grind)];rw[mR,if_pos rfl,Nat.sub_zero];grind
theorem mul_assoc(f g h:PS R):f*g*h=f*(g*h):=by
 apply ext;intro n;rw[dz,dz];have e1:ay (fun i=>(f*g).c i*h.c (n-i)) (n+1)=ay (fun i=>ay (fun j=>(fun j k=>f.c j*g.c k*h.c (n-(j+k))) j (i-j)) (i+1)) (n+1):=by
  refine aJ fun i hi=>?_;rw[dz,<-jg];refine aJ fun j hj=>?_;show f.c j*g.c (i-j)*h.c (n-i)=f.c j*g.c (i-j)*h.c (n-(j+(i-j)));have e:j+(i-j)=i:=by lia
  rw[e]
 have e2:ay (fun i=>f.c i*(g*h).c (n-i)) (n+1)=ay (fun j=>ay (fun k=>(fun j k=>f.c j*g.c k*h.c (n-(j+k))) j k) (n+1-j)) (n+1):=by
  refine aJ fun j hj=>?_;rw[dz,<-cu];have e:n+1-j=n-j+1:=by lia
  rw[e];refine aJ fun k hk=>?_;show f.c j*(g.c k*h.c (n-j-k))=f.c j*g.c k*h.c (n-(j+k));have e:n-j-k=n-(j+k):=by lia
  rw[e];grind
 rw[e1,e2];exact mP (fun j k=>f.c j*g.c k*h.c (n-(j+k))) (n+1)
theorem add_mul(f g h:PS R):(f+g)*h=f*h+g*h:=by
 apply ext;intro n;rw[dz,mQ,dz,dz,<-eJ];exact aJ fun i _=>by rw[mQ];grind
theorem one_mul(f:PS R):C 1*f=f:=by
 apply ext;intro n;rw[lB];grind
theorem AQ(a b:R):C (a+b)=C a+C b:=by
 apply ext;intro i;rw[mQ,mR,mR,mR];split<;>grind
theorem xn(a:R):C (-a)=-C a:=by
 apply ext;intro i;rw[AO,mR,mR];split<;>grind
theorem gF(i:Nat):(C (0:R)).c i=0:=by rw[mR];split<;>rfl
noncomputable instance instNatCast:NatCast (PS R):=⟨fun n=>C (@NatCast.natCast R Semiring.natCast n)⟩
noncomputable instance instIntCast:IntCast (PS R):=⟨fun n=>C (@IntCast.intCast R Ring.intCast n)⟩
noncomputable instance instOfNat(n:Nat):OfNat (PS R) n:=⟨C (@OfNat.ofNat R n (Semiring.ofNat n))⟩
noncomputable def Kt(f:PS R):Nat->PS R
 |0=>C 1
 |n+1=>Kt f n*f
noncomputable instance instHPow:HPow (PS R) Nat (PS R):=⟨Kt⟩
noncomputable instance gG:SMul Nat (PS R):=⟨fun n f=>C (@NatCast.natCast R Semiring.natCast n)*f⟩
noncomputable instance gH:SMul Int (PS R):=⟨fun n f=>C (@IntCast.intCast R Ring.intCast n)*f⟩
noncomputable instance instCommRing:CommRing (PS R) where
 natCast:=instNatCast
 ofNat:=instOfNat
 nsmul:=gG
 npow:=instHPow
 intCast:=instIntCast
 zsmul:=gH
 add_zero f:=by apply ext;intro i;show f.c i+(C (0:R)).c i=f.c i;rw[gF];grind
 add_comm f g:=by apply ext;intro i;show f.c i+g.c i=g.c i+f.c i;grind
 add_assoc f g h:=by apply ext;intro i;show f.c i+g.c i+h.c i=f.c i+(g.c i+h.c i);grind
 mul_assoc:=mul_assoc
 mul_one f:=by rw[mul_comm];exact one_mul f
 one_mul:=one_mul
 right_distrib:=add_mul
 left_distrib f g h:=by rw[mul_comm f (g+h),add_mul,mul_comm g f,mul_comm h f]
 zero_mul f:=by apply ext;intro i;show(C (0:R)*f:PS R).c i=(C (0:R)).c i;rw[lB,gF];grind
 mul_zero f:=by apply ext;intro i;show(f*C (0:R):PS R).c i=(C (0:R)).c i;rw[mul_comm,lB,gF];grind
 pow_zero f:=rfl
 pow_succ f n:=rfl
 ofNat_succ n:=by
  show C (@OfNat.ofNat R (n+1) (Semiring.ofNat (n+1)))=C (@OfNat.ofNat R n (Semiring.ofNat n))+C 1;rw[<-AQ];exact congrArg C (Semiring.ofNat_succ n)
 ofNat_eq_natCast n:=congrArg C (Semiring.ofNat_eq_natCast n)
 nsmul_eq_natCast_mul n f:=rfl
 neg_add_cancel f:=by apply ext;intro i;show-f.c i+f.c i=(C (0:R)).c i;rw[gF];grind
 sub_eq_add_neg f g:=by apply ext;intro i;show f.c i-g.c i=f.c i+-g.c i;grind
 neg_zsmul n f:=by
  apply ext;intro i;show(C (@IntCast.intCast R Ring.intCast (-n))*f).c i=-((C (@IntCast.intCast R Ring.intCast n)*f).c i);have e:@IntCast.intCast R Ring.intCast (-n)=-@IntCast.intCast R Ring.intCast n:=Ring.intCast_neg n;rw[lB,lB,e];grind
 zsmul_natCast_eq_nsmul n f:=by
  apply ext;intro i;show(C (@IntCast.intCast R Ring.intCast (n:Int))*f).c i=(C (@NatCast.natCast R Semiring.natCast n)*f).c i;rw[lB,lB];have e:@IntCast.intCast R Ring.intCast (n:Int)=@NatCast.natCast R Semiring.natCast n:=Ring.intCast_natCast n;rw[e]
 intCast_ofNat n:=congrArg C (Ring.intCast_ofNat n)
 intCast_neg n:=by
  show C (@IntCast.intCast R Ring.intCast (-n))=-C (@IntCast.intCast R Ring.intCast n);rw[<-xn];exact congrArg C (Ring.intCast_neg n)
 mul_comm:=mul_comm
noncomputable def nat(n:Nat):R:=@NatCast.natCast R Semiring.natCast n
noncomputable def aU(f:PS R):PS R:=⟨fun n=>nat (n+1)*f.c (n+1)⟩
theorem mS(f:PS R)(n:Nat):(aU f).c n=nat (n+1)*f.c (n+1):=rfl
theorem DA(m n:Nat):(nat (m+n):R)=nat m+nat n:=Semiring.natCast_add m n
theorem jW(f g:PS R):aU (f*g)=aU f*g+f*aU g:=by
 apply ext;intro n;rw[mQ,mS,dz,dz,dz];have e0:nat (n+1)*ay (fun i=>f.c i*g.c (n+1-i)) (n+1+1)=ay (fun i=>nat i*(f.c i*g.c (n+1-i))) (n+1+1)+ay (fun i=>nat (n+1-i)*(f.c i*g.c (n+1-i))) (n+1+1):=by
  rw[<-cu,<-eJ];refine aJ fun i hi=>?_;have e:n+1=i+(n+1-i):=by lia
  have e2:(nat (n+1):R)=nat i+nat (n+1-i):=by rw[<-DA,<-e]
  rw[e2];grind
 rw[e0];have z:(nat 0:R)=0:=Semiring.natCast_zero;have e1:ay (fun i=>nat i*(f.c i*g.c (n+1-i))) (n+1+1)=ay (fun i=>(aU f).c i*g.c (n-i)) (n+1):=by
  rw[dZ,z];have:ay (fun i=>nat (i+1)*(f.c (i+1)*g.c (n+1-(i+1)))) (n+1)=ay (fun i=>(aU f).c i*g.c (n-i)) (n+1):=by
   refine aJ fun i _=>?_;rw[Nat.add_sub_add_right,mS];grind
  rw[this];grind
 have e2:ay (fun i=>nat (n+1-i)*(f.c i*g.c (n+1-i))) (n+1+1)=ay (fun i=>f.c i*(aU g).c (n-i)) (n+1):=by
  show ay (fun i=>nat (n+1-i)*(f.c i*g.c (n+1-i))) (n+1)+nat (n+1-(n+1))*(f.c (n+1)*g.c (n+1-(n+1)))=_;rw[Nat.sub_self,z];have:ay (fun i=>nat (n+1-i)*(f.c i*g.c (n+1-i))) (n+1)=ay (fun i=>f.c i*(aU g).c (n-i)) (n+1):=by
   refine aJ fun i hi=>?_;have e:n+1-i=(n-i)+1:=by lia
   rw[e,mS];grind
  rw[this];grind
 rw[e1,e2]
end PS
end SF
namespace SF
noncomputable def Bd(n:Nat)(x:Int):Prop:=x.natAbs<2^n
theorem Bd.mono{m n:Nat}{x:Int}(h:Bd m x)(Og:m<=n):Bd n x:=
 Nat.lt_of_lt_of_le h (Nat.pow_le_pow_right (by decide) Og)
theorem Bd.mul{m n:Nat}{x y:Int}(h:Bd m x)(h':Bd n y):Bd (m+n) (x*y):=by
 unfold Bd at*;rw[Int.natAbs_mul,Nat.pow_add];exact Nat.mul_lt_mul'' h h'
theorem Bd.neg{n:Nat}{x:Int}(h:Bd n x):Bd n (-x):=by
 unfold Bd at*;rw[Int.natAbs_neg];exact h
theorem Bd.add{n:Nat}{x y:Int}(h:Bd n x)(h':Bd n y):Bd (n+1) (x+y):=by
 unfold Bd at*;have:=Int.natAbs_add_le x y;rw[Nat.pow_succ];lia
theorem Bd.sub{n:Nat}{x y:Int}(h:Bd n x)(h':Bd n y):Bd (n+1) (x-y):=by
 rw[Int.sub_eq_add_neg];exact h.add h'.neg
theorem Bd.of_dvd{n:Nat}{x y:Int}(h:Bd n y)(hd:x∣y)(h0:y≠0):Bd n x:=by
 unfold Bd at*;have h1:x.natAbs∣y.natAbs:=Int.natAbs_dvd_natAbs.mpr hd;have h2:=Nat.le_of_dvd (Int.natAbs_pos.mpr h0) h1;lia
theorem Bd.log2{n:Nat}{x:Int}(h:Bd n x)(hn:n<=9000):x.natAbs.log2<9000:=by
 unfold Bd at h;rcases Nat.eq_zero_or_pos x.natAbs with h0|hp
 ·rw[h0];decide
 ·exact(Nat.log2_lt (Nat.ne_of_gt hp)).mpr (Nat.lt_of_lt_of_le h (Nat.pow_le_pow_right (by decide) hn))
theorem Bd.of_le{n:Nat}{x y:Int}(h:Bd n y)(h':x.natAbs<=y.natAbs):Bd n x:=Nat.lt_of_le_of_lt h' h
theorem Bd.fR{n:Nat}{x:Int}(h1:0<=x)(h2:x<2^n):Bd n x:=by
 unfold Bd;have e:((2:Int)^n)=((2^n:Nat):Int):=by simp
 rw[e] at h2;lia
theorem Bd.of_two{n:Nat}{x:Int}(h1:-(2^n)<x)(h2:x<2^n):Bd n x:=by
 unfold Bd;have e:((2:Int)^n)=((2^n:Nat):Int):=by simp
 rw[e] at h1 h2;lia
theorem fo{g l:Int}(hl:0<l):g.fmod l=g%l:=Int.fmod_eq_emod_of_nonneg g (by lia)
theorem dO{g l:Int}(hl:0<l):g.fdiv l=g/l:=Int.fdiv_eq_ediv_of_nonneg g (by lia)
theorem sk{g l:Int}(hg:0<=g)(hl:0<l):Int.gcd l (g%l)=Int.gcd g l:=by
 obtain⟨m,rfl⟩:=Int.eq_ofNat_of_zero_le hg;obtain⟨n,rfl⟩:=Int.eq_ofNat_of_zero_le (show 0<=l by lia);have e:((m:Int)%(n:Int))=((m%n:Nat):Int):=by simp
 rw[e];show Nat.gcd n (m%n)=Nat.gcd m n;rw[Nat.gcd_comm m n,Nat.gcd_rec n m,Nat.gcd_comm]
theorem xo{a b:Int}:Int.gcd (if a<0 then -a else a) (if b<0 then -b else b)=Int.gcd a b:=by
 split<;>split<;>simp[Int.gcd_neg,Int.neg_gcd]
theorem xp{g:Int}(hg:0<=g):((Int.gcd g 0:Nat):Int)=g:=by
 rw[Int.gcd_zero_right];lia
noncomputable def rs(a b:Int):Int:=if b<0 then -((Int.gcd a b:Nat):Int) else((Int.gcd a b:Nat):Int)
noncomputable def rt(a b:Int):Int:=a.fdiv (rs a b)
noncomputable def ru(a b:Int):Int:=b.fdiv (rs a b)
theorem Fv{a b:Int}(h:b≠0):rs a b≠0:=by
 have:0<Int.gcd a b:=Int.gcd_pos_of_ne_zero_right a h;unfold rs;split<;>lia
theorem sr{a b:Int}:rs a b∣a:=by
 unfold rs;split
 ·exact Int.neg_dvd.mpr (Int.gcd_dvd_left ..)
 ·exact Int.gcd_dvd_left ..
theorem qc{a b:Int}:rs a b∣b:=by
 unfold rs;split
 ·exact Int.neg_dvd.mpr (Int.gcd_dvd_right ..)
 ·exact Int.gcd_dvd_right ..
theorem fS{x y:Int}(hd:y∣x):x.fdiv y*y=x:=Int.fdiv_mul_cancel hd
theorem AR{a b:Int}:rt a b*rs a b=a:=fS sr
theorem vh{a b:Int}:ru a b*rs a b=b:=fS qc
theorem Hd{a b:Int}(h:b≠0):0<ru a b:=by
 have e:=vh (a:=a) (b:=b);have hg:0<Int.gcd a b:=Int.gcd_pos_of_ne_zero_right a h;by_cases hb:b<0
 ·have hs:rs a b<0:=by unfold rs;rw[if_pos hb];lia
  by_cases hq:0<ru a b
  ·exact hq
  ·have:0<=ru a b*rs a b:=Int.mul_nonneg_of_nonpos_of_nonpos (by lia) (by lia);lia
 ·have hs:0<rs a b:=by unfold rs;rw[if_neg hb];lia
  by_cases hq:0<ru a b
  ·exact hq
  ·have:ru a b*rs a b<=0:=Int.mul_nonpos_of_nonpos_of_nonneg (by lia) (by lia);lia
theorem DB{a b:Int}(h:b≠0):rt a b*b=a*ru a b:=by
 have e1:=AR (a:=a) (b:=b);have e2:=vh (a:=a) (b:=b);have h0:=Fv (a:=a) h;have:(rt a b*b)*rs a b=(a*ru a b)*rs a b:=by grind
 exact Int.eq_of_mul_eq_mul_right h0 this
theorem Ku{a b:Int}(h:b≠0):Int.gcd (rt a b) (ru a b)=1:=by
 have e1:=AR (a:=a) (b:=b);have e2:=vh (a:=a) (b:=b);have h0:=Fv (a:=a) h;have hg:0<Int.gcd a b:=Int.gcd_pos_of_ne_zero_right a h;have hn:(rs a b).natAbs=Int.gcd a b:=by unfold rs;split<;>lia
 have:Int.gcd (rt a b*rs a b) (ru a b*rs a b)=Int.gcd (rt a b) (ru a b)*(rs a b).natAbs:=Int.gcd_mul_right ..;rw[e1,e2,hn] at this;have h2:1*Int.gcd a b=Int.gcd (rt a b) (ru a b)*Int.gcd a b:=by lia
 exact(Nat.eq_of_mul_eq_mul_right hg h2).symm
structure Wj(p q a b:Int):Prop where
 pos:0<q
 QH:p*b=a*q
 low:Int.gcd p q=1
end SF
namespace SF
open Lean.Grind
noncomputable def co(xs:List Int)(i:Nat):Int:=xs.getD i 0
noncomputable def se(xs:List Int):PS Int:=⟨co xs⟩
theorem qe(xs:List Int):(se xs).c=co xs:=rfl
theorem g_(x:Int)(r:List Int):co (x::r) 0=x:=rfl
theorem eK(x:Int)(r:List Int)(i:Nat):co (x::r) (i+1)=co r i:=rfl
theorem bP{xs:List Int}{i:Nat}(h:i<xs.length):co xs i=xs[i]:=by
 show xs.getD i 0=_;rw[List.getD_eq_getElem?_getD,List.getElem?_eq_getElem h];rfl
theorem cx{xs:List Int}{i:Nat}(h:xs.length<=i):co xs i=0:=by
 show xs.getD i 0=_;rw[List.getD_eq_getElem?_getD,List.getElem?_eq_none h];rfl
theorem h_(xs:List Int)(n i:Nat):co (xs.take n) i=if i<n then co xs i else 0:=by
 show(xs.take n).getD i 0=_;rw[List.getD_eq_getElem?_getD];split
 ·rename_i h;rw[List.getElem?_take_of_lt h];rfl
 ·rename_i h;rw[List.getElem?_eq_none (by rw[List.length_take];lia)];rfl
theorem He(f:Int->Int)(h0:f 0=0)(xs:List Int)(i:Nat):co (xs.map f) i=f (co xs i):=by
 show(xs.map f).getD i 0=f (xs.getD i 0);rw[List.getD_eq_getElem?_getD,List.getD_eq_getElem?_getD,List.getElem?_map];cases xs[i]? with
 |none=>exact h0.symm
 |some v=>rfl
noncomputable def fG(f:Nat->Int)(n:Nat):List Int:=(List.range n).map f
theorem aN(f:Nat->Int)(n:Nat):(fG f n).length=n:=by simp[fG]
theorem kH(f:Nat->Int)(n i:Nat):co (fG f n) i=if i<n then f i else 0:=by
 split
 ·rename_i h;rw[bP (by rw[aN];exact h)];simp[fG]
 ·rename_i h;exact cx (by rw[aN];lia)
theorem qg{f:Nat->Int}{n:Nat}(h:∀i,n<=i->f i=0):co (fG f n)=f:=by
 funext i
 rw[kH];split
 ·rfl
 ·rename_i hi;exact(h i (by lia)).symm
theorem Hf(xs:List Int):fG (co xs) xs.length=xs:=by
 refine List.ext_getElem (aN _ _) fun i h1 h2=>?_;simp only[fG,List.getElem_map,List.getElem_range];exact bP h2
theorem xq{f:Nat->Int}{n i:Nat}{v:Int}(h:i<n):(fG f n).set i v=fG (fun j=>if j=i then v else f j) n:=by
 refine List.ext_getElem (by rw[List.length_set,aN,aN]) fun j h1 h2=>?_;rw[List.getElem_set];simp only[fG,List.getElem_map,List.getElem_range];by_cases e:i=j
 ·rw[if_pos e,if_pos e.symm]
 ·rw[if_neg e,if_neg (Ne.symm e)]
theorem fH{f g:Nat->Int}{n:Nat}(h:∀i,i<n->f i=g i):fG f n=fG g n:=by
 unfold fG;exact List.map_congr_left fun i hi=>h i (List.mem_range.mp hi)
noncomputable def Tr(xs:List Int):Prop:=∀x,xs.getLast?=some x->x≠0
theorem Tr.nil:Tr []:=fun x h=>by cases h
theorem Tr.last{xs:List Int}(h:Tr xs)(hn:xs≠[]):co xs (xs.length-1)≠0:=by
 have hl:0<xs.length:=List.length_pos_iff.mpr hn;rw[bP (by lia)];refine h _ ?_;rw[List.getLast?_eq_getElem?,List.getElem?_eq_getElem (by lia)]
theorem Tr.jX{xs:List Int}(h:xs≠[]->co xs (xs.length-1)≠0):Tr xs:=by
 intro x hx;have hn:xs≠[]:=by rintro rfl;cases hx
 have hl:0<xs.length:=List.length_pos_iff.mpr hn;have:=h hn;rw[bP (by lia)] at this;rw[List.getLast?_eq_getElem?,List.getElem?_eq_getElem (by lia)] at hx;rw[Option.some.inj hx] at this;exact this
theorem Tr.inj{xs ys:List Int}(hx:Tr xs)(hy:Tr ys)(h:∀i,co xs i=co ys i):xs=ys:=by
 have hl:xs.length=ys.length:=by
  rcases Nat.lt_trichotomy xs.length ys.length with eE|he|eE
  ·have hn:ys≠[]:=by rintro rfl;exact absurd eE (Nat.not_lt_zero _)
   have:=hy.last hn;rw[<-h,cx (by lia)] at this;exact absurd rfl this
  ·exact he
  ·have hn:xs≠[]:=by rintro rfl;exact absurd eE (Nat.not_lt_zero _)
   have:=hx.last hn;rw[h,cx (by lia)] at this;exact absurd rfl this
 refine List.ext_getElem hl fun i h1 h2=>?_;have:=h i;rw[bP h1,bP h2] at this;exact this
noncomputable def dA:List Int->List Int
 |[]=>[]
 |x::r=>match dA r with
  |[]=>if x=0 then[] else[x]
  |y::t=>x::y::t
theorem fT:∀(xs:List Int)(i:Nat),co (dA xs) i=co xs i
 |[],i=>rfl
 |x::r,i=>by
  have ih:=fT r;unfold dA;cases e:dA r with
  |nil=>
   rw[e] at ih
   dsimp only
   split
   ·rename_i hx;cases i with
    |zero=>exact hx.symm
    |succ i=>rw[eK,<-ih i];rfl
   ·cases i with
    |zero=>rfl
    |succ i=>rw[eK,eK,<-ih i]
  |cons y t=>
   rw[e] at ih;cases i with
   |zero=>rfl
   |succ i=>exact ih i
theorem gI:∀xs:List Int,Tr (dA xs)
 |[]=>Tr.nil
 |x::r=>by
  have ih:=gI r;unfold dA;cases e:dA r with
  |nil=>
   dsimp only
   split
   ·exact Tr.nil
   ·rename_i hx;intro z hz;have:x=z:=by simpa using hz
    rw[<-this];exact hx
  |cons y t=>
   rw[e] at ih;intro z hz;exact ih z (by simpa using hz)
theorem AS{xs:List Int}(h:Tr xs):dA xs=xs:=(gI xs).inj h (fT xs)
theorem AU{xs ys:List Int}(h:∀i,co xs i=co ys i):dA xs=dA ys:=
 (gI xs).inj (gI ys) fun i=>by rw[fT,fT,h]
theorem oX:∀xs:List Int,(dA xs).length<=xs.length
 |[]=>Nat.le_refl _
 |x::r=>by
  have ih:=oX r;unfold dA;cases e:dA r with
  |nil=>
   dsimp only
   split<;>simp
  |cons y t=>
   rw[e] at ih;simp only[List.length_cons] at*;lia
theorem vi{xs:List Int}{n:Nat}(h:co xs n=0):dA (xs.take (n+1))=dA (xs.take n):=by
 refine AU fun i=>?_;rw[h_,h_];by_cases h1:i<n
 ·rw[if_pos h1,if_pos (by lia)]
 ·rw[if_neg h1];split
  ·have:i=n:=by lia
   rw[this];exact h
  ·rfl
theorem DC{xs:List Int}{n:Nat}(hn:n<=xs.length)(h:n=0\/co xs (n-1)≠0):Tr (xs.take n):=by
 refine Tr.jX fun eQ=>?_;have hl:(xs.take n).length=n:=by rw[List.length_take];lia
 rw[hl,h_];have:0<n:=by
  rcases Nat.eq_zero_or_pos n with z|z
  ·rw[z] at eQ;simp at eQ
  ·exact z
 rw[if_pos (by lia)];rcases h with z|z
 ·lia
 ·exact z
noncomputable def mulL(xs ys:List Int):List Int:=if xs=[]\/ys=[] then[] else fG (se xs*se ys).c (xs.length+ys.length-1)
theorem sv{xs ys:List Int}{n:Nat}(h:xs.length+ys.length<=n+1):(se xs*se ys).c n=0:=by
 rw[PS.dz];refine cv fun i hi=>?_;by_cases h1:i<xs.length
 ·rw[qe,qe,cx (xs:=ys) (by lia)];grind
 ·rw[qe,qe,cx (xs:=xs) (by lia)];grind
theorem qh(xs ys:List Int):co (mulL xs ys)=(se xs*se ys).c:=by
 unfold mulL;split
 ·rename_i h
  funext n
  rw[PS.dz];refine(cv fun i _=>?_).symm;rcases h with h|h<;>subst h
  ·show(0:Int)*_=0;grind
  ·show _*(0:Int)=0;grind
 ·refine qg fun i hi=>sv ?_;rename_i h;rw[_root_.not_or] at h;have h1:=List.length_pos_iff.mpr h.1;have h2:=List.length_pos_iff.mpr h.2;lia
theorem sx{xs ys:List Int}(hx:xs≠[])(hy:ys≠[]):(se xs*se ys).c (xs.length+ys.length-2)=co xs (xs.length-1)*co ys (ys.length-1):=by
 have h1:=List.length_pos_iff.mpr hx;have h2:=List.length_pos_iff.mpr hy;rw[PS.dz];have e:xs.length+ys.length-2+1=(xs.length-1)+(1+(ys.length-1)):=by lia
 rw[e,cw,cw];rw[cv (n:=xs.length-1) (fun i hi=>by rw[qe,qe,cx (xs:=ys) (by lia)];grind)];rw[cv (n:=ys.length-1) (fun i hi=>by rw[qe,qe,cx (xs:=xs) (by lia)];grind)];show 0+((0+co xs (xs.length-1+0)*co ys (xs.length+ys.length-2-(xs.length-1+0)))+0)=_;have e2:xs.length+ys.length-2-(xs.length-1+0)=ys.length-1:=by lia
 rw[e2,Nat.add_zero];grind
noncomputable def bR(xs:List Int):List Int:=fG (PS.aU (se xs)).c (xs.length-1)
theorem jY(xs:List Int):co (bR xs)=(PS.aU (se xs)).c:=by
 refine qg fun i hi=>?_;show PS.nat (i+1)*co xs (i+1)=0;rw[cx (by lia)];grind
theorem DE(n:Nat):(PS.nat n:Int)=(n:Int):=rfl
theorem xr{xs:List Int}(hx:Tr xs):Tr (bR xs):=by
 refine Tr.jX fun h=>?_;have hl:(bR xs).length=xs.length-1:=aN _ _;have hp:0<(bR xs).length:=List.length_pos_iff.mpr h;rw[hl] at hp;rw[jY,hl];have eQ:xs≠[]:=by rintro rfl;simp at hp
 have e:xs.length-1-1+1=xs.length-1:=by lia
 show PS.nat (xs.length-1-1+1)*co xs (xs.length-1-1+1)≠0;rw[e,DE];exact Int.mul_ne_zero (by lia) (hx.last eQ)
end SF
namespace SF
noncomputable def eS(xs:List Int):Nat:=xs.foldl (fun g x=>Int.gcd g x) 0
noncomputable def jZ(g:Nat)(xs:List Int):Nat:=xs.foldl (fun g x=>Int.gcd g x) g
theorem oY:∀(xs:List Int)(g d:Nat),d∣jZ g xs↔(d∣g/\∀x∈xs,(d:Int)∣x)
 |[],g,d=>by simp[jZ]
 |x::r,g,d=>by
  have ih:=oY r (Int.gcd g x) d;show d∣jZ (Int.gcd g x) r↔_;rw[ih];have h1:d∣Int.gcd g x↔(d∣g/\(d:Int)∣x):=by
   constructor
   ·intro h;have hz:(d:Int)∣((Int.gcd g x:Nat):Int):=Int.ofNat_dvd.mpr h;exact⟨Int.ofNat_dvd.mp (Int.dvd_trans hz (Int.gcd_dvd_left ..)),Int.dvd_trans hz (Int.gcd_dvd_right ..)⟩
   ·rintro⟨h1,h2⟩;exact Int.ofNat_dvd.mp (Int.dvd_coe_gcd (Int.ofNat_dvd.mpr h1) h2)
  rw[h1];constructor
  ·rintro⟨⟨a,b⟩,c⟩;exact⟨a,fun y hy=>by rcases List.mem_cons.mp hy with rfl|hy;exact b;exact c y hy⟩
  ·rintro⟨a,b⟩;exact⟨⟨a,b x List.mem_cons_self⟩,fun y hy=>b y (List.mem_cons_of_mem _ hy)⟩
theorem kI(xs:List Int)(d:Nat):d∣eS xs↔∀x∈xs,(d:Int)∣x:=by
 have:=oY xs 0 d;rw[show jZ 0 xs=eS xs from rfl] at this;rw[this];exact⟨fun h=>h.2,fun h=>⟨Nat.dvd_zero d,h⟩⟩
theorem j4{xs:List Int}{x:Int}(h:x∈xs):((eS xs:Nat):Int)∣x:=(kI xs _).mp (Nat.dvd_refl _) x h
theorem kJ{xs:List Int}{x:Int}(h:x∈xs)(h0:x≠0):0<eS xs:=by
 rcases Nat.eq_zero_or_pos (eS xs) with z|z
 ·have:=j4 h;rw[z] at this;exact absurd (Int.zero_dvd.mp this) h0
 ·exact z
noncomputable def cont(xs:List Int):Int:=if co xs (xs.length-1)<0 then -((eS xs:Nat):Int) else((eS xs:Nat):Int)
theorem sy(xs:List Int):(cont xs).natAbs=eS xs:=by unfold cont;split<;>lia
theorem mT{xs:List Int}{x:Int}(h:x∈xs):cont xs∣x:=by
 unfold cont;split
 ·exact Int.neg_dvd.mpr (j4 h)
 ·exact j4 h
theorem j5{xs:List Int}(hn:xs≠[]):co xs (xs.length-1)∈xs:=by
 have hl:0<xs.length:=List.length_pos_iff.mpr hn;rw[bP (by lia)];exact List.getElem_mem _
theorem fe{xs:List Int}(h:Tr xs)(hn:xs≠[]):cont xs≠0:=by
 have:=kJ (j5 hn) (h.last hn);have e:=sy xs;lia
noncomputable def ar(xs:List Int):List Int:=xs.map (·.fdiv (cont xs))
theorem aP(xs:List Int):(ar xs).length=xs.length:=List.length_map _
theorem gJ{xs:List Int}{i:Nat}(h:i<xs.length):co (ar xs) i*cont xs=co xs i:=by
 unfold ar;rw[He (fun y=>y.fdiv (cont xs)) (by simp)];have hm:co xs i∈xs:=by rw[bP h];exact List.getElem_mem _
 exact Int.fdiv_mul_cancel (mT hm)
theorem ie{xs:List Int}(h:Tr xs)(hn:xs≠[]):0<co (ar xs) (xs.length-1):=by
 have hl:0<xs.length:=List.length_pos_iff.mpr hn;have e:=gJ (xs:=xs) (i:=xs.length-1) (by lia);have h0:=h.last hn;have hp:=kJ (j5 hn) h0;by_cases hc:co xs (xs.length-1)<0
 ·have hs:cont xs<0:=by unfold cont;rw[if_pos hc];lia
  by_cases hq:0<co (ar xs) (xs.length-1)
  ·exact hq
  ·have:0<=co (ar xs) (xs.length-1)*cont xs:=Int.mul_nonneg_of_nonpos_of_nonpos (by lia) (by lia);lia
 ·have hs:0<cont xs:=by unfold cont;rw[if_neg hc];lia
  by_cases hq:0<co (ar xs) (xs.length-1)
  ·exact hq
  ·have:co (ar xs) (xs.length-1)*cont xs<=0:=Int.mul_nonpos_of_nonpos_of_nonneg (by lia) (by lia);lia
theorem bW{xs:List Int}(h:Tr xs):Tr (ar xs):=by
 refine Tr.jX fun hn=>?_;have hx:xs≠[]:=by rintro rfl;exact hn rfl
 rw[aP];have:=ie h hx;lia
theorem sA{xs:List Int}(h:Tr xs)(hn:xs≠[]):eS (ar xs)=1:=by
 have h0:=h.last hn;have hp:=kJ (j5 hn) h0;have hd:eS (ar xs)*eS xs∣eS xs:=by
  rw[kI];intro x hx;have hy:x.fdiv (cont xs)∈ar xs:=List.mem_map.mpr ⟨x,hx,rfl⟩;have h1:=j4 hy;have e:=Int.fdiv_mul_cancel (mT hx);obtain⟨k,hk⟩:=h1;have ha:(cont xs).natAbs=eS xs:=sy xs;rcases Int.natAbs_eq (cont xs) with hc|hc
  ·rw[ha] at hc;refine⟨k,?_⟩;rw[<-e,hk,hc];push_cast;grind
  ·rw[ha] at hc;refine⟨-k,?_⟩;rw[<-e,hk,hc];push_cast;grind
 have h2:eS (ar xs)*eS xs∣1*eS xs:=by rw[Nat.one_mul];exact hd
 have h3:=Nat.dvd_of_mul_dvd_mul_right hp h2;exact Nat.eq_one_of_dvd_one h3
noncomputable def hv(t u:Int)(xs:List Int):Int:=ay (fun i=>co xs i*(t^i*u^(xs.length-1-i))) xs.length
noncomputable def iQ(t u:Int)(p:Int×Int)(x:Int):Int×Int:=(p.1*t+x*p.2,p.2*u)
theorem qi(t u x:Int)(r:List Int):hv t u (x::r)=hv t u r*t+x*u^r.length:=by
 unfold hv;rw[List.length_cons,dZ,<-jg];have e:ay (fun i=>co (x::r) (i+1)*(t^(i+1)*u^(r.length+1-1-(i+1)))) r.length=ay (fun i=>co r i*(t^i*u^(r.length-1-i))*t) r.length:=by
  refine aJ fun i hi=>?_;have e1:r.length+1-1-(i+1)=r.length-1-i:=by lia
  rw[e1,eK,Int.pow_succ];grind
 rw[e];rw[g_,Nat.add_sub_cancel,Nat.sub_zero,Int.pow_zero];grind
theorem xt(t u:Int):∀xs:List Int,xs.reverse.foldl (iQ t u) (0,1)=(hv t u xs,u^xs.length)
 |[]=>by show((0:Int),(1:Int))=(0,u^0);rw[Int.pow_zero]
 |x::r=>by
  rw[List.reverse_cons,List.foldl_append,xt t u r,qi];show(hv t u r*t+x*u^r.length,u^r.length*u)=_;rw[List.length_cons,Int.pow_succ]
end SF
namespace SF
theorem y6(xs:List Int):((fG (fun i=>(i:Int)*co xs i) xs.length).drop 1)=bR xs:=by
 unfold bR;refine List.ext_getElem (by rw[List.length_drop,aN,aN]) fun i h1 h2=>?_;rw[List.getElem_drop];have e1:(fG (fun i=>(i:Int)*co xs i) xs.length)[1+i]'(by rw[aN];rw[aN] at h2;lia)=((1+i:Nat):Int)*co xs (1+i):=by simp only[fG,List.getElem_map,List.getElem_range]
 rw[e1];simp only[fG,List.getElem_map,List.getElem_range];rw[PS.mS,qe,Nat.add_comm 1 i];rfl
noncomputable def AV(t u:Int)(xs:List Int)(j:Nat):Int×Int:=(xs.reverse.take j).foldl (iQ t u) (0,1)
theorem AW(t u:Int)(xs:List Int):AV t u xs 0=(0,1):=rfl
theorem sC(t u:Int)(xs:List Int)(j:Nat)(h:j<xs.length):AV t u xs (j+1)=iQ t u (AV t u xs j) (co xs (xs.length-1-j)):=by
 unfold AV;have hj:j<xs.reverse.length:=by rw[List.length_reverse];exact h
 rw[List.take_add_one,List.getElem?_eq_getElem hj,Option.toList_some,List.foldl_append];have e:xs.reverse[j]=co xs (xs.length-1-j):=by
  rw[List.getElem_reverse,bP (by lia)]
 rw[e];rfl
theorem mU(t u:Int)(xs:List Int):(AV t u xs xs.length).1=hv t u xs:=by
 unfold AV;rw[List.take_of_length_le (by rw[List.length_reverse];exact Nat.le_refl _),xt]
end SF
namespace L2
open PySem PySem.Spec PyProof.Rows
section
variable {X:Cx} {K:PySem.W.Frag} {pos:Pos}
theorem DF{es:List Expr}{k:Nat}{t:CP}{n:Nat}(hK:X.K=K)(hc:X.calm=true)(h:JF X es t)(hn:(assignEach es X.env).length=n)(Fd:(assignEach es X.env).findIdx? (·.1)=none):PG X (.Tuple es k pos) (GI K n t):=by subst hK;exact kz hc h hn Fd
end
theorem sD(F:Nat->Int)(n:Nat):SF.fG F (n+1)=SF.fG F n++[F n]:=by
 unfold SF.fG;rw[List.range_succ,List.map_append];rfl
theorem sE{α:Type}{r:List α}(h:r.length=1):∃x,r=[x]:=by
 match r,h with
 |[x],_=>exact⟨x,rfl⟩
theorem Oh{α:Type}{r:List α}(h:r.length=2):∃x y,r=[x,y]:=by
 match r,h with
 |[x,y],_=>exact⟨x,y,rfl⟩
noncomputable abbrev jA(J:It)(own:List Str)(fr:List Nat)(σ:St)(g:TG)(te:TE)(H1:Hp)(Q:VK):Prop:=
 ∀D,H1 D=none->∃W:Nat->Nat->St->Hp->Prop,(∃m,W 0 m (g8 own fr σ) (upd H1 D (.lst [])))/\∀i m fM H2,W i m fM H2->
  (J.stop i H2/\Q (.ref D) H2)\/(J.go i H2/\∀x H3,J.uT i H2 x H3->g x fM H3 fun dw H4=>te dw H4 fun y H5=>∃ys,H5 D=some (.lst ys)/\ys.length<sizeLine/\∃m',m'<m/\W (i+1) m' dw (upd H5 D (.lst (ys++[y]))))
section
variable {K:PySem.W.Frag} {own:List Str} {fr:List Nat} {g:TG} {te:TE} {σ:St} {H1:Hp} {Q:VK}
theorem qj{xs:List Int}{n:Nat}{x:V}(h:(xs.map V.int)[n]?=some x):n<xs.length/\x=.int (SF.co xs n):=by
 have hn:n<xs.length:=by
  have:=(List.getElem?_eq_some_iff.mp h).1
  rwa [List.length_map] at this
 rw[List.getElem?_map,List.getElem?_eq_getElem hn] at h;rw[SF.bP hn];exact⟨hn,(Option.some.inj h).symm⟩
theorem ig{a:Addr}{xs:List Int}(hS:aZ K H1 a (xs.map V.int))(F:Nat->Int)(hz:xs.length<=1000)(hs:∀(i:Nat)(r:St)(H2:Hp),i<xs.length->r.length=own.length->au H1 H2->∀Z:V->St->Hp->Prop,(∀dw H5,au H2 H5->(∃r':St,r'.length=own.length/\dw=r'++p_ fr σ)->Z (.int (F i)) dw H5)->g (.int (SF.co xs i)) (r++p_ fr σ) H2 fun dw H4=>te dw H4 fun y H5=>Z y dw H5)(hq:∀D H2,H1 D=none->au H1 H2->H2 D=some (.lst ((SF.fG F xs.length).map V.int))->Q (.ref D) H2):jA (rH K a) own fr σ g te H1 Q:=
 oV hS (fun ys=>ys=(SF.fG F ys.length).map V.int) (bZ (by rw[List.length_map];exact hz)) rfl
  (fun i x r ys H2 hx hr hl hp dJ Z hZ=>by
   obtain⟨hi,rfl⟩:=qj hx
   refine hs i r H2 hi hr dJ Z fun dw H5 s e=>hZ _ dw H5 s ?_ e
   subst hl
   rw[List.length_append]
   show ys++[V.int (F ys.length)]=(SF.fG F (ys.length+1)).map V.int
   rw[sD,List.map_append,<-hp];rfl)
  (fun D H2 ys hD dJ h2 hl hp=>hq D H2 hD dJ (by rw[h2,hp,hl,List.length_map]))
theorem vj{a:Addr}{xs:List Int}(hS:aZ K H1 a (xs.map V.int))(F:Nat->Int)(hz:xs.length<=1000)(hs:∀(i:Nat)(p:Addr)(r:St)(H2:Hp),i<xs.length->r.length=own.length->au H1 H2->H2 p=some (.tup [.int (i:Int),.int (SF.co xs i)])->
 ∀Z:V->St->Hp->Prop,(∀dw H5,au H2 H5->(∃r':St,r'.length=own.length/\dw=r'++p_ fr σ)->Z (.int (F i)) dw H5)->g (.ref p) (r++p_ fr σ) H2 fun dw H4=>te dw H4 fun y H5=>Z y dw H5)(hq:∀D H2,H1 D=none->au H1 H2->H2 D=some (.lst ((SF.fG F xs.length).map V.int))->Q (.ref D) H2):jA (AI K a) own fr σ g te H1 Q:=
 y4 hS (fun ys=>ys=(SF.fG F ys.length).map V.int) (bZ (by rw[List.length_map];exact hz)) rfl
  (fun i x p r ys H2 hx hr hl hp dJ sF Z hZ=>by
   obtain⟨hi,rfl⟩:=qj hx
   refine hs i p r H2 hi hr dJ sF Z fun dw H5 s e=>hZ _ dw H5 s ?_ e
   subst hl
   rw[List.length_append]
   show ys++[V.int (F ys.length)]=(SF.fG F (ys.length+1)).map V.int
   rw[sD,List.map_append,<-hp];rfl)
  (fun D H2 ys hD dJ h2 hl hp=>hq D H2 hD dJ (by rw[h2,hp,hl,List.length_map]))
theorem ij{σ:St}{H H1:Hp}{Q:VK}{own:List Str}{fr:List Nat}{wi:TI}{g:TG}{te:TE}(J:It)(h:∀R:It->Hp->Prop,R J H1->wi σ H R)(h2:jA J own fr σ g te H1 Q):xm own fr wi g te σ H Q:=h _ h2
end
end L2
namespace PySem
open Sem (wp)
namespace F
theorem y8:typeLookup (.type "list_reverseiterator") "__len__"=pure none:=by rw[typeLookup_type,builtinLookup_eq_fast];kernel_rfl
theorem AX:typeLookup (.type "list_reverseiterator") "__length_hint__"=pure (some (.builtin "list_reverseiterator.__length_hint__")):=by rw[typeLookup_type,builtinLookup_eq_fast];kernel_rfl
end F
section
variable {prog:Program} {w:World} {A:Around} {E:Value->Shared->Prop} {s:Shared}
theorem AY{I:Addr}{Q:Bool->Shared->Prop}(hT:s.TypeIs (.ref I) "list_reverseiterator")(h:Q false s):wpAny (model prog w) A (Builtin.List.listLengthHint (.ref I)) Q E s:=by
 unfold Builtin.List.listLengthHint;refine wpAny_bind (wpAny_specialOf hT F.y8 ?_);show wpAny _ _ (specialOf (Value.ref I) (Str.ofString "__length_hint__") >>= _) _ _ _;refine wpAny_bind (wpAny_specialOf hT F.AX ?_)
 (generalize Oi:("list_reverseiterator.__length_hint__":String)=S5;wp_delta;rw[show splitId S5=some ("list_reverseiterator","__length_hint__") from by subst Oi;decide +kernel];subst Oi)
 refine wpAny_bind (wpAny_isInstance (b:=true) hT (by rw[isSubtype_type];kernel_rfl) ?_);exact wpAny_pure h
theorem sG{I l:Addr}{items:Array Value}{Q:Value->Shared->Prop}(hh:A.handled=none)(hit:s.heap.IsRevIter I l ((items.size:Int)-1))(hl:s.heap.IsList l items)(eQ:l≠I)(hn:items.size<=sizeLine)(hQ:∀h' tk lX c',(∀b o,b≠I->s.heap.get? b=some o->h'.get? b=some o)->h'.get? s.heap.objs.size=some {cls:=.type "list",dict:=none,data:=.seq lX c',slots:=#[]}->
 ItemsOf (fun i v=>items[items.size-1-i]?=some v) lX items.size->Q (.ref s.heap.objs.size) {s with heap:=h',toks:=tk}):
 wpAny (model prog w) A (call (.type "list") [.ref I]) Q E s:=by
 refine callType_codes (Q₁:=fun obj cq=>obj=.ref s.heap.objs.size/\cq={s with heap:=s.heap.push {cls:=.type "list",data:=.seq #[]}}) PySem.F.called_list (PySem.F.typeCall_list_1 _) PySem.F.entry_list_init
  (code_list_new _ ⟨rfl,rfl⟩) fun obj cq Oj=>?_
 obtain⟨rfl,rfl⟩:=Oj;have hS:(s.heap.push {cls:=.type "list",data:=.seq #[]}).get? s.heap.objs.size=some {cls:=.type "list",data:=.seq #[]}:=Heap.get?_push_size _ rfl;have hI:I<s.heap.objs.size:=let⟨_,e,_⟩:=hit;Heap.lt_size e;have eE:l<s.heap.objs.size:=let⟨_,e,_⟩:=hl;Heap.lt_size e;refine⟨⟨_,hS,rfl⟩,PySem.F.args_list_init_2 _ _,?_⟩;show wpAny _ _ (do let old<-Builtin.List.listItems (.ref s.heap.objs.size);Builtin.List.listUpdate (.ref s.heap.objs.size) (fun _=>#[]);letGo old.toList.reverse;Builtin.List.listExtendWith (.ref s.heap.objs.size) (.ref I) .none) _ _ _;generalize Ol:s.heap.objs.size=S at hS ⊢;generalize Kv:s.heap.push {cls:=.type "list",data:=.seq #[]}=h1 at hS ⊢;have k1:∀b o,s.heap.get? b=some o->h1.get? b=some o:=fun b o e=>by rw[<-Kv];exact Heap.get?_push_of_some _ e
 refine wpAny_bind ?_;unfold Builtin.List.listItems;refine wpAny_bind (wpAny_seqItems hS rfl (wpAny_pure ?_));show wpAny _ _ (updateSeq S (fun _=>#[]) >>= fun _=>letGo (#[]:Array Value).toList.reverse >>= fun _=>Builtin.List.listExtendWith (.ref S) (.ref I) .none) _ _ _;refine wpAny_bind (wpAny_updateSeq hS rfl ?_);have Fw:=Heap.get?_update_self (Obj.mapSeq (fun _=>(#[]:Array Value))) hS rfl;have Mx:∀b o,b≠S->h1.get? b=some o->(h1.update S (Obj.mapSeq (fun _=>(#[]:Array Value)))).get? b=some o:=
  fun b o hb e=>(Heap.get?_update_other _ _ (Ne.symm hb)).trans e
 refine wpAny_bind (wpAny_letGo ?_);have Om:S≠I:=fun e=>by rw[<-e,<-Ol] at hI;exact Nat.lt_irrefl _ hI
 have QI:S≠l:=fun e=>by rw[<-e,<-Ol] at eE;exact Nat.lt_irrefl _ eE
 generalize Wk:h1.update S (Obj.mapSeq (fun _=>(#[]:Array Value)))=h2 at Fw Mx ⊢;have DG:h2.IsRevIter I l ((items.size:Int)-1):=hit.at fun o e=>Mx _ _ Om.symm (k1 _ _ e);have om:h2.IsList l items:=hl.at fun o e=>Mx _ _ QI.symm (k1 _ _ e);have W:=Walks.listRev (prog:=prog) (w:=w) (A:=A.in1.in1) hh I l eQ items;have e0:(items.size:Int)-1-((0:Nat):Int)=(items.size:Int)-1:=by lia
 have S6:(0:Nat)<=items.size/\h2.IsRevIter I l ((items.size:Int)-1-((0:Nat):Int))/\h2.IsList l items:=by
  rw[e0];exact⟨Nat.zero_le _,DG,om⟩
 unfold Builtin.List.listExtendWith;refine wpAny_bind (wpAny_typeOf (T:="list_reverseiterator") DG.typeIs ?_);have h3:Builtin.List.listSameRef (.ref S) (.ref I)=false:=by simp[Builtin.List.listSameRef,Om]
 rw[if_neg (by rw[h3];decide)];refine wpAny_bind (wpAny_pyIter_revIter DG ?_);refine wpAny_bind (wpAny_holding (AY DG.typeIs ?_));rw[if_neg (by decide)];refine wpAny_pure ⟨plainId_quiet PySem.F.plain_extend_loop _,?_⟩;obtain⟨c3,S7⟩:∃c,h2.get? S=some {cls:=.type "list",dict:=none,data:=.seq #[] c,slots:=#[]}:=⟨_,Fw⟩;refine codeAny_extend_loopS W.toS hn S (by simp only[List.mem_cons,List.not_mem_nil,or_false,not_or];exact⟨Om,QI⟩) .none items.size 0 {s with heap:=h2} #[] c3 rfl (Nat.zero_le _) S6 S7 (ItemsOf.nil _) fun s' lX c' hm S8 DH=>?_;rw[Moved.eq_with hm];subst Ol;refine⟨rfl,hQ s'.heap s'.toks lX c' (fun b o hb e=>hm.heap b o (fun Hg=>?_) (Mx b o ?_ (k1 b o e))) S8 DH⟩
 ·rcases List.mem_cons.mp Hg with e'|Hg
  ·have:=Heap.lt_size e;rw[e'] at this;exact Nat.lt_irrefl _ this
  ·exact hb (List.mem_singleton.mp Hg)
 ·intro z;have:=Heap.lt_size e;rw[z] at this;exact Nat.lt_irrefl _ this
theorem mV{l:Addr}{items:Array Value}{Q:Value->Shared->Prop}(hl:s.heap.IsList l items)(h:∀rV:Shared,rV={s with heap:=s.heap.push {cls:=.type "list_iterator",data:=.fields #[.ref l,.int 0 0]}}->
 (rV.heap.IsListIter s.heap.objs.size l 0/\rV.heap.IsList l items)->l≠s.heap.objs.size->Q (.ref s.heap.objs.size) rV):
 wpAny (model prog w) A (pyIter (.ref l)) Q E s:=by
 have eE:l<s.heap.objs.size:=by obtain⟨_,e,_⟩:=hl;exact Heap.lt_size e
 exact wpAny_pyIter_list hl (h _ rfl ⟨⟨_,Heap.get?_push_size _ rfl,rfl,rfl⟩,hl.push _⟩ (Nat.ne_of_lt eE))
end
end PySem
namespace L2
open PySem PySem.Spec PyProof.Rows
section
variable {X:Cx}
theorem y9(hc:X.calm=true):fN X (.builtin "any") (fun xs H Q=>∃(p:Addr)(ns:List Int),xs=[.ref p]/\aZ X.K H p (ns.map V.int)/\Q (.bl (ns.any (·!=0))) H):=by
 intro pins s σ H xs us Q I r h;obtain⟨p,ns,rfl,hp,q⟩:=h;obtain⟨u,rfl,rx⟩:=vals1 r;cases rx;obtain⟨aX,rv,pl,hz⟩:=I.list hp;have hlen:=rv.length;rw[List.length_map] at hlen;refine call_any_walk (mV pl.isList fun rV e st Oo=>?_);subst e;refine⟨_,_,_,_,_,_,fun i=>(ns.getD i 0)!=0,rfl,Walks.list (A:=X.A.in1) (I.ok.hd hc) _ p Oo aX.toArray,st,?_,fun h' tk hk=>?_⟩
 ·intro i v s' Q' E' hv Oq;have De:aX[i]?=some v:=by simpa using hv
  have hi:i<aX.length:=(List.getElem?_eq_some_iff.mp De).1;obtain⟨t,e⟩:=int_at rv (j:=i) (by lia) hi;rw[List.getElem?_eq_getElem hi,e] at De;cases De;have Kw:Q' (ns.getD i 0!=0) s':=Oq;rw[List.getD_eq_getElem?_getD,List.getElem?_eq_getElem (by lia)] at Kw;exact truthy_int Kw
 ·have e:(List.range aX.toArray.size).any (fun i=>(ns.getD i 0)!=0)=ns.any (·!=0):=by
   rw[List.size_toArray,<-hlen,Bool.eq_iff_iff,List.any_eq_true,List.any_eq_true];constructor
   ·rintro⟨i,hi,h⟩;have hi:=List.mem_range.mp hi;rw[List.getD_eq_getElem?_getD,List.getElem?_eq_getElem hi] at h;exact⟨_,List.getElem_mem hi,h⟩
   ·rintro⟨x,hx,h⟩;obtain⟨i,hi,rfl⟩:=List.getElem_of_mem hx;refine⟨i,List.mem_range.mpr hi,?_⟩;rw[List.getD_eq_getElem?_getD,List.getElem?_eq_getElem hi];exact h
  rw[e];exact⟨.bl _,H,I.kept (old_kept hk),rfl,q⟩
theorem Kx{xs:List Bool}{aX:List Value}(r:Vals (xs.map V.bl) aX){j:Nat}(h:j<xs.length)(h':j<aX.length):aX[j]=Value.bool xs[j]:=by
 have e:(xs.map V.bl)[j]?=some (V.bl xs[j]):=by rw[List.getElem?_map,List.getElem?_eq_getElem h]<;>rfl
 obtain⟨u,hu,hr⟩:=r.get e;rw[List.getElem?_eq_getElem h'] at hu;have Dw:u=Value.bool xs[j]:=hr;rw[<-Dw];exact Option.some.inj hu
theorem y_(hc:X.calm=true):fN X (.builtin "all") (fun xs H Q=>∃(p:Addr)(bs:List Bool),xs=[.ref p]/\aZ X.K H p (bs.map V.bl)/\Q (.bl (bs.all id)) H):=by
 intro pins s σ H xs us Q I r h;obtain⟨p,ns,rfl,hp,q⟩:=h;obtain⟨u,rfl,rx⟩:=vals1 r;cases rx;obtain⟨aX,rv,pl,hz⟩:=I.list hp;have hlen:=rv.length;rw[List.length_map] at hlen;refine call_all_walk (mV pl.isList fun rV e st Oo=>?_);subst e;refine⟨_,_,_,_,_,_,fun i=>ns.getD i false,rfl,Walks.list (A:=X.A.in1) (I.ok.hd hc) _ p Oo aX.toArray,st,?_,fun h' tk hk=>?_⟩
 ·intro i v s' Q' E' hv Oq;have De:aX[i]?=some v:=by simpa using hv
  have hi:i<aX.length:=(List.getElem?_eq_some_iff.mp De).1;have e:=Kx rv (j:=i) (by lia) hi;rw[List.getElem?_eq_getElem hi,e] at De;cases De;have Kw:Q' (ns.getD i false) s':=Oq;rw[List.getD_eq_getElem?_getD,List.getElem?_eq_getElem (by lia)] at Kw;exact wpAny_truthy_bool Kw
 ·have e:(List.range aX.toArray.size).all (fun i=>ns.getD i false)=ns.all id:=by
   rw[List.size_toArray,<-hlen,Bool.eq_iff_iff,List.all_eq_true,List.all_eq_true];constructor
   ·intro h x hx;obtain⟨i,hi,rfl⟩:=List.getElem_of_mem hx;have:=h i (List.mem_range.mpr hi);rw[List.getD_eq_getElem?_getD,List.getElem?_eq_getElem hi] at this;exact this
   ·intro h i hi;have hi:=List.mem_range.mp hi;rw[List.getD_eq_getElem?_getD,List.getElem?_eq_getElem hi];exact h _ (List.getElem_mem hi)
  rw[e];exact⟨.bl _,H,I.kept (old_kept hk),rfl,q⟩
theorem y'(hc:X.calm=true):fN X (.builtin "max") (fun xs H Q=>∃(p:Addr)(ns:List Int),xs=[.ref p]/\aZ X.K H p (ns.map V.int)/\ns≠[]/\∀m,m∈ns->(∀x∈ns,x<=m)->Q (.int m) H):=by
 intro pins s σ H xs us Q I r h;obtain⟨p,ns,rfl,hp,eQ,q⟩:=h;obtain⟨u,rfl,rx⟩:=vals1 r;cases rx;obtain⟨aX,rv,pl,hz⟩:=I.list hp;have hi:IntsAre aX ns:=intsAre_of rv;obtain⟨ys,e⟩:=hi.allInts.items;have CT:ns=ys.toList.map (·.1):=by
  rw[<-hi.numsOf,<-nums_intItems,<-e]
 have xc:0<ys.size:=by
  have h3:=List.length_pos_iff.mpr eQ;rw[CT,List.length_map,Array.length_toList] at h3;exact h3
 have My:s.heap.IsList p (intItems ys):=e▸pl.isList;refine max_intList (I.ok.hd hc) My xc fun v h' tk hv hk=>?_;obtain⟨t,rfl⟩:=intItems_at hv;obtain⟨h1,h2⟩:=argBest_gt (numAt ys) (ys.size-1);refine⟨.int _,H,I.kept hk,⟨t,rfl⟩,q _ ?_ fun a ha=>?_⟩
 ·rw[CT,numAt_eq];exact getD_mem (by rw[List.length_map,Array.length_toList];lia)
 ·rw[CT] at ha;obtain⟨j,hj,rfl⟩:=mem_getD ha;rw[List.length_map,Array.length_toList] at hj;rw[<-numAt_eq];exact h2 j (by lia)
theorem sI:∀{xs:List V}{us:List Value},Vals xs us->Vals xs.reverse us.reverse
 |_,_,.nil=>.nil
 |_,_,.cons a b=>by
  rw[List.reverse_cons,List.reverse_cons];exact(sI b).append (.cons a .nil)
noncomputable def Ky(K:PySem.W.Frag)(ta:TA):TE:=fun σ H Q=>ta σ H fun vs H1=>∃(p:Addr)(ys:List V),vs=[.ref p]/\aZ K H1 p ys/\∀l,H1 l=none->Q (.ref l) (upd H1 l (.lst ys.reverse))
theorem DI{a:Expr}{ta:TA}{p p' pos pos':Pos}(hc:X.calm=true)(hg:Gl X "reversed")(hm:X.mg "reversed"=none)(Dt:Gl X "list")(I_:X.mg "list"=none)(ha:PA X [a] ta)(hs:starEach [a] X.env=[(false,eval a X.env)]:=by rfl)(CV:starEach [Expr.Call (.Name "reversed" p) [a] [] pos] X.env=[(false,eval (Expr.Call (.Name "reversed" p) [a] [] pos) X.env)]:=by rfl):
 PE X (.Call (.Name "list" p') [.Call (.Name "reversed" p) [a] [] pos] [] pos') (Ky X.K ta):=by
 intro pins s σ H Q I h;refine wpAny_Call_Name_kw (gW I Dt I_ boot_list ?_);refine PyProof.Rows.callWith_type1 ?_ CV rfl;rw[CV];show wpAny _ _ (spliced [(false,eval (Expr.Call (.Name "reversed" p) [a] [] pos) X.env)]) _ _ _;refine Calls.spliced_cons ?_;refine Call_ (gW I hg hm boot_reversed (PyProof.Rows.callWith_type1 (c_ (ha pos pins s σ H _ I h) fun us s1 q1=>?_) hs rfl));obtain⟨vs,H1,I1,r1,l,ys,rfl,hq,q⟩:=q1;obtain⟨u,rfl,rx⟩:=vals1 r1;cases rx;obtain⟨aX,rv,pl,hz⟩:=I1.list hq;have hlen:=rv.length;refine call_reversed_list pl.isList ?_;refine Calls.spliced_nil ?_;have eE:l<s1.heap.objs.size:=by obtain⟨_,e,_⟩:=pl.isList;exact Heap.lt_size e
 have NV:aX.toArray.size<=sizeLine:=by rw[List.size_toArray];lia
 refine sG (items:=aX.toArray) (I.ok.hd hc) ⟨_,Heap.get?_push_size _ rfl,rfl,rfl⟩ (pl.isList.push _) (Nat.ne_of_lt eE) NV fun h' tk lX c' hk hS DH=>?_;have S9:∀b o,s1.heap.get? b=some o->h'.get? b=some o:=fun b o e=>hk b o (Nat.ne_of_lt (Heap.lt_size e)) (Heap.get?_push_of_some _ e);have xc:s1.heap.objs.size<=(s1.heap.push (revObj l ((aX.toArray.size:Int)-1))).objs.size:=by rw[Heap.size_push];lia
 have Fy:lX.size=aX.toArray.size:=DH.1;have rr:Vals ys.reverse lX.toList:=by
  have e:lX.toList=aX.reverse:=by
   refine List.ext_getElem ?_ fun i h1 h2=>?_
   ·rw[Array.length_toList,Fy,List.size_toArray,List.length_reverse]
   ·have h3:i<lX.size:=by simpa using h1
    have:=DH.2 i lX[i] (by simp[h3]);have h4:aX.toArray.size-1-i<aX.length:=by rw[List.size_toArray];rw[Fy,List.size_toArray] at h3;lia
    have h5:aX[aX.toArray.size-1-i]?=some lX[i]:=by simpa using this
    rw[List.getElem?_eq_getElem h4] at h5;rw[List.getElem_reverse];simp only[Array.getElem_toList];rw[<-Option.some.inj h5];simp
  rw[e];exact sI rv
 refine⟨.ref _,_,I1.laid (t':=tk) S9 xc (show dY X.prog X.w _ h' _ (.lst ys.reverse) from⟨by rw[List.length_reverse];exact hz,lX.toList,c',rr,by rw[Array.toArray_toList];exact hS⟩),rfl,q _ (I1.dE.fresh xc)⟩
end
end L2
namespace L2
open PySem PySem.Spec PyProof.Rows
structure Dv(X:Cx):Prop where
 tree:X.prog.given.tree=none
 top:∃(env:Env)(l:List Env),X.stack=env::l/\env.scope.isGenerator=false/\env.scope.isCoroutine=false/\env.builtins=builtinsNs/\env.globals=mainGlobals
 dp:X.A.depth+100<recursionLimit
theorem fk.py{k:Nat}{A:Around}(r:fk (k+32) A):A.depth+100<recursionLimit:=by have:=r.dp;lia
theorem dB{X:Cx}(h:Dv X):me X (binaryOp .FloorDiv) (rI (fun _ j=>j≠0) fun i j=>.int (i.fdiv j)):=by
 intro pins s σ H x y v u Q I rx ry hh;obtain⟨i,j,rfl,rfl,hc,q⟩:=hh;obtain⟨t,rfl⟩:=rx;obtain⟨t',rfl⟩:=ry;obtain⟨env,l,e,h1,h2,h3,h4⟩:=h.top;refine floordiv_int hc ?_ (.inr (PySem.PylongRoom.of I.nolimit h.dp (PySem.SeerAt.of (I.ok.mod.seer.keeps I.bk) h.tree (by rw[I.ok.frames,e]) h1 h2 h3 h4)));exact⟨.int (i.fdiv j),H,I.tok _,⟨_,rfl⟩,q⟩
end L2
namespace L2
open PySem PySem.Spec PyProof.Rows
section
variable {X:Cx}
end
end L2
namespace L2
open PySem PySem.Spec PyProof.Rows
inductive kK:List Expr->List Int->Prop
 |nil:kK [] []
 |pos {n:Int} {j:Nat} {p:Pos} {es:List Expr} {ns:List Int} (h:kK es ns):kK (.Constant (.int n) j p::es) (n::ns)
 |neg {n:Int} {j:Nat} {p p':Pos} {es:List Expr} {ns:List Int} (h:kK es ns):kK (.UnaryOp .USub (.Constant (.int n) j p) p'::es) (-n::ns)
noncomputable def Fz(ns:List Int):TA:=fun _ H Q=>Q (ns.map V.int) H
theorem qk{X:Cx}:∀{es:List Expr}{ns:List Int},kK es ns->PA X es (Fz ns)
 |_,_,.nil=>fun pos pins s σ H Q I h=>ag pos pins s σ H Q I h
 |_,_,.pos h=>fun pos pins s σ H Q I q=>aa af (qk h) rfl pos pins s σ H Q I q
 |_,_,.neg h=>fun pos pins s σ H Q I q=>aa (dn bY af) (qk h) rfl pos pins s σ H Q I ⟨_,rfl,q⟩
end L2
namespace L2
open PySem PySem.Spec PyProof.Rows
section
variable {X:Cx}
noncomputable def Ot(K:PySem.W.Frag):R2:=fun x y H Q=>∃(p q:Addr)(a b c d:Int),x=.ref p/\y=.ref q/\cC K H p [.int a,.int b]/\cC K H q [.int c,.int d]/\Q (.bl (a==c&&b==d)) H
theorem Hi(hu:X.A.units<cLine):me X (compareOp .Eq) (Ot X.K):=by
 intro pins s σ H x y v u Q I rx ry h;obtain⟨p,q,a,b,c,d,rfl,rfl,hp,hq,h⟩:=h;cases rx;cases ry;obtain⟨aX,r,pl,hz⟩:=I.tuple hp;obtain⟨J7,r2,Mr,NV⟩:=I.tuple hq;obtain⟨u1,u2,rfl,⟨t1,rfl⟩,⟨t2,rfl⟩⟩:=vals2 r;obtain⟨w1,w2,rfl,⟨t3,rfl⟩,⟨t4,rfl⟩⟩:=vals2 r2;have z:=SeqAt.RcAt.tuples (A:=X.A) (s:=s) (e:=fun j=>if j=0 then a==c else b==d) pl Mr hu (fun j h1 h2=>by
  match j,h1,h2 with
  |0,_,_=>exact SeqAt.EqAt.int_int _ _ _ _
  |1,_,_=>exact SeqAt.EqAt.int_int _ _ _ _
  |j+2,h1,_=>exact absurd h1 (by simp));refine z X.prog X.w X.xe _ ?_;have e3:((List.range (min [Value.int a t1,Value.int b t2].toArray.size [Value.int c t3,Value.int d t4].toArray.size)).all (fun j=>if j=0 then a==c else b==d)&&[Value.int a t1,Value.int b t2].toArray.size==[Value.int c t3,Value.int d t4].toArray.size)=(a==c&&b==d):=by
  show(((a==c)&&((b==d)&&true))&&true)=_;cases (a==c)<;>cases (b==d)<;>rfl
 rw[e3];exact⟨.bl _,H,I,rfl,h⟩
end
end L2
namespace SF
open Lean.Grind
structure Po where
 s:PS Int
 fin:∃n,∀i,n<=i->s.c i=0
namespace Po
theorem inj{f g:Po}(h:f.s=g.s):f=g:=by cases f;cases g;cases h;rfl
noncomputable def c(f:Po)(i:Nat):Int:=f.s.c i
theorem ext{f g:Po}(h:∀i,f.c i=g.c i):f=g:=inj (PS.ext h)
theorem Kz(a:Int):∃n,∀i,n<=i->(PS.C a).c i=0:=⟨1,fun i hi=>by rw[PS.mR,if_neg (by lia)]⟩
noncomputable def K(a:Int):Po:=⟨PS.C a,Kz a⟩
theorem DJ(f g:Po):∃n,∀i,n<=i->(f.s+g.s).c i=0:=by
 obtain⟨a,ha⟩:=f.fin;obtain⟨b,hb⟩:=g.fin;exact⟨max a b,fun i hi=>by rw[PS.mQ,ha i (by lia),hb i (by lia)];rfl⟩
theorem DK(f g:Po):∃n,∀i,n<=i->(f.s-g.s).c i=0:=by
 obtain⟨a,ha⟩:=f.fin;obtain⟨b,hb⟩:=g.fin;exact⟨max a b,fun i hi=>by rw[PS.Hc,ha i (by lia),hb i (by lia)];rfl⟩
theorem DL(f:Po):∃n,∀i,n<=i->(-f.s).c i=0:=by
 obtain⟨a,ha⟩:=f.fin;exact⟨a,fun i hi=>by rw[PS.AO,ha i hi];rfl⟩
theorem DM(f g:Po):∃n,∀i,n<=i->(f.s*g.s).c i=0:=by
 obtain⟨a,ha⟩:=f.fin;obtain⟨b,hb⟩:=g.fin;refine⟨a+b,fun n hn=>?_⟩;rw[PS.dz];refine cv fun i hi=>?_;by_cases h:i<a
 ·rw[hb (n-i) (by lia)];grind
 ·rw[ha i (by lia)];grind
noncomputable instance instAdd:Add Po:=⟨fun f g=>⟨f.s+g.s,DJ f g⟩⟩
noncomputable instance instMul:Mul Po:=⟨fun f g=>⟨f.s*g.s,DM f g⟩⟩
noncomputable instance instNeg:Neg Po:=⟨fun f=>⟨-f.s,DL f⟩⟩
noncomputable instance instSub:Sub Po:=⟨fun f g=>⟨f.s-g.s,DK f g⟩⟩
noncomputable instance instNatCast:NatCast Po:=⟨fun n=>K (n:Int)⟩
noncomputable instance instIntCast:IntCast Po:=⟨fun n=>K n⟩
noncomputable instance instOfNat(n:Nat):OfNat Po n:=⟨K ((n:Nat):Int)⟩
noncomputable def KA(f:Po):Nat->Po
 |0=>K 1
 |n+1=>KA f n*f
noncomputable instance instHPow:HPow Po Nat Po:=⟨KA⟩
noncomputable instance gG:SMul Nat Po:=⟨fun n f=>K (n:Int)*f⟩
noncomputable instance gH:SMul Int Po:=⟨fun n f=>K n*f⟩
theorem FA:(PS.C (1:Int))=1:=rfl
theorem xu:(PS.C (0:Int))=0:=rfl
noncomputable instance instCommRing:CommRing Po where
 natCast:=instNatCast
 ofNat:=instOfNat
 nsmul:=gG
 npow:=instHPow
 intCast:=instIntCast
 zsmul:=gH
 add_zero f:=inj (by show f.s+PS.C 0=f.s;rw[xu];grind)
 add_comm f g:=inj (by show f.s+g.s=g.s+f.s;grind)
 add_assoc f g h:=inj (by show f.s+g.s+h.s=f.s+(g.s+h.s);grind)
 mul_assoc f g h:=inj (by show f.s*g.s*h.s=f.s*(g.s*h.s);grind)
 mul_one f:=inj (by show f.s*PS.C 1=f.s;rw[FA];grind)
 one_mul f:=inj (by show PS.C 1*f.s=f.s;rw[FA];grind)
 right_distrib f g h:=inj (by show(f.s+g.s)*h.s=f.s*h.s+g.s*h.s;grind)
 left_distrib f g h:=inj (by show f.s*(g.s+h.s)=f.s*g.s+f.s*h.s;grind)
 zero_mul f:=inj (by show PS.C 0*f.s=PS.C 0;rw[xu];grind)
 mul_zero f:=inj (by show f.s*PS.C 0=PS.C 0;rw[xu];grind)
 pow_zero f:=rfl
 pow_succ f n:=rfl
 ofNat_succ n:=inj (by show PS.C (((n+1:Nat)):Int)=PS.C ((n:Nat):Int)+PS.C ((1:Nat):Int);rw[<-PS.AQ];rfl)
 ofNat_eq_natCast n:=rfl
 nsmul_eq_natCast_mul n f:=rfl
 neg_add_cancel f:=inj (by show -f.s+f.s=PS.C 0;rw[xu];grind)
 sub_eq_add_neg f g:=inj (by show f.s-g.s=f.s+-g.s;grind)
 neg_zsmul n f:=inj (by show PS.C (-n)*f.s=-(PS.C n*f.s);rw[PS.xn];grind)
 zsmul_natCast_eq_nsmul n f:=rfl
 intCast_ofNat n:=rfl
 intCast_neg n:=inj (by show PS.C (-n)=-PS.C n;rw[PS.xn])
 mul_comm f g:=inj (PS.mul_comm f.s g.s)
theorem xv(a b:Int):K (a+b)=K a+K b:=inj (PS.AQ a b)
theorem AZ(a:Int):K (-a)=-K a:=inj (PS.xn a)
theorem cb:K 1=1:=rfl
theorem cH:K 0=0:=rfl
theorem eL(i:Nat):(0:Po).c i=0:=PS.gF i
theorem oZ(i:Nat):(1:Po).c i=if i=0 then 1 else 0:=PS.mR 1 i
theorem vk(a:Int)(i:Nat):(K a).c i=if i=0 then a else 0:=PS.mR a i
theorem ju(f g:Po)(i:Nat):(f+g).c i=f.c i+g.c i:=rfl
theorem gp(f g:Po)(i:Nat):(f-g).c i=f.c i-g.c i:=rfl
theorem FC(f:Po)(i:Nat):(-f).c i=-f.c i:=rfl
theorem sJ(f g:Po)(n:Nat):(f*g).c n=ay (fun i=>f.c i*g.c (n-i)) (n+1):=rfl
theorem aV(a:Int)(f:Po)(n:Nat):(K a*f).c n=a*f.c n:=PS.lB a f.s n
theorem bH(a b:Int):K (a*b)=K a*K b:=ext fun i=>by
 rw[aV,vk,vk];split<;>grind
theorem Hj(xs:List Int):∃n,∀i,n<=i->(se xs).c i=0:=⟨xs.length,fun i hi=>cx hi⟩
noncomputable def aq(xs:List Int):Po:=⟨se xs,Hj xs⟩
theorem aY(xs:List Int)(i:Nat):(aq xs).c i=co xs i:=rfl
theorem vm(f:Po):∃xs:List Int,Tr xs/\co xs=f.c:=by
 obtain⟨n,hn⟩:=f.fin;refine⟨dA (fG f.c n),gI _,?_⟩
 funext i
 rw[fT,qg (f:=f.c) hn]
noncomputable def lst(f:Po):List Int:=Classical.choose (vm f)
theorem ik(f:Po):Tr (lst f):=(Classical.choose_spec (vm f)).1
theorem iR(f:Po):co (lst f)=f.c:=(Classical.choose_spec (vm f)).2
noncomputable def len(f:Po):Nat:=(lst f).length
theorem cT(f:Po):aq (lst f)=f:=ext fun i=>by rw[aY,iR]
theorem ql{xs:List Int}(h:Tr xs):lst (aq xs)=xs:=(ik _).inj h fun i=>by rw[iR];rfl
theorem bB{xs:List Int}(h:Tr xs):len (aq xs)=xs.length:=by unfold len;rw[ql h]
theorem j6{xs ys:List Int}(hx:Tr xs)(hy:Tr ys)(h:aq xs=aq ys):xs=ys:=by rw[<-ql hx,h,ql hy]
theorem dt:aq []=0:=ext fun i=>by rw[aY,eL];rfl
theorem xw(xs ys:List Int):aq (mulL xs ys)=aq xs*aq ys:=ext fun i=>by rw[aY,qh];rfl
theorem A0(xs:List Int):aq (dA xs)=aq xs:=ext fun i=>by rw[aY,aY,fT]
theorem dS{f:Po}{i:Nat}(h:len f<=i):f.c i=0:=by rw[<-iR];exact cx h
theorem lead{f:Po}(h:0<len f):f.c (len f-1)≠0:=by
 rw[<-iR];exact(ik f).last (List.length_pos_iff.mp h)
theorem cA{f:Po}{n:Nat}(h:∀i,n<=i->f.c i=0):len f<=n:=by
 rcases Nat.lt_or_ge n (len f) with hl|hl
 ·exact absurd (h (len f-1) (by lia)) (lead (by lia))
 ·exact hl
theorem len_eq{f:Po}{n:Nat}(h:∀i,n<=i->f.c i=0)(h0:f.c (n-1)≠0)(hp:0<n):len f=n:=by
 have h1:=cA h;rcases Nat.lt_or_ge (len f) n with hl|hl
 ·exact absurd (dS (f:=f) (i:=n-1) (by lia)) h0
 ·lia
theorem fq:len (0:Po)=0:=Nat.le_zero.mp (cA fun i _=>eL i)
theorem mn{f:Po}(h:len f=0):f=0:=ext fun i=>by rw[eL];exact dS (by lia)
theorem len_pos{f:Po}(h:f≠0):0<len f:=Nat.pos_of_ne_zero fun z=>h (mn z)
theorem cm{f:Po}(h:0<len f):f≠0:=by rintro rfl;rw[fq] at h;lia
theorem qm(f g:Po):len (f+g)<=max (len f) (len g):=cA fun i hi=>by
 rw[ju,dS (by lia),dS (by lia)];rfl
theorem len_sub(f g:Po):len (f-g)<=max (len f) (len g):=cA fun i hi=>by
 rw[gp,dS (by lia),dS (by lia)];rfl
theorem len_K{a:Int}(h:a≠0):len (K a)=1:=len_eq (fun i hi=>by rw[vk,if_neg (by lia)]) (by rw[vk,if_pos rfl];exact h) (by decide)
theorem sL(a:Int):len (K a)<=1:=cA fun i hi=>by rw[vk,if_neg (by lia)]
theorem bS{f:Po}(h:len f<=1):f=K (f.c 0):=ext fun i=>by
 rw[vk];split
 ·rename_i e;rw[e]
 ·exact dS (by lia)
theorem KC{a b:Int}(h:K a=K b):a=b:=by
 have:=congrArg (fun f=>f.c 0) h;simpa[vk] using this
theorem js{a:Int}(h:a≠0):K a≠0:=fun e=>h (KC (e.trans cH.symm))
theorem len_mul{f g:Po}(hf:f≠0)(hg:g≠0):len (f*g)+1=len f+len g:=by
 have h1:=len_pos hf;have h2:=len_pos hg;have e:(f*g).c=(se (lst f)*se (lst g)).c:=by
  rw[<-qh]
  conv=>lhs;rw[<-cT f,<-cT g,<-xw]
  rfl
 have h3:len (f*g)=len f+len g-1:=by
  refine len_eq (fun i hi=>?_) ?_ (by lia)
  ·rw[e];refine sv ?_;show len f+len g<=i+1;lia
  ·rw[e];have:=sx (xs:=lst f) (ys:=lst g) (List.length_pos_iff.mp h1) (List.length_pos_iff.mp h2);have e2:len f+len g-1-1=(lst f).length+(lst g).length-2:=by show _=len f+len g-2;lia
   rw[e2,this];exact Int.mul_ne_zero ((ik f).last (List.length_pos_iff.mp h1)) ((ik g).last (List.length_pos_iff.mp h2))
 lia
theorem mW{f g:Po}(hf:f≠0)(hg:g≠0):(f*g).c (len (f*g)-1)=f.c (len f-1)*g.c (len g-1):=by
 have h1:=len_pos hf;have h2:=len_pos hg;have h3:=len_mul hf hg;have e:(f*g).c=(se (lst f)*se (lst g)).c:=by
  rw[<-qh]
  conv=>lhs;rw[<-cT f,<-cT g,<-xw]
  rfl
 have:=sx (xs:=lst f) (ys:=lst g) (List.length_pos_iff.mp h1) (List.length_pos_iff.mp h2);have e2:len (f*g)-1=(lst f).length+(lst g).length-2:=by show _=len f+len g-2;lia
 rw[e,e2,this,iR,iR];rfl
theorem dC{f g:Po}(hf:f≠0)(hg:g≠0):f*g≠0:=by
 have h1:=len_pos hf;have h2:=len_pos hg;have h3:=len_mul hf hg;exact cm (by lia)
theorem mul_eq_zero{f g:Po}(h:f*g=0):f=0\/g=0:=by
 by_cases hf:f=0
 ·exact .inl hf
 ·by_cases hg:g=0
  ·exact .inr hg
  ·exact absurd h (dC hf hg)
theorem cancel{f g h:Po}(hf:f≠0)(e:f*g=f*h):g=h:=by
 have:f*(g-h)=0:=by grind
 rcases mul_eq_zero this with z|z
 ·exact absurd z hf
 ·grind
theorem fU{a:Int}(h:a≠0)(f:Po):len (K a*f)=len f:=by
 by_cases hf:f=0
 ·rw[hf];have:K a*(0:Po)=0:=by grind
  rw[this]
 ·have:=len_mul (js h) hf;rw[len_K h] at this;lia
theorem qo{f g:Po}(h:f*g≠0):f≠0:=by rintro rfl;exact h (by grind)
theorem gK{f g:Po}(h:f*g≠0):g≠0:=by rintro rfl;exact h (by grind)
noncomputable def X(n:Nat):Po:=⟨⟨fun i=>if i=n then 1 else 0⟩,n+1,fun i hi=>if_neg (by lia)⟩
theorem xx(n i:Nat):(X n).c i=if i=n then 1 else 0:=rfl
theorem ff(n:Nat)(f:Po)(i:Nat):(X n*f).c i=if i<n then 0 else f.c (i-n):=by
 rw[sJ];split
 ·rename_i h;refine cv fun j hj=>?_;rw[xx,if_neg (by lia)];grind
 ·rename_i h;have e:i+1=n+(1+(i-n)):=by lia
  rw[e,cw,cw];rw[cv (n:=n) (fun j hj=>by rw[xx,if_neg (by lia)];grind)];rw[cv (n:=i-n) (fun j hj=>by rw[xx,if_neg (by lia)];grind)];show 0+((0+(X n).c (n+0)*f.c (i-(n+0)))+0)=_;rw[xx,if_pos (Nat.add_zero n),Nat.add_zero];grind
theorem qp:X 0=1:=ext fun i=>by rw[xx,oZ]
noncomputable def D(f g:Po):Prop:=∃a:Int,a≠0/\∃q,K a*g=f*q
theorem D.refl(f:Po):D f f:=⟨1,by decide,1,by rw[cb];grind⟩
theorem D.mul(f g:Po):D f (f*g):=⟨1,by decide,g,by rw[cb];grind⟩
theorem D.zero(f:Po):D f 0:=⟨1,by decide,0,by grind⟩
theorem D.trans{f g h:Po}(h1:D f g)(h2:D g h):D f h:=by
 obtain⟨a,ha,q,e⟩:=h1;obtain⟨b,hb,r,e2⟩:=h2;exact⟨a*b,Int.mul_ne_zero ha hb,q*r,by rw[bH];grind⟩
theorem D.add{f g h:Po}(h1:D f g)(h2:D f h):D f (g+h):=by
 obtain⟨a,ha,q,e⟩:=h1;obtain⟨b,hb,r,e2⟩:=h2;exact⟨a*b,Int.mul_ne_zero ha hb,K b*q+K a*r,by rw[bH];grind⟩
theorem D.mulR{f g:Po}(h:D f g)(u:Po):D f (g*u):=by
 obtain⟨a,ha,q,e⟩:=h;exact⟨a,ha,q*u,by grind⟩
theorem D.mulL{f g:Po}(h:D f g)(u:Po):D f (u*g):=by
 obtain⟨a,ha,q,e⟩:=h;exact⟨a,ha,q*u,by grind⟩
theorem D.neg{f g:Po}(h:D f g):D f (-g):=by
 obtain⟨a,ha,q,e⟩:=h;exact⟨a,ha,-q,by grind⟩
theorem D.sub{f g h:Po}(h1:D f g)(h2:D f h):D f (g-h):=by
 have:=h1.add h2.neg;have e:g-h=g+-h:=by grind
 rw[e];exact this
theorem D.xy{f g:Po}{a:Int}(ha:a≠0)(h:D f (K a*g)):D f g:=by
 obtain⟨b,hb,q,e⟩:=h;exact⟨b*a,Int.mul_ne_zero hb ha,q,by rw[bH];grind⟩
theorem D.S_{f:Po}{a:Int}(ha:a≠0):D (K a) f:=⟨a,ha,f,rfl⟩
theorem D.Kl{f g:Po}{a:Int}(ha:a≠0)(h:D f g):D (K a*f) g:=by
 obtain⟨b,hb,q,e⟩:=h;exact⟨a*b,Int.mul_ne_zero ha hb,q,by rw[bH];grind⟩
theorem D.ne{f g:Po}(h:D f g)(hg:g≠0):f≠0:=by
 obtain⟨a,ha,q,e⟩:=h;rintro rfl;exact dC (js ha) hg (by rw[e];grind)
theorem D.len{f g:Po}(h:D f g)(hg:g≠0):len f<=len g:=by
 have hf:=h.ne hg;obtain⟨a,ha,q,e⟩:=h;have hq:q≠0:=by
  rintro rfl;exact dC (js ha) hg (by rw[e];grind)
 have h1:=len_mul hf hq;rw[<-e,fU ha] at h1;have:=len_pos hq;lia
theorem D.mX{f g:Po}(h:D f g)(hg:g≠0)(hl:Po.len g<=Po.len f):D g f:=by
 have hf:=h.ne hg;obtain⟨a,ha,q,e⟩:=h;have hq:q≠0:=by
  rintro rfl;exact dC (js ha) hg (by rw[e];grind)
 have h1:=len_mul hf hq;rw[<-e,fU ha] at h1;have h2:Po.len q<=1:=by lia
 have e2:=bS h2;have hb:q.c 0≠0:=by
  intro z;rw[z,cH] at e2;exact hq e2
 refine⟨q.c 0,hb,K a,?_⟩;rw[<-e2];grind
theorem D.cancel{f g h:Po}(hh:h≠0)(e:D (h*f) (h*g)):D f g:=by
 obtain⟨a,ha,q,e⟩:=e;refine⟨a,ha,q,Po.cancel hh ?_⟩;grind
theorem D.Hk{f g h:Po}(e:D f g):D (h*f) (h*g):=by
 obtain⟨a,ha,q,e⟩:=e;exact⟨a,ha,q,by grind⟩
theorem D.const{f g:Po}(hf:f≠0)(hl:Po.len f<=1):D f g:=by
 have e:=bS hl;have hb:f.c 0≠0:=by
  intro z;rw[z,cH] at e;exact hf e
 rw[e];exact D.S_ hb
theorem KD{g:Po}(hg:g≠0):∀(n:Nat)(f:Po),len f<=n->∃a q r,a≠0/\K a*f=g*q+r/\len r<len g
 |0,f,h=>⟨1,0,f,by decide,by rw[cb];grind,by have:=len_pos hg;lia⟩
 |n+1,f,h=>by
  have KG:=len_pos hg;by_cases hl:len f<len g
  ·exact⟨1,0,f,by decide,by rw[cb];grind,hl⟩
  have Wl:0<len f:=by lia
  let b:=g.c (len g-1);let d:=f.c (len f-1);let t:=K d*X (len f-len g);have hb:b≠0:=lead KG;have hx:∀i,(t*g).c i=d*(if i<len f-len g then 0 else g.c (i-(len f-len g))):=fun i=>by
   have e:t*g=K d*(X (len f-len g)*g):=by show K d*X (len f-len g)*g=_;grind
   rw[e,aV,ff]
  have h2:len (K b*f-t*g)<=n:=cA fun i hi=>by
   rw[gp,aV,hx];rw[if_neg (by lia)];by_cases he:i=len f-1
   ·have e2:i-(len f-len g)=len g-1:=by lia
    rw[e2,he];show b*d-d*b=0;grind
   ·rw[dS (f:=f) (by lia),dS (f:=g) (by lia)];grind
  obtain⟨a,q,r,ha,e,hr⟩:=KD hg n _ h2;exact⟨a*b,q+K a*t,r,Int.mul_ne_zero ha hb,by rw[bH];grind,hr⟩
theorem qr:∀(n:Nat)(f g:Po),len g<=n->(f≠0\/g≠0)->∃h u v,h≠0/\u*f+v*g=h/\D h f/\D h g
 |0,f,g,hn,h0=>by
  have hg:g=0:=mn (by lia);have hf:f≠0:=h0.resolve_right fun z=>z hg;exact⟨f,1,0,hf,by grind,D.refl f,by rw[hg];exact D.zero f⟩
 |n+1,f,g,hn,h0=>by
  by_cases hg:g=0
  ·exact qr 0 f g (by rw[hg,fq];exact Nat.le_refl _) h0
  obtain⟨a,q,r,ha,e,hr⟩:=KD hg _ f (Nat.le_refl _);obtain⟨h,u,v,hh,eb,d1,d2⟩:=qr n g r (by lia) (.inl hg);refine⟨h,v*K a,u-v*q,hh,by grind,?_,d1⟩;refine D.xy ha ?_;rw[e];exact(d1.mulR q).add d2
end Po
end SF
namespace SF
open Lean.Grind
noncomputable def FD(p:Nat):Prop:=2<=p/\∀d,d∣p->d=1\/d=p
theorem FD.dvd{p:Nat}(h:FD p){a b:Int}(hd:(p:Int)∣a*b):(p:Int)∣a\/(p:Int)∣b:=by
 by_cases ha:(p:Int)∣a
 ·exact .inl ha
 refine .inr ?_;have h1:p∣a.natAbs*b.natAbs:=by
  have:=Int.natAbs_dvd_natAbs.mpr hd
  rwa [Int.natAbs_mul,Int.natAbs_natCast] at this
 have hg:Nat.gcd p a.natAbs=1:=by
  rcases h.2 _ (Nat.gcd_dvd_left p a.natAbs) with e|e
  ·exact e
  ·exact absurd (Int.ofNat_dvd_left.mpr (by rw[<-e];exact Nat.gcd_dvd_right ..)) ha
 exact Int.ofNat_dvd_left.mpr (Nat.Coprime.dvd_of_dvd_mul_left hg h1)
theorem FD.ex:∀(n m:Nat),m<=n->2<=m->∃p,FD p/\p∣m
 |0,m,h,h2=>by lia
 |n+1,m,h,h2=>by
  by_cases hp:∀d,d∣m->d=1\/d=m
  ·exact⟨m,⟨h2,hp⟩,Nat.dvd_refl m⟩
  ·obtain⟨d,hd⟩:=Classical.not_forall.mp hp;obtain⟨xA,hd2⟩:=Classical.not_imp.mp hd;rw[_root_.not_or] at hd2;have hle:=Nat.le_of_dvd (by lia) xA;have h0:d≠0:=by
    rintro rfl;have:=Nat.eq_zero_of_zero_dvd xA;lia
   obtain⟨p,hp,FE⟩:=FD.ex n d (by lia) (by lia);exact⟨p,hp,Nat.dvd_trans FE xA⟩
theorem least{P:Nat->Prop}:∀(n:Nat),¬P n->∃i,¬P i/\∀j,j<i->P j:=by
 intro n
 induction n using Nat.strongRecOn with
 |_ n ih=>
  intro h;by_cases hx:∀j,j<n->P j
  ·exact⟨n,h,hx⟩
  ·obtain⟨j,hj⟩:=Classical.not_forall.mp hx;obtain⟨h1,h2⟩:=Classical.not_imp.mp hj;exact ih j h1 h2
theorem j7{p:Int}{f:Nat->Int}:∀{n:Nat},(∀i,i<n->p∣f i)->p∣ay f n
 |0,_=>Int.dvd_zero p
 |n+1,h=>Int.dvd_add (j7 fun i hi=>h i (by lia)) (h n (by lia))
namespace Po
noncomputable def Pr(f:Po):Prop:=∀p:Nat,(∀i,(p:Int)∣f.c i)->p=1
theorem Pr.ne{f:Po}(h:Pr f):f≠0:=by
 rintro rfl;have:=h 2 fun i=>by rw[eL];exact Int.dvd_zero _
 lia
theorem lC{p:Nat}(hp:FD p){f q:Po}(h:∀i,(p:Int)∣(f*q).c i):(∀i,(p:Int)∣f.c i)\/(∀i,(p:Int)∣q.c i):=by
 by_cases h1:∀i,(p:Int)∣f.c i
 ·exact .inl h1
 by_cases h2:∀i,(p:Int)∣q.c i
 ·exact .inr h2
 exfalso;obtain⟨i0,Oa⟩:=Classical.not_forall.mp h1;obtain⟨j0,S'⟩:=Classical.not_forall.mp h2;obtain⟨i,hi,Ta⟩:=least (P:=fun i=>(p:Int)∣f.c i) i0 Oa;obtain⟨j,hj,Tb⟩:=least (P:=fun i=>(p:Int)∣q.c i) j0 S';have:=h (i+j);rw[sJ] at this;have e:i+j+1=i+(1+j):=by lia
 rw[e,cw,cw] at this;have d1:(p:Int)∣ay (fun s=>f.c s*q.c (i+j-s)) i:=j7 fun s hs=>Int.dvd_mul_of_dvd_left (Ta s hs);have d2:(p:Int)∣ay (fun s=>f.c (i+(1+s))*q.c (i+j-(i+(1+s)))) j:=j7 fun s hs=>Int.dvd_mul_of_dvd_right (Tb _ (by lia));have d3:=(Int.dvd_add_right d1).mp this;have d4:=(Int.dvd_add_left d2).mp d3;have d5:(p:Int)∣f.c i*q.c j:=by
  have e2:ay (fun s=>f.c (i+s)*q.c (i+j-(i+s))) 1=f.c i*q.c j:=by
   show 0+f.c (i+0)*q.c (i+j-(i+0))=_;rw[Nat.add_zero,Nat.add_sub_cancel_left];grind
  rw[<-e2];exact d4
 rcases hp.dvd d5 with z|z
 ·exact hi z
 ·exact hj z
theorem over{f:Po}{p:Int}(h:∀i,p∣f.c i):∃g,f=K p*g:=by
 refine⟨⟨⟨fun i=>f.c i/p⟩,?_⟩,?_⟩
 ·obtain⟨n,hn⟩:=f.fin;exact⟨n,fun i hi=>by show f.c i/p=0;rw[show f.c i=0 from hn i hi];simp⟩
 ·refine ext fun i=>?_;rw[aV];exact(Int.mul_ediv_cancel' (h i)).symm
theorem FF{f:Po}(hf:Pr f):∀(n:Nat)(a:Int)(g q:Po),a.natAbs<=n->a≠0->K a*g=f*q->∃q',q=K a*q'
 |0,a,g,q,hn,h0,e=>by lia
 |n+1,a,g,q,hn,h0,e=>by
  by_cases h1:a.natAbs=1
  ·refine⟨K a*q,?_⟩;have e2:a*a=1:=by
    rcases Int.natAbs_eq a with z|z<;>rw[h1] at z<;>rw[z]<;>rfl
   have:K a*(K a*q)=K (a*a)*q:=by rw[bH];grind
   rw[this,e2,cb];grind
  obtain⟨p,hp,hd⟩:=FD.ex _ a.natAbs (Nat.le_refl _) (by lia);have IS:(p:Int)∣a:=Int.ofNat_dvd_left.mpr hd;obtain⟨b,rfl⟩:=IS;have hb:b≠0:=by rintro rfl;exact h0 (by simp)
  have DN:(p:Int)≠0:=by have:=hp.1;lia
  have mL:∀i,(p:Int)∣(f*q).c i:=fun i=>by
   rw[<-e,aV,Int.mul_assoc];exact Int.dvd_mul_right ..
  rcases lC hp mL with z|z
  ·have:=hf p z;have:=hp.1;lia
  obtain⟨q1,rfl⟩:=over z;have e1:K b*g=f*q1:=by
   refine Po.cancel (js DN) ?_;rw[bH] at e;grind
  have eE:b.natAbs<=n:=by
   have h2:=hp.1;rw[Int.natAbs_mul,Int.natAbs_natCast] at hn;have h3:0<b.natAbs:=by lia
   have h4:2*b.natAbs<=p*b.natAbs:=Nat.mul_le_mul_right _ h2;lia
  obtain⟨q2,rfl⟩:=FF hf n b g q1 eE hb e1;exact⟨q2,by rw[bH];grind⟩
theorem Pr.div{f g:Po}(hf:Pr f)(h:D f g):∃q,g=f*q:=by
 obtain⟨a,ha,q,e⟩:=h;obtain⟨q',rfl⟩:=FF hf _ a g q (Nat.le_refl _) ha e;refine⟨q',Po.cancel (js ha) ?_⟩;grind
theorem Pr.Hl{f g:Po}(h:Pr (f*g)):Pr g:=fun p hp=>h p fun i=>by
 rw[sJ];exact j7 fun s _=>Int.dvd_mul_of_dvd_right (hp _)
theorem Pr.same{f g:Po}(hf:Pr f)(hg:Pr g)(h1:D f g)(h2:D g f)(l1:0<f.c (len f-1))(l2:0<g.c (len g-1)):f=g:=by
 obtain⟨q,e⟩:=hf.div h1;have Ou:=h1.len hg.ne;have om:=h2.len hf.ne;have hq:q≠0:=by rintro rfl;exact hg.ne (by rw[e];grind)
 have Tc:=len_mul hf.ne hq;rw[<-e] at Tc;have hc:=bS (f:=q) (by lia);have hd:∀i,q.c 0∣g.c i:=fun i=>by
  have e2:g=K (q.c 0)*f:=by rw[<-hc,e];grind
  rw[e2,aV];exact Int.dvd_mul_right ..
 have h3:(q.c 0).natAbs=1:=hg _ fun i=>Int.natAbs_dvd.mpr (hd i);have hle:len f=len g:=by lia
 have e3:g.c (len g-1)=q.c 0*f.c (len f-1):=by
  have e2:g=K (q.c 0)*f:=by rw[<-hc,e];grind
  have:=congrArg (fun z:Po=>z.c (len g-1)) e2;have e4:g.c (len g-1)=(K (q.c 0)*f).c (len g-1):=this;rw[e4,aV,hle]
 have h4:q.c 0=1:=by
  rcases Int.natAbs_eq (q.c 0) with z|z
  ·rw[z,h3];rfl
  ·rw[h3] at z;rw[z] at e3;lia
 rw[e,hc,h4,cb];grind
theorem DO(f:Po):∃n,∀i,n<=i->(PS.aU f.s).c i=0:=by
 obtain⟨n,hn⟩:=f.fin;exact⟨n,fun i hi=>by rw[PS.mS,hn (i+1) (by lia)];grind⟩
noncomputable def aU(f:Po):Po:=⟨PS.aU f.s,DO f⟩
theorem lD(f:Po)(i:Nat):(aU f).c i=((i+1:Nat):Int)*f.c (i+1):=rfl
theorem jW(f g:Po):aU (f*g)=aU f*g+f*aU g:=inj (PS.jW f.s g.s)
theorem sM(a:Int)(f:Po):aU (K a*f)=K a*aU f:=ext fun i=>by
 rw[lD,aV,aV,lD];grind
theorem xB(f:Po):len (aU f)=len f-1:=by
 by_cases h:len f<=1
 ·have:len (aU f)<=0:=cA fun i _=>by rw[lD,dS (by lia)];grind
  lia
 ·refine len_eq (fun i hi=>by rw[lD,dS (by lia)];grind) ?_ (by lia);rw[lD];have e:len f-1-1+1=len f-1:=by lia
  rw[e];exact Int.mul_ne_zero (by lia) (lead (by lia))
theorem eM(xs:List Int):aq (bR xs)=aU (aq xs):=ext fun i=>by
 rw[aY,jY];rfl
theorem gL(f:Po):f^0=1:=rfl
theorem pow_succ'(f:Po)(n:Nat):f^(n+1)=f^n*f:=rfl
theorem vn{f:Po}(h:f≠0):∀n:Nat,f^n≠0
 |0=>by rw[gL,<-cb];exact js (by decide)
 |n+1=>by rw[pow_succ'];exact dC (vn h n) h
theorem xC(f:Po):∀n:Nat,aU (f^(n+1))=K ((n+1:Nat):Int)*(f^n*aU f)
 |0=>by
  have e:f^(0+1)=f:=by rw[pow_succ',gL];grind
  rw[e,gL];show _=K 1*_;rw[cb];grind
 |n+1=>by
  rw[pow_succ',jW,xC f n];have e:K ((n+1+1:Nat):Int)=K ((n+1:Nat):Int)+1:=by
   rw[<-cb,<-xv];rfl
  rw[e,pow_succ'];grind
noncomputable def lE(p:Po):Prop:=2<=len p/\∀d,D d p->len d<=1\/len p<=len d
theorem lE.ne{p:Po}(h:lE p):p≠0:=cm (by have:=h.1;lia)
theorem lE.prime{p f g:Po}(hp:lE p)(h:D p (f*g)):D p f\/D p g:=by
 obtain⟨h,u,v,hh,e,d1,d2⟩:=qr _ p f (Nat.le_refl _) (.inl hp.ne);rcases hp.2 h d1 with z|z
 ·refine .inr ?_;have hc:=bS z;have h0:h.c 0≠0:=fun z=>hh (by rw[hc,z,cH]);refine D.xy h0 ?_;rw[<-hc,<-e];have e2:(u*p+v*f)*g=p*(u*g)+(f*g)*v:=by grind
  rw[e2];exact(D.mul p _).add (D.mulR (by assumption) v)
 ·exact .inl ((d1.mX hp.ne z).trans d2)
theorem lE.ex:∀(n:Nat)(f:Po),len f<=n->2<=len f->∃p,lE p/\D p f
 |0,f,h,h2=>by lia
 |n+1,f,h,h2=>by
  by_cases hp:∀d,D d f->len d<=1\/len f<=len d
  ·exact⟨f,⟨h2,hp⟩,D.refl f⟩
  ·obtain⟨d,hd⟩:=Classical.not_forall.mp hp;obtain⟨xA,hd2⟩:=Classical.not_imp.mp hd;rw[_root_.not_or] at hd2;obtain⟨p,hp,FE⟩:=lE.ex n d (by lia) (by lia);exact⟨p,hp,FE.trans xA⟩
theorem lE.aU{p:Po}(hp:lE p):¬D p (aU p):=fun h=>by
 have h1:=hp.1;have h2:=xB p;have:=h.len (cm (by lia));lia
theorem lE.mult{p:Po}(hp:lE p):∀(n:Nat)(f:Po),len f<=n->f≠0->∃(e:Nat)(u:Po)(a:Int),a≠0/\K a*f=p^e*u/\¬D p u
 |0,f,h,h0=>absurd (mn (by lia)) h0
 |n+1,f,h,h0=>by
  by_cases hd:D p f
  ·obtain⟨a,ha,q,e⟩:=hd;have hq:q≠0:=gK (f:=p) (by rw[<-e];exact dC (js ha) h0);have h1:=len_mul hp.ne hq;rw[<-e,fU ha] at h1;have h2:=hp.1;obtain⟨k,u,b,hb,e2,hu⟩:=lE.mult hp n q (by lia) hq;refine⟨k+1,u,b*a,Int.mul_ne_zero hb ha,?_,hu⟩;rw[bH,pow_succ'];grind
  ·exact⟨0,f,1,by decide,by rw[cb,gL],hd⟩
theorem DP{f h p u v:Po}{a:Int}(hf:f≠0)(e1:u*f+v*aU f=h)(d1:D h f)(d2:D h (aU f))(ha:a≠0)(e:K a*f=h*p){π:Po}(hp:lE π):
 (D π p↔D π f)/\¬D (π*π) p:=by
 have Ov:D p f:=⟨a,ha,h,by grind⟩;have hh:h≠0:=qo (g:=p) (by rw[<-e];exact dC (js ha) hf);by_cases hd:D π f
 ·obtain⟨k,w,b,hb,ew,hw⟩:=hp.mult _ f (Nat.le_refl _) hf;have hk:k≠0:=by
   rintro rfl;refine hw ?_;have:w=K b*f:=by rw[ew,gL];grind
   rw[this];exact hd.mulL _
  obtain⟨k,rfl⟩:=Nat.exists_eq_succ_of_ne_zero hk;have ed:K b*aU f=π^k*(K ((k+1:Nat):Int)*(aU π*w)+π*aU w):=by
   rw[<-sM,ew,jW,xC,pow_succ'];grind
  have dk:D (π^k) h:=by
   rw[<-e1];refine D.add (D.mulL ⟨b,hb,π*w,?_⟩ u) (D.mulL ⟨b,hb,_,ed⟩ v);rw[ew,pow_succ'];grind
  have Td:¬D (π^(k+1)) h:=fun z=>by
   have z2:=z.trans d2;have z3:D (π^k*π) (π^k*(K ((k+1:Nat):Int)*(aU π*w)+π*aU w)):=by
    rw[<-ed,<-pow_succ'];exact z2.mulL _
   have z4:=D.cancel (vn hp.ne k) z3;have z5:D π (K ((k+1:Nat):Int)*(aU π*w)):=by
    have:=z4.sub (D.mul π (aU w));have e2:K ((k+1:Nat):Int)*(aU π*w)+π*aU w-π*aU w=K ((k+1:Nat):Int)*(aU π*w):=by grind
    rw[e2] at this;exact this
   rcases hp.prime (D.xy (by lia) z5) with z6|z6
   ·exact hp.aU z6
   ·exact hw z6
  obtain⟨b2,KH,w2,QJ⟩:=dk;have Te:¬D π w2:=fun z=>Td (by
   refine D.xy KH ?_
   rw[QJ,pow_succ'];exact z.Hk);have em:K (b2*a)*(π*w)=K b*(w2*p):=by
   refine Po.cancel (vn hp.ne k) ?_;have e2:π^k*π*w=K b*f:=by rw[ew,pow_succ']
   have e3:π^k*w2=K b2*h:=QJ.symm;rw[bH];have e4:π^k*(K b2*K a*(π*w))=K b2*K a*(π^k*π*w):=by grind
   have e5:π^k*(K b*(w2*p))=K b*p*(π^k*w2):=by grind
   rw[e4,e5,e2,e3];grind
  have Hm:b2*a≠0:=Int.mul_ne_zero KH ha;constructor
  ·refine⟨fun z=>z.trans Ov,fun _=>?_⟩;have z1:D π (w2*p):=by
    refine D.xy hb ?_;rw[<-em];exact(D.mul π w).mulL _
   rcases hp.prime z1 with z|z
   ·exact absurd z Te
   ·exact z
  ·rintro⟨c,hc,t,et⟩;refine hw ⟨b2*a*c,Int.mul_ne_zero Hm hc,K b*(w2*t),Po.cancel hp.ne ?_⟩;have e6:π*(K (b2*a*c)*w)=K c*(K (b2*a)*(π*w)):=by rw[bH];grind
   rw[e6,em];grind
 ·refine⟨⟨fun z=>z.trans Ov,fun z=>absurd z hd⟩,fun z=>hd ?_⟩;have:D π (π*π):=D.mul π π;exact(this.trans z).trans Ov
theorem vo:∀(n:Nat)(p q:Po),len p<=n->p≠0->(∀π,lE π->¬D (π*π) p)->(∀π,lE π->D π p->D π q)->D p q
 |0,p,q,h,h0,_,_=>absurd (mn (by lia)) h0
 |n+1,p,q,h,h0,hs,hd=>by
  by_cases hl:len p<=1
  ·exact D.const h0 hl
  obtain⟨π,hp,FE⟩:=lE.ex _ p (Nat.le_refl _) (by lia);have dq:=hd π hp FE;obtain⟨a,ha,p1,e⟩:=FE;have h1:p1≠0:=gK (f:=π) (by rw[<-e];exact dC (js ha) h0);have Ou:=len_mul hp.ne h1;rw[<-e,fU ha] at Ou;have om:=hp.1;have QK:D p1 p:=⟨a,ha,π,by grind⟩;have Tf:¬D π p1:=fun z=>hs π hp (by
   refine D.xy ha ?_
   rw[e];exact z.Hk);have Tg:=vo n p1 q (by lia) h1 (fun τ ht z=>hs τ ht (z.trans QK)) (fun τ ht z=>hd τ ht (z.trans QK));obtain⟨b,hb,t,et⟩:=Tg;have z1:D π (p1*t):=by rw[<-et];exact dq.mulL _
  rcases hp.prime z1 with z|z
  ·exact absurd z Tf
  obtain⟨c,hc,s,es⟩:=z;refine⟨c*b*a,Int.mul_ne_zero (Int.mul_ne_zero hc hb) ha,K a*(K a*s),?_⟩;have e3:K (c*b*a)*q=K a*(K c*(K b*q)):=by rw[bH,bH];grind
  have e4:p*(K a*(K a*s))=K a*((K a*p)*s):=by grind
  rw[e3,e4,et,e];grind
end Po
end SF
namespace SF
open Lean.Grind
theorem j8{f g:Nat->Int}:∀{n:Nat},(∀i,i<n->f i<=g i)->ay f n<=ay g n
 |0,_=>Int.le_refl 0
 |n+1,h=>Int.add_le_add (j8 fun i hi=>h i (by lia)) (h n (by lia))
theorem iS{f:Nat->Int}{n:Nat}(h:∀i,i<n->0<=f i):0<=ay f n:=by
 have:=j8 (f:=fun _=>0) (g:=f) h;rw[oW] at this;exact this
theorem DQ{f:Nat->Int}{n j:Nat}(h:∀i,i<n->0<=f i)(hj:j<n):f j<=ay f n:=by
 have e:n=j+(1+(n-1-j)):=by lia
 rw[e,cw,cw];have h1:0<=ay f j:=iS fun i hi=>h i (by lia);have h2:0<=ay (fun i=>f (j+(1+i))) (n-1-j):=iS fun i hi=>h _ (by lia);have h3:ay (fun i=>f (j+i)) 1=f j:=by show 0+f (j+0)=f j;rw[Nat.add_zero];grind
 lia
theorem mY(M:Int):∀n:Nat,ay (fun i=>M*(M+1)^i) n=(M+1)^n-1
 |0=>by show(0:Int)=(M+1)^0-1;rw[Int.pow_zero];rfl
 |n+1=>by
  show ay (fun i=>M*(M+1)^i) n+M*(M+1)^n=_;rw[mY M n,Int.pow_succ];grind
noncomputable def ab(x:Int):Int:=(x.natAbs:Int)
theorem aF(x:Int):0<=ab x:=by unfold ab;lia
theorem fV(x y:Int):ab (x+y)<=ab x+ab y:=by unfold ab;lia
theorem Hn(x y:Int):ab (x-y)<=ab x+ab y:=by unfold ab;lia
theorem bT(x y:Int):ab (x*y)=ab x*ab y:=by unfold ab;rw[Int.natAbs_mul];push_cast;rfl
theorem lH{x:Int}(h:0<=x):ab x=x:=by unfold ab;lia
theorem fw{x:Int}(h:x≠0):0<ab x:=by unfold ab;lia
theorem vp{f:Nat->Int}:∀n:Nat,ab (ay f n)<=ay (fun i=>ab (f i)) n
 |0=>Int.le_refl 0
 |n+1=>by
  have h1:=fV (ay f n) (f n);have h2:=vp (f:=f) n;show ab (ay f n+f n)<=ay (fun i=>ab (f i)) n+ab (f n);lia
namespace Po
noncomputable def eA(p:Int):List Int->Int
 |[]=>0
 |x::r=>x+p*eA p r
theorem qv(p:Int):∀xs:List Int,eA p xs=ay (fun i=>co xs i*p^i) xs.length
 |[]=>rfl
 |x::r=>by
  show x+p*eA p r=_;rw[qv p r,List.length_cons,dZ,g_,Int.pow_zero,<-cu];have e:ay (fun i=>p*(co r i*p^i)) r.length=ay (fun i=>co (x::r) (i+1)*p^(i+1)) r.length:=aJ fun i _=>by
   rw[eK,Int.pow_succ];grind
  rw[e];grind
noncomputable def ev(p:Int)(f:Po):Int:=ay (fun i=>f.c i*p^i) (len f)
theorem sN(p:Int){f:Po}{n:Nat}(h:len f<=n):ev p f=ay (fun i=>f.c i*p^i) n:=by
 have e:n=len f+(n-len f):=by lia
 rw[e,cw,cv (n:=n-len f) (fun i _=>by rw[dS (by lia)];grind)];show ay _ _=_;grind
theorem iT(p:Int)(xs:List Int):ev p (aq xs)=eA p xs:=by
 rw[qv,sN p (f:=aq xs) (n:=xs.length) (cA fun i hi=>by rw[aY];exact cx hi)];rfl
theorem vq(p:Int)(f g:Po):ev p (f+g)=ev p f+ev p g:=by
 have h1:=qm f g;rw[sN p h1,sN p (f:=f) (n:=max (len f) (len g)) (by lia),sN p (f:=g) (n:=max (len f) (len g)) (by lia),<-eJ];exact aJ fun i _=>by rw[ju];grind
theorem j9(p a:Int)(f:Po):ev p (K a*f)=a*ev p f:=by
 have h1:len (K a*f)<=len f:=cA fun i hi=>by rw[aV,dS hi];grind
 rw[sN p h1];unfold ev;rw[<-cu];exact aJ fun i _=>by rw[aV];grind
theorem Ho(p:Int)(f:Po):ev p (-f)=-ev p f:=by
 have e:-f=K (-1)*f:=by
  rw[AZ,cb];grind
 rw[e,j9];grind
theorem Hq(p:Int)(f g:Po):ev p (f-g)=ev p f-ev p g:=by
 have e:f-g=f+-g:=by grind
 rw[e,vq,Ho];grind
theorem A1(p a:Int):ev p (K a)=a:=by
 rw[sN p (sL a)];show 0+(K a).c 0*p^0=a;rw[vk,if_pos rfl,Int.pow_zero];grind
theorem mZ(x:Int)(r:List Int):aq (x::r)=K x+X 1*aq r:=ext fun i=>by
 rw[ju,vk,ff,aY];cases i with
 |zero=>rw[g_,if_pos rfl,if_pos (by decide)];grind
 |succ i=>rw[eK,if_neg (by lia),if_neg (by lia),Nat.add_sub_cancel,aY];grind
theorem o5(p:Int):∀xs:List Int,∃B,aq xs=(X 1-K p)*B+K (eA p xs)
 |[]=>⟨0,by rw[dt];show _=_+K 0;rw[cH];grind⟩
 |x::r=>by
  obtain⟨B,e⟩:=o5 p r;refine⟨X 1*B+K (eA p r),?_⟩;rw[mZ,e];show _=_+K (x+p*eA p r);rw[xv,bH];grind
theorem factor(p:Int)(f:Po):∃B,f=(X 1-K p)*B+K (ev p f):=by
 obtain⟨B,e⟩:=o5 p (lst f);rw[cT] at e;refine⟨B,?_⟩;rw[<-iT,cT] at e;exact e
theorem DR(p:Int)(f:Po)(i:Nat):((X 1-K p)*f).c i=(if i<1 then 0 else f.c (i-1))-p*f.c i:=by
 have e:(X 1-K p)*f=X 1*f-K p*f:=by grind
 rw[e,gp,ff,aV]
theorem A2(p:Int):len (X 1-K p)=2:=by
 refine len_eq (fun i hi=>?_) ?_ (by decide)
 ·rw[gp,xx,vk,if_neg (by lia),if_neg (by lia)];rfl
 ·rw[gp,xx,vk,if_pos (by decide),if_neg (by decide)];decide
theorem KI(p:Int)(f:Po):ev p ((X 1-K p)*f)=0:=by
 have h:len ((X 1-K p)*f)<=len f+1:=cA fun i hi=>by
  rw[DR,if_neg (by lia),dS (by lia),dS (by lia)];grind
 rw[sN p h];have e:ay (fun i=>((X 1-K p)*f).c i*p^i) (len f+1)=ay (fun i=>(if i<1 then 0 else f.c (i-1))*p^i) (len f+1)-ay (fun i=>p*(f.c i*p^i)) (len f+1):=by
  have:∀a b:Int,a=b-(b-a):=fun a b=>by lia
  have e2:ay (fun i=>(if i<1 then 0 else f.c (i-1))*p^i) (len f+1)=ay (fun i=>((X 1-K p)*f).c i*p^i) (len f+1)+ay (fun i=>p*(f.c i*p^i)) (len f+1):=by
   rw[<-eJ];exact aJ fun i _=>by rw[DR];grind
  lia
 rw[e,cu,<-sN p (f:=f) (n:=len f+1) (by lia),dZ];have e3:ay (fun i=>(if i+1<1 then 0 else f.c (i+1-1))*p^(i+1)) (len f)=p*ev p f:=by
  unfold ev;rw[<-cu];exact aJ fun i _=>by
   rw[if_neg (by lia),Nat.add_sub_cancel,Int.pow_succ];grind
 rw[e3,if_pos (by decide)];grind
theorem kL(p:Int)(f g:Po):ev p (f*g)=ev p f*ev p g:=by
 obtain⟨A,ea⟩:=factor p f;obtain⟨B,eb⟩:=factor p g;have e:f*g=(X 1-K p)*(A*g+K (ev p f)*B)+K (ev p f*ev p g):=by
  rw[bH]
  conv=>lhs;rw[ea]
  have:K (ev p f)*g=K (ev p f)*((X 1-K p)*B+K (ev p g)):=by rw[<-eb]
  grind
 rw[e,vq,KI,A1];grind
theorem A3(p:Int){f g q:Po}(e:g=f*q):ev p f∣ev p g:=by rw[e,kL];exact Int.dvd_mul_right ..
noncomputable def nn(ρ:Int)(N:Nat)(z:Po):Int:=ay (fun i=>ab (z.c i)*ρ^i) N
theorem o6{ρ:Int}(h:0<=ρ)(N:Nat)(z:Po):0<=nn ρ N z:=
 iS fun i _=>Int.mul_nonneg (aF _) (Int.pow_nonneg h)
theorem A4{ρ:Int}(h:0<ρ){N:Nat}{z:Po}(hz:z≠0)(hl:len z<=N):0<nn ρ N z:=by
 have h1:=len_pos hz;have h2:=lead h1;have:=DQ (f:=fun i=>ab (z.c i)*ρ^i) (n:=N) (j:=len z-1) (fun i _=>Int.mul_nonneg (aF _) (Int.pow_nonneg (by lia))) (by lia);have h3:0<ab (z.c (len z-1))*ρ^(len z-1):=Int.mul_pos (fw h2) (Int.pow_pos h);unfold nn;exact Int.lt_of_lt_of_le h3 this
theorem xD{f z y:Po}{s τ p M:Int}{N:Nat}(hM:∀i,ab (f.c i)<=M)(hN:len f=N+2)(hy:len y<=N+1)(hp:0<=p)(e:(X 1-K p)*y=K τ*f-K s*z)(hz:len z<=N+1):
 p*nn (M+1) (N+1) y<=ab s*nn (M+1) (N+1) z+(M+1)*nn (M+1) (N+1) y:=by
 have Hr:0<=M:=Int.le_trans (aF _) (hM 0);have jv:(0:Int)<=M+1:=by lia
 have top:τ*f.c (N+1)=y.c N:=by
  have:=congrArg (fun w:Po=>w.c (N+1)) e;have h2:((X 1-K p)*y).c (N+1)=(K τ*f-K s*z).c (N+1):=this;rw[DR,if_neg (by lia),Nat.add_sub_cancel,dS (f:=y) (i:=N+1) hy,gp,aV,aV,dS (f:=z) (i:=N+1) hz] at h2;grind
 have hl:=lead (f:=f) (by lia);have DS:len f-1=N+1:=by lia
 rw[DS] at hl;have row:∀i,i<N+1->p*(ab (y.c i)*(M+1)^i)<=ab s*(ab (z.c i)*(M+1)^i)+(if i<1 then 0 else ab (y.c (i-1)))*(M+1)^i+ab τ*(M*(M+1)^i):=by
  intro i _;have h2:((X 1-K p)*y).c i=(K τ*f-K s*z).c i:=congrArg (fun w:Po=>w.c i) e;rw[DR,gp,aV,aV] at h2;have e3:p*y.c i=(s*z.c i+(if i<1 then 0 else y.c (i-1)))-τ*f.c i:=by lia
  have h4:ab (p*y.c i)<=ab s*ab (z.c i)+(if i<1 then 0 else ab (y.c (i-1)))+ab τ*M:=by
   rw[e3];have a1:=Hn (s*z.c i+(if i<1 then 0 else y.c (i-1))) (τ*f.c i);have a2:=fV (s*z.c i) (if i<1 then 0 else y.c (i-1));have a3:ab (if i<1 then 0 else y.c (i-1))=if i<1 then 0 else ab (y.c (i-1)):=by split<;>rfl
   have a4:ab (τ*f.c i)<=ab τ*M:=by rw[bT];exact Int.mul_le_mul_of_nonneg_left (hM i) (aF _)
   rw[a3] at a2;rw[bT s] at a2;lia
  rw[bT,lH hp] at h4;have h5:=Int.mul_le_mul_of_nonneg_right h4 (show 0<=(M+1)^i from Int.pow_nonneg jv);have e4:p*(ab (y.c i)*(M+1)^i)=p*ab (y.c i)*(M+1)^i:=by grind
  have e5:ab s*(ab (z.c i)*(M+1)^i)+(if i<1 then 0 else ab (y.c (i-1)))*(M+1)^i+ab τ*(M*(M+1)^i)=(ab s*ab (z.c i)+(if i<1 then 0 else ab (y.c (i-1)))+ab τ*M)*(M+1)^i:=by grind
  rw[e4,e5];exact h5
 have h6:=j8 (n:=N+1) row;rw[cu,eJ,eJ,cu,cu,mY] at h6;have e7:ay (fun i=>(if i<1 then 0 else ab (y.c (i-1)))*(M+1)^i) (N+1)=(M+1)*ay (fun i=>ab (y.c i)*(M+1)^i) N:=by
  rw[dZ,<-cu,if_pos (by decide)];have:ay (fun i=>(if i+1<1 then 0 else ab (y.c (i+1-1)))*(M+1)^(i+1)) N=ay (fun i=>(M+1)*(ab (y.c i)*(M+1)^i)) N:=aJ fun i _=>by
   rw[if_neg (by lia),Nat.add_sub_cancel,Int.pow_succ];grind
  rw[this];grind
 rw[e7] at h6;have e8:nn (M+1) (N+1) y=ay (fun i=>ab (y.c i)*(M+1)^i) N+ab (y.c N)*(M+1)^N:=rfl;have h9:ab τ*((M+1)^(N+1)-1)<=(M+1)*(ab (y.c N)*(M+1)^N):=by
  rw[<-top,bT];have g1:1<=ab (f.c (N+1)):=fw hl;have g2:0<=(M+1)^(N+1):=Int.pow_nonneg jv;have g3:ab τ*(M+1)^(N+1)*1<=ab τ*(M+1)^(N+1)*ab (f.c (N+1)):=Int.mul_le_mul_of_nonneg_left g1 (Int.mul_nonneg (aF _) g2);have g4:=aF τ;have Ow:(M+1)*(ab τ*ab (f.c (N+1))*(M+1)^N)=ab τ*(M+1)^(N+1)*ab (f.c (N+1)):=by rw[Int.pow_succ];grind
  rw[Ow];have Th:ab τ*((M+1)^(N+1)-1)=ab τ*(M+1)^(N+1)*1-ab τ:=by grind
  rw[Th];lia
 show p*nn (M+1) (N+1) y<=ab s*nn (M+1) (N+1) z+(M+1)*nn (M+1) (N+1) y;rw[e8];show p*(ay (fun i=>ab (y.c i)*(M+1)^i) N+ab (y.c N)*(M+1)^N)<=ab s*nn (M+1) (N+1) z+(M+1)*(ay (fun i=>ab (y.c i)*(M+1)^i) N+ab (y.c N)*(M+1)^N);have Wm:p*(ay (fun i=>ab (y.c i)*(M+1)^i) N+ab (y.c N)*(M+1)^N)<=ab s*nn (M+1) (N+1) z+(M+1)*ay (fun i=>ab (y.c i)*(M+1)^i) N+ab τ*((M+1)^(N+1)-1):=h6;have KJ:(M+1)*(ay (fun i=>ab (y.c i)*(M+1)^i) N+ab (y.c N)*(M+1)^N)=(M+1)*ay (fun i=>ab (y.c i)*(M+1)^i) N+(M+1)*(ab (y.c N)*(M+1)^N):=by grind
 rw[KJ];lia
theorem sO{f k q t:Po}(hf:f≠0)(e:f=k*q)(ht:len t+1<=len k)(p:Int):
 ∃B,len B+1<=len k/\(X 1-K p)*(q*B)=K (ev p t)*f-K (ev p k)*(q*t):=by
 let F:=K (ev p t)*k-K (ev p k)*t;obtain⟨B,eB⟩:=factor p F;have e0:ev p F=0:=by
  show ev p (K (ev p t)*k-K (ev p k)*t)=0;rw[Hq,j9,j9];grind
 rw[e0,cH] at eB;have QL:F=(X 1-K p)*B:=by rw[eB];grind
 refine⟨B,?_,?_⟩
 ·by_cases hB:B=0
  ·rw[hB,fq];lia
  ·have h1:=len_mul (cm (by rw[A2];decide)) hB (f:=X 1-K p);rw[<-QL,A2] at h1;have h2:len F<=len k:=by
    have h3:len F<=max (len (K (ev p t)*k)) (len (K (ev p k)*t)):=len_sub _ _;have h4:len (K (ev p t)*k)<=len k:=cA fun i hi=>by rw[aV,dS hi];grind
    have h5:len (K (ev p k)*t)<=len t:=cA fun i hi=>by rw[aV,dS hi];grind
    lia
   lia
 ·have:(X 1-K p)*(q*B)=q*F:=by rw[QL];grind
  rw[this,e];show q*(K (ev p t)*k-K (ev p k)*t)=_;grind
theorem jh{f k q:Po}(hf:f≠0)(e:f=k*q)(hk:2<=len k){M:Int}(hM:∀i,ab (f.c i)<=M){p:Int}(hp:M+1<p):p-(M+1)<=ab (ev p k):=by
 have Hr:0<=M:=Int.le_trans (aF _) (hM 0);have jv:(0:Int)<M+1:=by lia
 have Ox:k≠0:=cm (by lia);have Mz:q≠0:=by rintro rfl;exact hf (by rw[e];grind)
 have hl:=len_mul Ox Mz;rw[<-e] at hl;have Wn:=len_pos Mz;obtain⟨N,hN⟩:∃N,len f=N+2:=⟨len f-2,by lia⟩;have vt:∀t:Po,len t+1<=len k->len (q*t)<=N+1:=fun t ht=>by
  by_cases h0:t=0
  ·rw[h0];have:q*(0:Po)=0:=by grind
   rw[this,fq];lia
  ·have:=len_mul Mz h0;lia
 have hs:ev p k≠0:=fun z=>by
  have l1:len (1:Po)=1:=by rw[<-cb];exact len_K (by decide)
  obtain⟨B,hB,eB⟩:=sO hf e (t:=1) (by lia) p;have g:=xD hM hN (vt B hB) (by lia) eB (vt 1 (by lia));have Oy:ev p 1=1:=by rw[<-cb,A1]
  rw[z] at g;have h0:ab 0=0:=rfl;rw[h0,Int.zero_mul,Int.zero_add] at g;have Ti:q*B=0:=by
   by_cases hz:q*B=0
   ·exact hz
   ·have:=A4 jv hz (vt B hB);have h3:(M+1)*nn (M+1) (N+1) (q*B)<p*nn (M+1) (N+1) (q*B):=Int.mul_lt_mul_of_pos_right hp this;lia
  rw[Ti,z,Oy,cb,cH] at eB;exact hf (by grind)
 have hex:∃m:Nat,∃t:Po,len t+1<=len k/\q*t≠0/\nn (M+1) (N+1) (q*t)=(m:Int):=by
  refine⟨(nn (M+1) (N+1) (q*1)).toNat,1,?_,?_,?_⟩
  ·have l1:len (1:Po)=1:=by rw[<-cb];exact len_K (by decide)
   lia
  ·have:q*1=q:=by grind
   rw[this];exact Mz
  ·exact(Int.toNat_of_nonneg (o6 (by lia) _ _)).symm
 obtain⟨m0,MA⟩:=hex;obtain⟨m,hm,Hs⟩:=least (P:=fun m:Nat=>¬∃t:Po,len t+1<=len k/\q*t≠0/\nn (M+1) (N+1) (q*t)=(m:Int)) m0 (fun z=>z MA);obtain⟨t,ht,hz,hn⟩:=Classical.not_not.mp hm;obtain⟨B,hB,eB⟩:=sO hf e ht p;have g:=xD hM hN (vt B hB) (by lia) eB (vt t ht);have hy:q*B≠0:=fun z=>by
  rw[z] at eB;have e2:K (ev p t)*f=K (ev p k)*(q*t):=by grind
  have h1:len (K (ev p k)*(q*t))<=N+1:=by
   rw[fU hs];exact vt t ht
  by_cases h0:ev p t=0
  ·rw[h0,cH] at e2;exact dC (js hs) hz (by grind)
  ·have h2:=fU h0 f;rw[e2] at h2;lia
 have DT:nn (M+1) (N+1) (q*t)<=nn (M+1) (N+1) (q*B):=by
  have Tj:=o6 (ρ:=M+1) (by lia) (N+1) (q*B);rcases Int.lt_or_le (nn (M+1) (N+1) (q*B)) (nn (M+1) (N+1) (q*t)) with eE|hle
  ·exfalso;refine Hs (nn (M+1) (N+1) (q*B)).toNat (by lia) ⟨B,hB,hy,?_⟩;exact(Int.toNat_of_nonneg Tj).symm
  ·exact hle
 have fx:=A4 jv hz (vt t ht);have h7:(p-(M+1))*nn (M+1) (N+1) (q*t)<=(p-(M+1))*nn (M+1) (N+1) (q*B):=Int.mul_le_mul_of_nonneg_left DT (by lia);have h8:(p-(M+1))*nn (M+1) (N+1) (q*B)=p*nn (M+1) (N+1) (q*B)-(M+1)*nn (M+1) (N+1) (q*B):=by grind
 have h9:(p-(M+1))*nn (M+1) (N+1) (q*t)<=ab (ev p k)*nn (M+1) (N+1) (q*t):=by lia
 exact Int.le_of_mul_le_mul_right h9 fx
end Po
end SF
namespace SF
open Lean.Grind
theorem A5:∀(b a:Nat)(φ:Nat->Nat),b<a->(∀x,x<a->φ x<b)->∃x y,x<y/\y<a/\φ x=φ y
 |0,a,φ,h,Ja=>absurd (Ja 0 h) (Nat.not_lt_zero _)
 |b+1,a,φ,h,Ja=>by
  by_cases hx:∃x,x<a-1/\φ x=φ (a-1)
  ·obtain⟨x,h1,h2⟩:=hx;exact⟨x,a-1,h1,by lia,h2⟩
  have eQ:∀x,x<a-1->φ x≠φ (a-1):=fun x h1 h2=>hx ⟨x,h1,h2⟩;have hc:=Ja (a-1) (by lia);obtain⟨x,y,h1,h2,h3⟩:=A5 b (a-1) (fun x=>if φ x=b then φ (a-1) else φ x) (by lia) (fun x hx=>by
   have h1:=Ja x (by lia)
   have h2:=eQ x hx
   split
   ·lia
   ·lia);refine⟨x,y,h1,by lia,?_⟩;have n1:=eQ x (by lia);have n2:=eQ y h2;split at h3<;>split at h3<;>lia
noncomputable def dg(B x i:Nat):Nat:=x/B^i%B
theorem xE(B x i:Nat):dg B x (i+1)=dg B (x/B) i:=by
 unfold dg;rw[Nat.pow_succ',Nat.div_div_eq_div_mul]
theorem o7{B:Nat}(h:0<B)(x i:Nat):dg B x i<B:=Nat.mod_lt _ h
theorem A6{B:Nat}(hB:0<B):∀(n x y:Nat),x<B^n->y<B^n->(∀i,i<n->dg B x i=dg B y i)->x=y
 |0,x,y,hx,hy,_=>by rw[Nat.pow_zero] at hx hy;lia
 |n+1,x,y,hx,hy,h=>by
  have h0:=h 0 (by lia);unfold dg at h0;rw[Nat.pow_zero,Nat.div_one,Nat.div_one] at h0;have hd:=A6 hB n (x/B) (y/B) (Nat.div_lt_of_lt_mul (by rw[<-Nat.pow_succ'];exact hx)) (Nat.div_lt_of_lt_mul (by rw[<-Nat.pow_succ'];exact hy)) (fun i hi=>by
   rw[<-xE,<-xE];exact h (i+1) (by lia));rw[<-Nat.div_add_mod x B,<-Nat.div_add_mod y B,hd,h0]
noncomputable def enc(B:Nat)(w:Nat->Nat):Nat->Nat
 |0=>0
 |n+1=>enc B w n+w n*B^n
theorem qw{B:Nat}{w:Nat->Nat}(hw:∀i,w i<B):∀n,enc B w n<B^n
 |0=>by show 0<B^0;rw[Nat.pow_zero];decide
 |n+1=>by
  show enc B w n+w n*B^n<B^(n+1);have h1:=qw hw n;have h2:(w n+1)*B^n<=B*B^n:=Nat.mul_le_mul_right _ (hw n);rw[Nat.add_mul,Nat.one_mul] at h2;rw[Nat.pow_succ,Nat.mul_comm (B^n)];lia
theorem xF{B:Nat}{w v:Nat->Nat}(hw:∀i,w i<B)(hv:∀i,v i<B):∀n,enc B w n=enc B v n->∀i,i<n->w i=v i
 |0,_,i,hi=>by lia
 |n+1,h,i,hi=>by
  have h1:=qw hw n;have h2:=qw hv n;have h':enc B w n+w n*B^n=enc B v n+v n*B^n:=h;have e1:(enc B w n+w n*B^n)/B^n=w n:=by
   rw[Nat.add_mul_div_right _ _ (by lia),Nat.div_eq_of_lt h1,Nat.zero_add]
  have e2:(enc B v n+v n*B^n)/B^n=v n:=by
   rw[Nat.add_mul_div_right _ _ (by lia),Nat.div_eq_of_lt h2,Nat.zero_add]
  have e3:w n=v n:=by rw[<-e1,h',e2]
  by_cases he:i=n
  ·rw[he];exact e3
  ·exact xF hw hv n (by rw[e3] at h';lia) i (by lia)
namespace Po
noncomputable def xG(w:Nat->Int)(n:Nat):Po:=⟨⟨fun i=>if i<n then w i else 0⟩,n,fun i hi=>if_neg (by lia)⟩
theorem jw(w:Nat->Int)(n i:Nat):(xG w n).c i=if i<n then w i else 0:=rfl
theorem fh(w:Nat->Int)(n:Nat):len (xG w n)<=n:=cA fun i hi=>if_neg (by lia)
theorem A7{u f:Po}{n:Nat}{H M:Int}(hl:len u<=n)(hu:∀i,ab (u.c i)<=H)(hf:∀i,ab (f.c i)<=M)(j:Nat):ab ((u*f).c j)<=n*(H*M):=by
 have hH:0<=H:=Int.le_trans (aF _) (hu 0);have hM:0<=M:=Int.le_trans (aF _) (hf 0);have Tn:0<=H*M:=Int.mul_nonneg hH hM;rw[sJ];have h1:=vp (f:=fun i=>u.c i*f.c (j-i)) (j+1);have h2:ay (fun i=>ab (u.c i*f.c (j-i))) (j+1)<=ay (fun i=>if i<n then H*M else 0) (j+1):=j8 fun i _=>by
  split
  ·rw[bT];exact Int.mul_le_mul (hu i) (hf _) (aF _) hH
  ·rw[dS (f:=u) (by lia),Int.zero_mul];exact Int.le_refl _
 have h3:∀m:Nat,ay (fun i=>if i<n then H*M else 0) m<=(min m n:Nat)*(H*M):=by
  intro m
  induction m with
  |zero=>show(0:Int)<=_;rw[Nat.zero_min];show(0:Int)<=0*_;lia
  |succ m ih=>
   show ay (fun i=>if i<n then H*M else 0) m+(if m<n then H*M else 0)<=_;split
   ·have e:min (m+1) n=min m n+1:=by lia
    rw[e];have e2:((min m n+1:Nat):Int)*(H*M)=((min m n:Nat):Int)*(H*M)+H*M:=by
     rw[Int.natCast_add];grind
    rw[e2];lia
   ·have e:min (m+1) n=min m n:=by lia
    rw[e];lia
 have h4:=h3 (j+1);have h5:((min (j+1) n:Nat):Int)*(H*M)<=(n:Int)*(H*M):=Int.mul_le_mul_of_nonneg_right (by lia) Tn;lia
theorem o8{f g:Po}{M:Nat}(CW:∀i,ab (f.c i)<=M)(DU:∀i,ab (g.c i)<=M){A n m:Nat}(Og:n+m=A)(KL:0<A)(off:Nat):
 ∃U V:Po,len U<=n/\len V<=m/\(U≠0\/V≠0)/\(∀i,ab (U.c i)<=(((2*A*M+1)^(A-1):Nat):Int))/\(∀i,ab (V.c i)<=(((2*A*M+1)^(A-1):Nat):Int))/\
  (∀j,j<A-1->(U*f+V*g).c (off+j)=0)/\∀i,ab ((U*f+V*g).c i)<=((A*((2*A*M+1)^(A-1)*M):Nat):Int):=by
 let H:Nat:=(2*A*M+1)^(A-1);have hH:0<H:=Nat.pow_pos (by lia);let uu:Nat->Po:=fun x=>xG (fun i=>((dg (H+1) x i:Nat):Int)) n;let vv:Nat->Po:=fun x=>xG (fun i=>((dg (H+1) x (n+i):Nat):Int)) m;let ww:Nat->Po:=fun x=>uu x*f+vv x*g;have bu:∀x i,ab ((uu x).c i)<=(H:Int):=fun x i=>by
  show ab ((xG _ n).c i)<=_;rw[jw];split
  ·have:=o7 (B:=H+1) (by lia) x i;rw[lH (by lia)];lia
  ·show(0:Int)<=_;lia
 have bv:∀x i,ab ((vv x).c i)<=(H:Int):=fun x i=>by
  show ab ((xG _ m).c i)<=_;rw[jw];split
  ·have:=o7 (B:=H+1) (by lia) x (n+i);rw[lH (by lia)];lia
  ·show(0:Int)<=_;lia
 have bw:∀U V:Po,len U<=n->len V<=m->(∀i,ab (U.c i)<=(H:Int))->(∀i,ab (V.c i)<=(H:Int))->∀j,ab ((U*f+V*g).c j)<=((A*(H*M):Nat):Int):=fun U V l1 l2 b1 b2 j=>by
  rw[ju];have h1:=A7 l1 b1 CW j;have h2:=A7 l2 b2 DU j;have h3:=fV ((U*f).c j) ((V*g).c j);have e:((A*(H*M):Nat):Int)=(n:Int)*((H:Int)*M)+(m:Int)*((H:Int)*M):=by
   rw[<-Og];push_cast;grind
  lia
 let Bz:Nat:=A*(H*M);let Bk:Nat:=2*Bz+1;let wi:Nat->Nat->Nat:=fun x j=>((ww x).c (off+j)+Bz).toNat;have Oz:∀x j,wi x j<Bk:=fun x j=>by
  have:=bw (uu x) (vv x) (fh _ _) (fh _ _) (bu x) (bv x) (off+j);have h2:ab ((ww x).c (off+j))<=((A*(H*M):Nat):Int):=this;unfold ab at h2;show((ww x).c (off+j)+Bz).toNat<2*Bz+1;have:Bz=A*(H*M):=rfl;lia
 have Ht:Bk^(A-1)<(H+1)^A:=by
  have h1:Bk<=(2*A*M+1)*H:=by
   show 2*(A*(H*M))+1<=(2*A*M+1)*H;have e:(2*A*M+1)*H=2*(A*(H*M))+H:=by grind
   lia
  have h2:Bk^(A-1)<=((2*A*M+1)*H)^(A-1):=Nat.pow_le_pow_left h1 _;rw[Nat.mul_pow] at h2;have h3:H*H^(A-1)=H^A:=by
   rw[<-Nat.pow_succ'];congr 1;lia
  have h4:H^A<(H+1)^A:=Nat.pow_lt_pow_left (by lia) (by lia);have h5:(2*A*M+1)^(A-1)*H^(A-1)=H^A:=h3;lia
 obtain⟨x,y,Wo,hy,Ja⟩:=A5 _ _ (fun x=>enc Bk (wi x) (A-1)) Ht (fun x _=>qw (Oz x) _);have heq:=xF (Oz x) (Oz y) _ Ja;let U:=uu x-uu y;let V:=vv x-vv y;have lU:len U<=n:=Nat.le_trans (len_sub _ _) (by have:=fh (fun i=>((dg (H+1) x i:Nat):Int)) n;have:=fh (fun i=>((dg (H+1) y i:Nat):Int)) n;exact Nat.max_le.mpr ⟨by assumption,by assumption⟩);have lV:len V<=m:=Nat.le_trans (len_sub _ _) (by have:=fh (fun i=>((dg (H+1) x (n+i):Nat):Int)) m;have:=fh (fun i=>((dg (H+1) y (n+i):Nat):Int)) m;exact Nat.max_le.mpr ⟨by assumption,by assumption⟩);have bU:∀i,ab (U.c i)<=(H:Int):=fun i=>by
  show ab ((uu x-uu y).c i)<=_;rw[gp];show ab ((xG _ n).c i-(xG _ n).c i)<=_;rw[jw,jw];have h1:=o7 (B:=H+1) (by lia) x i;have h2:=o7 (B:=H+1) (by lia) y i;unfold ab;split<;>lia
 have bV:∀i,ab (V.c i)<=(H:Int):=fun i=>by
  show ab ((vv x-vv y).c i)<=_;rw[gp];show ab ((xG _ m).c i-(xG _ m).c i)<=_;rw[jw,jw];have h1:=o7 (B:=H+1) (by lia) x (n+i);have h2:=o7 (B:=H+1) (by lia) y (n+i);unfold ab;split<;>lia
 have eQ:U≠0\/V≠0:=by
  by_cases hU:U=0
  ·refine .inr fun hV=>?_;have:x=y:=A6 (by lia) A x y (by lia) hy fun i hi=>by
    by_cases Mt:i<n
    ·have h1:(uu x-uu y).c i=0:=by
      have:(uu x-uu y)=0:=hU;rw[this,eL]
     rw[gp] at h1;have h2:(uu x).c i=((dg (H+1) x i:Nat):Int):=by show(xG _ n).c i=_;rw[jw,if_pos Mt]
     have h3:(uu y).c i=((dg (H+1) y i:Nat):Int):=by show(xG _ n).c i=_;rw[jw,if_pos Mt]
     lia
    ·have h1:(vv x-vv y).c (i-n)=0:=by
      have:(vv x-vv y)=0:=hV;rw[this,eL]
     rw[gp] at h1;have QM:i-n<m:=by lia
     have To:n+(i-n)=i:=by lia
     have h2:(vv x).c (i-n)=((dg (H+1) x (n+(i-n)):Nat):Int):=by show(xG _ m).c (i-n)=_;rw[jw,if_pos QM]
     have h3:(vv y).c (i-n)=((dg (H+1) y (n+(i-n)):Nat):Int):=by show(xG _ m).c (i-n)=_;rw[jw,if_pos QM]
     rw[To] at h2 h3;lia
   lia
  ·exact .inl hU
 refine⟨U,V,lU,lV,eQ,bU,bV,fun j hj=>?_,bw U V lU lV bU bV⟩;have h1:=heq j hj;have b1:=bw (uu x) (vv x) (fh _ _) (fh _ _) (bu x) (bv x) (off+j);have b2:=bw (uu y) (vv y) (fh _ _) (fh _ _) (bu y) (bv y) (off+j);have h2:((ww x).c (off+j)+Bz).toNat=((ww y).c (off+j)+Bz).toNat:=h1;have Tp:ab ((ww x).c (off+j))<=((Bz:Nat):Int):=b1;have Tq:ab ((ww y).c (off+j))<=((Bz:Nat):Int):=b2;unfold ab at Tp Tq;have h3:(ww x).c (off+j)=(ww y).c (off+j):=by lia
 have e:U*f+V*g=ww x-ww y:=by
  show(uu x-uu y)*f+(vv x-vv y)*g=uu x*f+vv x*g-(uu y*f+vv y*g);grind
 rw[e,gp,h3];lia
theorem ji{W z:Po}{a b i:Nat}(l:len W<=a)(e:a+len z<=b+1)(hi:b<=i):(W*z).c i=0:=by
 by_cases hW:W=0
 ·rw[hW];have:(0:Po)*z=0:=by grind
  rw[this,eL]
 ·by_cases hz:z=0
  ·rw[hz];have:W*(0:Po)=0:=by grind
   rw[this,eL]
  ·have:=len_mul hW hz;exact dS (by lia)
theorem Hu{f g h f1 g1 u0 v0:Po}{c0:Int}{M:Nat}(hh:h≠0)(vw:f1≠0)(xH:g1≠0)(ef:f=h*f1)(eg:g=h*g1)(eb:u0*f1+v0*g1=K c0)(CY:c0≠0)(CW:∀i,ab (f.c i)<=M)(DU:∀i,ab (g.c i)<=M){A:Nat}(hA:len f1+len g1=A+2)(KL:0<A):
 ∃(U V:Po)(r:Int),r≠0/\U*f1+V*g1=K r/\∀i,ab (r*h.c i)<=((A*((2*A*M+1)^(A-1)*M):Nat):Int):=by
 have lf:=len_mul hh vw;have lg:=len_mul hh xH;rw[<-ef] at lf;rw[<-eg] at lg;have m5:=len_pos vw;have vx:=len_pos xH;have Ts:=len_pos hh;obtain⟨U,V,lU,lV,eQ,bU,bV,hz,A8⟩:=o8 (f:=f) (g:=g) CW DU (n:=len g1-1) (m:=len f1-1) (A:=A) (by lia) KL (len h);let R:=U*f+V*g;have eR:R=h*(U*f1+V*g1):=by
  show U*f+V*g=_;rw[ef,eg];grind
 have lR:len R<=len h:=cA fun i hi=>by
  by_cases OA:i<len h+A-1
  ·have:=hz (i-len h) (by lia);have ei:len h+(i-len h)=i:=by lia
   rw[ei] at this;exact this
  ·show(U*f+V*g).c i=0;rw[ju,ji (W:=U) (z:=f) (b:=len h+A-1) lU (by lia) (by lia),ji (W:=V) (z:=g) (b:=len h+A-1) lV (by lia) (by lia)];rfl
 have KN:len (U*f1+V*g1)<=1:=by
  by_cases h0:U*f1+V*g1=0
  ·rw[h0,fq];lia
  ·have:=len_mul hh h0;rw[<-eR] at this;lia
 have er:=bS KN;refine⟨U,V,(U*f1+V*g1).c 0,?_,er,?_⟩
 ·intro z;rw[z,cH] at er;have dv:D f1 V:=⟨c0,CY,u0*V-v0*U,by
   rw[<-eb]
   have:V*g1=-(U*f1):=by grind
   have e2:(u0*f1+v0*g1)*V=u0*f1*V+v0*(V*g1):=by grind
   rw[e2,this];grind⟩;have du:D g1 U:=⟨c0,CY,v0*U-u0*V,by
   rw[<-eb]
   have:U*f1=-(V*g1):=by grind
   have e2:(u0*f1+v0*g1)*U=u0*(U*f1)+v0*g1*U:=by grind
   rw[e2,this];grind⟩;rcases eQ with hU|hV
  ·have:=du.len hU;lia
  ·have:=dv.len hV;lia
 ·intro i;have h1:=A8 i;have e:U*f+V*g=K ((U*f1+V*g1).c 0)*h:=by
   show R=_;rw[eR,<-er];grind
  rw[e,aV] at h1;exact h1
end Po
end SF
namespace SF
open Lean.Grind
namespace Po
theorem eN{xs:List Int}(h:Tr xs)(hn:xs≠[]):aq xs=K (cont xs)*aq (ar xs):=ext fun i=>by
 rw[aV,aY,aY];by_cases hi:i<xs.length
 ·have:=gJ hi;grind
 ·rw[cx (by lia),cx (by rw[aP];lia)];grind
theorem kM{xs:List Int}{x:Int}(h:x∈xs):∃i,co xs i=x:=by
 obtain⟨i,hi,e⟩:=List.getElem_of_mem h;exact⟨i,by rw[bP hi,e]⟩
theorem cJ{xs:List Int}(h:Tr xs)(hn:xs≠[]):Pr (aq (ar xs)):=fun p hp=>by
 have h1:p∣eS (ar xs):=(kI _ _).mpr fun x hx=>by
  obtain⟨i,e⟩:=kM hx;rw[<-e];exact hp i
 rw[sA h hn] at h1;exact Nat.eq_one_of_dvd_one h1
theorem eY{xs:List Int}(h:Tr xs)(hn:xs≠[]):0<(aq (ar xs)).c (len (aq (ar xs))-1):=by
 rw[bB (bW h),aP];exact ie h hn
theorem Hv{f:Po}(h:f≠0):lst f≠[]:=List.length_pos_iff.mp (len_pos h)
theorem xI{xs:List Int}(h:Tr xs){b:Int}{f:Po}(hb:b≠0)(e:aq xs=K b*f)(hf:Pr f)(hl:0<f.c (len f-1)):aq (ar xs)=f:=by
 have hn:xs≠[]:=by
  rintro rfl;rw[dt] at e;exact dC (js hb) hf.ne e.symm
 have hc:=fe h hn;have e2:=eN h hn;refine(cJ h hn).same hf ?_ ?_ (eY h hn) hl
 ·refine D.xy hb ?_;rw[<-e,e2];exact(D.refl _).mulL _
 ·refine D.xy hc ?_;rw[<-e2,e];exact(D.refl _).mulL _
structure GC(f g d:Po):Prop where
 pr:Pr d
 pos:0<d.c (len d-1)
 df:D d f
 dg:D d g
 bz:∃(u v:Po)(a:Int),a≠0/\u*f+v*g=K a*d
theorem GC.MB{f g d e:Po}(h:GC f g d)(h1:D e f)(h2:D e g):D e d:=by
 obtain⟨u,v,a,ha,eq⟩:=h.bz;refine D.xy ha ?_;rw[<-eq];exact(h1.mulL u).add (h2.mulL v)
theorem GC.uniq{f g d e:Po}(h:GC f g d)(h':GC f g e):d=e:=
 h.pr.same h'.pr (h'.MB h.df h.dg) (h.MB h'.df h'.dg) h.pos h'.pos
theorem GC.symm{f g d:Po}(h:GC f g d):GC g f d:=by
 obtain⟨u,v,a,ha,eq⟩:=h.bz;exact⟨h.pr,h.pos,h.dg,h.df,v,u,a,ha,by grind⟩
theorem GC.ex{f g:Po}(h:f≠0\/g≠0):∃d,GC f g d:=by
 obtain⟨d,u,v,hd,e,d1,d2⟩:=qr _ f g (Nat.le_refl _) h;have hn:=Hv hd;have ht:=ik d;have e2:d=K (cont (lst d))*aq (ar (lst d)):=by
  conv=>lhs;rw[<-cT d]
  exact eN ht hn
 have hc:=fe ht hn;have hd2:D (aq (ar (lst d))) d:=by
  conv=>rhs;rw[e2]
  exact(D.refl _).mulL _
 exact⟨aq (ar (lst d)),cJ ht hn,eY ht hn,hd2.trans d1,hd2.trans d2,u,v,_,hc,by rw[e];exact e2⟩
theorem GC.scale{f g d:Po}{a b:Int}(ha:a≠0)(hb:b≠0)(h:GC f g d):GC (K a*f) (K b*g) d:=by
 obtain⟨u,v,c,hc,eq⟩:=h.bz;refine⟨h.pr,h.pos,h.df.mulL _,h.dg.mulL _,K b*u,K a*v,a*b*c,Int.mul_ne_zero (Int.mul_ne_zero ha hb) hc,?_⟩;rw[bH,bH];grind
structure FG(p v:Int)(xs:List Int):Prop where
 val:eA p xs=v
 Hw:∀x∈xs,-p<2*x/\2*x<=p
 tr:Tr xs
theorem mq{p:Int}(hp:0<p):∀xs ys:List Int,(∀x∈xs,-p<2*x/\2*x<=p)->(∀x∈ys,-p<2*x/\2*x<=p)->eA p xs=eA p ys->∀i,co xs i=co ys i
 |[],[],_,_,_,i=>rfl
 |x::r,[],hx,hy,e,i=>by
  have h1:=hx x List.mem_cons_self;have e1:x+p*eA p r=0:=e;have hd:x=0:=by
   have h2:p∣x:=⟨-eA p r,by grind⟩;obtain⟨k,rfl⟩:=h2;have:k=0:=by
    rcases Int.lt_trichotomy k 0 with hk|hk|hk
    ·have:p*k<=p*(-1):=Int.mul_le_mul_of_nonneg_left (by lia) (by lia);lia
    ·exact hk
    ·have:p*1<=p*k:=Int.mul_le_mul_of_nonneg_left (by lia) (by lia);lia
   rw[this];simp
  have e2:eA p r=eA p []:=by
   rw[hd] at e1;have e3:p*eA p r=0:=by lia
   rcases Int.mul_eq_zero.mp e3 with z|z
   ·lia
   ·rw[z];rfl
  have ih:=mq hp r [] (fun x h=>hx x (List.mem_cons_of_mem _ h)) hy e2;cases i with
  |zero=>rw[g_,hd];rfl
  |succ i=>rw[eK,ih i];rfl
 |[],y::s,hx,hy,e,i=>by
  have h1:=hy y List.mem_cons_self;have e1:0=y+p*eA p s:=e;have hd:y=0:=by
   have h2:p∣y:=⟨-eA p s,by grind⟩;obtain⟨k,rfl⟩:=h2;have:k=0:=by
    rcases Int.lt_trichotomy k 0 with hk|hk|hk
    ·have:p*k<=p*(-1):=Int.mul_le_mul_of_nonneg_left (by lia) (by lia);lia
    ·exact hk
    ·have:p*1<=p*k:=Int.mul_le_mul_of_nonneg_left (by lia) (by lia);lia
   rw[this];simp
  have e2:eA p []=eA p s:=by
   rw[hd] at e1;have e3:p*eA p s=0:=by lia
   rcases Int.mul_eq_zero.mp e3 with z|z
   ·lia
   ·rw[z];rfl
  have ih:=mq hp [] s hx (fun x h=>hy x (List.mem_cons_of_mem _ h)) e2;cases i with
  |zero=>rw[g_,hd];rfl
  |succ i=>rw[eK,<-ih i];rfl
 |x::r,y::s,hx,hy,e,i=>by
  have h1:=hx x List.mem_cons_self;have h2:=hy y List.mem_cons_self;have e1:x+p*eA p r=y+p*eA p s:=e;have hd:x=y:=by
   have h3:x-y=p*(eA p s-eA p r):=by grind
   generalize eA p s-eA p r=k at h3;have:k=0:=by
    rcases Int.lt_trichotomy k 0 with hk|hk|hk
    ·have:p*k<=p*(-1):=Int.mul_le_mul_of_nonneg_left (by lia) (by lia);lia
    ·exact hk
    ·have:p*1<=p*k:=Int.mul_le_mul_of_nonneg_left (by lia) (by lia);lia
   rw[this] at h3;lia
  have e2:eA p r=eA p s:=by
   have e3:p*eA p r=p*eA p s:=by lia
   exact Int.eq_of_mul_eq_mul_left (by lia) e3
  have ih:=mq hp r s (fun x h=>hx x (List.mem_cons_of_mem _ h)) (fun x h=>hy x (List.mem_cons_of_mem _ h)) e2;cases i with
  |zero=>rw[g_,g_,hd]
  |succ i=>rw[eK,eK,ih i]
theorem FG.uniq{p v:Int}(hp:0<p){xs ys:List Int}(h:FG p v xs)(h':FG p v ys):xs=ys:=
 h.tr.inj h'.tr (mq hp xs ys h.Hw h'.Hw (by rw[h.val,h'.val]))
theorem mem_co{xs:List Int}{M:Int}(h:∀x∈xs,ab x<=M)(h0:0<=M)(i:Nat):ab (co xs i)<=M:=by
 by_cases hi:i<xs.length
 ·rw[bP hi];exact h _ (List.getElem_mem _)
 ·rw[cx (by lia)];exact h0
theorem gcd_right{f g:Po}{M p:Int}(hf:Pr f)(hg:Pr g)(hM:(∀i,ab (f.c i)<=M)\/(∀i,ab (g.c i)<=M))(hp:2*(M+1)<p){G:List Int}(hs:FG p ((Int.gcd (ev p f) (ev p g):Nat):Int) G)(d1:D (aq (ar G)) f)(d2:D (aq (ar G)) g):GC f g (aq (ar G)):=by
 have Hr:0<=M:=by
  rcases hM with h|h
  ·exact Int.le_trans (aF _) (h 0)
  ·exact Int.le_trans (aF _) (h 0)
 have nz:∀w:Po,w≠0->(∀i,ab (w.c i)<=M)->ev p w≠0:=fun w hw hb=>by
  by_cases hl:2<=len w
  ·have:=jh hw (show w=w*1 by grind) hl hb (p:=p) (by lia);intro z;rw[z] at this;have h0:ab 0=0:=rfl;lia
  ·have e:=bS (f:=w) (by lia);rw[e,A1];intro z;rw[z,cH] at e;exact hw e
 have Tt:Int.gcd (ev p f) (ev p g)≠0:=by
  rcases hM with h|h
  ·exact Nat.ne_of_gt (Int.gcd_pos_of_ne_zero_left _ (nz f hf.ne h))
  ·exact Nat.ne_of_gt (Int.gcd_pos_of_ne_zero_right _ (nz g hg.ne h))
 have DV:G≠[]:=by
  rintro rfl;have:(0:Int)=((Int.gcd (ev p f) (ev p g):Nat):Int):=hs.val;lia
 have eG:=eN hs.tr DV;have hc:=fe hs.tr DV;have pf:=cJ hs.tr DV;have lf:=eY hs.tr DV;generalize Wq:aq (ar G)=fd at*;have Wr:2*ab (cont G)<=p:=by
  have hm:=j5 DV;have h1:=hs.Hw _ hm;have h2:=hs.tr.last DV;have h3:(cont G).natAbs<=(co G (G.length-1)).natAbs:=Nat.le_of_dvd (by lia) (Int.natAbs_dvd_natAbs.mpr (mT hm));unfold ab;lia
 have Hy:((Int.gcd (ev p f) (ev p g):Nat):Int)=cont G*ev p fd:=by
  rw[<-hs.val,<-iT,eG,j9]
 have OB:ev p fd≠0:=fun z=>by
  rw[z,Int.mul_zero] at Hy;lia
 obtain⟨h,gc⟩:=GC.ex (f:=f) (g:=g) (.inl hf.ne);have dh:D fd h:=gc.MB d1 d2;obtain⟨k,ek⟩:=pf.div dh;obtain⟨f1,e1⟩:=gc.pr.div gc.df;obtain⟨g1,e2⟩:=gc.pr.div gc.dg;have Ox:k≠0:=by rintro rfl;exact gc.pr.ne (by rw[ek];grind)
 have FE:ev p k∣cont G:=by
  have h1:ev p h∣((Int.gcd (ev p f) (ev p g):Nat):Int):=Int.dvd_coe_gcd (A3 p e1) (A3 p e2);rw[Hy,ek,kL,Int.mul_comm (ev p fd)] at h1;exact Int.dvd_of_mul_dvd_mul_right OB h1
 have hle:ab (ev p k)<=ab (cont G):=by
  unfold ab;have:=Nat.le_of_dvd (by lia) (Int.natAbs_dvd_natAbs.mpr FE);lia
 have Tu:len k<=1:=by
  rcases Nat.lt_or_ge 1 (len k) with hl|hl
  ·exfalso;have Tv:p-(M+1)<=ab (ev p k):=by
    rcases hM with hb|hb
    ·exact jh hf.ne (show f=k*(fd*f1) by rw[e1,ek];grind) hl hb (by lia)
    ·exact jh hg.ne (show g=k*(fd*g1) by rw[e2,ek];grind) hl hb (by lia)
   lia
  ·exact hl
 have QN:=bS Tu;have hb:k.c 0≠0:=fun z=>Ox (by rw[QN,z,cH]);obtain⟨u,v,a,ha,eq⟩:=gc.bz;refine⟨pf,lf,d1,d2,u,v,a*k.c 0,Int.mul_ne_zero ha hb,?_⟩;rw[eq,ek,bH,<-QN];grind
noncomputable def NB(A M:Nat):Nat:=(A+1)*((2*A*M+1)^A*M)
theorem xJ{A B M N:Nat}(h:A<=B)(h':M<=N):NB A M<=NB B N:=by
 unfold NB;refine Nat.mul_le_mul (by lia) (Nat.mul_le_mul ?_ h');refine Nat.le_trans (Nat.pow_le_pow_left (n:=2*A*M+1) (m:=2*B*N+1) ?_ A) (Nat.pow_le_pow_right (by lia) h);have:=Nat.mul_le_mul (Nat.mul_le_mul_left 2 h) h';lia
theorem o9{f g h f1 g1:Po}{M A:Nat}(hf:Pr f)(hg:Pr g)(CW:∀i,ab (f.c i)<=M)(DU:∀i,ab (g.c i)<=M)(gc:GC f g h)(e1:f=h*f1)(e2:g=h*g1)(hA:len f+len g<=A+2):
 ∃(U V:Po)(r:Int),r≠0/\U*f1+V*g1=K r/\∀i,ab (r*h.c i)<=((NB A M:Nat):Int):=by
 have hh:=gc.pr.ne;have vw:f1≠0:=by rintro rfl;exact hf.ne (by rw[e1];grind)
 have xH:g1≠0:=by rintro rfl;exact hg.ne (by rw[e2];grind)
 obtain⟨u0,v0,a,ha,eq⟩:=gc.bz;have eb:u0*f1+v0*g1=K a:=by
  refine Po.cancel hh ?_;rw[e1,e2] at eq;grind
 have lf:=len_mul hh vw;have lg:=len_mul hh xH;rw[<-e1] at lf;rw[<-e2] at lg;have Ts:=len_pos hh;have m5:=len_pos vw;have vx:=len_pos xH;by_cases KL:len f1+len g1=2
 ·have ek:=bS (f:=f1) (by lia);have hb:f1.c 0≠0:=fun z=>vw (by rw[ek,z,cH]);refine⟨1,0,f1.c 0,hb,by rw[<-ek];grind,fun i=>?_⟩;have e3:f=K (f1.c 0)*h:=by rw[<-ek,e1];grind
  have h4:=CW i;rw[e3,aV] at h4;have h5:NB 0 M<=NB A M:=xJ (by lia) (Nat.le_refl _);have h6:NB 0 M=M:=by unfold NB;simp
  lia
 ·obtain⟨U,V,r,hr,er,hb⟩:=Hu hh vw xH e1 e2 eb ha CW DU (A:=len f1+len g1-2) (by lia) (by lia);refine⟨U,V,r,hr,er,fun i=>Int.le_trans (hb i) ?_⟩;refine Int.ofNat_le.mpr ?_;generalize hB:len f1+len g1-2=B;have h5:NB B M<=NB A M:=xJ (by lia) (Nat.le_refl _);refine Nat.le_trans ?_ h5;unfold NB;refine Nat.mul_le_mul (by lia) (Nat.mul_le_mul_right _ ?_);exact Nat.pow_le_pow_right (by lia) (by lia)
theorem zc{f g h:Po}{M A:Nat}(hf:Pr f)(hg:Pr g)(CW:∀i,ab (f.c i)<=M)(DU:∀i,ab (g.c i)<=M)(gc:GC f g h)(hA:len f+len g<=A+2){p:Int}(hp:2*((NB A M:Nat):Int)<p){G:List Int}(hs:FG p ((Int.gcd (ev p f) (ev p g):Nat):Int) G)(Tt:Int.gcd (ev p f) (ev p g)≠0):aq (ar G)=h:=by
 obtain⟨f1,e1⟩:=gc.pr.div gc.df;obtain⟨g1,e2⟩:=gc.pr.div gc.dg;have hh:=gc.pr.ne;have vw:f1≠0:=by rintro rfl;exact hf.ne (by rw[e1];grind)
 have xH:g1≠0:=by rintro rfl;exact hg.ne (by rw[e2];grind)
 obtain⟨U,V,r,hr,er,hb⟩:=o9 hf hg CW DU gc e1 e2 hA;let c:Nat:=Int.gcd (ev p f1) (ev p g1);have Tw:(c:Int)∣r:=by
  have:=congrArg (ev p) er;rw[vq,kL,kL,A1] at this;rw[<-this];exact Int.dvd_add (Int.dvd_mul_of_dvd_right (Int.gcd_dvd_left ..)) (Int.dvd_mul_of_dvd_right (Int.gcd_dvd_right ..))
 have Hy:((Int.gcd (ev p f) (ev p g):Nat):Int)=ab (ev p h)*c:=by
  rw[e1,e2,kL,kL,Int.gcd_mul_left]
  push_cast;rfl
 have CY:(c:Int)≠0:=fun z=>by
  rw[z,Int.mul_zero] at Hy;lia
 have Ws:ev p h≠0:=fun z=>by
  rw[z] at Hy;have h0:ab 0=0:=rfl;rw[h0,Int.zero_mul] at Hy;lia
 obtain⟨s,KO,CQ⟩:∃s:Int,(s=1\/s=-1)/\ab (ev p h)=s*ev p h:=by
  rcases Int.le_total 0 (ev p h) with z|z
  ·exact⟨1,.inl rfl,by rw[lH z];lia⟩
  ·exact⟨-1,.inr rfl,by unfold ab;lia⟩
 have MC:s*c≠0:=Int.mul_ne_zero (by lia) CY;have CV:FG p ((Int.gcd (ev p f) (ev p g):Nat):Int) (lst (K (s*c)*h)):=by
  refine⟨?_,?_,ik _⟩
  ·rw[<-iT,cT,j9,Hy,CQ];grind
  ·intro x hx;obtain⟨i,ei⟩:=kM hx;rw[iR,aV] at ei;have h1:=hb i;have h2:ab x<=ab (r*h.c i):=by
    rw[<-ei,bT (s*c),bT r];refine Int.mul_le_mul_of_nonneg_right ?_ (aF _);have h3:(c:Int).natAbs<=r.natAbs:=Nat.le_of_dvd (by lia) (Int.natAbs_dvd_natAbs.mpr Tw);rw[bT];have h4:ab s=1:=by rcases KO with z|z<;>rw[z]<;>rfl
    rw[h4,Int.one_mul];unfold ab;lia
   unfold ab at h1 h2;lia
 have DN:0<p:=by lia
 rw[hs.uniq DN CV];exact xI (ik _) MC (cT _) gc.pr gc.pos
end Po
end SF
namespace SF
open Lean.Grind
namespace Po
theorem ip{xs:List Int}(h:Tr xs)(hn:xs≠[]):aq xs≠0:=cm (by rw[bB h];exact List.length_pos_iff.mpr hn)
theorem zd{xs:List Int}(h:Tr xs)(hp:Pr (aq xs))(hl:0<(aq xs).c (len (aq xs)-1)):ar xs=xs:=
 j6 (bW h) h (xI h (b:=1) (by decide) (by rw[cb];grind) hp hl)
open Classical in
noncomputable def dy(xs ys:List Int):List Int:=if h:aq xs≠0\/aq ys≠0 then lst (choose (GC.ex h)) else[]
theorem gq(xs ys:List Int):Tr (dy xs ys):=by
 unfold dy;split
 ·exact ik _
 ·exact Tr.nil
theorem cU{xs ys:List Int}(h:aq xs≠0\/aq ys≠0):GC (aq xs) (aq ys) (aq (dy xs ys)):=by
 unfold dy;rw[dif_pos h,cT];exact Classical.choose_spec (GC.ex h)
theorem mr{xs ys ds:List Int}(hd:Tr ds)(h:GC (aq xs) (aq ys) (aq ds)):ds=dy xs ys:=by
 have h0:aq xs≠0\/aq ys≠0:=by
  by_cases hx:aq xs=0
  ·refine .inr fun hy=>?_;obtain⟨u,v,a,ha,e⟩:=h.bz;rw[hx,hy] at e;exact dC (js ha) h.pr.ne (by grind)
  ·exact .inl hx
 exact j6 hd (gq _ _) (h.uniq (cU h0))
theorem o_(xs ys:List Int):dy xs ys=dy ys xs:=by
 by_cases h:aq xs≠0\/aq ys≠0
 ·exact mr (gq _ _) (cU h).symm
 ·unfold dy;rw[dif_neg h,dif_neg fun z=>h z.symm]
theorem j_{xs:List Int}(h:Tr xs):dy xs []=ar xs:=by
 by_cases hn:xs=[]
 ·subst hn;unfold dy;rw[dif_neg (by rw[dt];intro z;rcases z with z|z<;>exact z rfl)];rfl
 ·refine(mr (bW h) ?_).symm;have e:=eN h hn;refine⟨cJ h hn,eY h hn,?_,?_,1,0,cont xs,fe h hn,?_⟩
  ·rw[e];exact(D.refl _).mulL _
  ·rw[dt];exact D.zero _
  ·rw[<-e];grind
theorem m7{xs ys:List Int}(hx:Tr xs)(hy:Tr ys)(eC:xs≠[])(gU:ys≠[]):dy (ar xs) (ar ys)=dy xs ys:=by
 refine mr (gq _ _) ?_;rw[eN hx eC,eN hy gU];exact(cU (.inl (cJ hx eC).ne)).scale (fe hx eC) (fe hy gU)
theorem xK{xs ys:List Int}(h:aq xs≠0\/aq ys≠0):dy xs ys≠[]:=fun z=>(cU h).pr.ne (by rw[z,dt])
theorem ze{xs ys:List Int}(h:aq xs≠0\/aq ys≠0):ar (dy xs ys)=dy xs ys:=zd (gq _ _) (cU h).pr (cU h).pos
open Classical in
noncomputable def ka(xs ys:List Int):List Int:=if h:∃q,aq (ar xs)=aq (ar ys)*q then lst (choose h) else[]
theorem xM(xs ys:List Int):Tr (ka xs ys):=by
 unfold ka;split
 ·exact ik _
 ·exact Tr.nil
theorem qx{xs ys:List Int}(hx:Tr xs)(hy:Tr ys)(eC:xs≠[])(gU:ys≠[])(h:D (aq ys) (aq xs)):aq (ar xs)=aq (ar ys)*aq (ka xs ys):=by
 have h2:∃q,aq (ar xs)=aq (ar ys)*q:=by
  refine(cJ hy gU).div ?_;refine D.xy (fe hx eC) ?_;rw[<-eN hx eC];refine D.trans ?_ h;rw[eN hy gU];exact(D.refl _).mulL _
 unfold ka;rw[dif_pos h2,cT];exact Classical.choose_spec h2
theorem DW{xs ys qs:List Int}(hy:Tr ys)(gU:ys≠[])(hq:Tr qs)(e:aq (ar xs)=aq (ar ys)*aq qs):qs=ka xs ys:=by
 have h2:∃q,aq (ar xs)=aq (ar ys)*q:=⟨_,e⟩;refine j6 hq (xM _ _) ?_;unfold ka;rw[dif_pos h2,cT];have e2:=Classical.choose_spec h2;exact cancel (cJ hy gU).ne (e.symm.trans e2)
theorem DX{xs ys:List Int}(hx:Tr xs)(hy:Tr ys)(eC:xs≠[])(gU:ys≠[])(h:D (aq ys) (aq xs)):Pr (aq (ka xs ys))/\0<(aq (ka xs ys)).c (len (aq (ka xs ys))-1):=by
 have e:=qx hx hy eC gU h;have p:=cJ hx eC;have l:=eY hx eC;have ly:=eY hy gU;rw[e] at p l;have hq:=p.Hl;refine⟨hq,?_⟩;rw[mW (cJ hy gU).ne hq.ne] at l;rcases Int.lt_or_le 0 ((aq (ka xs ys)).c (len (aq (ka xs ys))-1)) with z|z
 ·exact z
 ·have:=Int.mul_nonpos_of_nonneg_of_nonpos (Int.le_of_lt ly) z;lia
noncomputable def uN(xs:List Int):List Int:=ka xs (dy xs (bR xs))
structure CZ(p f:Po):Prop where
 pr:Pr p
 pos:0<p.c (len p-1)
 sP:∀π,lE π->(D π p↔D π f)
 sq:∀π,lE π->¬D (π*π) p
theorem CZ.uniq{p q f g:Po}(h:CZ p f)(h':CZ q g)(e:∀π,lE π->(D π f↔D π g)):p=q:=by
 refine h.pr.same h'.pr ?_ ?_ h.pos h'.pos
 ·exact vo _ p q (Nat.le_refl _) h.pr.ne h.sq fun π hp z=>(h'.sP π hp).mpr ((e π hp).mp ((h.sP π hp).mp z))
 ·exact vo _ q p (Nat.le_refl _) h'.pr.ne h'.sq fun π hp z=>(h.sP π hp).mpr ((e π hp).mpr ((h'.sP π hp).mp z))
theorem KP{xs:List Int}(hx:Tr xs)(eC:xs≠[]):D (aq (dy xs (bR xs))) (aq xs):=(cU (.inl (ip hx eC))).df
theorem Hz(xs:List Int):Tr (uN xs):=xM _ _
theorem KQ{xs:List Int}(hx:Tr xs)(eC:xs≠[]):CZ (aq (uN xs)) (aq xs):=by
 have h0:aq xs≠0\/aq (bR xs)≠0:=.inl (ip hx eC);have gc:=cU h0;have hd:=KP hx eC;have hg:=gq xs (bR xs);have MD:=xK h0;have hq:=DX hx hg eC MD hd;have e:=qx hx hg eC MD hd;rw[ze h0] at e;have e2:aq xs=aq (dy xs (bR xs))*(K (cont xs)*aq (uN xs)):=by
  rw[eN hx eC,e];show K (cont xs)*(aq (dy xs (bR xs))*aq (uN xs))=_;grind
 obtain⟨u,v,a,ha,eb⟩:=gc.bz;rw[eM] at eb;have hc:=fe hx eC;have key:∀π,lE π->(D π (aq (uN xs))↔D π (aq xs))/\¬D (π*π) (aq (uN xs)):=fun π hp=>by
  have d1:D (K a*aq (dy xs (bR xs))) (aq xs):=gc.df.Kl ha;have d2:D (K a*aq (dy xs (bR xs))) (aU (aq xs)):=by rw[<-eM];exact gc.dg.Kl ha
  have e3:K a*aq xs=K a*aq (dy xs (bR xs))*(K (cont xs)*aq (uN xs)):=by
   conv=>lhs;rw[e2]
   grind
  have:=DP (ip hx eC) eb d1 d2 ha e3 hp;refine⟨⟨fun z=>this.1.mp (z.mulL _),fun z=>?_⟩,fun z=>this.2 (z.mulL _)⟩;exact D.xy hc (this.1.mpr z)
 exact⟨hq.1,hq.2,fun π hp=>(key π hp).1,fun π hp=>(key π hp).2⟩
theorem vy{xs:List Int}(hx:Tr xs)(h:CZ (aq xs) (aq xs)):dy xs (bR xs)=[1]:=by
 have hn:aq xs≠0:=h.pr.ne;have gc:=cU (xs:=xs) (ys:=bR xs) (.inl hn);have hl:len (aq (dy xs (bR xs)))<=1:=by
  rcases Nat.lt_or_ge 1 (len (aq (dy xs (bR xs)))) with hl|hl
  ·exfalso;obtain⟨π,hp,hd⟩:=lE.ex _ _ (Nat.le_refl _) hl;have d1:=hd.trans gc.df;have d2:=hd.trans gc.dg;rw[eM] at d2;obtain⟨a,ha,u,e⟩:=d1;have e2:=congrArg aU e;rw[sM,jW] at e2;have d3:D π (aU π*u):=by
    have h3:D π (K a*aU (aq xs)-π*aU u):=(d2.mulL _).sub (D.mul π _);have e3:K a*aU (aq xs)-π*aU u=aU π*u:=by grind
    rw[e3] at h3;exact h3
   rcases hp.prime d3 with z|z
   ·exact hp.aU z
   ·refine h.sq π hp (D.xy ha ?_);rw[e];exact z.Hk
  ·exact hl
 have e:=bS hl;have t1:Tr [1]:=fun x hx=>by
  have:1=x:=by simpa using hx
  lia
 refine j6 (gq _ _) t1 ?_;have hp:=gc.pr;have fx:=gc.pos;rw[e] at hp fx ⊢;generalize (aq (dy xs (bR xs))).c 0=b at*;have OC:b≠0:=by rintro rfl;exact hp.ne cH
 have hb:b.natAbs=1:=hp _ fun i=>by
  rw[vk];split
  ·exact Int.natAbs_dvd.mpr (Int.dvd_refl b)
  ·exact Int.dvd_zero _
 rw[len_K OC,vk,if_pos rfl] at fx;have:b=1:=by lia
 rw[this];exact ext fun i=>by
  rw[vk,aY];cases i with
  |zero=>rfl
  |succ i=>rfl
theorem DY{xs ys:List Int}(hx:Tr xs)(hy:Tr ys)(eC:xs≠[])(gU:ys≠[]){A M:Nat}(hA:xs.length+ys.length<=A+2)(h1:∀i,ab (co (ar xs) i)<=M)(h2:∀i,ab (co (ar ys) i)<=M)(i:Nat):
 ab (co (dy xs ys) i)<=((NB A M:Nat):Int):=by
 rw[<-m7 hx hy eC gU];have gc:=cU (xs:=ar xs) (ys:=ar ys) (.inl (cJ hx eC).ne);obtain⟨f1,e1⟩:=gc.pr.div gc.df;obtain⟨g1,e2⟩:=gc.pr.div gc.dg;have hh:=gc.pr.ne;have pf:=cJ hx eC;have pg:=cJ hy gU;have vw:f1≠0:=by rintro rfl;exact pf.ne (by rw[e1];grind)
 have xH:g1≠0:=by rintro rfl;exact pg.ne (by rw[e2];grind)
 have Ou:len (aq (ar xs))=xs.length:=by rw[bB (bW hx),aP]
 have om:len (aq (ar ys))=ys.length:=by rw[bB (bW hy),aP]
 obtain⟨U,V,r,hr,er,hb⟩:=o9 pf pg h1 h2 gc e1 e2 (A:=A) (by lia);refine Int.le_trans ?_ (hb i);rw[bT];have g1:1<=ab r:=fw hr;have g2:=aF (co (dy (ar xs) (ar ys)) i);have g3:1*ab (co (dy (ar xs) (ar ys)) i)<=ab r*ab (co (dy (ar xs) (ar ys)) i):=Int.mul_le_mul_of_nonneg_right g1 g2;have g4:ab (co (dy (ar xs) (ar ys)) i)<=ab r*ab (co (dy (ar xs) (ar ys)) i):=by lia
 exact g4
end Po
end SF
namespace SF
open Lean.Grind
namespace Po
theorem FH(a b:Nat):X (a+b)=X a*X b:=ext fun i=>by
 rw[ff,xx,xx];by_cases h:i<a
 ·rw[if_pos h,if_neg (by lia)]
 ·rw[if_neg h];by_cases h2:i=a+b
  ·rw[if_pos h2,if_pos (by lia)]
  ·rw[if_neg h2,if_neg (by lia)]
noncomputable def iU(rs ds:List Int)(t:Int)(k:Nat):List Int:=fG (fun j=>co rs j-if k<=j then t*co ds (j-k) else 0) rs.length
theorem zf(rs ds:List Int)(t:Int)(k:Nat):(iU rs ds t k).length=rs.length:=aN _ _
theorem m8{rs ds:List Int}{t:Int}{k:Nat}(h:k+ds.length<=rs.length)(j:Nat):co (iU rs ds t k) j=co rs j-if k<=j then t*co ds (j-k) else 0:=by
 unfold iU;rw[kH];split
 ·rfl
 ·rw[cx (xs:=rs) (by lia)];split
  ·rw[cx (xs:=ds) (by lia)];grind
  ·rfl
theorem zg{rs ds:List Int}{t:Int}{k:Nat}(h:k+ds.length<=rs.length):aq (iU rs ds t k)=aq rs-K t*X k*aq ds:=ext fun j=>by
 have e:K t*X k*aq ds=K t*(X k*aq ds):=by grind
 rw[e,gp,aV,ff,aY,aY,aY,m8 h];by_cases hj:k<=j
 ·rw[if_pos hj,if_neg (by lia)]
 ·rw[if_neg hj,if_pos (by lia)];grind
theorem A9{rs:List Int}(h:co rs (rs.length-1)=0):aq rs.dropLast=aq rs:=ext fun j=>by
 rw[aY,aY,List.dropLast_eq_take,h_];split
 ·rfl
 ·by_cases hj:j=rs.length-1
  ·rw[hj,h]
  ·rw[cx (by lia)]
theorem xN(x y:Int):(x.fdiv y).natAbs<=x.natAbs:=by
 rcases Int.lt_trichotomy y 0 with h|h|h
 ·have e:x.fdiv y=(-x).fdiv (-y):=by rw[Int.neg_fdiv_neg]
  rw[e,dO (by lia:0< -y)];generalize hz:-y=z;have HA:0<z:=by lia
  rcases Int.le_total 0 (-x) with hx|hx
  ·have h1:=Int.ediv_nonneg hx (by lia:0<=z);have h2:=Int.ediv_le_self z hx;lia
  ·have h1:(-x)/z<=0:=by
    have:=Int.ediv_le_ediv HA hx;rw[Int.zero_ediv] at this;exact this
   have h2:-x<=(-x)/z:=by
    rw[Int.le_ediv_iff_mul_le HA];have:(-x)*z<=(-x)*1:=Int.mul_le_mul_of_nonpos_left hx (by lia);lia
   lia
 ·rw[h,Int.fdiv_zero];simp
 ·rw[dO h];rcases Int.le_total 0 x with hx|hx
  ·have h1:=Int.ediv_nonneg hx (by lia:0<=y);have h2:=Int.ediv_le_self y hx;lia
  ·have h1:x/y<=0:=by
    have:=Int.ediv_le_ediv h hx;rw[Int.zero_ediv] at this;exact this
   have h2:x<=x/y:=by
    rw[Int.le_ediv_iff_mul_le h];have:x*y<=x*1:=Int.mul_le_mul_of_nonpos_left hx (by lia);lia
   lia
theorem zh{rs ds:List Int}(hd:Tr ds)(vz:ds≠[])(hl:ds.length<=rs.length){s:Po}(e:aq rs=aq ds*s):
 co rs (rs.length-1)-(co rs (rs.length-1)).fdiv (co ds (ds.length-1))*co ds (ds.length-1)=0:=by
 have hz:co rs (rs.length-1)=0->co rs (rs.length-1)-(co rs (rs.length-1)).fdiv (co ds (ds.length-1))*co ds (ds.length-1)=0:=fun z=>by
  rw[z,Int.zero_fdiv];grind
 by_cases hs:s=0
 ·refine hz ?_;have:(aq rs).c (rs.length-1)=0:=by
   rw[e,hs];have e2:aq ds*(0:Po)=0:=by grind
   rw[e2,eL]
  exact this
 ·have QO:=ip hd vz;have h1:=len_mul QO hs;rw[<-e] at h1;rw[bB hd] at h1;have h2:len (aq rs)<=rs.length:=cA fun i hi=>by rw[aY];exact cx hi
  by_cases h3:len (aq rs)=rs.length
  ·have h4:=mW QO hs;rw[<-e,h3,bB hd,aY,aY] at h4;have vA:=hd.last vz;rw[h4,Int.mul_comm (co ds (ds.length-1)),Int.mul_fdiv_cancel _ vA];lia
  ·have fx:0<rs.length:=by have:=List.length_pos_iff.mpr vz;lia
   exact hz (dS (f:=aq rs) (i:=rs.length-1) (by lia))
theorem zi{rs ds:List Int}(hd:Tr ds)(hl:rs.length<ds.length){s:Po}(e:aq rs=aq ds*s):aq rs=0:=by
 have vz:ds≠[]:=by rintro rfl;exact absurd hl (Nat.not_lt_zero _)
 by_cases hs:s=0
 ·rw[e,hs];grind
 ·have h1:=len_mul (ip hd vz) hs;rw[<-e,bB hd] at h1;have h2:len (aq rs)<=rs.length:=cA fun i hi=>by rw[aY];exact cx hi
  have h3:=len_pos hs;lia
theorem any_zero{rs:List Int}:rs.any (·!=0)=false↔aq rs=0:=by
 constructor
 ·intro h;refine ext fun i=>?_;rw[aY,eL];by_cases hi:i<rs.length
  ·rw[bP hi];have:=List.any_eq_false.mp h _ (List.getElem_mem hi);simpa using this
  ·exact cx (by lia)
 ·intro h;refine List.any_eq_false.mpr fun x hx=>?_;obtain⟨i,e⟩:=kM hx;have:(aq rs).c i=0:=by rw[h,eL]
  rw[aY,e] at this;simp[this]
theorem HB{xs ds qs:List Int}(hx:Tr xs)(eC:xs≠[])(hd:Tr ds)(e:aq xs=aq ds*aq qs)(hl:qs.length+ds.length=xs.length+1):Tr qs:=by
 have h0:=ip hx eC;rw[e] at h0;have h1:=len_mul (qo h0) (gK h0);rw[<-e,bB hx,bB hd] at h1;refine Tr.jX fun hq=>?_;have hp:=List.length_pos_iff.mpr hq;have h2:=lead (f:=aq qs) (by lia);have e2:len (aq qs)-1=qs.length-1:=by lia
 rw[e2] at h2;exact h2
theorem xO(p:Int):∀xs ys:List Int,eA p (xs++ys)=eA p xs+p^xs.length*eA p ys
 |[],ys=>by show eA p ys=0+p^0*eA p ys;rw[Int.pow_zero];lia
 |x::r,ys=>by
  show x+p*eA p (r++ys)=x+p*eA p r+p^(r.length+1)*eA p ys;rw[xO p r ys,Int.pow_succ];grind
noncomputable def digit(p v:Int):Int:=if 2*(v%p)>p then v%p-p else v%p
noncomputable def iV(p v:Int):Int:=(v-digit p v)/p
theorem m9{p v:Int}(hp:0<p):digit p v+p*iV p v=v:=by
 have hd:p∣v-digit p v:=by
  unfold digit;have h1:=Int.emod_add_mul_ediv v p;split
  ·exact⟨v/p+1,by grind⟩
  ·exact⟨v/p,by grind⟩
 unfold iV;rw[Int.mul_ediv_cancel' hd];lia
theorem mv{p v:Int}(hp:0<p):-p<2*digit p v/\2*digit p v<=p:=by
 have h1:=Int.emod_nonneg v (Int.ne_of_gt hp);have h2:=Int.emod_lt_of_pos v hp;unfold digit;split<;>lia
theorem sQ{p v:Int}(hp:0<p)(hv:0<=v):0<=iV p v:=by
 have e:=m9 (v:=v) hp;have b:=mv (v:=v) hp;rcases Int.lt_or_le (iV p v) 0 with h|h
 ·have:p*iV p v<=p*(-1):=Int.mul_le_mul_of_nonneg_left (by lia) (by lia);lia
 ·exact h
theorem DZ{p v w:Int}(hp:0<p)(h:v<=p*w):iV p v<=w:=by
 have e:=m9 (v:=v) hp;have b:=mv (v:=v) hp;rcases Int.lt_or_le w (iV p v) with h2|h2
 ·have:p*(w+1)<=p*iV p v:=Int.mul_le_mul_of_nonneg_left (by lia) (by lia);have e2:p*(w+1)=p*w+p:=by grind
  lia
 ·exact h2
theorem A_{p:Int}(hp:2<=p):iV p 1=0/\digit p 1=1:=by
 have e:(1:Int)%p=1:=Int.emod_eq_of_lt (by decide) (by lia);have e2:digit p 1=1:=by unfold digit;rw[e,if_neg (by lia)]
 refine⟨?_,e2⟩;unfold iV;rw[e2];simp
theorem D0{p v:Int}(hp:3<=p)(hv:0<v):iV p v<v:=by
 have e:=m9 (p:=p) (v:=v) (by lia);have b:=mv (p:=p) (v:=v) (by lia);rcases Int.lt_or_le (iV p v) v with h|h
 ·exact h
 ·have h1:p*v<=p*iV p v:=Int.mul_le_mul_of_nonneg_left h (by lia);have h2:3*v<=p*v:=Int.mul_le_mul_of_nonneg_right hp (by lia);have h3:p*1<=p*v:=Int.mul_le_mul_of_nonneg_left (by lia) (by lia);lia
theorem vB{p v:Int}(hp:0<p)(hv:v≠0)(h:iV p v=0):digit p v≠0:=fun z=>by
 have e:=m9 (v:=v) hp;rw[z,h] at e;lia
theorem KR{p:Int}(hp:0<p){xs:List Int}(h:∀x∈xs,ab x<p):ab (eA p xs)<p^xs.length:=by
 rw[qv];have h1:=vp (f:=fun i=>co xs i*p^i) xs.length;have h2:ay (fun i=>ab (co xs i*p^i)) xs.length<=ay (fun i=>(p-1)*(p-1+1)^i) xs.length:=j8 fun i hi=>by
  rw[bT,lH (Int.pow_nonneg (by lia))];have e:p-1+1=p:=by lia
  rw[e];refine Int.mul_le_mul_of_nonneg_right ?_ (Int.pow_nonneg (by lia));have:=h (co xs i) (by rw[bP hi];exact List.getElem_mem hi);lia
 rw[mY] at h2;have e:p-1+1=p:=by lia
 rw[e] at h2;lia
theorem sR(p:Int)(xs:List Int){j:Nat}(h:j<xs.length):eA p (xs.drop (xs.length-(j+1)))=eA p (xs.drop (xs.length-j))*p+co xs (xs.length-1-j):=by
 have e:xs.length-(j+1)=xs.length-1-j:=by lia
 have e2:xs.length-j=xs.length-1-j+1:=by lia
 rw[e,e2,List.drop_eq_getElem_cons (i:=xs.length-1-j) (by lia)];show xs[xs.length-1-j]+p*_=_;rw[bP (by lia)];grind
theorem A'(p:Int)(xs:List Int):eA p (xs.drop (xs.length-xs.length))=eA p xs:=by rw[Nat.sub_self,List.drop_zero]
theorem sS(p:Int)(xs:List Int):eA p (xs.drop (xs.length-0))=0:=by rw[Nat.sub_zero,List.drop_length];rfl
end Po
end SF
namespace SF
open Lean.Grind
namespace Po
theorem KS{p M:Int}{w:Po}(hw:w≠0)(hb:∀i,ab (w.c i)<=M)(hp:2*(M+1)<p):ev p w≠0:=by
 have Hr:0<=M:=Int.le_trans (aF _) (hb 0);by_cases hl:2<=len w
 ·have:=jh hw (show w=w*1 by grind) hl hb (p:=p) (by lia);intro z;rw[z] at this;have h0:ab 0=0:=rfl;lia
 ·have e:=bS (f:=w) (by lia);rw[e,A1];intro z;rw[z,cH] at e;exact hw e
theorem Ba{a b:Int}{B:Int}(h:(a≠0/\ab a<=B)\/(b≠0/\ab b<=B)):Int.gcd a b≠0/\((Int.gcd a b:Nat):Int)<=B:=by
 rcases h with⟨h,hb⟩|⟨h,hb⟩
 ·refine⟨Nat.ne_of_gt (Int.gcd_pos_of_ne_zero_left _ h),Int.le_trans ?_ hb⟩;unfold ab;have:=Nat.le_of_dvd (by lia) (Int.natAbs_dvd_natAbs.mpr (Int.gcd_dvd_left (a:=a) (b:=b)));lia
 ·refine⟨Nat.ne_of_gt (Int.gcd_pos_of_ne_zero_right _ h),Int.le_trans ?_ hb⟩;unfold ab;have:=Nat.le_of_dvd (by lia) (Int.natAbs_dvd_natAbs.mpr (Int.gcd_dvd_right (a:=a) (b:=b)));lia
theorem zj{xs ys:List Int}{M p:Int}(hx:aq xs≠0)(hy:aq ys≠0)(hM:(∀x∈xs,ab x<=M)\/(∀y∈ys,ab y<=M))(h0:0<=M)(hp:2*(M+1)<p)(n:Nat)(h1:xs.length<=n)(h2:ys.length<=n):
 Int.gcd (eA p xs) (eA p ys)≠0/\((Int.gcd (eA p xs) (eA p ys):Nat):Int)<=p^n:=by
 have key:∀zs:List Int,aq zs≠0->(∀x∈zs,ab x<=M)->zs.length<=n->eA p zs≠0/\ab (eA p zs)<=p^n:=fun zs hz hb hl=>by
  constructor
  ·rw[<-iT];exact KS hz (fun i=>mem_co hb h0 i) hp
  ·have h3:=KR (p:=p) (by lia) (xs:=zs) (fun x hx=>by have:=hb x hx;lia);have h4:p^zs.length<=p^n:=by
    obtain⟨k,rfl⟩:=Int.eq_ofNat_of_zero_le (show 0<=p by lia);have e1:((k:Int)^zs.length)=((k^zs.length:Nat):Int):=by simp
    have e2:((k:Int)^n)=((k^n:Nat):Int):=by simp
    rw[e1,e2];exact Int.ofNat_le.mpr (Nat.pow_le_pow_right (by lia) hl)
   lia
 refine Ba ?_;rcases hM with h|h
 ·exact .inl (key xs hx h h1)
 ·exact .inr (key ys hy h h2)
theorem xP(b:Nat):2*NB 60 (2^b)<2^(61*b+427):=by
 unfold NB;have h0:0<2^b:=Nat.two_pow_pos b;have h1:2*60*2^b+1<=2^(b+7):=by rw[Nat.pow_add];lia
 have h2:(2*60*2^b+1)^60<=(2^(b+7))^60:=Nat.pow_le_pow_left h1 60;rw[<-Nat.pow_mul] at h2;have h3:(2*60*2^b+1)^60*2^b<=2^((b+7)*60)*2^b:=Nat.mul_le_mul_right _ h2;rw[<-Nat.pow_add] at h3;have e:61*b+427=((b+7)*60+b)+7:=by lia
 rw[e,Nat.pow_add 2 ((b+7)*60+b) 7];generalize (2*60*2^b+1)^60*2^b=z at*;have h4:0<2^((b+7)*60+b):=Nat.two_pow_pos _;lia
end Po
end SF
namespace SF
open Lean.Grind
namespace RR
noncomputable def ra(x:Rat):Rat:=if x<0 then -x else x
theorem eZ(x:Rat):0<=ra x:=by unfold ra;split<;>grind
theorem m_(x y:Rat):ra (x+y)<=ra x+ra y:=by unfold ra;split<;>split<;>split<;>grind
theorem vC(x:Rat):ra (-x)=ra x:=by unfold ra;split<;>split<;>grind
theorem nc{x e:Rat}:ra x<e↔(-e<x/\x<e):=by unfold ra;split<;>grind
theorem FI{x e:Rat}:ra x<=e↔(-e<=x/\x<=e):=by unfold ra;split<;>grind
theorem qy{a b c d:Rat}(h1:a<=b)(h2:c<=d)(h3:0<=b)(h4:0<=c):a*c<=b*d:=by
 have e1:a*c<=b*c:=Rat.mul_le_mul_of_nonneg_right h1 h4;have e2:b*c<=b*d:=Rat.mul_le_mul_of_nonneg_left h2 h3;grind
theorem Bb(x y:Rat):ra (x*y)=ra x*ra y:=by
 unfold ra;by_cases hx:x<0<;>by_cases hy:y<0
 ·have:¬x*y<0:=by
   have:=Rat.mul_pos (a:=-x) (b:=-y) (by grind) (by grind);grind
  rw[if_neg this,if_pos hx,if_pos hy];grind
 ·rw[if_pos hx,if_neg hy];by_cases h0:y=0
  ·rw[h0,if_neg (by grind)];grind
  ·have:=Rat.mul_pos (a:=-x) (b:=y) (by grind) (by grind);rw[if_pos (by grind)];grind
 ·rw[if_neg hx,if_pos hy];by_cases h0:x=0
  ·rw[h0,if_neg (by grind)];grind
  ·have:=Rat.mul_pos (a:=x) (b:=-y) (by grind) (by grind);rw[if_pos (by grind)];grind
 ·rw[if_neg hx,if_neg hy];have:¬x*y<0:=by
   have:=Rat.mul_nonneg (a:=x) (b:=y) (by grind) (by grind);grind
  rw[if_neg this]
theorem vD{a b:Rat}(ha:0<a)(hb:0<b):0<a/b:=by rw[Rat.div_def];exact Rat.mul_pos ha (Rat.inv_pos.mpr hb)
structure CS where
 s:Nat->Rat
 c:∀e:Rat,0<e->∃N,∀m n,N<=m->N<=n->ra (s m-s n)<e
theorem CS.bd(a:CS):∃B:Rat,0<B/\∀n,ra (a.s n)<=B:=by
 obtain⟨N,hN⟩:=a.c 1 (by decide);have hex:∀k:Nat,∃B:Rat,0<B/\∀n,n<k->ra (a.s n)<=B:=by
  intro k
  induction k with
  |zero=>exact⟨1,by decide,fun n hn=>by lia⟩
  |succ k ih=>
   obtain⟨B,hB,hb⟩:=ih;refine⟨B+ra (a.s k),by have:=eZ (a.s k);grind,fun n hn=>?_⟩;by_cases h:n<k
   ·have:=hb n h;have:=eZ (a.s k);grind
   ·have e:n=k:=by lia
    rw[e];grind
 obtain⟨B,hB,hb⟩:=hex (N+1);refine⟨B+1,by grind,fun n=>?_⟩;by_cases h:n<N+1
 ·have:=hb n h;grind
 ·have h1:=hN n N (by lia) (Nat.le_refl _);have h2:=hb N (by lia);have h3:=m_ (a.s n-a.s N) (a.s N);have e:a.s n-a.s N+a.s N=a.s n:=by grind
  rw[e] at h3;grind
theorem half{e:Rat}(h:0<e):0<e/2/\e/2+e/2=e:=by
 constructor<;>grind
noncomputable def HC(a b:CS):CS:=⟨fun n=>a.s n+b.s n,fun e he=>by
 obtain⟨h1,h2⟩:=half he
 obtain⟨N,hN⟩:=a.c _ h1
 obtain⟨M,hM⟩:=b.c _ h1
 refine⟨max N M,fun m n hm hn=>?_⟩
 have g1:=hN m n (by lia) (by lia)
 have g2:=hM m n (by lia) (by lia)
 have g3:=m_ (a.s m-a.s n) (b.s m-b.s n)
 have e:a.s m+b.s m-(a.s n+b.s n)=a.s m-a.s n+(b.s m-b.s n):=by grind
 rw[e];grind⟩
noncomputable def HD(a:CS):CS:=⟨fun n=>-a.s n,fun e he=>by
 obtain⟨N,hN⟩:=a.c _ he
 refine⟨N,fun m n hm hn=>?_⟩
 have g1:=hN m n hm hn
 have e2:-a.s m- -a.s n=-(a.s m-a.s n):=by grind
 rw[e2,vC];exact g1⟩
theorem sT{a b a' b' B:Rat}{e:Rat}(hB:0<B)(h1:ra a<=B)(h2:ra b'<=B)(h3:ra (b-b')<e/(2*B))(h4:ra (a-a')<e/(2*B)):ra (a*b-a'*b')<e:=by
 have e1:a*b-a'*b'=a*(b-b')+(a-a')*b':=by grind
 have g:=m_ (a*(b-b')) ((a-a')*b');rw[Bb,Bb] at g;have z1:=eZ a;have z2:=eZ b';have z3:=eZ (b-b');have z4:=eZ (a-a');have g1:ra a*ra (b-b')<=B*ra (b-b'):=Rat.mul_le_mul_of_nonneg_right h1 z3;have g2:ra (a-a')*ra b'<=ra (a-a')*B:=Rat.mul_le_mul_of_nonneg_left h2 z4;have g3:B*ra (b-b')<B*(e/(2*B)):=(Rat.mul_lt_mul_left hB).mpr h3;have g4:B*ra (a-a')<B*(e/(2*B)):=(Rat.mul_lt_mul_left hB).mpr h4;have e2:B*(e/(2*B))=e/2:=by grind
 rw[e1];grind
noncomputable def HE(a b:CS):CS:=⟨fun n=>a.s n*b.s n,fun e he=>by
 obtain⟨A,hA,ha⟩:=a.bd
 obtain⟨B,hB,hb⟩:=b.bd
 have KU:0<A+B:=by grind
 have fx:0<e/(2*(A+B)):=vD he (Rat.mul_pos (by decide) KU)
 obtain⟨N,hN⟩:=a.c _ fx
 obtain⟨M,hM⟩:=b.c _ fx
 refine⟨max N M,fun m n hm hn=>?_⟩
 exact sT KU (by have:=ha m;grind) (by have:=hb n;grind) (hM m n (by lia) (by lia)) (hN m n (by lia) (by lia))⟩
noncomputable def OD(q:Rat):CS:=⟨fun _=>q,fun e he=>⟨0,fun _ _ _ _=>by
 have:q-q=0:=by grind
 rw[this];unfold ra;rw[if_neg (by decide)];exact he⟩⟩
noncomputable def eqv(a b:CS):Prop:=∀e:Rat,0<e->∃N,∀n,N<=n->ra (a.s n-b.s n)<e
theorem eqv_refl(a:CS):eqv a a:=fun e he=>⟨0,fun n _=>by
 have:a.s n-a.s n=0:=by grind
 rw[this];unfold ra;rw[if_neg (by decide)];exact he⟩
theorem ng{a b:CS}(h:eqv a b):eqv b a:=fun e he=>by
 obtain⟨N,hN⟩:=h e he;refine⟨N,fun n hn=>?_⟩;have:=hN n hn;have e2:b.s n-a.s n=-(a.s n-b.s n):=by grind
 rw[e2,vC];exact this
theorem zk{a b c:CS}(h:eqv a b)(h':eqv b c):eqv a c:=fun e he=>by
 obtain⟨h1,h2⟩:=half he;obtain⟨N,hN⟩:=h _ h1;obtain⟨M,hM⟩:=h' _ h1;refine⟨max N M,fun n hn=>?_⟩;have g1:=hN n (by lia);have g2:=hM n (by lia);have g3:=m_ (a.s n-b.s n) (b.s n-c.s n);have e3:a.s n-b.s n+(b.s n-c.s n)=a.s n-c.s n:=by grind
 rw[e3] at g3;grind
noncomputable instance sd:Setoid CS:=⟨eqv,eqv_refl,ng,zk⟩
end RR
noncomputable def Re:Type:=Quotient RR.sd
namespace Re
open RR
noncomputable def mk(a:CS):Re:=Quotient.mk sd a
theorem HF{a b a' b':CS}(h:eqv a a')(h':eqv b b'):eqv (HC a b) (HC a' b'):=fun e he=>by
 obtain⟨h1,h2⟩:=half he;obtain⟨N,hN⟩:=h _ h1;obtain⟨M,hM⟩:=h' _ h1;refine⟨max N M,fun n hn=>?_⟩;have g1:=hN n (by lia);have g2:=hM n (by lia);have g3:=m_ (a.s n-a'.s n) (b.s n-b'.s n);show ra (a.s n+b.s n-(a'.s n+b'.s n))<e;have e3:a.s n+b.s n-(a'.s n+b'.s n)=a.s n-a'.s n+(b.s n-b'.s n):=by grind
 rw[e3];grind
theorem HG{a a':CS}(h:eqv a a'):eqv (HD a) (HD a'):=fun e he=>by
 obtain⟨N,hN⟩:=h _ he;refine⟨N,fun n hn=>?_⟩;have g1:=hN n hn;show ra (- a.s n- -a'.s n)<e;have e3:-a.s n- -a'.s n=-(a.s n-a'.s n):=by grind
 rw[e3,vC];exact g1
theorem HH{a b a' b':CS}(h:eqv a a')(h':eqv b b'):eqv (HE a b) (HE a' b'):=fun e he=>by
 obtain⟨A,hA,ha⟩:=a.bd;obtain⟨B,hB,hb⟩:=b'.bd;have KU:0<A+B:=by grind
 have fx:0<e/(2*(A+B)):=vD he (Rat.mul_pos (by decide) KU);obtain⟨N,hN⟩:=h _ fx;obtain⟨M,hM⟩:=h' _ fx;refine⟨max N M,fun n hn=>?_⟩;exact sT KU (by have:=ha n;grind) (by have:=hb n;grind) (hM n (by lia)) (hN n (by lia))
noncomputable def add(x y:Re):Re:=Quotient.liftOn₂ x y (fun a b=>mk (HC a b)) fun _ _ _ _ h h'=>Quotient.sound (HF h h')
noncomputable def mul(x y:Re):Re:=Quotient.liftOn₂ x y (fun a b=>mk (HE a b)) fun _ _ _ _ h h'=>Quotient.sound (HH h h')
noncomputable def neg(x:Re):Re:=Quotient.liftOn x (fun a=>mk (HD a)) fun _ _ h=>Quotient.sound (HG h)
noncomputable def q(r:Rat):Re:=mk (OD r)
noncomputable instance instAdd:Add Re:=⟨add⟩
noncomputable instance instMul:Mul Re:=⟨mul⟩
noncomputable instance instNeg:Neg Re:=⟨neg⟩
noncomputable instance instSub:Sub Re:=⟨fun x y=>x+-y⟩
noncomputable instance instNatCast:NatCast Re:=⟨fun n=>q (n:Rat)⟩
noncomputable instance instIntCast:IntCast Re:=⟨fun n=>q (n:Rat)⟩
noncomputable instance instOfNat(n:Nat):OfNat Re n:=⟨q ((n:Nat):Rat)⟩
noncomputable def pow(x:Re):Nat->Re
 |0=>q 1
 |n+1=>pow x n*x
noncomputable instance instHPow:HPow Re Nat Re:=⟨pow⟩
noncomputable instance gG:SMul Nat Re:=⟨fun n x=>q (n:Rat)*x⟩
noncomputable instance gH:SMul Int Re:=⟨fun n x=>q (n:Rat)*x⟩
theorem mk_eq{a b:CS}(h:∀n,a.s n=b.s n):mk a=mk b:=by
 have:a=b:=by
  cases a;cases b;have:_=_:=funext h;cases this;rfl
 rw[this]
theorem ex(x:Re):∃a,x=mk a:=by
 obtain⟨a,h⟩:=Quotient.exists_rep x;exact⟨a,h.symm⟩
theorem lI(a b:Rat):q (a+b)=q a+q b:=mk_eq fun _=>rfl
theorem fy(a b:Rat):q (a*b)=q a*q b:=mk_eq fun _=>rfl
theorem pb(a:Rat):q (-a)=-q a:=mk_eq fun _=>rfl
noncomputable instance instCommRing:CommRing Re where
 natCast:=instNatCast
 ofNat:=instOfNat
 nsmul:=gG
 npow:=instHPow
 intCast:=instIntCast
 zsmul:=gH
 add_zero x:=by obtain⟨a,rfl⟩:=ex x;exact mk_eq fun n=>by show a.s n+((0:Nat):Rat)=a.s n;grind
 add_comm x y:=by obtain⟨a,rfl⟩:=ex x;obtain⟨b,rfl⟩:=ex y;exact mk_eq fun n=>by show a.s n+b.s n=b.s n+a.s n;grind
 add_assoc x y z:=by obtain⟨a,rfl⟩:=ex x;obtain⟨b,rfl⟩:=ex y;obtain⟨c,rfl⟩:=ex z;exact mk_eq fun n=>by show a.s n+b.s n+c.s n=a.s n+(b.s n+c.s n);grind
 mul_assoc x y z:=by obtain⟨a,rfl⟩:=ex x;obtain⟨b,rfl⟩:=ex y;obtain⟨c,rfl⟩:=ex z;exact mk_eq fun n=>by show a.s n*b.s n*c.s n=a.s n*(b.s n*c.s n);grind
 mul_one x:=by obtain⟨a,rfl⟩:=ex x;exact mk_eq fun n=>by show a.s n*((1:Nat):Rat)=a.s n;grind
 one_mul x:=by obtain⟨a,rfl⟩:=ex x;exact mk_eq fun n=>by show((1:Nat):Rat)*a.s n=a.s n;grind
 right_distrib x y z:=by obtain⟨a,rfl⟩:=ex x;obtain⟨b,rfl⟩:=ex y;obtain⟨c,rfl⟩:=ex z;exact mk_eq fun n=>by show(a.s n+b.s n)*c.s n=a.s n*c.s n+b.s n*c.s n;grind
 left_distrib x y z:=by obtain⟨a,rfl⟩:=ex x;obtain⟨b,rfl⟩:=ex y;obtain⟨c,rfl⟩:=ex z;exact mk_eq fun n=>by show a.s n*(b.s n+c.s n)=a.s n*b.s n+a.s n*c.s n;grind
 zero_mul x:=by obtain⟨a,rfl⟩:=ex x;exact mk_eq fun n=>by show((0:Nat):Rat)*a.s n=((0:Nat):Rat);grind
 mul_zero x:=by obtain⟨a,rfl⟩:=ex x;exact mk_eq fun n=>by show a.s n*((0:Nat):Rat)=((0:Nat):Rat);grind
 pow_zero x:=rfl
 pow_succ x n:=rfl
 ofNat_succ n:=mk_eq fun _=>by show((n+1:Nat):Rat)=((n:Nat):Rat)+((1:Nat):Rat);grind
 ofNat_eq_natCast n:=rfl
 nsmul_eq_natCast_mul n x:=rfl
 neg_add_cancel x:=by obtain⟨a,rfl⟩:=ex x;exact mk_eq fun n=>by show-a.s n+a.s n=((0:Nat):Rat);grind
 sub_eq_add_neg x y:=rfl
 neg_zsmul n x:=by
  obtain⟨a,rfl⟩:=ex x;refine mk_eq fun k=>?_;show((-n:Int):Rat)*a.s k=-(((n:Int):Rat)*a.s k);have:((-n:Int):Rat)=-((n:Int):Rat):=by simp
  rw[this];grind
 zsmul_natCast_eq_nsmul n x:=by obtain⟨a,rfl⟩:=ex x;exact mk_eq fun k=>rfl
 intCast_ofNat n:=mk_eq fun _=>by show(((OfNat.ofNat n:Int)):Rat)=((n:Nat):Rat);rfl
 intCast_neg n:=mk_eq fun _=>by show((-n:Int):Rat)=-((n:Int):Rat);simp
 mul_comm x y:=by obtain⟨a,rfl⟩:=ex x;obtain⟨b,rfl⟩:=ex y;exact mk_eq fun n=>by show a.s n*b.s n=b.s n*a.s n;grind
end Re
end SF
namespace SF
open Lean.Grind
namespace Re
open RR
noncomputable def OE(a b:CS):Prop:=∃e:Rat,0<e/\∃N,∀n,N<=n->a.s n+e<=b.s n
theorem FJ{a b a' b':CS}(h:eqv a a')(h':eqv b b')(l:OE a b):OE a' b':=by
 obtain⟨e,he,N,hN⟩:=l;have h4:0<e/4:=by grind
 obtain⟨M,hM⟩:=h _ h4;obtain⟨L,hL⟩:=h' _ h4;refine⟨e/2,by grind,max N (max M L),fun n hn=>?_⟩;have g1:=hN n (by lia);have g2:=nc.mp (hM n (by lia));have g3:=nc.mp (hL n (by lia));grind
noncomputable def lt(x y:Re):Prop:=Quotient.liftOn₂ x y OE fun _ _ _ _ h h'=>propext ⟨FJ h h',FJ (ng h) (ng h')⟩
noncomputable instance instLT:LT Re:=⟨lt⟩
noncomputable instance instLE:LE Re:=⟨fun x y=>¬y<x⟩
theorem le_iff{x y:Re}:x<=y↔¬y<x:=Iff.rfl
theorem lt_irrefl(x:Re):¬x<x:=by
 obtain⟨a,rfl⟩:=ex x;rintro⟨e,he,N,hN⟩;have:=hN N (Nat.le_refl _);grind
theorem lt_trans{x y z:Re}(h:x<y)(h':y<z):x<z:=by
 obtain⟨a,rfl⟩:=ex x;obtain⟨b,rfl⟩:=ex y;obtain⟨c,rfl⟩:=ex z;obtain⟨e,he,N,hN⟩:=h;obtain⟨e',QP,M,hM⟩:=h';refine⟨e,he,max N M,fun n hn=>?_⟩;have g1:=hN n (by lia);have g2:=hM n (by lia);grind
theorem Aa(x y:Re):x<y\/x=y\/y<x:=by
 obtain⟨a,rfl⟩:=ex x;obtain⟨b,rfl⟩:=ex y;by_cases h:eqv a b
 ·exact .inr (.inl (Quotient.sound h))
 ·have h1:∃e:Rat,0<e/\∀N,∃n,N<=n/\e<=ra (a.s n-b.s n):=by
   obtain⟨e,he⟩:=Classical.not_forall.mp h;obtain⟨OF,QQ⟩:=Classical.not_imp.mp he;refine⟨e,OF,fun N=>?_⟩;have h3:=fun hN=>QQ ⟨N,hN⟩;obtain⟨n,hn⟩:=Classical.not_forall.mp h3;obtain⟨DS,GP⟩:=Classical.not_imp.mp hn;exact⟨n,DS,by grind⟩
  obtain⟨e,he,mL⟩:=h1;have h4:0<e/4:=by grind
  obtain⟨N,hN⟩:=a.c _ h4;obtain⟨M,hM⟩:=b.c _ h4;obtain⟨n,hn,hb⟩:=mL (max N M);by_cases hs:a.s n-b.s n<0
  ·left;refine⟨e/2,by grind,max N M,fun m hm=>?_⟩;have g1:=nc.mp (hN m n (by lia) (by lia));have g2:=nc.mp (hM m n (by lia) (by lia));unfold ra at hb;rw[if_pos hs] at hb;grind
  ·right;right;refine⟨e/2,by grind,max N M,fun m hm=>?_⟩;have g1:=nc.mp (hN m n (by lia) (by lia));have g2:=nc.mp (hM m n (by lia) (by lia));unfold ra at hb;rw[if_neg hs] at hb;grind
noncomputable instance HI:Std.IsLinearOrder Re where
 le_refl a:=lt_irrefl a
 le_trans a b c h h':=fun hc=>by
  rcases Aa a b with z|z|z
  ·exact h' (lt_trans hc z)
  ·rw[<-z] at h';exact h' hc
  ·exact h z
 le_antisymm a b h h':=by
  rcases Aa a b with z|z|z
  ·exact absurd z h'
  ·exact z
  ·exact absurd z h
 le_total a b:=by
  rcases Aa a b with z|z|z
  ·exact .inl fun y=>lt_irrefl a (lt_trans z y)
  ·exact .inl (by rw[z];exact lt_irrefl b)
  ·exact .inr fun y=>lt_irrefl a (lt_trans y z)
noncomputable instance HJ:Std.LawfulOrderLT Re where
 lt_iff a b:=by
  constructor
  ·intro h;exact⟨fun y=>lt_irrefl a (lt_trans h y),fun y=>y h⟩
  ·rintro⟨_,h⟩;exact Classical.not_not.mp h
theorem qA{x y:Re}(h:x<y)(z:Re):x+z<y+z:=by
 obtain⟨a,rfl⟩:=ex x;obtain⟨b,rfl⟩:=ex y;obtain⟨c,rfl⟩:=ex z;obtain⟨e,he,N,hN⟩:=h;refine⟨e,he,N,fun n hn=>?_⟩;have g1:=hN n hn;show a.s n+c.s n+e<=b.s n+c.s n;grind
theorem add_lt_iff{x y:Re}(z:Re):x<y↔x+z<y+z:=by
 constructor
 ·exact fun h=>qA h z
 ·intro h;have:=qA h (-z);have e1:x+z+-z=x:=by grind
  have e2:y+z+-z=y:=by grind
  rw[e1,e2] at this;exact this
theorem mul_pos{x y:Re}(h:0<x)(h':0<y):0<x*y:=by
 obtain⟨a,rfl⟩:=ex x;obtain⟨b,rfl⟩:=ex y;obtain⟨e,he,N,hN⟩:=h;obtain⟨e',QP,M,hM⟩:=h';refine⟨e*e',Rat.mul_pos he QP,max N M,fun n hn=>?_⟩;have g1:((0:Nat):Rat)+e<=a.s n:=hN n (by lia);have g2:((0:Nat):Rat)+e'<=b.s n:=hM n (by lia);show((0:Nat):Rat)+e*e'<=a.s n*b.s n;have g3:=qy (a:=e) (b:=a.s n) (c:=e') (d:=b.s n) (by grind) (by grind) (by grind) (by grind);grind
theorem dP{r t:Rat}:q r<q t↔r<t:=by
 constructor
 ·rintro⟨e,he,N,hN⟩;have:r+e<=t:=hN N (Nat.le_refl _);grind
 ·intro h;refine⟨t-r,by grind,0,fun n _=>?_⟩;show r+(t-r)<=t;grind
theorem fW:q 0=0:=rfl
theorem xQ:q 1=1:=rfl
theorem cy{r t:Rat}:q r<=q t↔r<=t:=by
 rw[le_iff,dP];grind
theorem xR{r t:Rat}(h:q r=q t):r=t:=by
 have h1:¬r<t:=fun z=>by have:=dP.mpr z;rw[h] at this;exact lt_irrefl _ this
 have h2:¬t<r:=fun z=>by have:=dP.mpr z;rw[h] at this;exact lt_irrefl _ this
 grind
noncomputable instance Bc:OrderedAdd Re where
 add_le_left_iff {a b} c:=by
  rw[le_iff,le_iff,<-add_lt_iff c]
theorem sub_pos{x y:Re}(h:x<y):0<y-x:=by
 have:=qA h (-x);have e1:x+-x=0:=by grind
 have e2:y+-x=y-x:=by grind
 rw[e1,e2] at this;exact this
theorem nh{x y:Re}(h:0<y-x):x<y:=by
 have:=qA h x;have e1:0+x=x:=by grind
 have e2:y-x+x=y:=by grind
 rw[e1,e2] at this;exact this
noncomputable instance instOrderedRing:OrderedRing Re where
 zero_lt_one:=by
  show q ((0:Nat):Rat)<q ((1:Nat):Rat);rw[dP];decide
 mul_lt_mul_of_pos_left {a b c} h hc:=by
  have:=mul_pos hc (sub_pos h);have e:c*(b-a)=c*b-c*a:=by grind
  rw[e] at this;exact nh this
 mul_lt_mul_of_pos_right {a b c} h hc:=by
  have:=mul_pos hc (sub_pos h);have e:c*(b-a)=b*c-a*c:=by grind
  rw[e] at this;exact nh this
example (x y:Re)(h:x<y):x+1<=y+2:=by grind
theorem small{x:Re}(h:0<x):∃r:Rat,0<r/\q r<x:=by
 obtain⟨a,rfl⟩:=ex x;obtain⟨e,he,N,hN⟩:=h;refine⟨e/2,by grind,e/2,by grind,N,fun n hn=>?_⟩;have g1:((0:Nat):Rat)+e<=a.s n:=hN n hn;show e/2+e/2<=a.s n;grind
theorem great(x:Re):∃r:Rat,0<r/\x<q r:=by
 obtain⟨a,rfl⟩:=ex x;obtain⟨B,hB,hb⟩:=a.bd;refine⟨B+1,by grind,1,by decide,0,fun n _=>?_⟩;have:=(FI.mp (hb n)).2;show a.s n+1<=B+1;grind
open Classical in
noncomputable def ab(x:Re):Re:=if x<0 then -x else x
theorem aF(x:Re):0<=ab x:=by unfold ab;split<;>grind
theorem gM{x e:Re}:ab x<=e↔(-e<=x/\x<=e):=by unfold ab;split<;>grind
theorem dc{x e:Re}:ab x<e↔(-e<x/\x<e):=by unfold ab;split<;>grind
theorem fV(x y:Re):ab (x+y)<=ab x+ab y:=by unfold ab;split<;>split<;>split<;>grind
theorem vE(x:Re):ab (-x)=ab x:=by unfold ab;split<;>split<;>grind
theorem mul_nonneg{x y:Re}(h:0<=x)(h':0<=y):0<=x*y:=by
 by_cases hx:x=0
 ·rw[hx];grind
 ·by_cases hy:y=0
  ·rw[hy];grind
  ·have:=mul_pos (x:=x) (y:=y) (by grind) (by grind);grind
theorem bT(x y:Re):ab (x*y)=ab x*ab y:=by
 by_cases hx:x<0<;>by_cases hy:y<0
 ·have:=mul_pos (x:=-x) (y:=-y) (by grind) (by grind);unfold ab;rw[if_neg (by grind),if_pos hx,if_pos hy];grind
 ·have:=mul_nonneg (x:=-x) (y:=y) (by grind) (by grind);unfold ab;rw[if_pos hx,if_neg hy];split<;>grind
 ·have:=mul_nonneg (x:=x) (y:=-y) (by grind) (by grind);unfold ab;rw[if_neg hx,if_pos hy];split<;>grind
 ·have:=mul_nonneg (x:=x) (y:=y) (by grind) (by grind);unfold ab;rw[if_neg (by grind),if_neg hx,if_neg hy]
theorem mul_le_mul{a b c d:Re}(h1:a<=b)(h2:c<=d)(h3:0<=b)(h4:0<=c):a*c<=b*d:=by
 have e1:=mul_nonneg (x:=b-a) (y:=c) (by grind) h4;have e2:=mul_nonneg (x:=b) (y:=d-c) h3 (by grind);grind
theorem dC{x y:Re}(hx:x≠0)(hy:y≠0):x*y≠0:=by
 intro h;have e:ab (x*y)=0:=by rw[h];unfold ab;rw[if_neg (by grind)]
 rw[bT] at e;have p1:0<ab x:=by unfold ab;split<;>grind
 have p2:0<ab y:=by unfold ab;split<;>grind
 have:=mul_pos p1 p2;rw[e] at this;exact lt_irrefl _ this
theorem sU(n:Nat):(0:Rat)<(1/2)^n:=Rat.pow_pos (by grind)
theorem vF(e:Rat)(he:0<e):∃N:Nat,∀n,N<=n->(1/2:Rat)^n<e:=by
 have key:∀n:Nat,(1/2:Rat)^n*((n:Rat)+1)<=1:=by
  intro n
  induction n with
  |zero=>rw[Rat.pow_zero];grind
  |succ n ih=>
   rw[Rat.pow_succ];have h0:=sU n;have e1:((n+1:Nat):Rat)=(n:Rat)+1:=by grind
   rw[e1];have hn:(0:Rat)<=(n:Rat):=by
    have:((0:Nat):Rat)<=(n:Rat):=by exact_mod_cast Nat.zero_le n
    exact this
   have e2:(1/2:Rat)^n*(1/2)*((n:Rat)+1+1)=(1/2:Rat)^n*((n:Rat)+1)-(1/2:Rat)^n*((n:Rat)*(1/2)):=by grind
   have h1:=Rat.mul_nonneg (a:=(1/2:Rat)^n) (b:=(n:Rat)*(1/2)) (Rat.le_of_lt h0) (Rat.mul_nonneg hn (by grind));rw[e2];grind
 obtain⟨N,hN⟩:∃N:Nat,1/e<(N:Rat):=by
  refine⟨(1/e).ceil.toNat+1,?_⟩;have h1:=Rat.le_ceil (x:=1/e);have h2:(1/e).ceil<=(((1/e).ceil.toNat+1:Nat):Int)-1:=by lia
  have h3:(((1/e).ceil:Int):Rat)<=(((((1/e).ceil.toNat+1:Nat):Int)-1:Int):Rat):=Rat.intCast_le_intCast.mpr h2;have h4:(((((1/e).ceil.toNat+1:Nat):Int)-1:Int):Rat)=(((1/e).ceil.toNat+1:Nat):Rat)-1:=by push_cast;grind
  grind
 refine⟨N,fun n hn=>?_⟩;have h1:=key n;have h0:=sU n;have Wt:(N:Rat)<=(n:Rat):=by exact_mod_cast hn
 have h5:1<e*((n:Rat)+1):=by
  have:1/e<(n:Rat)+1:=by grind
  have h6:=(Rat.mul_lt_mul_left he).mpr this;have e3:e*(1/e)=1:=by grind
  rw[e3] at h6;exact h6
 rcases Classical.em ((1/2:Rat)^n<e) with z|z
 ·exact z
 ·have hp:(0:Rat)<=(n:Rat)+1:=by
   have:(0:Rat)<=(N:Rat):=by exact_mod_cast Nat.zero_le N
   grind
  have:=Rat.mul_le_mul_of_nonneg_right (show e<=(1/2:Rat)^n by grind) hp;grind
end Re
end SF
namespace SF
open Lean.Grind
namespace Re
open RR
theorem mk_le{a:CS}{r:Rat}{N:Nat}(h:∀m,N<=m->a.s m<=r):mk a<=q r:=by
 rintro⟨e,he,M,hM⟩;have g1:r+e<=a.s (max N M):=hM _ (by lia);have g2:=h (max N M) (by lia);grind
theorem KW{a:CS}{r:Rat}{N:Nat}(h:∀m,N<=m->r<=a.s m):q r<=mk a:=by
 rintro⟨e,he,M,hM⟩;have g1:a.s (max N M)+e<=r:=hM _ (by lia);have g2:=h (max N M) (by lia);grind
open Classical in
noncomputable def iQ(φ:Rat->Int)(p:Rat×Rat):Rat×Rat:=if φ p.1=φ ((p.1+p.2)/2) then((p.1+p.2)/2,p.2) else(p.1,(p.1+p.2)/2)
noncomputable def cB(φ:Rat->Int)(p:Rat×Rat):Nat->Rat×Rat
 |0=>p
 |n+1=>iQ φ (cB φ p n)
theorem jj{φ:Rat->Int}{a b:Rat}(jk:a<=b)(eQ:φ a≠φ b):∀n:Nat,
 φ (cB φ (a,b) n).1≠φ (cB φ (a,b) n).2/\(cB φ (a,b) n).1<=(cB φ (a,b) n).2/\(cB φ (a,b) n).2-(cB φ (a,b) n).1=(b-a)*(1/2)^n
 |0=>⟨eQ,jk,by show b-a=(b-a)*(1/2)^0;rw[Rat.pow_zero];grind⟩
 |n+1=>by
  obtain⟨h1,h2,h3⟩:=jj jk eQ n;have e:cB φ (a,b) (n+1)=iQ φ (cB φ (a,b) n):=rfl;rw[e];generalize cB φ (a,b) n=p at h1 h2 h3;unfold iQ;rw[Rat.pow_succ];split
  ·rename_i h;refine⟨?_,?_,?_⟩
   ·show φ ((p.1+p.2)/2)≠φ p.2;rw[<-h];exact h1
   ·show(p.1+p.2)/2<=p.2;grind
   ·show p.2-(p.1+p.2)/2=_;have e2:(b-a)*((1/2)^n*(1/2))=((b-a)*(1/2)^n)*(1/2):=by grind
    rw[e2,<-h3];grind
  ·rename_i h;refine⟨h,?_,?_⟩
   ·show p.1<=(p.1+p.2)/2;grind
   ·show(p.1+p.2)/2-p.1=_;have e2:(b-a)*((1/2)^n*(1/2))=((b-a)*(1/2)^n)*(1/2):=by grind
    rw[e2,<-h3];grind
theorem zl(φ:Rat->Int)(p:Rat×Rat)(n:Nat)(h:(cB φ p n).1<=(cB φ p n).2):(cB φ p n).1<=(cB φ p (n+1)).1/\(cB φ p (n+1)).2<=(cB φ p n).2:=by
 show _<=(iQ φ (cB φ p n)).1/\(iQ φ (cB φ p n)).2<=_;unfold iQ;split
 ·constructor
  ·show(cB φ p n).1<=((cB φ p n).1+(cB φ p n).2)/2;grind
  ·exact Rat.le_refl
 ·constructor
  ·exact Rat.le_refl
  ·show((cB φ p n).1+(cB φ p n).2)/2<=(cB φ p n).2;grind
theorem pd{φ:Rat->Int}{a b:Rat}(jk:a<=b)(eQ:φ a≠φ b)(n:Nat):∀k:Nat,(cB φ (a,b) n).1<=(cB φ (a,b) (n+k)).1/\(cB φ (a,b) (n+k)).2<=(cB φ (a,b) n).2
 |0=>⟨Rat.le_refl,Rat.le_refl⟩
 |k+1=>by
  have ih:=pd jk eQ n k;have h:=zl φ (a,b) (n+k) (jj jk eQ (n+k)).2.1;exact⟨Rat.le_trans ih.1 h.1,Rat.le_trans h.2 ih.2⟩
theorem mw{φ:Rat->Int}{a b:Rat}(jk:a<=b)(eQ:φ a≠φ b){n m:Nat}(h:n<=m):(cB φ (a,b) n).1<=(cB φ (a,b) m).1/\(cB φ (a,b) m).1<=(cB φ (a,b) n).2:=by
 have e:m=n+(m-n):=by lia
 have h1:=pd jk eQ n (m-n);rw[<-e] at h1;have h2:=(jj jk eQ m).2.1;exact⟨h1.1,Rat.le_trans h2 h1.2⟩
theorem lJ{φ:Rat->Int}{a b:Rat}(jk:a<=b)(eQ:φ a≠φ b)(e:Rat)(he:0<e):∃N:Nat,(b-a)*(1/2)^N<e:=by
 by_cases h0:b-a=0
 ·exact⟨0,by rw[h0];grind⟩
 ·have hp:0<b-a:=by grind
  obtain⟨N,hN⟩:=vF (e/(b-a)) (vD he hp);refine⟨N,?_⟩;have:=(Rat.mul_lt_mul_left hp).mpr (hN N (Nat.le_refl _));have e2:(b-a)*(e/(b-a))=e:=by grind
  rw[e2] at this;exact this
theorem iW{φ:Rat->Int}(loc:∀x:Re,∃d:Rat,0<d/\∀s t:Rat,ab (q s-x)<q d->ab (q t-x)<q d->φ s=φ t){a b:Rat}(jk:a<=b):φ a=φ b:=by
 by_cases eQ:φ a=φ b
 ·exact eQ
 exfalso;let c:CS:=⟨fun n=>(cB φ (a,b) n).1,fun e he=>by
  obtain⟨N,hN⟩:=lJ jk eQ e he
  refine⟨N,fun m n hm hn=>nc.mpr ?_⟩
  have g1:=mw jk eQ hm
  have g2:=mw jk eQ hn
  have g3:=(jj jk eQ N).2.2
  constructor<;>grind⟩;obtain⟨d,hd,OG⟩:=loc (mk c);obtain⟨N,hN⟩:=lJ jk eQ d hd;have g3:=(jj jk eQ N).2.2;have l1:q (cB φ (a,b) N).1<=mk c:=KW (N:=N) fun m hm=>(mw jk eQ hm).1;have l2:mk c<=q (cB φ (a,b) N).2:=mk_le (N:=N) fun m hm=>(mw jk eQ hm).2;have l3:q (cB φ (a,b) N).2-q (cB φ (a,b) N).1<q d:=by
  have:q (cB φ (a,b) N).2-q (cB φ (a,b) N).1=q ((cB φ (a,b) N).2-(cB φ (a,b) N).1):=by
   have e:(cB φ (a,b) N).2-(cB φ (a,b) N).1=(cB φ (a,b) N).2+-(cB φ (a,b) N).1:=by grind
   rw[e,lI,pb];grind
  rw[this,dP,g3];exact hN
 refine(jj jk eQ N).1 (OG _ _ (dc.mpr ?_) (dc.mpr ?_))
 ·constructor<;>grind
 ·constructor<;>grind
end Re
namespace Po
open Re
noncomputable def at'(x:Re)(f:Po):Re:=ay (fun i=>((f.c i:Int):Re)*x^i) (len f)
theorem oo(x:Re){f:Po}{n:Nat}(h:len f<=n):at' x f=ay (fun i=>((f.c i:Int):Re)*x^i) n:=by
 have e:n=len f+(n-len f):=by lia
 have z:((0:Int):Re)=0:=Ring.intCast_zero;rw[e,cw,cv (n:=n-len f) (fun i _=>by rw[dS (by lia),z];grind)];show ay _ _=_;grind
theorem jB(x:Re)(f g:Po):at' x (f+g)=at' x f+at' x g:=by
 have h1:=qm f g;rw[oo x h1,oo x (f:=f) (n:=max (len f) (len g)) (by lia),oo x (f:=g) (n:=max (len f) (len g)) (by lia),<-eJ];exact aJ fun i _=>by rw[ju,Ring.intCast_add];grind
theorem mx(x:Re)(a:Int)(f:Po):at' x (K a*f)=(a:Re)*at' x f:=by
 have h1:len (K a*f)<=len f:=cA fun i hi=>by rw[aV,dS hi];grind
 rw[oo x h1];unfold at';rw[<-cu];exact aJ fun i _=>by rw[aV,Ring.intCast_mul];grind
theorem ni(f:Nat->Int):∀n:Nat,((ay f n:Int):Re)=ay (fun i=>((f i:Int):Re)) n
 |0=>Ring.intCast_zero
 |n+1=>by
  show((ay f n+f n:Int):Re)=_;rw[Ring.intCast_add,ni f n];rfl
theorem pow_add'(x:Re)(m:Nat):∀n:Nat,x^(m+n)=x^m*x^n
 |0=>by
  have:x^0=1:=Semiring.pow_zero x;rw[Nat.add_zero,this];grind
 |n+1=>by
  have e1:x^(m+(n+1))=x^(m+n)*x:=Semiring.pow_succ x (m+n);have e2:x^(n+1)=x^n*x:=Semiring.pow_succ x n;rw[e1,pow_add' x m n,e2];grind
theorem gy(x:Re)(f g:Po):at' x (f*g)=at' x f*at' x g:=by
 have hl:len (f*g)<=len f+len g:=by
  by_cases hf:f=0
  ·rw[hf];have:(0:Po)*g=0:=by grind
   rw[this,fq];lia
  ·by_cases hg:g=0
   ·rw[hg];have:f*(0:Po)=0:=by grind
    rw[this,fq];lia
   ·have:=len_mul hf hg;lia
 rw[oo x hl];have z:((0:Int):Re)=0:=Ring.intCast_zero;let F:Nat->Nat->Re:=fun j k=>(((f.c j:Int):Re)*x^j)*(((g.c k:Int):Re)*x^k);have e1:ay (fun i=>(((f*g).c i:Int):Re)*x^i) (len f+len g)=ay (fun i=>ay (fun j=>F j (i-j)) (i+1)) (len f+len g):=aJ fun i _=>by
  rw[sJ,ni,<-jg];refine aJ fun j hj=>?_;show _=(((f.c j:Int):Re)*x^j)*(((g.c (i-j):Int):Re)*x^(i-j));rw[Ring.intCast_mul];have e:i=j+(i-j):=by lia
  have e2:x^i=x^j*x^(i-j):=by rw[<-pow_add',<-e]
  rw[e2];grind
 rw[e1,mP F];have e3:ay (fun j=>ay (fun k=>F j k) (len f+len g-j)) (len f+len g)=ay (fun j=>(((f.c j:Int):Re)*x^j)*at' x g) (len f+len g):=aJ fun j hj=>by
  show ay (fun k=>(((f.c j:Int):Re)*x^j)*(((g.c k:Int):Re)*x^k)) _=_;rw[cu];by_cases h:j<len f
  ·rw[<-oo x (f:=g) (n:=len f+len g-j) (by lia)]
  ·rw[dS (f:=f) (by lia),z];grind
 rw[e3,jg,<-oo x (f:=f) (n:=len f+len g) (by lia)]
theorem Be(x:Re)(a:Int):at' x (K a)=(a:Re):=by
 rw[oo x (sL a)];show 0+(((K a).c 0:Int):Re)*x^0=_;have:x^0=1:=Semiring.pow_zero x;rw[vk,if_pos rfl,this];grind
theorem iq(x:Re):at' x 0=0:=by rw[<-cH,Be];exact Ring.intCast_zero
theorem D3(x:Re):at' x (X 1)=x:=by
 have h:len (X 1)<=2:=cA fun i hi=>by rw[xx,if_neg (by lia)]
 rw[oo x h];show 0+(((X 1).c 0:Int):Re)*x^0+(((X 1).c 1:Int):Re)*x^1=_;have e0:x^0=1:=Semiring.pow_zero x;have e1:x^1=x^0*x:=Semiring.pow_succ x 0;have z:((0:Int):Re)=0:=Ring.intCast_zero;have o:((1:Int):Re)=1:=Ring.intCast_one;rw[xx,xx,if_neg (by decide),if_pos rfl,e1,e0,z,o];grind
theorem nj(a:Int)(r:List Int):aU (aq (a::r))=aq r+X 1*aU (aq r):=ext fun i=>by
 rw[lD,ju,aY,aY,eK,ff];cases i with
 |zero=>rw[if_pos (by decide)];grind
 |succ i=>
  rw[if_neg (by lia),Nat.add_sub_cancel,lD,aY];have:((i+1+1:Nat):Int)=((i+1:Nat):Int)+1:=by lia
  rw[this];grind
theorem fi(x:Re)(a:Int)(r:List Int):at' x (aq (a::r))=(a:Re)+x*at' x (aq r):=by
 rw[mZ,jB,Be,gy,D3]
theorem vG(x:Re):∀xs:List Int,∃B:Re,0<=B/\∀t:Re,Re.ab (t-x)<=1->Re.ab (at' t (aq xs)-at' x (aq xs)-(t-x)*at' x (aU (aq xs)))<=B*(Re.ab (t-x)*Re.ab (t-x))
 |[]=>⟨0,by grind,fun t _=>by
  have e:aU (aq [])=0:=by
   refine ext fun i=>?_
   rw[lD,aY,eL];show _*0=0;grind
  rw[e,dt,iq,iq]
  have:(0:Re)-0-(t-x)*0=0:=by grind
  rw[this];unfold Re.ab;rw[if_neg (by grind)];grind⟩
 |a::r=>by
  obtain⟨B,hB,hb⟩:=vG x r;refine⟨Re.ab (at' x (aU (aq r)))+(Re.ab x+1)*B,?_,fun t ht=>?_⟩
  ·have h1:=Re.aF (at' x (aU (aq r)));have h2:=Re.mul_nonneg (x:=Re.ab x+1) (y:=B) (by have:=Re.aF x;grind) hB;grind
  ·have h:=hb t ht;generalize jv:at' t (aq r)-at' x (aq r)-(t-x)*at' x (aU (aq r))=ρ at h;rw[fi,fi,nj,jB,gy,D3];have e:(a:Re)+t*at' t (aq r)-((a:Re)+x*at' x (aq r))-(t-x)*(at' x (aq r)+x*at' x (aU (aq r)))=(t-x)*(t-x)*at' x (aU (aq r))+t*ρ:=by rw[<-jv];grind
   rw[e];have g1:=Re.fV ((t-x)*(t-x)*at' x (aU (aq r))) (t*ρ);rw[Re.bT,Re.bT,Re.bT] at g1;have g2:Re.ab t<=Re.ab x+1:=by
    have:=Re.fV (t-x) x;have e2:t-x+x=t:=by grind
    rw[e2] at this;grind
   have g3:=Re.mul_le_mul (a:=Re.ab t) (b:=Re.ab x+1) (c:=Re.ab ρ) (d:=B*(Re.ab (t-x)*Re.ab (t-x))) g2 h (by have:=Re.aF x;grind) (Re.aF _);grind
end Po
end SF
namespace SF
open Lean.Grind
open Classical in
noncomputable def aT(x:Re):Int:=if x<0 then -1 else if 0<x then 1 else 0
namespace Re
theorem cG{x:Re}(h:x<0):aT x=-1:=by unfold aT;rw[if_pos h]
theorem bK{x:Re}(h:0<x):aT x=1:=by unfold aT;rw[if_neg (by grind),if_pos h]
theorem bC:aT 0=0:=by unfold aT;rw[if_neg (by grind),if_neg (by grind)]
theorem aS(x:Re):(x<0/\aT x=-1)\/(x=0/\aT x=0)\/(0<x/\aT x=1):=by
 rcases Aa x 0 with h|h|h
 ·exact .inl ⟨h,cG h⟩
 ·exact .inr (.inl ⟨h,by rw[h,bC]⟩)
 ·exact .inr (.inr ⟨h,bK h⟩)
theorem qB{x:Re}(h:x≠0):aT x=-1\/aT x=1:=by
 rcases aS x with z|z|z
 ·exact .inl z.2
 ·exact absurd z.1 h
 ·exact .inr z.2
theorem bc{x:Re}(h:aT x=0):x=0:=by
 rcases aS x with z|z|z
 ·rw[h] at z;lia
 ·exact z.1
 ·rw[h] at z;lia
theorem qC(x:Re):aT (-x)=-aT x:=by
 rcases aS x with z|z|z
 ·rw[z.2,bK (by grind)];rfl
 ·have:-x=0:=by grind
  rw[z.2,this,bC];rfl
 ·rw[z.2,cG (by grind)]
theorem fC(x y:Re):aT (x*y)=aT x*aT y:=by
 rcases aS x with z|z|z<;>rcases aS y with w|w|w
 ·have:=mul_pos (x:=-x) (y:=-y) (by grind) (by grind);rw[z.2,w.2,bK (by grind)];rfl
 ·have:x*y=0:=by rw[w.1];grind
  rw[this,bC,w.2];lia
 ·have:=mul_pos (x:=-x) (y:=y) (by grind) (by grind);rw[z.2,w.2,cG (by grind)];rfl
 ·have:x*y=0:=by rw[z.1];grind
  rw[this,bC,z.2];lia
 ·have:x*y=0:=by rw[z.1];grind
  rw[this,bC,z.2];lia
 ·have:x*y=0:=by rw[z.1];grind
  rw[this,bC,z.2];lia
 ·have:=mul_pos (x:=x) (y:=-y) (by grind) (by grind);rw[z.2,w.2,cG (by grind)];rfl
 ·have:x*y=0:=by rw[w.1];grind
  rw[this,bC,w.2];lia
 ·have:=mul_pos (x:=x) (y:=y) (by grind) (by grind);rw[z.2,w.2,bK (by grind)];rfl
theorem KY(C e:Re)(he:0<e):∃d:Rat,0<d/\d<=1/\∀z:Re,0<=z->z<q d->z*C<e:=by
 obtain⟨g,hg,hC⟩:=great (ab C);obtain⟨r,hr,Wu⟩:=small he;have h1:0<r/g:=RR.vD hr hg;refine⟨if r/g<1 then r/g else 1,by split<;>grind,by split<;>grind,fun z hz QR=>?_⟩;have h2:z<q (r/g):=by
  split at QR
  ·exact QR
  ·have:q 1<=q (r/g):=cy.mpr (by grind);grind
 have h3:z*C<=z*q g:=by
  have h4:C<=q g:=by
   have:=(gM (x:=C) (e:=ab C)).mp (by grind);grind
  have:=mul_nonneg (x:=z) (y:=q g-C) hz (by grind);grind
 have KG:0<q g:=by
  have:=dP.mpr hg;rw[fW] at this;exact this
 have h5:z*q g<q (r/g)*q g:=by
  have:=mul_pos (x:=q (r/g)-z) (y:=q g) (by grind) KG;grind
 have h6:q (r/g)*q g=q r:=by
  rw[<-fy];congr 1;grind
 rw[h6] at h5;grind
end Re
namespace Po
open Re
theorem jl{x:Re}{f:Po}(h:at' x f≠0):∃d:Rat,0<d/\∀t:Re,Re.ab (t-x)<q d->aT (at' t f)=aT (at' x f):=by
 obtain⟨B,hB,hb⟩:=vG x (lst f);rw[cT] at hb;have fx:0<Re.ab (at' x f):=by unfold Re.ab;split<;>grind
 obtain⟨d,hd,xA,hz⟩:=KY (Re.ab (at' x (aU f))+B) _ fx;refine⟨d,hd,fun t ht=>?_⟩;have g0:=Re.aF (t-x);have g1:=hz (Re.ab (t-x)) g0 ht;have Tx:q d<=1:=by
  have:=cy.mpr xA;rw[xQ] at this;exact this
 have g2:=hb t (by grind);have g3:Re.ab (at' t f-at' x f)<Re.ab (at' x f):=by
  have e:at' t f-at' x f=(at' t f-at' x f-(t-x)*at' x (aU f))+(t-x)*at' x (aU f):=by grind
  have g4:=Re.fV (at' t f-at' x f-(t-x)*at' x (aU f)) ((t-x)*at' x (aU f));rw[<-e,Re.bT] at g4;have g5:=Re.mul_nonneg (x:=B) (y:=Re.ab (t-x)*(1-Re.ab (t-x))) hB (Re.mul_nonneg g0 (by grind));grind
 have g6:=dc.mp g3;rcases aS (at' x f) with z|z|z
 ·have e:Re.ab (at' x f)=-at' x f:=by unfold Re.ab;rw[if_pos z.1]
  rw[z.2];exact cG (by grind)
 ·exact absurd z.1 h
 ·have e:Re.ab (at' x f)=at' x f:=by unfold Re.ab;rw[if_neg (by grind)]
  rw[z.2];exact bK (by grind)
theorem pe{x:Re}{f:Po}(h0:at' x f=0)(h:at' x (aU f)≠0):∃d:Rat,0<d/\∀t:Re,Re.ab (t-x)<q d->aT (at' t f)=aT (t-x)*aT (at' x (aU f)):=by
 obtain⟨B,hB,hb⟩:=vG x (lst f);rw[cT] at hb;have fx:0<Re.ab (at' x (aU f)):=by unfold Re.ab;split<;>grind
 obtain⟨d,hd,xA,hz⟩:=KY B _ fx;refine⟨d,hd,fun t ht=>?_⟩;have g0:=Re.aF (t-x);have g1:=hz (Re.ab (t-x)) g0 ht;have Tx:q d<=1:=by
  have:=cy.mpr xA;rw[xQ] at this;exact this
 have g2:=hb t (by grind);rw[h0] at g2;by_cases Tz:t-x=0
 ·have:t=x:=by grind
  rw[Tz,this,h0,bC];lia
 ·have hp:0<Re.ab (t-x):=by unfold Re.ab;split<;>grind
  have g3:B*(Re.ab (t-x)*Re.ab (t-x))<Re.ab ((t-x)*at' x (aU f)):=by
   rw[Re.bT];have:=Re.mul_pos (x:=Re.ab (t-x)) (y:=Re.ab (at' x (aU f))-Re.ab (t-x)*B) hp (by grind);grind
  rw[<-fC];generalize (t-x)*at' x (aU f)=y at g2 g3;have g4:=gM.mp g2;rcases aS y with z|z|z
  ·have e:Re.ab y=-y:=by unfold Re.ab;rw[if_pos z.1]
   rw[z.2];exact cG (by grind)
  ·rw[z.1] at g3;have e:Re.ab (0:Re)=0:=by unfold Re.ab;rw[if_neg (by grind)]
   rw[e] at g3;have:=Re.mul_nonneg hB (Re.mul_nonneg g0 g0);grind
  ·have e:Re.ab y=y:=by unfold Re.ab;rw[if_neg (by grind)]
   rw[z.2];exact bK (by grind)
end Po
noncomputable def cg(b:Int):List Int->Nat
 |[]=>0
 |s::r=>(if s*b<0 then 1 else 0)+cg (if s≠0 then s else b) r
namespace Po
open Re
noncomputable def d9(t:Re)(ps:List Po):List Int:=ps.map fun p=>aT (at' t p)
noncomputable def zm(x:Re):List Po->Prop
 |[]=>True
 |[a]=>at' x a≠0
 |a::b::[]=>at' x b≠0
 |a::b::c::r=>(at' x b=0->aT (at' x a)*aT (at' x c)<0)/\zm x (b::c::r)
theorem kb{d e:Rat}(hd:0<d)(he:0<e):∃m:Rat,0<m/\q m<=q d/\q m<=q e:=by
 by_cases h:d<e
 ·exact⟨d,hd,cy.mpr (by grind),cy.mpr (by grind)⟩
 ·exact⟨e,he,cy.mpr (by grind),cy.mpr (by grind)⟩
theorem gN{x:Re}:∀(n:Nat)(a:Po)(r:List Po),r.length<=n->at' x a≠0->zm x (a::r)->∃d:Rat,0<d/\∀t:Re,Re.ab (t-x)<q d->aT (at' t a)=aT (at' x a)/\cg (aT (at' t a)) (d9 t r)=cg (aT (at' x a)) (d9 x r)
 |n,a,[],_,ha,_=>by
  obtain⟨d,hd,h⟩:=jl ha;exact⟨d,hd,fun t ht=>⟨h t ht,rfl⟩⟩
 |n,a,[b],_,ha,hc=>by
  obtain⟨d,hd,h⟩:=jl ha;obtain⟨e,he,h'⟩:=jl (show at' x b≠0 from hc);obtain⟨m,hm,h1,h2⟩:=kb hd he;refine⟨m,hm,fun t ht=>?_⟩;have g1:=h t (by grind);have g2:=h' t (by grind);refine⟨g1,?_⟩;unfold d9;rw[List.map_cons,List.map_cons,g1,g2];rfl
 |0,a,b::c::r,hl,_,_=>by simp at hl
 |n+1,a,b::c::r,hl,ha,hc=>by
  obtain⟨d,hd,h⟩:=jl ha;obtain⟨ME,uO⟩:=hc;by_cases hb:at' x b=0
  ·have OH:=ME hb;have MF:at' x c≠0:=fun z=>by rw[z,bC] at OH;lia
   have Ac:zm x (c::r):=by
    cases r with
    |nil=>exact MF
    |cons e r=>exact uO.2
   obtain⟨e,he,h'⟩:=gN n c r (by simp at hl;lia) MF Ac;obtain⟨m,hm,h1,h2⟩:=kb hd he;refine⟨m,hm,fun t ht=>?_⟩;have g1:=h t (by grind);obtain⟨g2,g3⟩:=h' t (by grind);refine⟨g1,?_⟩;show cg (aT (at' t a)) (aT (at' t b)::aT (at' t c)::d9 t r)=cg (aT (at' x a)) (aT (at' x b)::aT (at' x c)::d9 x r);rw[g1,g2,hb,bC];rw[g2] at g3;rcases qB ha with sa|sa<;>rcases qB MF with sc|sc
   ·rw[sa,sc] at OH;lia
   ·rw[sc] at g3;rw[sa,sc];rcases aS (at' t b) with z|z|z<;>rw[z.2]<;>simp[cg,g3]
   ·rw[sc] at g3;rw[sa,sc];rcases aS (at' t b) with z|z|z<;>rw[z.2]<;>simp[cg,g3]
   ·rw[sa,sc] at OH;lia
  ·obtain⟨e,he,h'⟩:=gN n b (c::r) (by simp at hl ⊢;lia) hb uO;obtain⟨m,hm,h1,h2⟩:=kb hd he;refine⟨m,hm,fun t ht=>?_⟩;have g1:=h t (by grind);obtain⟨g2,g3⟩:=h' t (by grind);refine⟨g1,?_⟩;show cg (aT (at' t a)) (aT (at' t b)::d9 t (c::r))=cg (aT (at' x a)) (aT (at' x b)::d9 x (c::r));rw[g1];have nz:aT (at' x b)≠0:=fun z=>hb (bc z);show(if aT (at' t b)*aT (at' x a)<0 then 1 else 0)+cg (if aT (at' t b)≠0 then aT (at' t b) else aT (at' x a)) (d9 t (c::r))=(if aT (at' x b)*aT (at' x a)<0 then 1 else 0)+cg (if aT (at' x b)≠0 then aT (at' x b) else aT (at' x a)) (d9 x (c::r));rw[if_pos (c:=aT (at' x b)≠0) nz,if_pos (c:=aT (at' t b)≠0) (by rw[g2];exact nz),g3,g2]
open Classical in
theorem KZ{p0:Po}{r:List Po}{N:Rat->Int}(hc:∀x:Re,zm x (p0::aU p0::r))(hz:∀x:Re,at' x p0=0->at' x (aU p0)≠0)(hN:∀x:Re,∃d:Rat,0<d/\∃n0:Int,∀t:Rat,Re.ab (q t-x)<q d->N t=n0+(if at' x p0=0/\x<=q t then 1 else 0)){a b:Rat}(jk:a<=b):
 (cg 0 (d9 (q a) (p0::aU p0::r)):Int)+N a=(cg 0 (d9 (q b) (p0::aU p0::r)):Int)+N b:=by
 refine iW (φ:=fun t=>(cg 0 (d9 (q t) (p0::aU p0::r)):Int)+N t) (fun x=>?_) jk;obtain⟨d,hd,n0,hn⟩:=hN x;have c0:∀(s:Int)(l:List Int),s≠0->cg 0 (s::l)=cg s l:=fun s l hs=>by
  show(if s*0<0 then 1 else 0)+cg (if s≠0 then s else 0) l=_;rw[if_neg (by lia),if_pos hs];lia
 by_cases h0:at' x p0=0
 ·have h1:=hz x h0;have uO:zm x (aU p0::r):=by
   have:=hc x;cases r with
   |nil=>exact this
   |cons e r=>exact this.2
  obtain⟨e,he,hr⟩:=pe h0 h1;obtain⟨f,hf,hs⟩:=gN r.length (aU p0) r (Nat.le_refl _) h1 uO;obtain⟨m,hm,m1,m2⟩:=kb hd he;obtain⟨m',I_,m3,m4⟩:=kb hm hf;have key:∀t:Rat,Re.ab (q t-x)<q m'->(cg 0 (d9 (q t) (p0::aU p0::r)):Int)+N t=(cg (aT (at' x (aU p0))) (d9 x r):Int)+n0+1:=fun t ht=>by
   have k1:=hr (q t) (by grind);obtain⟨k2,k3⟩:=hs (q t) (by grind);have k4:=hn t (by grind);have nz:aT (at' x (aU p0))≠0:=fun z=>h1 (bc z);show((cg 0 (aT (at' (q t) p0)::aT (at' (q t) (aU p0))::d9 (q t) r):Nat):Int)+N t=_;rw[k1,k2,k4];rw[k2] at k3;generalize aT (at' x (aU p0))=s1 at nz k3 ⊢;rcases aS (q t-x) with z|z|z
   ·rw[z.2,if_neg (by rintro⟨_,w⟩;grind),c0 _ _ (by lia)];show(((if s1*(-1*s1)<0 then 1 else 0)+cg (if s1≠0 then s1 else -1*s1) (d9 (q t) r):Nat):Int)+(n0+0)=_;have OI:s1*(-1*s1)<0:=by
     have:0<s1*s1:=by
      rcases Int.lt_or_lt_of_ne nz with w|w
      ·exact Int.mul_pos_of_neg_of_neg w w
      ·exact Int.mul_pos w w
     grind
    rw[if_pos OI,if_pos nz,k3];lia
   ·rw[z.2,if_pos ⟨h0,by grind⟩];show(((if 0*s1*0<0 then 1 else 0)+((if s1*(if 0*s1≠0 then 0*s1 else 0)<0 then 1 else 0)+cg (if s1≠0 then s1 else(if 0*s1≠0 then 0*s1 else 0)) (d9 (q t) r)):Nat):Int)+(n0+1)=_;have e0:0*s1=0:=by lia
    rw[e0,if_neg (by lia),if_neg (c:=(0:Int)≠0) (by lia),if_neg (by lia),if_pos nz,k3];lia
   ·rw[z.2,if_pos ⟨h0,by grind⟩,c0 _ _ (by lia)];show(((if s1*(1*s1)<0 then 1 else 0)+cg (if s1≠0 then s1 else 1*s1) (d9 (q t) r):Nat):Int)+(n0+1)=_;have fx:¬s1*(1*s1)<0:=by
     have:0<s1*s1:=by
      rcases Int.lt_or_lt_of_ne nz with w|w
      ·exact Int.mul_pos_of_neg_of_neg w w
      ·exact Int.mul_pos w w
     grind
    rw[if_neg fx,if_pos nz,k3];lia
  exact⟨m',I_,fun s t CV OJ=>by
   show(cg 0 (d9 (q s) (p0::aU p0::r)):Int)+N s=(cg 0 (d9 (q t) (p0::aU p0::r)):Int)+N t
   rw[key s CV,key t OJ]⟩
 ·obtain⟨e,he,hs⟩:=gN (r.length+1) p0 (aU p0::r) (Nat.le_refl _) h0 (hc x);obtain⟨m,hm,m1,m2⟩:=kb hd he;have key:∀t:Rat,Re.ab (q t-x)<q m->(cg 0 (d9 (q t) (p0::aU p0::r)):Int)+N t=(cg (aT (at' x p0)) (d9 x (aU p0::r)):Int)+n0:=fun t ht=>by
   obtain⟨k2,k3⟩:=hs (q t) (by grind);have k4:=hn t (by grind);have nz:aT (at' x p0)≠0:=fun z=>h0 (bc z);show((cg 0 (aT (at' (q t) p0)::d9 (q t) (aU p0::r)):Nat):Int)+N t=_;rw[c0 _ _ (by rw[k2];exact nz),k3,k4,if_neg (fun z=>h0 z.1)];lia
  exact⟨m,hm,fun s t CV OJ=>by
   show(cg 0 (d9 (q s) (p0::aU p0::r)):Int)+N s=(cg 0 (d9 (q t) (p0::aU p0::r)):Int)+N t
   rw[key s CV,key t OJ]⟩
end Po
end SF
namespace SF
open Lean.Grind
namespace Po
structure K0(l:Po->Po):Prop where
 add:∀x y,l (x+y)=l x+l y
 smul:∀(a:Int) x,l (K a*x)=K a*l x
noncomputable def Ex(l:Po->Po)(F:List Po->Po):List Po->List Po->Po
 |_,[]=>0
 |pre,r::rs=>l r*F (pre++rs)-Ex l F (pre++[r]) rs
noncomputable def pj:List (Po->Po)->List Po->Po
 |[],_=>1
 |l::cs,rows=>Ex l (pj cs) [] rows
structure iu(n:Nat)(F:List Po->Po):Prop where
 add:∀A x y B,A.length+B.length+1=n->F (A++(x+y)::B)=F (A++x::B)+F (A++y::B)
 smul:∀A(a:Int) x B,A.length+B.length+1=n->F (A++(K a*x)::B)=K a*F (A++x::B)
 alt:∀A x y B,A.length+B.length+2=n->F (A++x::y::B)=-F (A++y::x::B)
theorem nk{n:Nat}{l:Po->Po}{F:List Po->Po}(hF:iu n F):∀(rs P Q:List Po)(x y:Po),P.length+Q.length+rs.length=n->Ex l F (P++(x+y)::Q) rs=Ex l F (P++x::Q) rs+Ex l F (P++y::Q) rs
 |[],P,Q,x,y,_=>by show(0:Po)=0+0;grind
 |r::rs,P,Q,x,y,h=>by
  rw[List.length_cons] at h;have ih:=nk (l:=l) hF rs P (Q++[r]) x y (by rw[List.length_append,List.length_singleton];lia);have h2:=hF.add P x y (Q++rs) (by rw[List.length_append];lia);show l r*F ((P++(x+y)::Q)++rs)-Ex l F ((P++(x+y)::Q)++[r]) rs=(l r*F ((P++x::Q)++rs)-Ex l F ((P++x::Q)++[r]) rs)+(l r*F ((P++y::Q)++rs)-Ex l F ((P++y::Q)++[r]) rs);simp only[List.append_assoc,List.cons_append] at*;rw[h2,ih];grind
theorem lK{n:Nat}{l:Po->Po}{F:List Po->Po}(hF:iu n F)(a:Int):∀(rs P Q:List Po)(x:Po),P.length+Q.length+rs.length=n->Ex l F (P++(K a*x)::Q) rs=K a*Ex l F (P++x::Q) rs
 |[],P,Q,x,_=>by show(0:Po)=K a*0;grind
 |r::rs,P,Q,x,h=>by
  rw[List.length_cons] at h;have ih:=lK (l:=l) hF a rs P (Q++[r]) x (by rw[List.length_append,List.length_singleton];lia);have h2:=hF.smul P a x (Q++rs) (by rw[List.length_append];lia);show l r*F ((P++(K a*x)::Q)++rs)-Ex l F ((P++(K a*x)::Q)++[r]) rs=K a*(l r*F ((P++x::Q)++rs)-Ex l F ((P++x::Q)++[r]) rs);simp only[List.append_assoc,List.cons_append] at*;rw[h2,ih];grind
theorem nq{n:Nat}{l:Po->Po}{F:List Po->Po}(hF:iu n F):∀(rs P Q:List Po)(x y:Po),P.length+Q.length+rs.length+1=n->Ex l F (P++x::y::Q) rs=-Ex l F (P++y::x::Q) rs
 |[],P,Q,x,y,_=>by show(0:Po)=-0;grind
 |r::rs,P,Q,x,y,h=>by
  rw[List.length_cons] at h;have ih:=nq (l:=l) hF rs P (Q++[r]) x y (by rw[List.length_append,List.length_singleton];lia);have h2:=hF.alt P x y (Q++rs) (by rw[List.length_append];lia);show l r*F ((P++x::y::Q)++rs)-Ex l F ((P++x::y::Q)++[r]) rs=-(l r*F ((P++y::x::Q)++rs)-Ex l F ((P++y::x::Q)++[r]) rs);simp only[List.append_assoc,List.cons_append] at*;rw[h2,ih];grind
theorem Bf{n:Nat}{l:Po->Po}{F:List Po->Po}(hl:K0 l)(hF:iu n F):∀(A pre B:List Po)(x y:Po),pre.length+A.length+B.length=n->Ex l F pre (A++(x+y)::B)=Ex l F pre (A++x::B)+Ex l F pre (A++y::B)
 |[],pre,B,x,y,h=>by
  have h:=nk (l:=l) hF B pre [] x y (by rw[List.length_nil] at *;lia);show l (x+y)*F (pre++B)-Ex l F (pre++[x+y]) B=(l x*F (pre++B)-Ex l F (pre++[x]) B)+(l y*F (pre++B)-Ex l F (pre++[y]) B);rw[hl.add,h];grind
 |z::A,pre,B,x,y,h=>by
  rw[List.length_cons] at h;have ih:=Bf hl hF A (pre++[z]) B x y (by rw[List.length_append,List.length_singleton];lia);have h:=hF.add (pre++A) x y B (by rw[List.length_append];lia);show l z*F (pre++(A++(x+y)::B))-Ex l F (pre++[z]) (A++(x+y)::B)=(l z*F (pre++(A++x::B))-Ex l F (pre++[z]) (A++x::B))+(l z*F (pre++(A++y::B))-Ex l F (pre++[z]) (A++y::B));rw[List.append_assoc,List.append_assoc,List.append_assoc] at h;rw[ih,h];grind
theorem xT{n:Nat}{l:Po->Po}{F:List Po->Po}(hl:K0 l)(hF:iu n F)(a:Int):∀(A pre B:List Po)(x:Po),pre.length+A.length+B.length=n->Ex l F pre (A++(K a*x)::B)=K a*Ex l F pre (A++x::B)
 |[],pre,B,x,h=>by
  have h:=lK (l:=l) hF a B pre [] x (by rw[List.length_nil] at *;lia);show l (K a*x)*F (pre++B)-Ex l F (pre++[K a*x]) B=K a*(l x*F (pre++B)-Ex l F (pre++[x]) B);rw[hl.smul,h];grind
 |z::A,pre,B,x,h=>by
  rw[List.length_cons] at h;have ih:=xT hl hF a A (pre++[z]) B x (by rw[List.length_append,List.length_singleton];lia);have h:=hF.smul (pre++A) a x B (by rw[List.length_append];lia);show l z*F (pre++(A++(K a*x)::B))-Ex l F (pre++[z]) (A++(K a*x)::B)=K a*(l z*F (pre++(A++x::B))-Ex l F (pre++[z]) (A++x::B));rw[List.append_assoc,List.append_assoc] at h;rw[ih,h];grind
theorem Bg{n:Nat}{l:Po->Po}{F:List Po->Po}(hF:iu n F):∀(A pre B:List Po)(x y:Po),pre.length+A.length+B.length+1=n->Ex l F pre (A++x::y::B)=-Ex l F pre (A++y::x::B)
 |[],pre,B,x,y,h=>by
  have h:=nq (l:=l) hF B pre [] x y (by rw[List.length_nil] at *;lia);show l x*F (pre++y::B)-(l y*F ((pre++[x])++B)-Ex l F ((pre++[x])++[y]) B)=-(l y*F (pre++x::B)-(l x*F ((pre++[y])++B)-Ex l F ((pre++[y])++[x]) B));have e1:(pre++[x])++B=pre++x::B:=by simp
  have e2:(pre++[y])++B=pre++y::B:=by simp
  have e3:(pre++[x])++[y]=pre++[x,y]:=by simp
  have e4:(pre++[y])++[x]=pre++[y,x]:=by simp
  rw[e1,e2,e3,e4,h];grind
 |z::A,pre,B,x,y,h=>by
  rw[List.length_cons] at h;have ih:=Bg (l:=l) hF A (pre++[z]) B x y (by rw[List.length_append,List.length_singleton];lia);have h:=hF.alt (pre++A) x y B (by rw[List.length_append];lia);show l z*F (pre++(A++x::y::B))-Ex l F (pre++[z]) (A++x::y::B)=-(l z*F (pre++(A++y::x::B))-Ex l F (pre++[z]) (A++y::x::B));rw[List.append_assoc,List.append_assoc] at h;rw[ih,h];grind
noncomputable def Bh(cs:List (Po->Po)):Prop:=∀l∈cs,K0 l
theorem xU:∀cs:List (Po->Po),Bh cs->iu cs.length (pj cs)
 |[],_=>⟨fun A x y B h=>by rw[List.length_nil] at h;lia,fun A a x B h=>by rw[List.length_nil] at h;lia,fun A x y B h=>by rw[List.length_nil] at h;lia⟩
 |l::cs,hc=>by
  have ih:=xU cs fun m hm=>hc m (List.mem_cons_of_mem _ hm);have hl:=hc l List.mem_cons_self;rw[List.length_cons];refine⟨fun A x y B h=>Bf hl ih A [] B x y ?_,fun A a x B h=>xT hl ih a A [] B x ?_,fun A x y B h=>Bg ih A [] B x y ?_⟩<;>(rw[List.length_nil];lia)
section
variable {n:Nat} {F:List Po->Po} (hF:iu n F)
include hF
theorem Bi{x:Po}(h:x=-x):x=0:=by
 have:K 2*x=0:=by
  have e:K 2=1+1:=by rw[<-cb,<-xv];rfl
  rw[e];grind
 rcases mul_eq_zero this with z|z
 ·exact absurd z (js (by decide))
 ·exact z
theorem zo(A:List Po)(x:Po)(B:List Po)(h:A.length+B.length+2=n):F (A++x::x::B)=0:=Bi hF (hF.alt A x x B h)
theorem xV:∀(B1 A B2:List Po)(x:Po),A.length+B1.length+B2.length+2=n->F (A++x::(B1++x::B2))=0
 |[],A,B2,x,h=>zo hF A x B2 (by rw[List.length_nil] at h;lia)
 |z::B1,A,B2,x,h=>by
  rw[List.length_cons] at h;have h1:=hF.alt A x z (B1++x::B2) (by rw[List.length_append,List.length_cons];lia);have h2:=xV B1 (A++[z]) B2 x (by rw[List.length_append,List.length_singleton];lia);have e:A++x::(z::B1++x::B2)=A++x::z::(B1++x::B2):=rfl;rw[e,h1];have e2:(A++[z])++x::(B1++x::B2)=A++z::x::(B1++x::B2):=by simp
  rw[e2] at h2;rw[h2];grind
omit hF in
inductive Span(B:List Po):Po->Prop
 |zero:Span B 0
 |step (y b:Po) (a:Int):Span B y->b∈B->Span B (y+K a*b)
theorem Bj(A B:List Po)(h:A.length+B.length+1=n):F (A++0::B)=0:=by
 have:=hF.smul A 0 0 B h;rw[cH] at this;have e:(0:Po)*0=0:=by grind
 rw[e] at this;rw[this];grind
theorem Bl{B:List Po}{y:Po}(hy:Span B y):∀(A:List Po),A.length+B.length+1=n->F (A++y::B)=0:=by
 induction hy with
 |zero=>exact fun A h=>Bj hF A B h
 |step y b a _ hb ih=>
  intro A h;rw[hF.add A y (K a*b) B h,ih A h,hF.smul A a b B h];obtain⟨B1,B2,e⟩:=List.append_of_mem hb;have h2:A.length+B1.length+B2.length+2=n:=by
   have:=congrArg List.length e;rw[List.length_append,List.length_cons] at this;lia
  have h3:=xV hF B1 A B2 b h2;rw[<-e] at h3;rw[h3];grind
omit hF in
theorem Span.mono{B B':List Po}{y:Po}(h:Span B y)(hs:∀b∈B,b∈B'):Span B' y:=by
 induction h with
 |zero=>exact .zero
 |step y b a _ hb ih=>exact .step y b a ih (hs b hb)
omit hF in
theorem Span.add{B:List Po}{x y:Po}(h:Span B x)(h':Span B y):Span B (x+y):=by
 induction h' with
 |zero=>have:x+0=x:=by grind
        rw[this];exact h
 |step y b a _ hb ih=>
  have:x+(y+K a*b)=(x+y)+K a*b:=by grind
  rw[this];exact .step _ _ _ ih hb
omit hF in
theorem Span.of{B:List Po}{b:Po}(a:Int)(hb:b∈B):Span B (K a*b):=by
 have:K a*b=0+K a*b:=by grind
 rw[this];exact .step _ _ _ .zero hb
theorem nt{G:List Po}:∀(us vs A:List Po),us.length=vs.length->(∀i(h:i<us.length)(h':i<vs.length),∃w,Span G w/\us[i]=vs[i]+w)->A.length+us.length+G.length=n->F (A++(us++G))=F (A++(vs++G))
 |[],[],A,_,_,_=>rfl
 |[],v::vs,A,hl,_,_=>by simp at hl
 |u::us,[],A,hl,_,_=>by simp at hl
 |u::us,v::vs,A,hl,hw,h=>by
  have My:us.length=vs.length:=by simpa using hl
  obtain⟨w,hs,e⟩:=hw 0 (by simp) (by simp);have e':u=v+w:=e;rw[List.length_cons] at h;have ih:=nt us vs (A++[v]) My (fun i h1 h2=>by
   obtain⟨w,hs,e⟩:=hw (i+1) (by simp;lia) (by simp;lia)
   exact⟨w,hs,e⟩) (by rw[List.length_append,List.length_singleton];lia);show F (A++u::(us++G))=F (A++v::(vs++G));rw[e',hF.add A v w (us++G) (by rw[List.length_append];lia)];rw[Bl hF (hs.mono fun b hb=>List.mem_append_right _ hb) A (by rw[List.length_append];lia)];have e2:A++v::(us++G)=(A++[v])++(us++G):=by simp
  have e3:A++v::(vs++G)=(A++[v])++(vs++G):=by simp
  rw[e2,e3,ih];grind
theorem kN(a:Int):∀(us A B:List Po),A.length+us.length+B.length=n->F (A++(us.map (fun u=>K a*u)++B))=K (a^us.length)*F (A++(us++B))
 |[],A,B,_=>by
  show F (A++B)=K (a^0)*F (A++B);rw[Int.pow_zero,cb];grind
 |u::us,A,B,h=>by
  rw[List.length_cons] at h;have ih:=kN a us (A++[u]) B (by rw[List.length_append,List.length_singleton];lia);show F (A++(K a*u)::(us.map (fun u=>K a*u)++B))=K (a^(us.length+1))*F (A++u::(us++B));rw[hF.smul A a u _ (by rw[List.length_append,List.length_map];lia)];have e2:A++u::(us.map (fun u=>K a*u)++B)=(A++[u])++(us.map (fun u=>K a*u)++B):=by simp
  have e3:A++u::(us++B)=(A++[u])++(us++B):=by simp
  rw[e2,e3,ih,Int.pow_succ,bH];grind
theorem sV(x:Po):∀(B A C:List Po),A.length+B.length+C.length+1=n->∃s:Int,(s=1\/s=-1)/\F (A++x::(B++C))=K s*F (A++(B++x::C))
 |[],A,C,_=>⟨1,.inl rfl,by rw[cb];show F (A++x::C)=1*F (A++x::C);grind⟩
 |b::B,A,C,h=>by
  rw[List.length_cons] at h;obtain⟨s,hs,e⟩:=sV x B (A++[b]) C (by rw[List.length_append,List.length_singleton];lia);refine⟨-s,by lia,?_⟩;show F (A++x::b::(B++C))=K (-s)*F (A++(b::(B++x::C)));rw[hF.alt A x b (B++C) (by rw[List.length_append];lia)];have e2:A++b::x::(B++C)=(A++[b])++x::(B++C):=by simp
  have e3:A++b::(B++x::C)=(A++[b])++(B++x::C):=by simp
  rw[e2,e3,e,AZ];grind
theorem blocks:∀(U A B:List Po),A.length+U.length+B.length=n->∃s:Int,(s=1\/s=-1)/\F (A++(U++B))=K s*F (A++(B++U))
 |[],A,B,_=>⟨1,.inl rfl,by rw[cb];show F (A++B)=1*F (A++(B++[]));rw[List.append_nil];grind⟩
 |u::U,A,B,h=>by
  rw[List.length_cons] at h;obtain⟨s,hs,e⟩:=blocks U (A++[u]) B (by rw[List.length_append,List.length_singleton];lia);obtain⟨s',CV,e'⟩:=sV hF u B A U (by lia);refine⟨s*s',by rcases hs with z|z<;>rcases CV with w|w<;>rw[z,w]<;>lia,?_⟩;have e1:A++(u::U++B)=(A++[u])++(U++B):=by simp
  have e2:(A++[u])++(B++U)=A++u::(B++U):=by simp
  rw[e1,e,e2,e',bH];have e3:A++(B++u::U)=A++(B++(u::U)):=rfl;grind
end
theorem xW{l:Po->Po}{F:List Po->Po}:∀(rs pre:List Po),(∀r∈rs,l r=0)->Ex l F pre rs=0
 |[],_,_=>rfl
 |r::rs,pre,h=>by
  show l r*F (pre++rs)-Ex l F (pre++[r]) rs=0;rw[h r List.mem_cons_self,xW rs _ fun x hx=>h x (List.mem_cons_of_mem _ hx)];grind
theorem xX(l:Po->Po)(cs:List (Po->Po))(r:Po)(rs:List Po)(h:∀x∈rs,l x=0):pj (l::cs) (r::rs)=l r*pj cs rs:=by
 show l r*pj cs ([]++rs)-Ex l (pj cs) ([]++[r]) rs=_;rw[xW rs _ h];show l r*pj cs rs-0=_;grind
end Po
end SF
namespace SF
open Lean.Grind
namespace Po
noncomputable def cf(d:Nat)(P:Po):Po:=K (P.c d)
theorem HK(d:Nat):K0 (cf d):=⟨fun x y=>by unfold cf;rw[ju,xv],fun a x=>by unfold cf;rw[aV,bH]⟩
theorem HL:K0 (fun P=>P):=⟨fun _ _=>rfl,fun _ _=>rfl⟩
noncomputable def cols:Nat->Nat->List (Po->Po)
 |_,0=>[]
 |_,1=>[fun P=>P]
 |D,N+2=>cf D::cols (D-1) (N+1)
theorem sW:∀(N D:Nat),(cols D N).length=N
 |0,_=>rfl
 |1,_=>rfl
 |N+2,D=>by
  show(cols (D-1) (N+1)).length+1=_;rw[sW (N+1)]
theorem sX:∀(N D:Nat),Bh (cols D N)
 |0,_=>fun l h=>nomatch h
 |1,_=>fun l h=>by
  rw[List.mem_singleton.mp h];exact HL
 |N+2,D=>fun l h=>by
  rcases List.mem_cons.mp h with z|z
  ·rw[z];exact HK D
  ·exact sX (N+1) (D-1) l z
theorem D4(D N:Nat):iu N (pj (cols D N)):=by
 have:=xU (cols D N) (sX N D);rw[sW] at this;exact this
noncomputable def fr(f:Po):Nat->List Po
 |0=>[]
 |a+1=>(X a*f)::fr f a
theorem dU(f:Po):∀a,(fr f a).length=a
 |0=>rfl
 |a+1=>by show(fr f a).length+1=_;rw[dU f a]
theorem vH(f:Po):∀(a i:Nat)(h:i<(fr f a).length),(fr f a)[i]=X (a-1-i)*f
 |0,i,h=>by rw[dU] at h;lia
 |a+1,0,h=>by
  show X a*f=_;congr 2
 |a+1,i+1,h=>by
  have h':i<(fr f a).length:=by rw[dU] at h ⊢;lia
  show(fr f a)[i]=_;rw[vH f a i h'];congr 2;lia
theorem Bm(f:Po):∀(a i:Nat),i<a->X i*f∈fr f a
 |0,i,h=>by lia
 |a+1,i,h=>by
  by_cases e:i=a
  ·rw[e];exact List.mem_cons_self
  ·exact List.mem_cons_of_mem _ (Bm f a i (by lia))
theorem jm{f P:Po}:∀{a:Nat},P∈fr f a->∃i,i<a/\P=X i*f
 |0,h=>nomatch h
 |a+1,h=>by
  rcases List.mem_cons.mp h with z|z
  ·exact⟨a,by lia,z⟩
  ·obtain⟨i,hi,e⟩:=jm z;exact⟨i,by lia,e⟩
noncomputable def FK(q:Po)(e:Nat):Po:=ay (fun i=>K (q.c i)*X i) e
theorem FL(q:Po)(j:Nat):∀e:Nat,(FK q e).c j=if j<e then q.c j else 0
 |0=>by
  show(0:Po).c j=_;rw[eL,if_neg (by lia)]
 |e+1=>by
  show(FK q e+K (q.c e)*X e).c j=_;rw[ju,FL q j e,aV,xx];by_cases h1:j<e
  ·rw[if_pos h1,if_pos (show j<e+1 by lia),if_neg (show ¬j=e by lia)];grind
  ·rw[if_neg h1];by_cases h2:j=e
   ·rw[if_pos h2,if_pos (show j<e+1 by lia),h2];grind
   ·rw[if_neg h2,if_neg (show ¬j<e+1 by lia)];grind
theorem D5{q:Po}{e:Nat}(h:len q<=e):FK q e=q:=ext fun j=>by
 rw[FL];split
 ·rfl
 ·exact(dS (by lia)).symm
theorem sY(q g:Po)(k b:Nat):∀e:Nat,k+e<=b->Span (fr g b) (X k*(FK q e*g))
 |0,_=>by
  have:X k*(FK q 0*g)=0:=by show X k*(0*g)=0;grind
  rw[this];exact .zero
 |e+1,h=>by
  have ih:=sY q g k b e (by lia);have e1:X k*(FK q (e+1)*g)=X k*(FK q e*g)+K (q.c e)*(X (k+e)*g):=by
   show X k*((FK q e+K (q.c e)*X e)*g)=_;rw[FH];grind
  rw[e1];exact ih.add (Span.of _ (Bm g b (k+e) (by lia)))
theorem F1{f g h q:Po}{α β:Int}{a b e D:Nat}(eq:K α*f=q*g+K β*h)(hq:len q<=e)(jk:a+e<=b+1):
 ∃s:Int,(s=1\/s=-1)/\K (α^a)*pj (cols D (a+b)) (fr f a++fr g b)=K (s*β^a)*pj (cols D (a+b)) (fr g b++fr h a):=by
 have hF:=D4 D (a+b);have e1:=kN hF α (fr f a) [] (fr g b) (by rw[List.length_nil,dU,dU];lia);have e2:=kN hF β (fr h a) [] (fr g b) (by rw[List.length_nil,dU,dU];lia);have e3:=nt hF (G:=fr g b) ((fr f a).map fun u=>K α*u) ((fr h a).map fun u=>K β*u) [] (by rw[List.length_map,List.length_map,dU,dU]) (fun i h1 h2=>by
  have hi:i<a:=by rw[List.length_map,dU] at h1;exact h1
  refine⟨X (a-1-i)*(q*g),?_,?_⟩
  ·have:=sY q g (a-1-i) b e (by lia)
   rw[D5 hq] at this;exact this
  ·rw[List.getElem_map,List.getElem_map,vH,vH]
   have e4:K α*(X (a-1-i)*f)=X (a-1-i)*(K α*f):=by grind
   rw[e4,eq];grind) (by rw[List.length_nil,List.length_map,dU,dU];lia);obtain⟨s,hs,e5⟩:=blocks hF (fr h a) [] (fr g b) (by rw[List.length_nil,dU,dU];lia);rw[dU] at e1 e2;refine⟨s,hs,?_⟩;simp only[List.nil_append] at*;rw[<-e1,e3,e2,e5,bH];grind
theorem Bn{f:Po}{i m D:Nat}(h:∀j,m<j->f.c j=0)(hd:i+m<D):(X i*f).c D=0:=by
 rw[ff,if_neg (by lia)];exact h _ (by lia)
theorem F2{g h:Po}{m k a b:Nat}(hg:∀j,m<j->g.c j=0)(hh:∀j,k<j->h.c j=0)(ha:0<a)(hk:a-1+k<b+m):∀e:Nat,
 pj (cols (b+e+m-1) (b+e+a)) (fr g (b+e)++fr h a)=K (g.c m^e)*pj (cols (b+m-1) (b+a)) (fr g b++fr h a)
 |0=>by
  rw[Int.pow_zero,cb];show pj (cols (b+m-1) (b+a)) (fr g b++fr h a)=_;grind
 |e+1=>by
  have ih:=F2 hg hh ha hk e;obtain⟨a',rfl⟩:∃a',a=a'+1:=⟨a-1,by lia⟩;have e1:cols (b+(e+1)+m-1) (b+(e+1)+(a'+1))=cf (b+e+m)::cols (b+e+m-1) (b+e+(a'+1)):=by
   have e2:b+(e+1)+(a'+1)=(b+e+a')+2:=by lia
   have e3:b+(e+1)+m-1=b+e+m:=by lia
   rw[e2,e3];rfl
  rw[e1];show pj (cf (b+e+m)::cols (b+e+m-1) (b+e+(a'+1))) (X (b+e)*g::(fr g (b+e)++fr h (a'+1)))=_;rw[xX _ _ _ _ (fun x hx=>?_),ih]
  ·have e4:cf (b+e+m) (X (b+e)*g)=K (g.c m):=by
    unfold cf;rw[ff,if_neg (by lia)];congr 2;lia
   rw[e4,Int.pow_succ,bH];grind
  ·unfold cf;rcases List.mem_append.mp hx with z|z
   ·obtain⟨i,hi,rfl⟩:=jm z;rw[Bn hg (by lia),cH]
   ·obtain⟨i,hi,rfl⟩:=jm z;rw[Bn hh (by lia),cH]
theorem F3{h:Po}{k:Nat}(hh:∀j,k<j->h.c j=0):∀a:Nat,pj (cols (a+k) (a+1)) (fr h (a+1))=K (h.c k^a)*h
 |0=>by
  show X 0*h*1-0=K (h.c k^0)*h;rw[Int.pow_zero,cb,qp];grind
 |a+1=>by
  have ih:=F3 hh a;have e1:cols (a+1+k) (a+1+1)=cf (a+1+k)::cols (a+k) (a+1):=by
   have e2:a+1+k-1=a+k:=by lia
   show cf (a+1+k)::cols (a+1+k-1) (a+1)=_;rw[e2]
  rw[e1];show pj (cf (a+1+k)::cols (a+k) (a+1)) (X (a+1)*h::fr h (a+1))=_;rw[xX _ _ _ _ (fun x hx=>?_),ih]
  ·have e4:cf (a+1+k) (X (a+1)*h)=K (h.c k):=by
    unfold cf;rw[ff,if_neg (by lia)];congr 2;lia
   rw[e4,Int.pow_succ,bH];grind
  ·unfold cf;obtain⟨i,hi,rfl⟩:=jm hx;rw[Bn hh (by lia),cH]
noncomputable def Sb(n m j:Nat)(f g:Po):Po:=pj (cols (n+m-j-1) (m-j+(n-j))) (fr f (m-j)++fr g (n-j))
section
variable {f g h q:Po} {α β:Int} {n m k j:Nat}
theorem T1(eq:K α*f=q*g+K β*h)(hq:len q<=n-m+1)(hg:∀j,m<j->g.c j=0)(hh:∀j,k<j->h.c j=0)(FN:m<n)(QS:k<m)(hj:j<=k):
 ∃s:Int,(s=1\/s=-1)/\K (α^(m-j))*Sb n m j f g=K (s*β^(m-j)*g.c m^(n-k))*pj (cols (m+k-j-1) (k-j+(m-j))) (fr g (k-j)++fr h (m-j)):=by
 obtain⟨s,hs,e1⟩:=F1 (D:=n+m-j-1) (a:=m-j) (b:=n-j) eq hq (by lia);have e2:=F2 (a:=m-j) (b:=k-j) hg hh (by lia) (by lia) (n-k);have d1:k-j+(n-k)=n-j:=by lia
 have d2:n-j+m-1=n+m-j-1:=by lia
 have d3:k-j+m-1=m+k-j-1:=by lia
 have d4:n-j+(m-j)=m-j+(n-j):=by lia
 rw[d1,d2,d3,d4] at e2;refine⟨s,hs,?_⟩;unfold Sb;rw[e1,e2,bH (s*β^(m-j))];grind
theorem T2(eq:K α*f=q*g+K β*h)(hq:len q<=n-m+1)(hg:∀j,m<j->g.c j=0)(hh:∀j,k<j->h.c j=0)(FN:m<n)(QS:k<m):
 ∃s:Int,(s=1\/s=-1)/\K (α^(m-k))*Sb n m k f g=K (s*β^(m-k)*g.c m^(n-k)*h.c k^(m-k-1))*h:=by
 obtain⟨s,hs,e1⟩:=T1 (j:=k) eq hq hg hh FN QS (Nat.le_refl _);refine⟨s,hs,?_⟩;rw[e1];have e2:=F3 hh (m-k-1);have d1:m-k-1+1=m-k:=by lia
 have d2:m-k-1+k=m-1:=by lia
 rw[d1,d2] at e2;have d3:m+k-k-1=m-1:=by lia
 have d4:k-k+(m-k)=m-k:=by lia
 have d5:k-k=0:=by lia
 rw[d3,d4,d5];show K _*pj (cols (m-1) (m-k)) ([]++fr h (m-k))=_;rw[List.nil_append,e2,bH (s*β^(m-k)*g.c m^(n-k))];grind
theorem T3{r:Po}(eq:K α*f=q*g+r)(hq:len q<=n-m+1)(hg:∀j,m<j->g.c j=0)(hr:∀j,m<=j->r.c j=0)(FN:m<n)(hm:0<m):
 ∃s:Int,(s=1\/s=-1)/\K α*Sb n m (m-1) f g=K (s*g.c m^(n-m+1))*r:=by
 have TC:K α*f=q*g+K 1*r:=by rw[eq,cb];grind
 obtain⟨s,hs,e1⟩:=F1 (D:=n) (a:=1) (b:=n-m+1) TC hq (by lia);have e2:=F2 (a:=1) (b:=0) (k:=m-1) hg (fun j hj=>hr j (by lia)) (by lia) (by lia) (n-m+1);refine⟨s,hs,?_⟩;unfold Sb;have d1:m-(m-1)=1:=by lia
 have d2:n-(m-1)=n-m+1:=by lia
 have d3:n+m-(m-1)-1=n:=by lia
 have d4:0+(n-m+1)+m-1=n:=by lia
 have d5:0+(n-m+1)=n-m+1:=by lia
 have d6:n-m+1+1=1+(n-m+1):=by lia
 rw[d4,d5,d6] at e2;have p1:α^1=α:=by rw[Int.pow_succ,Int.pow_zero];lia
 have p2:(1:Int)^1=1:=rfl;rw[p1,p2] at e1;rw[d1,d2,d3,e1,e2];have e3:pj (cols (0+m-1) (0+1)) (fr g 0++fr r 1)=r:=by
  show X 0*r*1-0=r;rw[qp];grind
 rw[e3,Int.mul_one,bH];grind
end
end Po
end SF
namespace SF
open Lean.Grind
namespace Po
noncomputable def Sn(s:Int):Prop:=s=1\/s=-1
theorem Sn.mul{s t:Int}(h:Sn s)(h':Sn t):Sn (s*t):=by rcases h with z|z<;>rcases h' with w|w<;>rw[z,w]<;>unfold Sn<;>lia
theorem Sn.sq{s:Int}(h:Sn s):s*s=1:=by rcases h with z|z<;>rw[z]<;>rfl
theorem Sn.pow{s:Int}(h:Sn s):∀e:Nat,Sn (s^e)
 |0=>.inl (Int.pow_zero s)
 |e+1=>by rw[Int.pow_succ];exact(h.pow e).mul h
theorem FO(x:Int):∃s,Sn s/\x=s*ab x:=by
 rcases Int.le_total 0 x with h|h
 ·exact⟨1,.inl rfl,by rw[lH h];lia⟩
 ·exact⟨-1,.inr rfl,by unfold ab;lia⟩
theorem kc(a b:Int):∀e:Nat,(a*b)^e=a^e*b^e
 |0=>by rw[Int.pow_zero,Int.pow_zero,Int.pow_zero];rfl
 |e+1=>by rw[Int.pow_succ,Int.pow_succ,Int.pow_succ,kc a b e];grind
theorem gO(a:Int)(m:Nat):∀n:Nat,a^(m+n)=a^m*a^n
 |0=>by rw[Int.pow_zero,Nat.add_zero];lia
 |n+1=>by
  have e:m+(n+1)=(m+n)+1:=by lia
  rw[e,Int.pow_succ,gO a m n,Int.pow_succ];grind
theorem pow_mul'(a:Int)(m:Nat):∀n:Nat,a^(m*n)=(a^m)^n
 |0=>by rw[Nat.mul_zero,Int.pow_zero,Int.pow_zero]
 |n+1=>by rw[Nat.mul_succ,gO,pow_mul' a m n,Int.pow_succ]
theorem bX{a:Int}(h:0<a)(n:Nat):0<a^n:=Int.pow_pos h
theorem nu(x:Int)(e:Nat):∃s,Sn s/\x^e=s*ab x^e:=by
 obtain⟨s,hs,ex⟩:=FO x;refine⟨s^e,hs.pow e,?_⟩
 conv=>lhs;rw[ex]
 rw[kc]
theorem qD{c a b:Int}{P Q:Po}(hc:c≠0)(h:K (c*a)*P=K (c*b)*Q):K a*P=K b*Q:=by
 refine cancel (js hc) ?_;rw[bH,bH] at h;grind
theorem OK{s:Int}(hs:Sn s){a b:Int}{P Q:Po}(h:K (s*a)*P=K b*Q):K a*P=K (s*b)*Q:=by
 have e:K a*P=K s*(K (s*a)*P):=by
  have e2:K s*(K (s*a)*P)=K (s*(s*a))*P:=by rw[bH s (s*a)];grind
  rw[e2,<-Int.mul_assoc,hs.sq,Int.one_mul]
 rw[e,h,bH s b];grind
structure uP(F G f g:Po)(n0 n1 n m:Nat)(g0 h0:Int):Prop where
 lf:len f=n+1
 lg:len g=m+1
 nm:m<n
 MG:0<g0
 Jb:0<h0
 C:∀j,j<m->∃s,Sn s/\Sb n m j f g=K (s*(g0^(m-j)*h0^(n-j-1)))*Sb n0 n1 j F G
 Hh:∃s,Sn s/\K (h0^(n-m-1))*Sb n0 n1 m F G=K (s*ab (g.c m)^(n-m-1))*g
theorem uP.start{F G:Po}{n:Nat}(lf:len F=n+2)(lg:len G=n+1):uP F G F G (n+1) n (n+1) n 1 1:=by
 refine⟨lf,lg,by lia,by decide,by decide,fun j _=>⟨1,.inl rfl,?_⟩,1,.inl rfl,?_⟩
 ·rw[Int.one_pow,Int.one_pow];show _=K 1*_;rw[cb];grind
 ·have e:n+1-n-1=0:=by lia
  rw[e,Int.pow_zero,Int.pow_zero];unfold Sb;have e1:n-n=0:=by lia
  have e2:n+1-n=1:=by lia
  rw[e1,e2];show K 1*(X 0*G*1-0)=K (1*1)*G;rw[qp,Int.one_mul];grind
section
variable {F G f g q r:Po} {n0 n1 n m:Nat} {g0 h0:Int}
theorem uP.lead(S:uP F G f g n0 n1 n m g0 h0):0<ab (g.c m):=by
 have:=Po.lead (f:=g) (by rw[S.lg];lia);rw[S.lg] at this;exact fw this
theorem uP.hi(S:uP F G f g n0 n1 n m g0 h0):∀j,m<j->g.c j=0:=fun j hj=>dS (by rw[S.lg];lia)
theorem uP.rem(S:uP F G f g n0 n1 n m g0 h0)(hm:0<m)(eq:K (ab (g.c m)^(n-m+1))*f=q*g+r)(hq:len q<=n-m+1)(hr:len r<=m):∃h,r=K (g0*h0^(n-m))*h:=by
 have hl:=S.lead;obtain⟨s,hs,e1⟩:=T3 eq hq S.hi (fun j hj=>dS (by lia)) S.nm hm;obtain⟨t,ht,e2⟩:=nu (g.c m) (n-m+1);obtain⟨u,hu,e3⟩:=S.C (m-1) (by lia);have hp:ab (g.c m)^(n-m+1)≠0:=Int.ne_of_gt (bX hl _);have e4:K 1*Sb n m (m-1) f g=K (s*t)*r:=by
  refine qD hp ?_;rw[Int.mul_one,e1,e2];congr 2;grind
 rw[cb] at e4;have e5:K (s*t)*r=K (u*(g0*h0^(n-m)))*Sb n0 n1 (m-1) F G:=by
  have d1:m-(m-1)=1:=by lia
  have d2:n-(m-1)-1=n-m:=by lia
  rw[d1,d2] at e3;have p1:g0^1=g0:=by rw[Int.pow_succ,Int.pow_zero];lia
  rw[p1] at e3;rw[<-e4,<-e3];grind
 refine⟨K (s*t*u)*Sb n0 n1 (m-1) F G,?_⟩;have e6:K (s*t*1)*r=K (u*(g0*h0^(n-m)))*Sb n0 n1 (m-1) F G:=by rw[Int.mul_one];exact e5
 have e7:=OK (Sn.mul hs ht) e6;rw[cb] at e7;have e8:r=1*r:=by grind
 rw[e8,e7];have e9:K (g0*h0^(n-m))*(K (s*t*u)*Sb n0 n1 (m-1) F G)=K (g0*h0^(n-m)*(s*t*u))*Sb n0 n1 (m-1) F G:=by rw[bH (g0*h0^(n-m)) (s*t*u)];grind
 rw[e9];congr 2;grind
theorem uP.scale(S:uP F G f g n0 n1 n m g0 h0):h0^(n-m-1)∣ab (g.c m)^(n-m):=by
 obtain⟨s,hs,e⟩:=S.Hh;have e1:(K (h0^(n-m-1))*Sb n0 n1 m F G).c m=(K (s*ab (g.c m)^(n-m-1))*g).c m:=by rw[e]
 rw[aV,aV] at e1;obtain⟨t,ht,e2⟩:=FO (g.c m);have FN:=S.nm;have d:n-m=(n-m-1)+1:=by lia
 refine⟨(Sb n0 n1 m F G).c m*(s*t),?_⟩;have e3:ab (g.c m)^(n-m)=ab (g.c m)^(n-m-1)*ab (g.c m):=by
  conv=>lhs;rw[d]
  rw[Int.pow_succ]
 rw[e3];have h1:=hs.sq;have h2:=ht.sq;generalize ab (g.c m)^(n-m-1)=L at*;generalize ab (g.c m)=l at*;generalize g.c m=y at*;generalize h0^(n-m-1)=A at*;generalize (Sb n0 n1 m F G).c m=B at*;have e5:A*(B*(s*t))=(A*B)*(s*t):=by grind
 rw[e5,e1,e2];have e6:s*L*(t*l)*(s*t)=(s*s)*(t*t)*(L*l):=by grind
 rw[e6,h1,h2];lia
theorem K1{l h0 h1:Int}{n m k j δ:Nat}(hd:n=m+δ)(FP:0<δ)(hk:k<m)(hj:j<=k)(h:h1*h0^(δ-1)=l^δ):
 l^((δ+1)*(m-j))*h0^(n-j-1)=h0^(δ*(m-j))*l^(n-k)*(l^(k-j)*h1^(m-j-1)):=by
 obtain⟨u,hu⟩:∃u,m-j=u+1:=⟨m-j-1,by lia⟩;have d1:n-j-1=u+δ:=by lia
 have d2:m-j-1=u:=by lia
 have d3:(δ+1)*(u+1)=δ*u+((n-k)+(k-j)):=by
  have:(n-k)+(k-j)=u+1+δ:=by lia
  rw[this,Nat.add_mul,Nat.mul_add];lia
 rw[hu,d1,show u+1-1=u by lia,d3,gO,gO,pow_mul',<-h,kc,<-pow_mul'];have d4:δ*(u+1)=(δ-1)*u+(u+δ):=by
  obtain⟨e,rfl⟩:∃e,δ=e+1:=⟨δ-1,by lia⟩;rw[Nat.add_sub_cancel,Nat.mul_add,Nat.add_mul];lia
 rw[d4,gO h0];grind
theorem uP.next{h:Po}{k:Nat}{h1:Int}(S:uP F G f g n0 n1 n m g0 h0)(eq:K (ab (g.c m)^(n-m+1))*f=q*g+K (-(g0*h0^(n-m)))*h)(hq:len q<=n-m+1)(lh:len h=k+1)(hk:k<m)(Kv:h1*h0^(n-m-1)=ab (g.c m)^(n-m)):uP F G g h n0 n1 m k (ab (g.c m)) h1:=by
 have hl:=S.lead;have FN:=S.nm;have Bo:∀j,k<j->h.c j=0:=fun j hj=>dS (by rw[lh];lia);have hd:n=m+(n-m):=by lia
 have TF:0<h1:=by
  have p1:=bX S.Jb (n-m-1);have p2:=bX hl (n-m);rw[<-Kv] at p2;rcases Int.lt_or_le 0 h1 with z|z
  ·exact z
  ·have:=Int.mul_nonpos_of_nonpos_of_nonneg z (Int.le_of_lt p1);lia
 have sgn:∀(e:Nat),∃t,Sn t/\(-(g0*h0^(n-m)))^e=t*(g0^e*h0^((n-m)*e)):=fun e=>by
  obtain⟨t,ht,e1⟩:=nu (-(g0*h0^(n-m))) e;refine⟨t,ht,?_⟩;have fx:0<g0*h0^(n-m):=Int.mul_pos S.MG (bX S.Jb _);have e2:ab (-(g0*h0^(n-m)))=g0*h0^(n-m):=by unfold ab;lia
  rw[e1,e2,kc,pow_mul']
 refine⟨S.lg,lh,hk,hl,TF,fun j hj=>?_,?_⟩
 ·obtain⟨s,hs,e1⟩:=T1 (j:=j) eq hq S.hi Bo FN hk (by lia);obtain⟨t,ht,e2⟩:=sgn (m-j);obtain⟨u,hu,e3⟩:=nu (g.c m) (n-k);obtain⟨v,hv,e4⟩:=S.C j (by lia);have ex:=K1 hd (by lia) hk (by lia:j<=k) Kv;have OL:K ((ab (g.c m)^(n-m+1))^(m-j))*Sb n m j f g=K (s*(-(g0*h0^(n-m)))^(m-j)*g.c m^(n-k))*Sb m k j g h:=e1;rw[<-pow_mul',e2,e3,e4] at OL;have e5:K (ab (g.c m)^((n-m+1)*(m-j)))*(K (v*(g0^(m-j)*h0^(n-j-1)))*Sb n0 n1 j F G)=K (v*(g0^(m-j)*(ab (g.c m)^((n-m+1)*(m-j))*h0^(n-j-1))))*Sb n0 n1 j F G:=by
   have:v*(g0^(m-j)*(ab (g.c m)^((n-m+1)*(m-j))*h0^(n-j-1)))=ab (g.c m)^((n-m+1)*(m-j))*(v*(g0^(m-j)*h0^(n-j-1))):=by grind
   rw[this,bH (ab (g.c m)^((n-m+1)*(m-j)))];grind
  rw[e5,ex] at OL;let c:=g0^(m-j)*h0^((n-m)*(m-j))*ab (g.c m)^(n-k);have hc:c≠0:=Int.ne_of_gt (Int.mul_pos (Int.mul_pos (bX S.MG _) (bX S.Jb _)) (bX hl _));have e6:K (c*(v*(ab (g.c m)^(k-j)*h1^(m-j-1))))*Sb n0 n1 j F G=K (c*(s*t*u))*Sb m k j g h:=by
   have a1:c*(v*(ab (g.c m)^(k-j)*h1^(m-j-1)))=v*(g0^(m-j)*(h0^((n-m)*(m-j))*ab (g.c m)^(n-k)*(ab (g.c m)^(k-j)*h1^(m-j-1)))):=by
    show g0^(m-j)*h0^((n-m)*(m-j))*ab (g.c m)^(n-k)*_=_;grind
   have a2:c*(s*t*u)=s*(t*(g0^(m-j)*h0^((n-m)*(m-j))))*(u*ab (g.c m)^(n-k)):=by
    show g0^(m-j)*h0^((n-m)*(m-j))*ab (g.c m)^(n-k)*_=_;grind
   rw[a1,a2];exact OL
  have e7:=qD hc e6;have hw:=Sn.mul (Sn.mul hs ht) hu;have e8:K (s*t*u*1)*Sb m k j g h=K (v*(ab (g.c m)^(k-j)*h1^(m-j-1)))*Sb n0 n1 j F G:=by rw[Int.mul_one];exact e7.symm
  have e9:=OK hw e8;rw[cb] at e9;refine⟨s*t*u*v,hw.mul hv,?_⟩;have Ow:Sb m k j g h=1*Sb m k j g h:=by grind
  rw[Ow,e9];congr 2;grind
 ·obtain⟨s,hs,e1⟩:=T2 eq hq S.hi Bo FN hk;obtain⟨t,ht,e2⟩:=sgn (m-k);obtain⟨u,hu,e3⟩:=nu (g.c m) (n-k);obtain⟨v,hv,e4⟩:=S.C k hk;obtain⟨w,hw,e0⟩:=nu (h.c k) (m-k-1);have ex:=K1 hd (by lia) hk (Nat.le_refl k) Kv;rw[<-pow_mul',e2,e3,e0,e4] at e1;have e5:K (ab (g.c m)^((n-m+1)*(m-k)))*(K (v*(g0^(m-k)*h0^(n-k-1)))*Sb n0 n1 k F G)=K (v*(g0^(m-k)*(ab (g.c m)^((n-m+1)*(m-k))*h0^(n-k-1))))*Sb n0 n1 k F G:=by
   have:v*(g0^(m-k)*(ab (g.c m)^((n-m+1)*(m-k))*h0^(n-k-1)))=ab (g.c m)^((n-m+1)*(m-k))*(v*(g0^(m-k)*h0^(n-k-1))):=by grind
   rw[this,bH (ab (g.c m)^((n-m+1)*(m-k)))];grind
  rw[e5,ex,show k-k=0 by lia,Int.pow_zero,Int.one_mul] at e1;let c:=g0^(m-k)*h0^((n-m)*(m-k))*ab (g.c m)^(n-k);have hc:c≠0:=Int.ne_of_gt (Int.mul_pos (Int.mul_pos (bX S.MG _) (bX S.Jb _)) (bX hl _));have e6:K (c*(v*h1^(m-k-1)))*Sb n0 n1 k F G=K (c*(s*t*u*w*ab (h.c k)^(m-k-1)))*h:=by
   have a1:c*(v*h1^(m-k-1))=v*(g0^(m-k)*(h0^((n-m)*(m-k))*ab (g.c m)^(n-k)*h1^(m-k-1))):=by
    show g0^(m-k)*h0^((n-m)*(m-k))*ab (g.c m)^(n-k)*_=_;grind
   have a2:c*(s*t*u*w*ab (h.c k)^(m-k-1))=s*(t*(g0^(m-k)*h0^((n-m)*(m-k))))*(u*ab (g.c m)^(n-k))*(w*ab (h.c k)^(m-k-1)):=by
    show g0^(m-k)*h0^((n-m)*(m-k))*ab (g.c m)^(n-k)*_=_;grind
   rw[a1,a2];exact e1
  have e7:=OK hv (qD hc e6);refine⟨v*(s*t*u*w),hv.mul (Sn.mul (Sn.mul (Sn.mul hs ht) hu) hw),?_⟩;rw[e7];congr 2;grind
end
end Po
end SF
namespace SF
open Lean.Grind
namespace Po
open Re
noncomputable def lY(x:Re):List Po->Prop
 |[]=>True
 |[_]=>True
 |[_,_]=>True
 |a::b::c::r=>(at' x b=0->aT (at' x a)*aT (at' x c)<0)/\lY x (b::c::r)
theorem lY.snoc{x:Re}{u v w:Po}(h:at' x v=0->aT (at' x u)*aT (at' x w)<0):∀hs:List Po,lY x (hs++[u,v])->lY x (hs++[u,v,w])
 |[],_=>⟨h,trivial⟩
 |[a],t=>⟨t.1,h,trivial⟩
 |a::b::hs,t=>by
  cases hs with
  |nil=>exact⟨t.1,lY.snoc h [b] t.2⟩
  |cons c hs=>exact⟨t.1,lY.snoc h (b::c::hs) t.2⟩
theorem lY.HM{x:Re}{w:Po}(hw:at' x w≠0):∀hs:List Po,lY x (hs++[w])->zm x (hs++[w])
 |[],_=>hw
 |[a],_=>hw
 |[a,b],t=>⟨t.1,hw⟩
 |a::b::c::hs,t=>⟨t.1,lY.HM hw (b::c::hs) t.2⟩
theorem zp{x:Re}{f g h q:Po}{α β:Int}(TH:0<α)(HN:0<β)(eq:K α*f=q*g+K (-β)*h)(QT:¬(at' x f=0/\at' x g=0)):
 (at' x g=0->aT (at' x f)*aT (at' x h)<0)/\¬(at' x g=0/\at' x h=0):=by
 have e:=congrArg (at' x) eq;rw[mx,jB,gy,mx] at e;have D6:(0:Re)<(α:Re):=by
  show Re.q ((0:Nat):Rat)<Re.q (α:Rat);rw[dP];exact Rat.intCast_lt_intCast.mpr TH
 have K2:(0:Re)<(β:Re):=by
  show Re.q ((0:Nat):Rat)<Re.q (β:Rat);rw[dP];exact Rat.intCast_lt_intCast.mpr HN
 have TJ:((-β:Int):Re)=-(β:Re):=Ring.intCast_neg β;rw[TJ] at e;generalize (α:Re)=a at e D6;generalize (β:Re)=b at e K2;have key:at' x g=0->a*at' x f=-(b*at' x h):=fun z=>by rw[z] at e;grind
 constructor
 ·intro z;have e2:=key z;have hf:at' x f≠0:=fun y=>QT ⟨y,z⟩;have s1:aT (a*at' x f)=aT (at' x f):=by rw[fC,bK D6];lia
  have s2:aT (b*at' x h)=aT (at' x h):=by rw[fC,bK K2];lia
  rw[e2,qC,s2] at s1;rw[<-s1];have h0:aT (at' x h)≠0:=fun y=>hf (bc (by rw[<-s1,y];rfl));generalize aT (at' x h)=s at h0;have:0<s*s:=by
   rcases Int.lt_or_lt_of_ne h0 with w|w
   ·exact Int.mul_pos_of_neg_of_neg w w
   ·exact Int.mul_pos w w
  have e3:-s*s=-(s*s):=by grind
  rw[e3];lia
 ·rintro⟨z,w⟩;have e2:=key z;rw[w] at e2;have e3:a*at' x f=0:=by rw[e2];grind
  by_cases hf:at' x f=0
  ·exact QT ⟨hf,z⟩
  ·exact Re.dC (fun y=>by rw[y] at D6;exact lt_irrefl _ D6) hf e3
theorem pk{x:Re}{f g u v:Po}{a:Int}(ha:a≠0)(e:u*f+v*g=K a):¬(at' x f=0/\at' x g=0):=by
 rintro⟨z,w⟩;have e2:=congrArg (at' x) e;rw[jB,gy,gy,Be,z,w] at e2;have e3:(a:Re)=0:=by rw[<-e2];grind
 have e4:q (a:Rat)=q 0:=e3;have:=xR e4;have:(a:Rat)=((0:Int):Rat):=this;exact ha (Rat.intCast_inj.mp this)
theorem Bp{rs ys:List Int}(gU:ys≠[])(hl:ys.length<=rs.length){σ l:Int}(K3:σ*co ys (ys.length-1)=l):
 aq (fG (fun j=>co rs j*l-if rs.length-ys.length<=j/\j<rs.length-ys.length+(ys.length-1) then co rs (rs.length-1)*σ*co ys (j-(rs.length-ys.length)) else 0) (rs.length-1))=
  K l*aq rs-K (co rs (rs.length-1)*σ)*X (rs.length-ys.length)*aq ys:=ext fun j=>by
 have hp:=List.length_pos_iff.mpr gU;have e:K (co rs (rs.length-1)*σ)*X (rs.length-ys.length)*aq ys=K (co rs (rs.length-1)*σ)*(X (rs.length-ys.length)*aq ys):=by grind
 rw[e,gp,aV,aV,ff,aY,aY,aY,kH];by_cases h1:j<rs.length-1
 ·rw[if_pos h1];by_cases h2:rs.length-ys.length<=j
  ·rw[if_pos ⟨h2,by lia⟩,if_neg (by lia)];grind
  ·rw[if_neg (fun z=>h2 z.1),if_pos (by lia)];grind
 ·rw[if_neg h1,if_neg (by lia)];by_cases h3:j=rs.length-1
  ·have e2:j-(rs.length-ys.length)=ys.length-1:=by lia
   rw[e2,h3,Int.mul_assoc,K3];grind
  ·rw[cx (xs:=rs) (by lia),cx (xs:=ys) (by lia)];grind
theorem K4(y:Int):(if y<0 then -1 else if 0<y then 1 else 0)*y=ab y:=by
 unfold ab;split
 ·lia
 ·split<;>lia
structure QU(xs ys rs:List Int):Prop where
 tr:Tr rs
 lt:rs.length<ys.length
 eq:∃q,K (ab (co ys (ys.length-1))^(xs.length-ys.length+1))*aq xs=q*aq ys+aq rs/\len q<=xs.length-ys.length+1
theorem HP(a:Int)(k:Nat):len (K a*X k)<=k+1:=cA fun i hi=>by
 rw[aV,xx,if_neg (by lia)];grind
theorem D7{rs:List Int}{n:Nat}(h:rs.length<n):(dA rs).length<n:=Nat.lt_of_le_of_lt (oX rs) h
theorem neg_fdiv{rs:List Int}{β:Int}{h:Po}(HN:0<β)(e:aq rs=K β*h):aq (fG (fun i=>(-(co rs i)).fdiv β) rs.length)=-h:=ext fun i=>by
 rw[aY,kH,FC];have e1:co rs i=β*h.c i:=by
  have:(aq rs).c i=(K β*h).c i:=by rw[e]
  rw[aY,aV] at this;exact this
 split
 ·rw[e1];have:-(β*h.c i)=(-(h.c i))*β:=by grind
  rw[this,Int.mul_fdiv_cancel _ (Int.ne_of_gt HN)]
 ·rw[cx (by lia)] at e1;rcases Int.mul_eq_zero.mp e1.symm with z|z
  ·lia
  ·lia
end Po
end SF
namespace SF
open Lean.Grind
theorem xY(s:Rat):s*(s.den:Rat)=(s.num:Rat):=by
 have h:=Rat.num_divInt_den s;rw[Rat.divInt_eq_div] at h;have hd:((s.den:Int):Rat)≠0:=by
  intro z;have z2:((s.den:Int):Rat)=((0:Int):Rat):=z;have:=Rat.intCast_inj.mp z2;have:=s.den_nz;lia
 have e:(s.den:Rat)=((s.den:Int):Rat):=rfl;rw[e]
 conv=>lhs;rw[<-h]
 grind
theorem D8{s:Rat}(h:s.den∣s.num.natAbs*s.num.natAbs\/s.den∣s.num.natAbs*s.num.natAbs*s.num.natAbs):s=(s.num:Rat):=by
 have hc:Nat.Coprime s.den s.num.natAbs:=s.reduced.symm;have h1:s.den∣1:=by
  rcases h with h|h
  ·have:=hc.dvd_of_dvd_mul_left h;have h2:=hc.dvd_of_dvd_mul_left (k:=s.den) (n:=1) (m:=s.num.natAbs);exact h2 (by rw[Nat.mul_one];exact this)
  ·have h3:=hc.dvd_of_dvd_mul_right h;have h4:=hc.dvd_of_dvd_mul_right h3;have h2:=hc.dvd_of_dvd_mul_left (k:=s.den) (n:=1) (m:=s.num.natAbs);exact h2 (by rw[Nat.mul_one];exact h4)
 have h2:s.den=1:=Nat.eq_one_of_dvd_one h1;have:=xY s;rw[h2] at this;have e:((1:Nat):Rat)=1:=rfl;rw[e] at this;rw[<-this];grind
theorem HQ{s:Rat}{n:Int}(h:s*s=(n:Rat)):∃k:Int,k*k=n:=by
 have e:=xY s;have e1:((s.num*s.num:Int):Rat)=((n*(s.den*s.den):Int):Rat):=by
  rw[Rat.intCast_mul,Rat.intCast_mul,Rat.intCast_mul,<-e,<-h];have e0:(((s.den:Nat):Int):Rat)=(s.den:Rat):=rfl;rw[e0];grind
 have e2:=Rat.intCast_inj.mp e1;have hd:s.den∣s.num.natAbs*s.num.natAbs:=by
  have:(s.den:Int)∣s.num*s.num:=⟨n*s.den,by rw[e2];grind⟩;have:=Int.ofNat_dvd_left.mp this
  rwa [Int.natAbs_mul] at this
 have e3:=D8 (s:=s) (.inl hd);refine⟨s.num,?_⟩;rw[e3,<-Rat.intCast_mul] at h;exact Rat.intCast_inj.mp h
noncomputable def TK(n:Int):Prop:=n=2\/n=3\/n=5\/n=6\/n=7\/n=8\/n=10\/n=12\/n=50\/n=99
noncomputable def TL(n:Int):Prop:=n=2\/n=3\/n=4\/n=5\/n=6\/n=7\/n=9\/n=10\/n=-2\/n=-5
namespace Po
open Re
theorem cV(a:Int):((a:Int):Re)=q (a:Rat):=rfl
theorem at2(x:Re)(a b:Int):at' x (aq [a,b])=(a:Re)+x*(b:Re):=by
 rw[fi,fi,dt,iq];grind
theorem QV(x:Re)(a b c:Int):at' x (aq [a,b,c])=(a:Re)+x*((b:Re)+x*(c:Re)):=by
 rw[fi,at2]
theorem sZ{e f:Po}(he:len e=2)(hd:D e f):∃r:Rat,at' (q r) f=0:=by
 obtain⟨a,ha,p,eq⟩:=hd;have hl:e.c 1≠0:=by
  have:=lead (f:=e) (by lia);rw[he] at this;exact this
 have My:((e.c 1:Int):Rat)≠0:=fun z=>hl (Rat.intCast_inj.mp (show((e.c 1:Int):Rat)=((0:Int):Rat) from z));refine⟨-((e.c 0:Int):Rat)/((e.c 1:Int):Rat),?_⟩;generalize hr:-((e.c 0:Int):Rat)/((e.c 1:Int):Rat)=r;have e0:at' (q r) e=0:=by
  have e1:e=aq [e.c 0,e.c 1]:=ext fun i=>by
   rw[aY]
   match i with
   |0=>rfl
   |1=>rfl
   |i+2=>rw[dS (by lia)];rfl
  rw[e1,at2,cV,cV,<-fy,<-lI];have e2:((aq [e.c 0,e.c 1]).c 0:Int)=e.c 0:=rfl;have:((e.c 0:Int):Rat)+r*((e.c 1:Int):Rat)=0:=by rw[<-hr];grind
  show q (((e.c 0:Int):Rat)+r*((e.c 1:Int):Rat))=0;rw[this];rfl
 have e3:=congrArg (at' (q r)) eq;rw[mx,gy,e0] at e3;have e4:(a:Re)*at' (q r) f=0:=by rw[e3];grind
 by_cases hz:at' (q r) f=0
 ·exact hz
 ·exfalso;refine Re.dC (fun z=>ha ?_) hz e4;have z2:q (a:Rat)=q ((0:Int):Rat):=z;exact Rat.intCast_inj.mp (xR z2)
theorem K5{f:Po}(h:len f=3\/len f=4)(hn:∀r:Rat,at' (q r) f≠0):lE f:=by
 have h0:f≠0:=cm (by lia);refine⟨by lia,fun d hd=>?_⟩;have h1:=hd.len h0;have h2:=len_pos (hd.ne h0);by_cases h3:len d<=1
 ·exact .inl h3
 by_cases h4:len f<=len d
 ·exact .inr h4
 exfalso;by_cases h5:len d=2
 ·obtain⟨r,hr⟩:=sZ h5 hd;exact hn r hr
 ·obtain⟨a,ha,p,eq⟩:=hd;have hp:p≠0:=gK (f:=d) (by rw[<-eq];exact dC (js ha) h0);have h6:=len_mul (cm h2) hp;rw[<-eq,fU ha] at h6;obtain⟨r,hr⟩:=sZ (e:=p) (f:=f) (by lia) ⟨a,ha,d,by rw[eq];grind⟩;exact hn r hr
noncomputable def cO:List Po->Po
 |[]=>1
 |g::r=>g*cO r
theorem pq{p:Po}(hp:lE p):∀gs:List Po,D p (cO gs)->∃g∈gs,D p g
 |[],h=>by
  have l1:len (1:Po)=1:=by rw[<-cb];exact len_K (by decide)
  have:=h.len (cm (by show 0<len (1:Po);lia));have h2:=hp.1;have h3:len (cO [])=1:=l1;lia
 |g::r,h=>by
  rcases hp.prime h with z|z
  ·exact⟨g,List.mem_cons_self,z⟩
  ·obtain⟨x,hx,hd⟩:=pq hp r z;exact⟨x,List.mem_cons_of_mem _ hx,hd⟩
structure Fk(g:Po):Prop where
 sP:lE g
 pr:Pr g
 pos:0<g.c (len g-1)
theorem Fk.same{g h:Po}(hg:Fk g)(hh:Fk h)(d:D g h):g=h:=by
 rcases hh.sP.2 g d with z|z
 ·have:=hg.sP.1;lia
 ·exact hg.pr.same hh.pr d (d.mX hh.sP.ne z) hg.pos hh.pos
theorem xZ:∀gs:List Po,(∀g∈gs,Fk g)->gs.Nodup->∀p,lE p->¬D (p*p) (cO gs)
 |[],_,_,p,hp,h=>by
  have l1:len (1:Po)=1:=by rw[<-cb];exact len_K (by decide)
  have h1:=h.len (show cO []≠0 from cm (by show 0<len (1:Po);lia));have h2:=hp.1;have h3:=len_mul hp.ne hp.ne;have h4:len (cO [])=1:=l1;lia
 |g::r,hF,hN,p,hp,h=>by
  have hg:=hF g List.mem_cons_self;obtain⟨TM,TN⟩:=List.nodup_cons.mp hN;obtain⟨a,ha,t,e⟩:=h;have e':K a*(g*cO r)=p*p*t:=e;by_cases hd:D p g
  ·have KG:D g p:=by
    rcases hg.sP.2 p hd with z|z
    ·have:=hp.1;lia
    ·exact hd.mX hg.sP.ne z
   obtain⟨b,hb,s,es⟩:=KG;have TQ:D g (cO r):=by
    refine⟨b*b*a,Int.mul_ne_zero (Int.mul_ne_zero hb hb) ha,s*s*t,Po.cancel hg.sP.ne ?_⟩;have e1:g*(K (b*b*a)*cO r)=K b*K b*(K a*(g*cO r)):=by rw[bH,bH];grind
    have e2:g*(g*(s*s*t))=(g*s)*(g*s)*t:=by grind
    rw[e1,e2,e',<-es];grind
   obtain⟨x,hx,TR⟩:=pq hg.sP r TQ;have:=hg.same (hF x (List.mem_cons_of_mem _ hx)) TR;exact TM (by rw[this];exact hx)
  ·have h1:D p (g*cO r):=⟨a,ha,p*t,by rw[e'];grind⟩;have h2:=(hp.prime h1).resolve_left hd;obtain⟨c,hc,u,eu⟩:=h2;have h3:D p (g*u):=by
    refine⟨a,ha,K c*t,Po.cancel hp.ne ?_⟩;have e1:p*(K a*(g*u))=K a*(g*(p*u)):=by grind
    rw[e1,<-eu];have e2:K a*(g*(K c*cO r))=K c*(K a*(g*cO r)):=by grind
    rw[e2,e'];grind
   have h4:=(hp.prime h3).resolve_left hd;obtain⟨d,TU,v,ev⟩:=h4;refine xZ r (fun x hx=>hF x (List.mem_cons_of_mem _ hx)) TN p hp ⟨d*c,Int.mul_ne_zero TU hc,v,?_⟩;rw[bH];have e1:K d*K c*cO r=K d*(K c*cO r):=by grind
   rw[e1,eu];have e2:K d*(p*u)=p*(K d*u):=by grind
   rw[e2,ev];grind
theorem Pr.mul{f g:Po}(hf:Pr f)(hg:Pr g):Pr (f*g):=fun p hp=>by
 rcases Nat.lt_or_ge 1 p with h1|h1
 ·exfalso;obtain⟨r,hr,hd⟩:=FD.ex _ p (Nat.le_refl _) h1;have mL:∀i,(r:Int)∣(f*g).c i:=fun i=>Int.dvd_trans (Int.ofNat_dvd.mpr hd) (hp i);have h2:=hr.1;rcases lC hr mL with z|z
  ·have:=hf r z;lia
  ·have:=hg r z;lia
 ·have h0:p≠0:=by
   rintro rfl;have hz:f*g=0:=ext fun i=>by
    rw[eL];exact Int.zero_dvd.mp (hp i)
   exact dC hf.ne hg.ne hz
  lia
theorem Pr.one:Pr 1:=fun p hp=>by
 have:=hp 0;rw[oZ,if_pos rfl] at this;exact Nat.eq_one_of_dvd_one (Int.ofNat_dvd.mp this)
theorem nv:∀gs:List Po,(∀g∈gs,Fk g)->Pr (cO gs)/\0<(cO gs).c (len (cO gs)-1)
 |[],_=>by
  have l1:len (1:Po)=1:=by rw[<-cb];exact len_K (by decide)
  refine⟨Pr.one,?_⟩;show 0<(1:Po).c (len (1:Po)-1);rw[l1,oZ,if_pos rfl];decide
 |g::r,h=>by
  obtain⟨h1,h2⟩:=nv r fun x hx=>h x (List.mem_cons_of_mem _ hx);have hg:=h g List.mem_cons_self;refine⟨hg.pr.mul h1,?_⟩;show 0<(g*cO r).c (len (g*cO r)-1);rw[mW hg.pr.ne h1.ne];exact Int.mul_pos hg.pos h2
theorem s_{gs:List Po}(h:∀g∈gs,Fk g)(hN:gs.Nodup):CZ (cO gs) (cO gs):=
 ⟨(nv gs h).1,(nv gs h).2,fun _ _=>Iff.rfl,xZ gs h hN⟩
theorem vI{xs:List Int}(tx:Tr xs)(eC:xs≠[]){gs:List Po}(h:∀g∈gs,Fk g)(hN:gs.Nodup)(e:∀p,lE p->(D p (aq xs)↔D p (cO gs))):aq (uN xs)=cO gs:=
 (KQ tx eC).uniq (s_ h hN) e
theorem x4(z:Int):(if z<0 then -1 else if 0<z then 1 else 0:Int)=aT ((z:Int):Re):=by
 rcases Int.lt_trichotomy z 0 with h|h|h
 ·rw[if_pos h,cG];show q (z:Rat)<q ((0:Nat):Rat);rw[dP];exact Rat.intCast_lt_intCast.mpr h
 ·rw[if_neg (by lia),if_neg (by lia),h];have:((0:Int):Re)=0:=Ring.intCast_zero;rw[this,bC]
 ·rw[if_neg (by lia),if_pos h,bK];show q ((0:Nat):Rat)<q (z:Rat);rw[dP];exact Rat.intCast_lt_intCast.mpr h
theorem ny(a:Int):∀n:Nat,((a^n:Int):Re)=((a:Int):Re)^n
 |0=>by
  rw[Int.pow_zero];have e:((a:Int):Re)^0=1:=Semiring.pow_zero _;rw[e];exact Ring.intCast_one
 |n+1=>by
  have e:((a:Int):Re)^(n+1)=((a:Int):Re)^n*((a:Int):Re):=Semiring.pow_succ _ _;rw[Int.pow_succ,Ring.intCast_mul,ny a n,e]
theorem tf(a b:Re):∀n:Nat,(a*b)^n=a^n*b^n
 |0=>by
  have e1:(a*b)^0=1:=Semiring.pow_zero _;have e2:a^0=1:=Semiring.pow_zero _;have e3:b^0=1:=Semiring.pow_zero _;rw[e1,e2,e3];grind
 |n+1=>by
  have e1:(a*b)^(n+1)=(a*b)^n*(a*b):=Semiring.pow_succ _ _;have e2:a^(n+1)=a^n*a:=Semiring.pow_succ _ _;have e3:b^(n+1)=b^n*b:=Semiring.pow_succ _ _;rw[e1,e2,e3,tf a b n];grind
theorem HR{t u:Int}(hu:0<u)(xs:List Int):(if hv t u xs<0 then -1 else if 0<hv t u xs then 1 else 0:Int)=aT (at' (q ((t:Rat)/(u:Rat))) (aq xs)):=by
 rw[x4];have Wv:(u:Rat)≠0:=fun z=>by
  have:=Rat.intCast_inj.mp (show(u:Rat)=((0:Int):Rat) from z);lia
 have oq:(0:Re)<(u:Re):=by
  show q ((0:Nat):Rat)<q (u:Rat);rw[dP];exact Rat.intCast_lt_intCast.mpr hu
 generalize hx:q ((t:Rat)/(u:Rat))=x;have TV:x*(u:Re)=(t:Re):=by
  rw[<-hx,cV,cV,<-fy];congr 1;grind
 have Jc:∀n:Nat,0<((u:Int):Re)^n:=fun n=>by
  induction n with
  |zero=>
   have e:((u:Int):Re)^0=1:=Semiring.pow_zero _;rw[e];grind
  |succ n ih=>
   have e:((u:Int):Re)^(n+1)=((u:Int):Re)^n*((u:Int):Re):=Semiring.pow_succ _ _;rw[e];exact Re.mul_pos ih oq
 have key:((hv t u xs:Int):Re)=((u:Int):Re)^(xs.length-1)*at' x (aq xs):=by
  rw[oo x (f:=aq xs) (n:=xs.length) (cA fun i hi=>by rw[aY];exact cx hi)];unfold hv;rw[ni,<-cu];refine aJ fun i hi=>?_;rw[Ring.intCast_mul,Ring.intCast_mul,ny,ny,<-TV,tf,aY];have e:xs.length-1=i+(xs.length-1-i):=by lia
  have e2:((u:Int):Re)^(xs.length-1)=((u:Int):Re)^i*((u:Int):Re)^(xs.length-1-i):=by rw[<-pow_add',<-e]
  rw[e2];grind
 rw[key,fC,bK (Jc _)];lia
end Po
end SF
namespace SF
open Lean.Grind
namespace Po
open Re
theorem HS{y:Re}(h:aT y=-1):y<0:=by
 rcases aS y with w|w|w
 ·exact w.1
 ·rw[h] at w;lia
 ·rw[h] at w;lia
inductive MH:List Int->Prop
 |Ww (t u:Int) (hu:0<u) (hc:Int.gcd t u=1):MH [0-t,u]
 |TX (a n:Int) (hn:TK n):MH [a*a-n,0-2*a,1]
 |K6 (a m:Int) (hm:0<m):MH [a*a+m,0-2*a,1]
 |Wx (n:Int) (hn:TL n):MH [0-n,0,0,1]
theorem D9{xs:List Int}{l:Int}(h:l≠0):Tr (xs++[l]):=by
 intro x hx;rw[List.getLast?_append] at hx;have:l=x:=by simpa using hx
 rw[<-this];exact h
theorem e_(a:Int):((-a:Int):Re)=-((a:Int):Re):=Ring.intCast_neg a
theorem c0:((0:Int):Re)=0:=Ring.intCast_zero
theorem c1:((1:Int):Re)=1:=Ring.intCast_one
theorem c2:((2:Int):Re)=2:=by
 have e:(2:Int)=1+1:=rfl;rw[e,Ring.intCast_add,c1];grind
theorem pz(a b:Int):((a-b:Int):Re)=(a:Re)-(b:Re):=by
 rw[Int.sub_eq_add_neg,Ring.intCast_add,e_];grind
theorem HU(x:Re)(t u:Int):at' x (aq [0-t,u])=x*(u:Re)-(t:Re):=by
 rw[at2,pz,c0];grind
theorem dQ{n:Int}(h:0<n):(0:Re)<(n:Re):=by
 show q ((0:Nat):Rat)<q (n:Rat);rw[dP];exact Rat.intCast_lt_intCast.mpr h
theorem sq_nonneg(x:Re):0<=x*x:=by
 rcases Aa x 0 with h|h|h
 ·have:=Re.mul_pos (x:=-x) (y:=-x) (by grind) (by grind);grind
 ·rw[h];grind
 ·have:=Re.mul_pos h h;grind
end Po
end SF
namespace SF
open Lean.Grind
namespace Po
open Re
open Classical in
theorem Bq{φ:Rat->Int}(loc:∀x:Re,∃d:Rat,0<d/\∀s t:Rat,s<=t->Re.ab (q s-x)<q d->Re.ab (q t-x)<q d->φ t<=φ s){a b:Rat}(jk:a<=b):φ b<=φ a:=by
 let ψ:Rat->Int:=fun t=>if ∀u,a<=u->u<=t->φ u<=φ a then 0 else 1;have h:ψ a=ψ b:=by
  refine iW (φ:=ψ) (fun x=>?_) jk;obtain⟨d,hd,h⟩:=loc x;have key:∀s t:Rat,s<=t->Re.ab (q s-x)<q d->Re.ab (q t-x)<q d->ψ s=ψ t:=fun s t Fd hs ht=>by
   show(if _ then(0:Int) else 1)=if _ then 0 else 1;have mid:∀u,s<=u->u<=t->Re.ab (q u-x)<q d:=fun u h1 h2=>by
    have e1:=cy.mpr h1;have e2:=cy.mpr h2;rw[dc] at hs ht ⊢;constructor<;>grind
   by_cases c:∀u,a<=u->u<=s->φ u<=φ a
   ·rw[if_pos c,if_pos];intro u h1 h2;by_cases hu:u<=s
    ·exact c u h1 hu
    ·by_cases has:a<=s
     ·have g1:=c s has (by grind);have g2:=h s u (by grind) hs (mid u (by grind) h2);lia
     ·exact h a u h1 (mid a (by grind) (by grind)) (mid u (by grind) h2)
   ·rw[if_neg c,if_neg fun z=>c fun u h1 h2=>z u h1 (by grind)]
  refine⟨d,hd,fun s t hs ht=>?_⟩;by_cases Fd:s<=t
  ·exact key s t Fd hs ht
  ·exact(key t s (by grind) ht hs).symm
 have h0:ψ a=0:=if_pos fun u h1 h2=>by
  have:u=a:=by grind
  rw[this];lia
 rw[h0] at h;have h2:∀u,a<=u->u<=b->φ u<=φ a:=by
  by_cases c:∀u,a<=u->u<=b->φ u<=φ a
  ·exact c
  ·have:ψ b=1:=if_neg c;lia
 exact h2 b jk (by grind)
open Classical in
theorem x5{p0:Po}{r:List Po}(hc:∀x:Re,zm x (p0::aU p0::r))(hz:∀x:Re,at' x p0=0->at' x (aU p0)≠0)(x:Re):
 ∃d:Rat,0<d/\∃n0:Int,∀t:Rat,Re.ab (q t-x)<q d->(cg 0 (d9 (q t) (p0::aU p0::r)):Int)=n0+(if at' x p0=0/\q t<x then 1 else 0):=by
 have c0:∀(s:Int)(l:List Int),s≠0->cg 0 (s::l)=cg s l:=fun s l hs=>by
  show(if s*0<0 then 1 else 0)+cg (if s≠0 then s else 0) l=_;rw[if_neg (by lia),if_pos hs];lia
 by_cases h0:at' x p0=0
 ·have h1:=hz x h0;have uO:zm x (aU p0::r):=by
   have:=hc x;cases r with
   |nil=>exact this
   |cons e r=>exact this.2
  obtain⟨e,he,hr⟩:=pe h0 h1;obtain⟨f,hf,hs⟩:=gN r.length (aU p0) r (Nat.le_refl _) h1 uO;obtain⟨m',I_,m3,m4⟩:=kb he hf;refine⟨m',I_,(cg (aT (at' x (aU p0))) (d9 x r):Int),fun t ht=>?_⟩;have k1:=hr (q t) (by grind);obtain⟨k2,k3⟩:=hs (q t) (by grind);have nz:aT (at' x (aU p0))≠0:=fun z=>h1 (bc z);show((cg 0 (aT (at' (q t) p0)::aT (at' (q t) (aU p0))::d9 (q t) r):Nat):Int)=_;rw[k1,k2];rw[k2] at k3;generalize aT (at' x (aU p0))=s1 at nz k3 ⊢;have sq:0<s1*s1:=by
   rcases Int.lt_or_lt_of_ne nz with w|w
   ·exact Int.mul_pos_of_neg_of_neg w w
   ·exact Int.mul_pos w w
  rcases aS (q t-x) with z|z|z
  ·rw[z.2,if_pos ⟨h0,by grind⟩,c0 _ _ (by lia)];show(((if s1*(-1*s1)<0 then 1 else 0)+cg (if s1≠0 then s1 else -1*s1) (d9 (q t) r):Nat):Int)=_;rw[if_pos (show s1*(-1*s1)<0 by grind),if_pos nz,k3];lia
  ·rw[z.2,if_neg (by rintro⟨_,w⟩;grind)];show(((if 0*s1*0<0 then 1 else 0)+((if s1*(if 0*s1≠0 then 0*s1 else 0)<0 then 1 else 0)+cg (if s1≠0 then s1 else(if 0*s1≠0 then 0*s1 else 0)) (d9 (q t) r)):Nat):Int)=_;have e0:0*s1=0:=by lia
   rw[e0,if_neg (by lia),if_neg (c:=(0:Int)≠0) (by lia),if_neg (by lia),if_pos nz,k3];lia
  ·rw[z.2,if_neg (by rintro⟨_,w⟩;grind),c0 _ _ (by lia)];show(((if s1*(1*s1)<0 then 1 else 0)+cg (if s1≠0 then s1 else 1*s1) (d9 (q t) r):Nat):Int)=_;rw[if_neg (show ¬s1*(1*s1)<0 by grind),if_pos nz,k3];lia
 ·obtain⟨e,he,hs⟩:=gN (r.length+1) p0 (aU p0::r) (Nat.le_refl _) h0 (hc x);refine⟨e,he,(cg (aT (at' x p0)) (d9 x (aU p0::r)):Int),fun t ht=>?_⟩;obtain⟨k2,k3⟩:=hs (q t) (by grind);have nz:aT (at' x p0)≠0:=fun z=>h0 (bc z);show((cg 0 (aT (at' (q t) p0)::d9 (q t) (aU p0::r)):Nat):Int)=_;rw[c0 _ _ (by rw[k2];exact nz),k3,if_neg (fun z=>h0 z.1)];lia
theorem Br{p0:Po}{r:List Po}(hc:∀x:Re,zm x (p0::aU p0::r))(hz:∀x:Re,at' x p0=0->at' x (aU p0)≠0){a b:Rat}(jk:a<=b):
 cg 0 (d9 (q b) (p0::aU p0::r))<=cg 0 (d9 (q a) (p0::aU p0::r)):=by
 have:=Bq (φ:=fun t=>(cg 0 (d9 (q t) (p0::aU p0::r)):Int)) (fun x=>by
  obtain⟨d,hd,n0,h⟩:=x5 hc hz x
  refine⟨d,hd,fun s t Fd hs ht=>?_⟩
  have g:=cy.mpr Fd
  show(cg 0 (d9 (q t) (p0::aU p0::r)):Int)<=(cg 0 (d9 (q s) (p0::aU p0::r)):Int)
  rw[h s hs,h t ht]
  by_cases c:at' x p0=0/\q t<x
  ·rw[if_pos c,if_pos ⟨c.1,by grind⟩];lia
  ·rw[if_neg c];split<;>lia) jk;have h2:(cg 0 (d9 (q b) (p0::aU p0::r)):Int)<=(cg 0 (d9 (q a) (p0::aU p0::r)):Int):=this;lia
open Classical in
theorem D_{p0:Po}{r:List Po}(hc:∀x:Re,zm x (p0::aU p0::r))(hz:∀x:Re,at' x p0=0->at' x (aU p0)≠0){a b:Rat}(jk:a<=b)(h1:∀x y:Re,q a<=x->x<=q b->q a<=y->y<=q b->at' x p0=0->at' y p0=0->x=y):
 cg 0 (d9 (q a) (p0::aU p0::r))<=cg 0 (d9 (q b) (p0::aU p0::r))+1:=by
 have HA:∃z:Re,∀x:Re,q a<=x->x<=q b->at' x p0=0->x=z:=by
  by_cases c:∃z:Re,q a<=z/\z<=q b/\at' z p0=0
  ·obtain⟨z,z1,z2,z3⟩:=c;exact⟨z,fun x x1 x2 x3=>h1 x z x1 x2 z1 z2 x3 z3⟩
  ·exact⟨0,fun x x1 x2 x3=>absurd ⟨x,x1,x2,x3⟩ c⟩
 obtain⟨z,TY⟩:=HA;let cl:Rat->Rat:=fun t=>if t<a then a else if b<t then b else t;have Wy:∀t,a<=cl t/\cl t<=b:=fun t=>by
  show a<=(if t<a then a else if b<t then b else t)/\(if t<a then a else if b<t then b else t)<=b;split
  ·exact⟨by grind,jk⟩
  ·split<;>constructor<;>grind
 have TZ:cl a=a:=by show(if a<a then a else if b<a then b else a)=a;rw[if_neg (by grind),if_neg (by grind)]
 have T4:cl b=b:=by show(if b<a then a else if b<b then b else b)=b;rw[if_neg (by grind),if_neg (by grind)]
 let δ:Int:=if at' z p0=0 then 1 else 0;let φ:Rat->Int:=fun t=>(cg 0 (d9 (q (cl t)) (p0::aU p0::r)):Int)+(if z<=q (cl t) then δ else 0);have h:φ a=φ b:=by
  refine iW (φ:=φ) (fun x=>?_) jk;by_cases xa:x<q a
  ·obtain⟨d,hd,hd2⟩:=small (sub_pos xa);refine⟨d,hd,fun s t hs ht=>?_⟩;have key:∀s:Rat,Re.ab (q s-x)<q d->cl s=a:=fun s hs=>by
    rw[dc] at hs;have:q s<q a:=by grind
    exact if_pos (dP.mp this)
   show(cg 0 (d9 (q (cl s)) (p0::aU p0::r)):Int)+(if z<=q (cl s) then δ else 0)=(cg 0 (d9 (q (cl t)) (p0::aU p0::r)):Int)+(if z<=q (cl t) then δ else 0);rw[key s hs,key t ht]
  ·by_cases xb:q b<x
   ·obtain⟨d,hd,hd2⟩:=small (sub_pos xb);refine⟨d,hd,fun s t hs ht=>?_⟩;have key:∀s:Rat,Re.ab (q s-x)<q d->cl s=b:=fun s hs=>by
     rw[dc] at hs;have g1:q b<q s:=by grind
     have g2:=dP.mp g1;show(if s<a then a else if b<s then b else s)=b;rw[if_neg (by grind),if_pos g2]
    show(cg 0 (d9 (q (cl s)) (p0::aU p0::r)):Int)+(if z<=q (cl s) then δ else 0)=(cg 0 (d9 (q (cl t)) (p0::aU p0::r)):Int)+(if z<=q (cl t) then δ else 0);rw[key s hs,key t ht]
   ·have T5:q a<=x:=by grind
    have T6:x<=q b:=by grind
    obtain⟨d,hd,n0,hn⟩:=x5 hc hz x;have near:∀(e:Rat)(s:Rat),Re.ab (q s-x)<q e->Re.ab (q (cl s)-x)<q e:=fun e s hs=>by
     rw[dc] at hs ⊢;show -q e<q (if s<a then a else if b<s then b else s)-x/\q (if s<a then a else if b<s then b else s)-x<q e;split
     ·rename_i g;have:=dP.mpr g;constructor<;>grind
     ·split
      ·rename_i g;have:=dP.mpr g;constructor<;>grind
      ·exact hs
    by_cases xz:x=z
    ·subst xz;refine⟨d,hd,fun s t hs ht=>?_⟩;have key:∀s:Rat,Re.ab (q s-x)<q d->φ s=n0+δ:=fun s hs=>by
      show(cg 0 (d9 (q (cl s)) (p0::aU p0::r)):Int)+(if x<=q (cl s) then δ else 0)=n0+δ;rw[hn _ (near d s hs)];by_cases c:q (cl s)<x
      ·rw[if_neg (c:=x<=q (cl s)) (by grind)];show n0+(if at' x p0=0/\q (cl s)<x then 1 else 0)+0=n0+(if at' x p0=0 then 1 else 0);by_cases c2:at' x p0=0
       ·rw[if_pos ⟨c2,c⟩,if_pos c2];lia
       ·rw[if_neg (fun z=>c2 z.1),if_neg c2];lia
      ·rw[if_pos (c:=x<=q (cl s)) (by grind),if_neg (fun z=>c z.2)];lia
     rw[key s hs,key t ht]
    ·have nr:¬at' x p0=0:=fun g=>xz (TY x T5 T6 g);obtain⟨e,he,K7⟩:∃e:Rat,0<e/\∀s:Rat,Re.ab (q s-x)<q e->(z<=q s↔z<=x):=by
      rcases Aa x z with g|g|g
      ·obtain⟨e,he,h2⟩:=small (sub_pos g);refine⟨e,he,fun s hs=>?_⟩;rw[dc] at hs;constructor<;>intro w<;>grind
      ·exact absurd g xz
      ·obtain⟨e,he,h2⟩:=small (sub_pos g);refine⟨e,he,fun s hs=>?_⟩;rw[dc] at hs;constructor<;>intro w<;>grind
     obtain⟨m,hm,m1,m2⟩:=kb hd he;refine⟨m,hm,fun s t hs ht=>?_⟩;have key:∀s:Rat,Re.ab (q s-x)<q m->φ s=n0+(if z<=x then δ else 0):=fun s hs=>by
      have g:=near m s hs;show(cg 0 (d9 (q (cl s)) (p0::aU p0::r)):Int)+(if z<=q (cl s) then δ else 0)=_;rw[hn _ (by grind),if_neg (fun w=>nr w.1)];have g2:=K7 (cl s) (by grind);by_cases c:z<=x
      ·rw[if_pos c,if_pos (g2.mpr c)];lia
      ·rw[if_neg c,if_neg (fun w=>c (g2.mp w))];lia
     rw[key s hs,key t ht]
 have h2:(cg 0 (d9 (q (cl a)) (p0::aU p0::r)):Int)+(if z<=q (cl a) then δ else 0)=(cg 0 (d9 (q (cl b)) (p0::aU p0::r)):Int)+(if z<=q (cl b) then δ else 0):=h;rw[TZ,T4] at h2;have d1:0<=δ/\δ<=1:=by
  show 0<=(if at' z p0=0 then(1:Int) else 0)/\(if at' z p0=0 then(1:Int) else 0)<=1;split<;>lia
 split at h2<;>split at h2<;>lia
end Po
end SF
namespace SF
open Lean.Grind
namespace Po
open Re
noncomputable def tj(M ρ:Rat):Nat->Rat
 |0=>0
 |n+1=>M+ρ*tj M ρ n
noncomputable def vJ(M ρ:Rat):Nat->Rat
 |0=>0
 |n+1=>tj M ρ n+ρ*vJ M ρ n
noncomputable def Ad(M ρ:Rat):Nat->Rat
 |0=>0
 |n+1=>ρ*Ad M ρ n+vJ M ρ n
theorem D'(a:Rat):Re.ab (q a)=q (RR.ra a):=by
 unfold Re.ab RR.ra;by_cases h:a<0
 ·have h2:q a<0:=dP (r:=a) (t:=0) |>.mpr h;rw[if_pos h,if_pos h2,pb]
 ·have h2:¬q a<0:=fun z=>h (dP (r:=a) (t:=0) |>.mp z);rw[if_neg h,if_neg h2]
theorem vK{x:Re}{M ρ:Rat}(jv:0<=ρ)(hx:Re.ab x<=q ρ):∀xs:List Int,(∀a∈xs,RR.ra (a:Rat)<=M)->Re.ab (at' x (aq xs))<=q (tj M ρ xs.length)/\0<=tj M ρ xs.length
 |[],_=>by
  rw[dt,iq];exact⟨by show Re.ab 0<=q 0;rw[fW];unfold Re.ab;split<;>grind,by show(0:Rat)<=0;grind⟩
 |a::r,h=>by
  obtain⟨i1,i2⟩:=vK jv hx r fun b hb=>h b (List.mem_cons_of_mem _ hb);have ha:=h a List.mem_cons_self;have hM:0<=M:=by have:=RR.eZ (a:Rat);grind
  rw[fi];have e1:=Re.fV ((a:Int):Re) (x*at' x (aq r));rw[Re.bT] at e1;have e2:=mul_le_mul hx i1 (cy (r:=0) (t:=ρ) |>.mpr jv) (Re.aF _);have e3:Re.ab ((a:Int):Re)<=q M:=by rw[cV,D',cy];exact ha
  have e4:q (tj M ρ (a::r).length)=q M+q ρ*q (tj M ρ r.length):=by
   show q (M+ρ*tj M ρ r.length)=_;rw[lI,fy]
  refine⟨by rw[e4];grind,?_⟩;show 0<=M+ρ*tj M ρ r.length;have:=Rat.mul_nonneg jv i2;grind
theorem Bs{x:Re}{M ρ:Rat}(jv:0<=ρ)(hx:Re.ab x<=q ρ):∀xs:List Int,(∀a∈xs,RR.ra (a:Rat)<=M)->Re.ab (at' x (aU (aq xs)))<=q (vJ M ρ xs.length)/\0<=vJ M ρ xs.length
 |[],_=>by
  have:aU (aq [])=0:=by rw[<-eM];exact dt
  rw[this,iq];exact⟨by show Re.ab 0<=q 0;rw[fW];unfold Re.ab;split<;>grind,by show(0:Rat)<=0;grind⟩
 |a::r,h=>by
  obtain⟨i1,i2⟩:=Bs jv hx r fun b hb=>h b (List.mem_cons_of_mem _ hb);obtain⟨j1,j2⟩:=vK jv hx r fun b hb=>h b (List.mem_cons_of_mem _ hb);rw[nj,jB,gy,D3];have e1:=Re.fV (at' x (aq r)) (x*at' x (aU (aq r)));rw[Re.bT] at e1;have e2:=mul_le_mul hx i1 (cy (r:=0) (t:=ρ) |>.mpr jv) (Re.aF _);have e4:q (vJ M ρ (a::r).length)=q (tj M ρ r.length)+q ρ*q (vJ M ρ r.length):=by
   show q (tj M ρ r.length+ρ*vJ M ρ r.length)=_;rw[lI,fy]
  refine⟨by rw[e4];grind,?_⟩;show 0<=tj M ρ r.length+ρ*vJ M ρ r.length;have:=Rat.mul_nonneg jv i2;grind
theorem Bt{x t:Re}{M ρ:Rat}(jv:0<=ρ)(hx:Re.ab x<=q ρ)(ht:Re.ab t<=q ρ):∀xs:List Int,(∀a∈xs,RR.ra (a:Rat)<=M)->
 Re.ab (at' t (aq xs)-at' x (aq xs)-(t-x)*at' x (aU (aq xs)))<=q (Ad M ρ xs.length)*(Re.ab (t-x)*Re.ab (t-x))/\0<=Ad M ρ xs.length
 |[],_=>by
  have:aU (aq [])=0:=by rw[<-eM];exact dt
  rw[this,dt];simp only[iq];have e:(0:Re)-0-(t-x)*0=0:=by grind
  rw[e];refine⟨?_,by show(0:Rat)<=0;grind⟩;show Re.ab 0<=q 0*_;rw[fW];have:Re.ab (0:Re)=0:=by unfold Re.ab;split<;>grind
  rw[this];grind
 |a::r,h=>by
  obtain⟨i1,i2⟩:=Bt jv hx ht r fun b hb=>h b (List.mem_cons_of_mem _ hb);obtain⟨j1,j2⟩:=Bs jv hx r fun b hb=>h b (List.mem_cons_of_mem _ hb);rw[fi,fi,nj,jB,gy,D3];have e0:(a:Re)+t*at' t (aq r)-((a:Re)+x*at' x (aq r))-(t-x)*(at' x (aq r)+x*at' x (aU (aq r)))=
   t*(at' t (aq r)-at' x (aq r)-(t-x)*at' x (aU (aq r)))+at' x (aU (aq r))*((t-x)*(t-x)):=by grind
  rw[e0];have e1:=Re.fV (t*(at' t (aq r)-at' x (aq r)-(t-x)*at' x (aU (aq r)))) (at' x (aU (aq r))*((t-x)*(t-x)));rw[Re.bT,Re.bT,Re.bT] at e1;have e2:=mul_le_mul ht i1 (cy (r:=0) (t:=ρ) |>.mpr jv) (Re.aF _);have n2:0<=Re.ab (t-x)*Re.ab (t-x):=mul_nonneg (Re.aF _) (Re.aF _);have e3:=mul_le_mul j1 (Std.le_refl (a:=Re.ab (t-x)*Re.ab (t-x))) (cy (r:=0) (t:=vJ M ρ r.length) |>.mpr j2) n2;have e4:q (Ad M ρ (a::r).length)=q ρ*q (Ad M ρ r.length)+q (vJ M ρ r.length):=by
   show q (ρ*Ad M ρ r.length+vJ M ρ r.length)=_;rw[lI,fy]
  refine⟨by rw[e4];grind,?_⟩;show 0<=ρ*Ad M ρ r.length+vJ M ρ r.length;have:=Rat.mul_nonneg jv i2;grind
theorem zq{f g u0 v0:Po}{c0:Int}{M:Nat}(hf:f≠0)(hg:g≠0)(eb:u0*f+v0*g=K c0)(CY:c0≠0)(CW:∀i,ab (f.c i)<=M)(DU:∀i,ab (g.c i)<=M){A:Nat}(hA:len f+len g=A+2)(KL:0<A):
 ∃(U V:Po)(r:Int),r≠0/\U*f+V*g=K r/\len V<=len f-1/\∀i,ab (V.c i)<=(((2*A*M+1)^(A-1):Nat):Int):=by
 have m5:=len_pos hf;have vx:=len_pos hg;obtain⟨U,V,lU,lV,eQ,bU,bV,hz,A8⟩:=o8 (f:=f) (g:=g) CW DU (n:=len g-1) (m:=len f-1) (A:=A) (by lia) KL 1;have lR:len (U*f+V*g)<=1:=cA fun i hi=>by
  by_cases OA:i<1+A-1
  ·have:=hz (i-1) (by lia);have ei:1+(i-1)=i:=by lia
   rw[ei] at this;exact this
  ·show(U*f+V*g).c i=0;rw[ju,ji (W:=U) (z:=f) (b:=1+A-1) lU (by lia) (by lia),ji (W:=V) (z:=g) (b:=1+A-1) lV (by lia) (by lia)];rfl
 have er:=bS lR;refine⟨U,V,(U*f+V*g).c 0,?_,er,lV,bV⟩;intro z;rw[z,cH] at er;have dv:D f V:=⟨c0,CY,u0*V-v0*U,by
  rw[<-eb]
  have:V*g=-(U*f):=by grind
  have e2:(u0*f+v0*g)*V=u0*f*V+v0*(V*g):=by grind
  rw[e2,this];grind⟩;have du:D g U:=⟨c0,CY,v0*U-u0*V,by
  rw[<-eb]
  have:U*f=-(V*g):=by grind
  have e2:(u0*f+v0*g)*U=u0*(U*f)+v0*g*U:=by grind
  rw[e2,this];grind⟩;rcases eQ with hU|hV
 ·have:=du.len hU;lia
 ·have:=dv.len hV;lia
theorem Bu{f U V:Po}{r:Int}(hr:r≠0)(e:U*f+V*aU f=K r){x y:Re}(hx:at' x f=0)(hy:at' y f=0){VB TB:Rat}(h1:Re.ab (at' x V)<=q VB)(h2:Re.ab (at' y f-at' x f-(y-x)*at' x (aU f))<=q TB*(Re.ab (y-x)*Re.ab (y-x)))(hV:0<=VB)(hT:0<=TB)(h3:Re.ab (y-x)*q (VB*TB)<1):x=y:=by
 by_cases eQ:y-x=0
 ·grind
 exfalso;have e1:at' x V*at' x (aU f)=((r:Int):Re):=by
  have:=congrArg (at' x) e;rw[jB,gy,gy,hx,Be] at this;rw[<-this];grind
 have e2:(1:Re)<=Re.ab ((r:Int):Re):=by
  rw[cV,D',<-xQ,cy];unfold RR.ra;split
  ·rename_i c;have c2:r<0:=by
    have:((r:Int):Rat)<((0:Int):Rat):=c;exact Rat.intCast_lt_intCast.mp this
   have:((1:Int):Rat)<=((-r:Int):Rat):=Rat.intCast_le_intCast.mpr (by lia);rw[Rat.intCast_neg] at this;exact this
  ·rename_i c;have c2:¬r<0:=fun z=>c (by
    have:((r:Int):Rat)<((0:Int):Rat):=Rat.intCast_lt_intCast.mpr z
    exact this);exact Rat.intCast_le_intCast (a:=1).mpr (by lia)
 rw[<-e1,Re.bT] at e2;have nd:=Re.aF (at' x (aU f));have e3:=mul_le_mul h1 (Std.le_refl (a:=Re.ab (at' x (aU f)))) (cy (r:=0) (t:=VB) |>.mpr hV) nd;rw[hx,hy] at h2;have e4:(0:Re)-0-(y-x)*at' x (aU f)=-((y-x)*at' x (aU f)):=by grind
 rw[e4,Re.vE,Re.bT] at h2;have hp:0<Re.ab (y-x):=by
  have g:=Re.aF (y-x);rcases Aa (Re.ab (y-x)) 0 with g1|g1|g1
  ·grind
  ·exfalso;apply eQ;unfold Re.ab at g1;split at g1<;>grind
  ·exact g1
 have e5:Re.ab (at' x (aU f))<=q TB*Re.ab (y-x):=by
  by_cases c:Re.ab (at' x (aU f))<=q TB*Re.ab (y-x)
  ·exact c
  ·exfalso;have c':0<Re.ab (at' x (aU f))-q TB*Re.ab (y-x):=by grind
   have:=mul_pos hp c';grind
 have e6:=mul_le_mul (Std.le_refl (a:=q VB)) e5 (cy (r:=0) (t:=VB) |>.mpr hV) nd;rw[fy] at h3;grind
end Po
end SF
namespace SF
open Lean.Grind
namespace Po
open Re
theorem cP{a:Rat}(h:1<=a):∀n:Nat,1<=a^n
 |0=>by rw[Rat.pow_zero];grind
 |n+1=>by
  have i:=cP h n;rw[Rat.pow_succ];have:=Rat.mul_le_mul_of_nonneg_left (c:=a^n) (show(1:Rat)<=a from h) (by grind);grind
theorem fX(a:Rat)(m:Nat):∀n:Nat,a^(m+n)=a^m*a^n
 |0=>by rw[Nat.add_zero,Rat.pow_zero];grind
 |n+1=>by rw[<-Nat.add_assoc,Rat.pow_succ,Rat.pow_succ,fX a m n];grind
theorem kO(a:Rat)(m:Nat):∀n:Nat,a^(m*n)=(a^m)^n
 |0=>by rw[Nat.mul_zero,Rat.pow_zero,Rat.pow_zero]
 |n+1=>by rw[Nat.mul_succ,fX,Rat.pow_succ,kO a m n]
theorem kP{a:Rat}(h:1<=a){m n:Nat}(hm:m<=n):a^m<=a^n:=by
 obtain⟨k,rfl⟩:=Nat.exists_eq_add_of_le hm;rw[fX];have h1:=cP h m;have h2:=cP h k;have:=Rat.mul_le_mul_of_nonneg_left (c:=a^m) h2 (by grind);grind
theorem nA{a b:Rat}(ha:0<=a)(h:a<=b):∀n:Nat,0<=a^n/\a^n<=b^n
 |0=>by rw[Rat.pow_zero,Rat.pow_zero];constructor<;>grind
 |n+1=>by
  obtain⟨i1,i2⟩:=nA ha h n;rw[Rat.pow_succ,Rat.pow_succ];exact⟨Rat.mul_nonneg i1 ha,RR.qy i2 h (by grind) ha⟩
theorem Bv{M ρ:Rat}(hM:0<=M)(jv:1<=ρ):∀n:Nat,tj M ρ n<=M*(2*ρ)^n
 |0=>by show 0<=M*(2*ρ)^0;rw[Rat.pow_zero];grind
 |n+1=>by
  have i:=Bv hM jv n;show M+ρ*tj M ρ n<=M*(2*ρ)^(n+1);have h1:=cP (a:=2*ρ) (by grind) n;rw[Rat.pow_succ];have g1:=Rat.mul_le_mul_of_nonneg_left (c:=ρ) i (by grind);have g2:1<=(2*ρ)^n*ρ:=by
   have:=RR.qy h1 jv (by grind) (by grind);grind
  have g3:=Rat.mul_le_mul_of_nonneg_left (c:=M) g2 hM;grind
theorem FQ{M ρ:Rat}(hM:0<=M)(jv:1<=ρ):∀n:Nat,vJ M ρ n<=M*(4*ρ)^n
 |0=>by show 0<=M*(4*ρ)^0;rw[Rat.pow_zero];grind
 |n+1=>by
  have i:=FQ hM jv n;have j:=Bv hM jv n;show tj M ρ n+ρ*vJ M ρ n<=M*(4*ρ)^(n+1);have h1:=cP (a:=4*ρ) (by grind) n;have h2:=(nA (a:=2*ρ) (b:=4*ρ) (by grind) (by grind) n).2;rw[Rat.pow_succ];have g0:=Rat.mul_le_mul_of_nonneg_left (c:=M) h2 hM;have g1:=Rat.mul_le_mul_of_nonneg_left (c:=ρ) i (by grind);have g2:(4*ρ)^n<=(4*ρ)^n*ρ:=by
   have:=Rat.mul_le_mul_of_nonneg_left (c:=(4*ρ)^n) jv (by grind);grind
  have g3:=Rat.mul_le_mul_of_nonneg_left (c:=M) g2 hM;have g4:0<=M*((4*ρ)^n*ρ):=Rat.mul_nonneg hM (by grind);grind
theorem FR{M ρ:Rat}(hM:0<=M)(jv:1<=ρ):∀n:Nat,Ad M ρ n<=M*(8*ρ)^n
 |0=>by show 0<=M*(8*ρ)^0;rw[Rat.pow_zero];grind
 |n+1=>by
  have i:=FR hM jv n;have j:=FQ hM jv n;show ρ*Ad M ρ n+vJ M ρ n<=M*(8*ρ)^(n+1);have h1:=cP (a:=8*ρ) (by grind) n;have h2:=(nA (a:=4*ρ) (b:=8*ρ) (by grind) (by grind) n).2;rw[Rat.pow_succ];have g0:=Rat.mul_le_mul_of_nonneg_left (c:=M) h2 hM;have g1:=Rat.mul_le_mul_of_nonneg_left (c:=ρ) i (by grind);have g2:(8*ρ)^n<=(8*ρ)^n*ρ:=by
   have:=Rat.mul_le_mul_of_nonneg_left (c:=(8*ρ)^n) jv (by grind);grind
  have g3:=Rat.mul_le_mul_of_nonneg_left (c:=M) g2 hM;have g4:0<=M*((8*ρ)^n*ρ):=Rat.mul_nonneg hM (by grind);grind
theorem FT{b:Nat}{a:Int}(h:Bd b a):RR.ra (a:Rat)<=(2:Rat)^b:=by
 unfold Bd at h;have e:((2:Rat)^b)=(((2^b:Nat):Int):Rat):=by
  rw[Int.natCast_pow,Rat.intCast_pow];rfl
 rw[e,RR.FI];rw[<-Rat.intCast_neg];constructor
 ·exact Rat.intCast_le_intCast.mpr (by lia)
 ·exact Rat.intCast_le_intCast.mpr (by lia)
theorem sep{xs:List Int}(tx:Tr xs)(hn:2<=xs.length)(T7:xs.length<=13)(bx:∀a∈xs,Bd 100 a)(hs:CZ (aq xs) (aq xs)){x y:Re}(hx:at' x (aq xs)=0)(hy:at' y (aq xs)=0)(rx:Re.ab x<=q ((2:Rat)^110))(ry:Re.ab y<=q ((2:Rat)^110))(h:Re.ab (y-x)<=q (1/(2:Rat)^5500)):x=y:=by
 have lf:len (aq xs)=xs.length:=bB tx;have IT:aq xs≠0:=cm (by lia);have lg:len (aU (aq xs))=xs.length-1:=by rw[xB,lf]
 have MD:aU (aq xs)≠0:=cm (by lia);have gc:=cU (xs:=xs) (ys:=bR xs) (.inl IT);have g1:=vy tx hs;have o1:aq [1]=1:=Po.ext fun i=>by
  rw[aY,oZ];cases i with
  |zero=>rfl
  |succ i=>rfl
 rw[g1,o1,eM] at gc;obtain⟨bu,bv,ba,Hm,K8⟩:=gc.bz;have Bw:bu*aq xs+bv*aU (aq xs)=K ba:=by rw[K8];grind
 have QW:∀i,Bd 100 (co xs i):=fun i=>by
  by_cases hi:i<xs.length
  ·rw[bP hi];exact bx _ (List.getElem_mem _)
  ·rw[cx (by lia)];show(0:Int).natAbs<2^100;decide
 have m1:∀i,ab ((aq xs).c i)<=((2^104:Nat):Int):=fun i=>by
  have:=QW i;unfold Bd at this;rw[aY];unfold ab;have e:(2:Nat)^100<=2^104:=Nat.pow_le_pow_right (by decide) (by decide);lia
 have m2:∀i,ab ((aU (aq xs)).c i)<=((2^104:Nat):Int):=fun i=>by
  rw[<-eM,aY];by_cases hi:i<xs.length-1
  ·have e0:co (bR xs) i=((i+1:Nat):Int)*co xs (i+1):=by rw[jY];rfl
   rw[e0];have h1:Bd 4 (((i+1:Nat):Int)):=Bd.of_two (by lia) (by lia);have:=h1.mul (QW (i+1));unfold Bd at this;unfold ab;lia
  ·rw[cx (by unfold bR;rw[aN];lia)];show(0:Int)<=_;lia
 obtain⟨U,V,r,hr,e,lV,bV⟩:=zq (M:=2^104) (A:=2*xs.length-3) IT MD Bw Hm m1 m2 (by rw[lf,lg];lia) (by lia);have hH:(2*(2*xs.length-3)*2^104+1)^(2*xs.length-3-1)<=2^2420:=by
  have a1:2*(2*xs.length-3)*2^104+1<=2^110:=by lia
  have a2:=Nat.pow_le_pow_left a1 (2*xs.length-3-1);have a3:(2^110)^(2*xs.length-3-1)<=(2^110)^22:=Nat.pow_le_pow_right (by decide) (by lia);have a4:((2:Nat)^110)^22=2^2420:=by rw[<-Nat.pow_mul]
  lia
 have T8:∀a∈lst V,Bd 2421 a:=fun a ha=>by
  obtain⟨i,hi,ea⟩:=List.getElem_of_mem ha;have:=bV i;rw[<-iR,bP hi,ea] at this;unfold ab at this;unfold Bd;have e2:(2:Nat)^2420<2^2421:=Nat.pow_lt_pow_right (by decide) (by decide);lia
 have QX:(1:Rat)<=2^110:=cP (by grind) _;obtain⟨v1,v2⟩:=vK (M:=(2:Rat)^2421) (ρ:=2^110) (by grind) rx (lst V) fun a ha=>FT (T8 a ha);obtain⟨t1,t2⟩:=Bt (M:=(2:Rat)^100) (ρ:=2^110) (by grind) rx ry xs fun a ha=>FT (bx a ha);rw[cT] at v1;refine Bu hr e hx hy v1 t1 v2 t2 ?_;have T9:(lst V).length<=13:=by
  have:(lst V).length=len V:=rfl;lia
 have b1:tj ((2:Rat)^2421) (2^110) (lst V).length<=2^2421*(2*2^110)^13:=by
  have:=Bv (M:=(2:Rat)^2421) (ρ:=2^110) (Rat.le_of_lt (Rat.pow_pos (by grind))) QX (lst V).length;have g:=kP (a:=2*(2:Rat)^110) (by grind) T9;have g2:=Rat.mul_le_mul_of_nonneg_left (c:=(2:Rat)^2421) g (Rat.le_of_lt (Rat.pow_pos (by grind)));grind
 have b2:Ad ((2:Rat)^100) (2^110) xs.length<=2^100*(8*2^110)^13:=by
  have:=FR (M:=(2:Rat)^100) (ρ:=2^110) (Rat.le_of_lt (Rat.pow_pos (by grind))) QX xs.length;have g:=kP (a:=8*(2:Rat)^110) (by grind) T7;have g2:=Rat.mul_le_mul_of_nonneg_left (c:=(2:Rat)^100) g (Rat.le_of_lt (Rat.pow_pos (by grind)));grind
 have c1:(2:Rat)*2^110=2^111:=by rw[Rat.pow_succ];grind
 have c2:(8:Rat)*2^110=2^113:=by rw[Rat.pow_succ,Rat.pow_succ,Rat.pow_succ];grind
 rw[c1,<-kO,<-fX] at b1;rw[c2,<-kO,<-fX] at b2;have b3:=RR.qy b1 b2 (Rat.le_of_lt (Rat.pow_pos (by grind))) t2;rw[<-fX] at b3;have b4:tj ((2:Rat)^2421) (2^110) (lst V).length*Ad ((2:Rat)^100) (2^110) xs.length<2^5500:=by
  have g:(2:Rat)^(2421+111*13+(100+113*13))<=2^5499:=kP (by grind) (by decide);have g2:(2:Rat)^5500=2^5499*2:=Rat.pow_succ ..;have g3:(0:Rat)<2^5499:=Rat.pow_pos (by grind);grind
 generalize tj ((2:Rat)^2421) (2^110) (lst V).length*Ad ((2:Rat)^100) (2^110) xs.length=W at b4 b3 ⊢;have p0:(0:Rat)<2^5500:=Rat.pow_pos (by grind);generalize (2:Rat)^5500=Z at b4 p0 h ⊢;by_cases hW:0<=W
 ·have f1:=mul_le_mul h (Std.le_refl (a:=q W)) (cy (r:=0) (t:=1/Z) |>.mpr (Rat.le_of_lt (RR.vD (by grind) p0))) (cy (r:=0) (t:=W) |>.mpr hW);have f2:q (1/Z)*q W<1:=by
   rw[<-fy,<-xQ,dP,Rat.div_def,Rat.one_mul];have:=(Rat.mul_lt_mul_left (Rat.inv_pos.mpr p0)).mpr b4;rw[Rat.inv_mul_cancel _ (by grind)] at this;exact this
  grind
 ·have f1:q W<=0:=cy (r:=W) (t:=0) |>.mpr (by grind);have f2:0<=Re.ab (y-x)*(-q W):=mul_nonneg (Re.aF _) (by grind);grind
end Po
end SF
namespace SF
open Lean.Grind
namespace Po
open Re
theorem HV(t u:Int):hv t u []=0:=by simp[hv,ay]
theorem x6(t u:Int):∀xs:List Int,xs≠[]->∃w,hv t u xs=co xs (xs.length-1)*t^(xs.length-1)+u*w
 |[],h=>absurd rfl h
 |[x],_=>⟨0,by
  rw[qi,HV]
  show 0*t+x*u^0=x*t^0+u*0
  rw[Int.pow_zero,Int.pow_zero];lia⟩
 |x::y::r,_=>by
  obtain⟨w,e⟩:=x6 t u (y::r) (by simp);refine⟨w*t+x*u^r.length,?_⟩;rw[qi,e];have e1:(y::r).length-1=r.length:=by simp
  have e2:(x::y::r).length-1=r.length+1:=by simp
  have e3:co (x::y::r) (r.length+1)=co (y::r) r.length:=rfl;have e4:(y::r).length=r.length+1:=by simp
  rw[e1,e2,e3,e4,Int.pow_succ,Int.pow_succ];generalize co (y::r) r.length=l;generalize t^r.length=a;generalize u^r.length=b;grind
theorem jn{a b c:Int}(d:a∣b*c)(h:Int.gcd a b=1):a∣c:=by
 have d1:a.natAbs∣b.natAbs*c.natAbs:=by rw[<-Int.natAbs_mul];exact Int.natAbs_dvd_natAbs.mpr d
 have hc:Nat.Coprime a.natAbs b.natAbs:=h;exact Int.natAbs_dvd_natAbs.mp (hc.dvd_of_dvd_mul_left d1)
theorem x8{u t:Int}(h:Int.gcd u t=1){l:Int}:∀k:Nat,u∣l*t^k->u∣l
 |0,d=>by rw[Int.pow_zero,Int.mul_one] at d;exact d
 |k+1,d=>by
  rw[Int.pow_succ,<-Int.mul_assoc] at d;exact x8 h k (jn (by rw[Int.mul_comm] at d;exact d) h)
theorem x9{xs:List Int}(hx:xs≠[]){t u o:Int}(hg:Int.gcd t u=1)(ho:o∣u)(hn:¬o∣co xs (xs.length-1)):hv t u xs≠0:=fun z=>by
 obtain⟨w,e⟩:=x6 t u xs hx;rw[z] at e;have d:u∣co xs (xs.length-1)*t^(xs.length-1):=⟨-w,by rw[Int.mul_neg];lia⟩;exact hn (Int.dvd_trans ho (x8 (by rw[Int.gcd_comm];exact hg) _ d))
noncomputable def Pt(o:Int)(k:Nat)(m t u:Int):Prop:=t*(o*2^k)=(2^k+o*m)*u
theorem lL{o:Int}(h:Int.gcd o 2=1):∀k:Nat,Int.gcd o (2^k)=1
 |0=>by rw[Int.pow_zero];exact Int.gcd_one_right _
 |k+1=>by
  have i:=lL h k;rw[Int.pow_succ];rw[Int.gcd_eq_one_iff] at*
  ·intro c ME uO;have g:Int.gcd c 2=1:=by
    have:(Int.gcd c 2:Int)∣1:=h _ (Int.dvd_trans (Int.gcd_dvd_left ..) ME) (Int.gcd_dvd_right ..);have h2:=Int.le_of_dvd (by decide) this;have h3:0<Int.gcd c 2:=Int.gcd_pos_of_ne_zero_right _ (by decide);lia
   exact i c ME (jn (by rw[Int.mul_comm] at uO;exact uO) g)
theorem Pt.odd{o:Int}{k:Nat}{m t u:Int}(h:Pt o k m t u)(ho:Int.gcd o 2=1):o∣u:=by
 have d:o∣(2^k+o*m)*u:=⟨t*2^k,by rw[<-h];grind⟩;have g:Int.gcd o (2^k+o*m)=1:=by
  rw[Int.gcd_comm,Int.add_comm,Int.gcd_mul_left_add_left,Int.gcd_comm];exact lL ho k
 exact jn d g
theorem Pt.up{o:Int}{k:Nat}{m t u:Int}(h:Pt o k m t u):Pt o (k+1) (2*m) t u:=by
 unfold Pt at*;rw[Int.pow_succ];generalize (2:Int)^k=z at*;grind
theorem Pt.mid{o:Int}{k:Nat}{m t u m' t' u' c d:Int}(h:Pt o k m t u)(h':Pt o k m' t' u')(hu:0<u)(dM:0<u')(e:c*(2*u*u')=(t*u'+t'*u)*d):Pt o (k+1) (m+m') c d:=by
 unfold Pt at*;rw[Int.pow_succ];generalize (2:Int)^k=z at*;have hp:=Int.mul_pos hu dM;refine Int.eq_of_mul_eq_mul_right (Int.ne_of_gt hp) ?_;grind
theorem Pt.bits{o:Int}{k:Nat}{m t u b:Int}(h:Pt o k m t u)(ho:0<o)(hu:0<u)(hg:Int.gcd t u=1)(bo:Bd 102 o)(bb:0<b/\b<=2^102)(h1:-(b*2^k)<=m)(h2:m<=b*2^k):Bd (k+210) t/\Bd (k+210) u:=by
 have hz:(0:Int)<2^k:=Int.pow_pos (by decide);have T_:0<o*2^k:=Int.mul_pos ho hz;have d:u∣o*2^k:=by
  have:u∣t*(o*2^k):=⟨2^k+o*m,by rw[show t*(o*2^k)=_ from h];grind⟩;exact jn this (by rw[Int.gcd_comm];exact hg)
 have hle:=Int.le_of_dvd T_ d;have bz:Bd (k+1) ((2:Int)^k):=by
  unfold Bd;rw[Int.natAbs_pow];exact Nat.pow_lt_pow_right (by decide) (by lia)
 have T':=bo.mul bz;have bu:Bd (k+103) u:=by
  unfold Bd at*;have e:102+(k+1)=k+103:=by lia
  rw[e] at T';lia
 refine⟨?_,bu.mono (by lia)⟩;have bm:Bd (k+105) m:=by
  have b3:Bd 103 b:=by unfold Bd;lia
  have:=b3.mul bz;unfold Bd at*;have e:103+(k+1)=k+104:=by lia
  rw[e] at this;have e2:(2:Nat)^(k+105)=2^(k+104)*2:=Nat.pow_succ ..;lia
 have bom:=bo.mul bm;have bs:Bd (k+209) (2^k+o*m):=((bz.mono (n:=k+207) (by lia)).add (bom.mono (n:=k+207) (by lia))).mono (by lia);have key:t.natAbs<=(2^k+o*m).natAbs:=by
  have e:t.natAbs*(o*2^k).natAbs=(2^k+o*m).natAbs*u.natAbs:=by rw[<-Int.natAbs_mul,<-Int.natAbs_mul,show t*(o*2^k)=_ from h]
  have h3:u.natAbs<=(o*2^k).natAbs:=by lia
  have h4:(2^k+o*m).natAbs*u.natAbs<=(2^k+o*m).natAbs*(o*2^k).natAbs:=Nat.mul_le_mul_left _ h3;have h5:t.natAbs*(o*2^k).natAbs<=(2^k+o*m).natAbs*(o*2^k).natAbs:=Nat.le_trans (Nat.le_of_eq e) h4;exact Nat.le_of_mul_le_mul_right h5 (by lia)
 unfold Bd at*;have e2:(2:Nat)^(k+210)=2^(k+209)*2:=Nat.pow_succ ..;lia
theorem Pt.val{o:Int}{k:Nat}{m t u:Int}(h:Pt o k m t u)(ho:0<o)(hu:0<u):(t:Rat)/(u:Rat)=1/(o:Rat)+(m:Rat)/2^k:=by
 have Ak:(o:Rat)≠0:=fun z=>by
  have:=Rat.intCast_inj.mp (show(o:Rat)=((0:Int):Rat) from z);lia
 have dM:(u:Rat)≠0:=fun z=>by
  have:=Rat.intCast_inj.mp (show(u:Rat)=((0:Int):Rat) from z);lia
 have hz:(2:Rat)^k≠0:=fun z=>by
  have:(0:Rat)<2^k:=Rat.pow_pos (by grind);grind
 have e:(t:Rat)*((o:Rat)*2^k)=(2^k+(o:Rat)*(m:Rat))*(u:Rat):=by
  have:=congrArg (fun z:Int=>(z:Rat)) h;simp only[Rat.intCast_mul,Rat.intCast_add,Rat.intCast_pow] at this;exact this
 generalize (2:Rat)^k=z at*;generalize (o:Rat)=o' at*;generalize (u:Rat)=u' at*;generalize (t:Rat)=t' at*;generalize (m:Rat)=m' at*;grind
theorem nB:∀(l:List Int)(b:Int),b=1\/b=-1->(∀x∈l,x=0\/x=1\/x=-1)->(-1)^cg b l=b*l.foldl (fun b s=>if s≠0 then s else b) b
 |[],b,hb,_=>by
  show(-1:Int)^0=b*b;rcases hb with rfl|rfl<;>rfl
 |x::r,b,hb,h=>by
  have hx:=h x List.mem_cons_self;have hr:=fun y hy=>h y (List.mem_cons_of_mem _ hy);show(-1:Int)^((if x*b<0 then 1 else 0)+cg (if x≠0 then x else b) r)=b*r.foldl (fun b s=>if s≠0 then s else b) (if x≠0 then x else b);rcases hx with rfl|hx
  ·rw[if_neg (by lia),if_neg (by lia),Nat.zero_add];exact nB r b hb hr
  ·have K9:x≠0:=by lia
   rw[if_pos K9,Int.pow_add];rw[nB r x hx hr];have:(-1:Int)^(if x*b<0 then 1 else 0)=b*x:=by
    rcases hb with rfl|rfl<;>rcases hx with rfl|rfl<;>rfl
   rw[this];have:x*x=1:=by rcases hx with rfl|rfl<;>rfl
   generalize List.foldl _ x r=z;grind
theorem zr{l:List Int}{s:Int}(hs:s≠0)(b:Int):(l++[s]).foldl (fun b s=>if s≠0 then s else b) b=s:=by
 rw[List.foldl_append];show(if s≠0 then s else _)=s;rw[if_pos hs]
theorem x_(x:Re):aT x=0\/aT x=1\/aT x=-1:=by
 rcases aS x with z|z|z
 ·exact .inr (.inr z.2)
 ·exact .inl z.2
 ·exact .inr (.inl z.2)
theorem tD{x:Re}:∀{ps:List Po}{l:Po},zm x (ps++[l])->at' x l≠0
 |[],l,h=>h
 |[a],l,h=>h
 |a::b::[],l,h=>h.2
 |a::b::c::r,l,h=>tD (ps:=b::c::r) h.2
theorem Ea{p0 l:Po}{r:List Po}(hc:∀x:Re,zm x (p0::(r++[l]))){a b:Rat}(jk:a<=b)(ha:at' (q a) p0≠0)(hb:at' (q b) p0≠0):
 aT (at' (q a) p0)*aT (at' (q b) p0)=(-1)^cg 0 (d9 (q a) (p0::(r++[l])))*(-1)^cg 0 (d9 (q b) (p0::(r++[l]))):=by
 have hl:∀x:Re,at' x l≠0:=fun x=>tD (ps:=p0::r) (hc x);have x':aT (at' (q a) l)=aT (at' (q b) l):=by
  refine iW (φ:=fun t=>aT (at' (q t) l)) (fun x=>?_) jk;obtain⟨d,hd,h⟩:=jl (hl x);exact⟨d,hd,fun s t hs ht=>by rw[h _ hs,h _ ht]⟩
 have key:∀c:Rat,at' (q c) p0≠0->(-1)^cg 0 (d9 (q c) (p0::(r++[l])))=aT (at' (q c) p0)*aT (at' (q c) l):=fun c CY=>by
  have h1:=qB CY;have e:d9 (q c) (p0::(r++[l]))=aT (at' (q c) p0)::(d9 (q c) r++[aT (at' (q c) l)]):=by
   unfold d9;rw[List.map_cons,List.map_append];rfl
  rw[e];have e2:cg 0 (aT (at' (q c) p0)::(d9 (q c) r++[aT (at' (q c) l)]))=cg (aT (at' (q c) p0)) (d9 (q c) r++[aT (at' (q c) l)]):=by
   show(if aT (at' (q c) p0)*0<0 then 1 else 0)+cg (if aT (at' (q c) p0)≠0 then aT (at' (q c) p0) else 0) _=_;rw[if_neg (by lia),if_pos (fun z=>CY (bc z))];lia
  rw[e2,nB _ _ (h1.symm) (fun x hx=>?_),zr (fun z=>hl _ (bc z))];rcases List.mem_append.mp hx with z|z
  ·obtain⟨y,_,rfl⟩:=List.mem_map.mp z;exact x_ _
  ·rw[List.mem_singleton.mp z];exact x_ _
 rw[key a ha,key b hb,x'];have:=qB (hl (q b));have h2:aT (at' (q b) l)*aT (at' (q b) l)=1:=by rcases this with z|z<;>rw[z]<;>rfl
 generalize aT (at' (q b) l)=z at*;grind
end Po
end SF
namespace SF
open Lean.Grind
namespace Po
open Re
theorem Bx{x:Re}{L r:Rat}(hL:0<L)(hr:0<r)(hx:q (2*r)<=Re.ab x){e:Int}(he:RR.ra (e:Rat)=L):∀l:List Int,(∀k,k<l.length->RR.ra ((co l (l.length-1-k):Int):Rat)<=L*r^(k+1))->q (L*r^l.length)<=Re.ab (at' x (aq (l++[e])))
 |[],_=>by
  show q (L*r^0)<=Re.ab (at' x (aq [e]));have e1:at' x (aq [e])=(e:Re):=by rw[fi,dt,iq];grind
  have e2:L*r^0=L:=by rw[Rat.pow_zero];grind
  rw[e1,cV,D',he,e2];exact Re.cy.mpr Rat.le_refl
 |a::l,h=>by
  have ih:=Bx hL hr hx he l fun k hk=>by
   have:=h k (by rw[List.length_cons];lia);have e1:(a::l).length-1-k=(l.length-1-k)+1:=by rw[List.length_cons];lia
   rw[e1] at this;exact this
  have ha:=h l.length (by rw[List.length_cons];lia);have e0:(a::l).length-1-l.length=0:=by rw[List.length_cons];lia
  rw[e0] at ha;have Wz:Re.ab (a:Re)<=q (L*r^(l.length+1)):=by
   rw[cV,D'];exact Re.cy.mpr ha
  show q (L*r^(l.length+1))<=Re.ab (at' x (aq (a::(l++[e]))));rw[fi];generalize at' x (aq (l++[e]))=A at ih ⊢;have hp:0<=L*r^l.length:=Rat.le_of_lt (Rat.mul_pos hL (Rat.pow_pos hr));have vx:0<=2*r:=by grind
  have m1:q (2*r)*q (L*r^l.length)<=Re.ab x*Re.ab A:=Re.mul_le_mul hx ih (Re.aF x) (by rw[<-Re.fW];exact Re.cy.mpr hp);rw[<-Re.fy,<-Re.bT] at m1;have e3:2*r*(L*r^l.length)=L*r^(l.length+1)+L*r^(l.length+1):=by rw[Rat.pow_succ];grind
  rw[e3,Re.lI] at m1;have m2:=Re.fV ((a:Re)+x*A) (-(a:Re));rw[Re.vE] at m2;have e4:(a:Re)+x*A+-(a:Re)=x*A:=by grind
  rw[e4] at m2;grind
theorem HW{xs:List Int}(hn:xs≠[]){r:Int}(hr:0<r)(hl:co xs (xs.length-1)≠0)(W:∀k,k<xs.length-1->ab (co xs (xs.length-2-k))<=ab (co xs (xs.length-1))*r^(k+1)){x:Re}(hx:q (2*(r:Rat))<=Re.ab x):at' x (aq xs)≠0:=by
 have FU:∀a:Int,RR.ra (a:Rat)=((ab a:Int):Rat):=fun a=>by
  unfold RR.ra ab;split
  ·rename_i h;have h2:a<0:=Rat.intCast_lt_intCast.mp h;have e:((a.natAbs:Nat):Int)=-a:=by lia
   rw[e,Rat.intCast_neg]
  ·rename_i h;have h2:¬a<0:=fun z=>h (Rat.intCast_lt_intCast.mpr z);have e:((a.natAbs:Nat):Int)=a:=by lia
   rw[e]
 have Dw:(0:Rat)<(r:Rat):=Rat.intCast_pos.mpr hr;have fx:=List.length_pos_iff.mpr hn;have OM:xs=xs.dropLast++[co xs (xs.length-1)]:=by
  have h1:=(List.dropLast_concat_getLast hn).symm;have h2:xs.getLast hn=co xs (xs.length-1):=by
   rw[List.getLast_eq_getElem,<-bP]
  rw[h2] at h1;exact h1
 have Ua:xs.dropLast.length=xs.length-1:=List.length_dropLast;have hL:(0:Rat)<((ab (co xs (xs.length-1)):Int):Rat):=Rat.intCast_pos.mpr (fw hl);have key:=Bx (x:=x) hL Dw hx (e:=co xs (xs.length-1)) (FU _) xs.dropLast fun k hk=>by
  rw[Ua] at hk ⊢;have hi:xs.length-1-1-k<xs.length-1:=by lia
  have e1:co xs.dropLast (xs.length-1-1-k)=co xs (xs.length-2-k):=by
   have e2:xs.length-1-1-k=xs.length-2-k:=by lia
   rw[e2];have h3:xs.length-2-k<xs.dropLast.length:=by lia
   rw[bP h3,bP (by lia),List.getElem_dropLast]
  rw[e1,FU];have:=Rat.intCast_le_intCast.mpr (W k hk);rw[Rat.intCast_mul,Rat.intCast_pow] at this;exact this
 rw[<-OM] at key;intro z;rw[z] at key;have h0:Re.ab (0:Re)=0:=by unfold Re.ab;rw[if_neg (by grind)]
 rw[h0,<-Re.fW] at key;have h2:=Re.cy.mp key;have h3:(0:Rat)<((ab (co xs (xs.length-1)):Int):Rat)*(r:Rat)^xs.dropLast.length:=Rat.mul_pos hL (Rat.pow_pos Dw);grind
theorem Ub{z:Rat}(h:0<z):aT (q z)=1:=bK (by rw[<-Re.fW];exact Re.dP.mpr h)
theorem vL(a b:Rat):q (a-b)=q a-q b:=by
 have e:a-b=a+-b:=by grind
 rw[e,Re.lI,Re.pb];grind
theorem HX{z n:Rat}(h1:1<=n)(h:n+1<=z\/z<=-(n+1)):n<z*z:=by
 rcases h with h|h
 ·have:=Rat.mul_le_mul_of_nonneg_left h (show(0:Rat)<=z by grind);have:=Rat.mul_le_mul_of_nonneg_left (show 1<=z by grind) (show(0:Rat)<=n+1 by grind);grind
 ·have:=Rat.mul_le_mul_of_nonneg_left (show n+1<=-z by grind) (show(0:Rat)<=-z by grind);have:=Rat.mul_le_mul_of_nonneg_left (show 1<=-z by grind) (show(0:Rat)<=n+1 by grind);grind
end Po
theorem By{t u t' u':Int}(hu:0<u)(dM:0<u')(g:Int.gcd t u=1)(g':Int.gcd t' u'=1)(e:t*u'=t'*u):t=t'/\u=u':=by
 have d1:u∣u':=Po.jn (b:=t) ⟨t',by rw[e];grind⟩ (by rw[Int.gcd_comm];exact g);have d2:u'∣u:=Po.jn (b:=t') ⟨t,by rw[<-e];grind⟩ (by rw[Int.gcd_comm];exact g');have ed:u=u':=Int.le_antisymm (Int.le_of_dvd dM d1) (Int.le_of_dvd hu d2);subst ed;exact⟨Int.eq_of_mul_eq_mul_right (Int.ne_of_gt hu) e,rfl⟩
noncomputable abbrev Q4:=Int×Int×Int×Int
noncomputable def tE(t u t' u':Int):Int:=rt (t*u'+t'*u) (2*u*u')
noncomputable def qE(t u t' u':Int):Int:=ru (t*u'+t'*u) (2*u*u')
theorem HY{t u t' u':Int}(hu:0<u)(dM:0<u'):0<qE t u t' u'/\Int.gcd (tE t u t' u') (qE t u t' u')=1/\tE t u t' u'*(2*u*u')=(t*u'+t'*u)*qE t u t' u':=by
 have hb:2*u*u'≠0:=Int.ne_of_gt (Int.mul_pos (by lia) dM);exact⟨Hd hb,Ku hb,DB hb⟩
theorem BA{t u t' u' c d:Int}(hu:0<u)(dM:0<u')(hd:0<d)(hg:Int.gcd c d=1)(e:c*(2*u*u')=(t*u'+t'*u)*d):c=tE t u t' u'/\d=qE t u t' u':=by
 obtain⟨h1,h2,h3⟩:=HY (t:=t) (t':=t') hu dM;refine By hd h1 hg h2 ?_;have hb:2*u*u'≠0:=Int.ne_of_gt (Int.mul_pos (by lia) dM);generalize 2*u*u'=b at*;generalize t*u'+t'*u=a at*;generalize tE t u t' u'=c' at*;generalize qE t u t' u'=d' at*;refine Int.eq_of_mul_eq_mul_right hb ?_;have:c*d'*b=c*b*d':=by grind
 rw[this,e];have:c'*d*b=c'*b*d:=by grind
 rw[this,h3];grind
noncomputable def jC(δ:Int->Int->Int->Int->Int):Nat->Int->Int->Int->Int->List Q4
 |0,_,_,_,_=>[]
 |n+1,t,u,t',u'=>
  if δ t u t' u'=1 then[(t,u,t',u')]
  else if 1<δ t u t' u' then jC δ n t u (tE t u t' u') (qE t u t' u')++jC δ n (tE t u t' u') (qE t u t' u') t' u'
  else[]
theorem BB{δ:Int->Int->Int->Int->Int}{n:Nat}{t u t' u':Int}(h:δ t u t' u'=1):jC δ (n+1) t u t' u'=[(t,u,t',u')]:=if_pos h
theorem BC{δ:Int->Int->Int->Int->Int}{n:Nat}{t u t' u':Int}(h:1<δ t u t' u'):jC δ (n+1) t u t' u'=jC δ n t u (tE t u t' u') (qE t u t' u')++jC δ n (tE t u t' u') (qE t u t' u') t' u':=
 (if_neg (by lia)).trans (if_pos h)
theorem Eb{δ:Int->Int->Int->Int->Int}{n:Nat}{t u t' u':Int}(h:¬δ t u t' u'=1)(h2:¬1<δ t u t' u'):jC δ (n+1) t u t' u'=[]:=(if_neg h).trans (if_neg h2)
end SF
namespace SF
open Lean.Grind
namespace Po
open Re
open Classical in
noncomputable def nR:List Re->Rat->Int
 |[],_=>0
 |x::r,t=>(if x<=q t then 1 else 0)+nR r t
open Classical in
theorem FV(x:Re):∀{rs:List Re},rs.Nodup->∃d:Rat,0<d/\∃n0:Int,∀t:Rat,Re.ab (q t-x)<q d->nR rs t=n0+(if x∈rs/\x<=q t then 1 else 0)
 |[],_=>⟨1,by decide,0,fun t _=>by
  rw[if_neg (fun z=>nomatch z.1)];rfl⟩
 |y::r,nd=>by
  rw[List.nodup_cons] at nd;obtain⟨d,hd,n0,h⟩:=FV x nd.2;by_cases e:y=x
  ·subst e;refine⟨d,hd,n0,fun t ht=>?_⟩;show(if y<=q t then 1 else 0)+nR r t=_;rw[h t ht,if_neg (c:=y∈r/\y<=q t) (fun z=>nd.1 z.1)];by_cases c:y<=q t
   ·rw[if_pos c,if_pos ⟨List.mem_cons_self,c⟩];lia
   ·rw[if_neg c,if_neg (fun z=>c z.2)];lia
  ·have hp:0<Re.ab (x-y):=by
    have:x-y≠0:=fun z=>e (by grind);unfold Re.ab;rcases aS (x-y) with w|w|w
    ·rw[if_pos w.1];grind
    ·exact absurd w.1 this
    ·rw[if_neg (by grind)];exact w.1
   obtain⟨e1,OF,QQ⟩:=Re.small hp;obtain⟨m,hm,m1,m2⟩:=kb hd OF;refine⟨m,hm,n0+(if y<=x then 1 else 0),fun t ht=>?_⟩;show(if y<=q t then 1 else 0)+nR r t=_;have k:(y<=q t)↔(y<=x):=by
    have g1:=dc.mp ht;have g2:q m<Re.ab (x-y):=by grind
    unfold Re.ab at g2;split at g2<;>constructor<;>intro h<;>grind
   have k2:(x∈y::r/\x<=q t)↔(x∈r/\x<=q t):=by
    rw[List.mem_cons];constructor
    ·rintro⟨z|z,z2⟩
     ·exact absurd z.symm e
     ·exact⟨z,z2⟩
    ·rintro⟨z,z2⟩;exact⟨.inr z,z2⟩
   rw[h t (by grind)];simp only[k,k2];lia
open Classical in
theorem Ec{f:Po}{rs:List Re}(nd:rs.Nodup)(hr:∀x,at' x f=0↔x∈rs)(x:Re):∃d:Rat,0<d/\∃n0:Int,∀t:Rat,Re.ab (q t-x)<q d->nR rs t=n0+(if at' x f=0/\x<=q t then 1 else 0):=by
 obtain⟨d,hd,n0,h⟩:=FV x nd;refine⟨d,hd,n0,fun t ht=>?_⟩;rw[h t ht];simp only[hr]
theorem qF{f:Po}{a b:Rat}(jk:a<=b)(h:aT (at' (q a) f)≠aT (at' (q b) f)):∃x:Re,at' x f=0:=by
 by_cases ex:∃x:Re,at' x f=0
 ·exact ex
 ·exfalso;refine h (iW (φ:=fun t=>aT (at' (q t) f)) (fun x=>?_) jk);obtain⟨d,hd,hn⟩:=jl (x:=x) (f:=f) (fun z=>ex ⟨x,z⟩);exact⟨d,hd,fun s t hs ht=>by rw[hn _ hs,hn _ ht]⟩
theorem yb{m:Int}(hm:0<m):∃s:Re,0<s/\s*s=(m:Re):=by
 have ev:∀x:Re,at' x (aq [0-m,0,1])=x*x-(m:Re):=fun x=>by
  rw[QV,pz,c0,c1];grind
 have K_:(1:Rat)<=(m:Rat):=by
  have:((1:Int):Rat)<=(m:Rat):=Rat.intCast_le_intCast.mpr (by lia);exact this
 have I_:=dQ hm;have v0:aT (at' (q 0) (aq [0-m,0,1]))=-1:=by
  rw[ev,Re.fW];exact cG (by grind)
 have v1:aT (at' (q ((m:Rat)+1)) (aq [0-m,0,1]))=1:=by
  have e:at' (q ((m:Rat)+1)) (aq [0-m,0,1])=q (((m:Rat)+1)*((m:Rat)+1)-(m:Rat)):=by rw[ev,vL,Re.fy,cV]
  rw[e];exact Ub (by have:=HX (z:=(m:Rat)+1) K_ (.inl Rat.le_refl);grind)
 obtain⟨x,hx⟩:=qF (f:=aq [0-m,0,1]) (a:=0) (b:=(m:Rat)+1) (by grind) (by rw[v0,v1];decide);rw[ev] at hx;have zt:x*x=(m:Re):=by grind
 rcases aS x with w|w|w
 ·exact⟨-x,by grind,by grind⟩
 ·exfalso;rw[w.1] at zt;grind
 ·exact⟨x,w.1,zt⟩
end Po
end SF
namespace SF
open Lean.Grind
namespace Po
open Re
noncomputable def ot(m:Int):Prop:=0<m/\∀k:Int,k*k≠m
theorem K'{m n:Int}(hn:0<=n)(h1:n*n<m)(h2:m<(n+1)*(n+1)):ot m:=by
 refine⟨Int.lt_of_le_of_lt (Int.mul_nonneg hn hn) h1,fun k e=>?_⟩;have e2:((k.natAbs:Nat):Int)*((k.natAbs:Nat):Int)=m:=by rw[<-e];exact Int.natAbs_mul_self
 have h0:0<=((k.natAbs:Nat):Int):=Int.natCast_nonneg _;generalize ((k.natAbs:Nat):Int)=j at*;rcases Int.lt_or_le n j with z|z
 ·have:=Int.mul_le_mul (show n+1<=j from z) (show n+1<=j from z) (by lia) h0;lia
 ·have:=Int.mul_le_mul z z h0 hn;lia
noncomputable def qd(p m d:Int):List Int:=[p*p-m,0-2*p*d,d*d]
theorem FW(x:Re)(p m d:Int):at' x (aq (qd p m d))=(x*(d:Re)-(p:Re))*(x*(d:Re)-(p:Re))-(m:Re):=by
 unfold qd;rw[QV,pz,pz,Ring.intCast_mul,Ring.intCast_mul,Ring.intCast_mul,Ring.intCast_mul,c0,c2];grind
theorem gP{p m d:Int}(hd:0<d):Tr (qd p m d):=D9 (xs:=[p*p-m,0-2*p*d]) (Int.ne_of_gt (Int.mul_pos hd hd))
theorem lM(p m d:Int):qd p m d≠[]:=by unfold qd;simp
theorem vM{p m d:Int}(hm:ot m)(r:Rat):at' (q r) (aq (qd p m d))≠0:=fun z=>by
 have e0:at' (q r) (aq (qd p m d))=q ((r*(d:Rat)-(p:Rat))*(r*(d:Rat)-(p:Rat))-(m:Rat)):=by
  rw[FW,cV,cV,cV,vL,Re.fy,vL,Re.fy]
 rw[e0,<-Re.fW] at z;have z2:=xR z;obtain⟨k,hk⟩:=HQ (s:=r*(d:Rat)-(p:Rat)) (n:=m) (by grind);exact hm.2 k hk
theorem yc{xs:List Int}(h:Tr xs)(x:Re):at' x (aq xs)=((cont xs:Int):Re)*at' x (aq (ar xs)):=by
 rw[<-mx];congr 1;refine ext fun i=>?_;rw[aV,aY,aY];by_cases hi:i<xs.length
 ·rw[<-gJ hi];exact Int.mul_comm _ _
 ·rw[cx (by lia),cx (by rw[aP];lia)];lia
theorem BD{xs:List Int}(h:Tr xs)(hn:xs≠[])(hl:0<co xs (xs.length-1)):0<cont xs:=by
 have hp:=List.length_pos_iff.mpr hn;have h1:=ie h hn;have h2:=gJ (xs:=xs) (i:=xs.length-1) (by lia);rw[<-h2] at hl;exact Int.pos_of_mul_pos_right hl h1
section
variable {p m d:Int}
theorem qG(hd:0<d):0<cont (qd p m d):=BD (gP hd) (lM _ _ _) (Int.mul_pos hd hd)
theorem qH(hd:0<d)(x:Re):at' x (aq (ar (qd p m d)))=0↔at' x (aq (qd p m d))=0:=by
 rw[yc (gP hd)];have hc:=dQ (qG (p:=p) (m:=m) hd);constructor
 ·intro z;rw[z];grind
 ·intro z;by_cases w:at' x (aq (ar (qd p m d)))=0
  ·exact w
  ·exact absurd z (Re.dC (by grind) w)
theorem HZ(hd:0<d)(x:Re):aT (at' x (aq (ar (qd p m d))))=aT (at' x (aq (qd p m d))):=by
 rw[yc (gP hd),fC,bK (dQ (qG hd))];lia
theorem FX(hd:0<d)(hm:ot m):Fk (aq (ar (qd p m d))):=by
 have ht:=bW (gP (p:=p) (m:=m) hd);refine⟨K5 (.inl ?_) fun r z=>?_,cJ (gP hd) (lM _ _ _),eY (gP hd) (lM _ _ _)⟩
 ·rw[bB ht,aP];rfl
 ·exact vM hm r ((qH hd _).mp z)
theorem FY(hd:0<d)(hm:ot m):uN (qd p m d)=ar (qd p m d):=by
 refine j6 (Hz _) (bW (gP hd)) ?_;have e1:cO [aq (ar (qd p m d))]=aq (ar (qd p m d)):=by
  show aq (ar (qd p m d))*1=_;grind
 have ez:aq (qd p m d)=K (cont (qd p m d))*aq (ar (qd p m d)):=ext fun i=>by
  rw[aV,aY,aY];by_cases hi:i<(qd p m d).length
  ·rw[<-gJ hi];exact Int.mul_comm _ _
  ·rw[cx (by lia),cx (by rw[aP];lia)];lia
 have hc:cont (qd p m d)≠0:=Int.ne_of_gt (qG hd);have:=vI (gP hd) (lM p m d) (gs:=[aq (ar (qd p m d))]) (fun g hg=>by rw[List.mem_singleton.mp hg];exact FX hd hm) (List.nodup_cons.mpr ⟨by simp,List.nodup_nil⟩) (fun π WA=>by
  rw[e1,ez]
  exact⟨fun z=>z.xy hc,fun z=>z.mulL _⟩);rw[this,e1]
theorem H0(hd:0<d)(hm:ot m):CZ (aq (ar (qd p m d))) (aq (ar (qd p m d))):=by
 have e1:cO [aq (ar (qd p m d))]=aq (ar (qd p m d)):=by
  show aq (ar (qd p m d))*1=_;grind
 have:=s_ (gs:=[aq (ar (qd p m d))]) (fun g hg=>by rw[List.mem_singleton.mp hg];exact FX hd hm) (List.nodup_cons.mpr ⟨by simp,List.nodup_nil⟩);rw[e1] at this;exact this
end
noncomputable def ov(y:Re)(d:Int):Re:=y*q (1/(d:Rat))
theorem vN{d:Int}(hd:0<d)(y:Re):ov y d*(d:Re)=y:=by
 have IS:(0:Rat)<(d:Rat):=Rat.intCast_pos.mpr hd;have e:q (1/(d:Rat))*(d:Re)=1:=by
  rw[cV,<-Re.fy,Rat.div_mul_cancel (by grind)];rfl
 unfold ov;have:y*q (1/(d:Rat))*(d:Re)=y*(q (1/(d:Rat))*(d:Re)):=by grind
 rw[this,e];grind
theorem qI{d:Int}(hd:0<d)(y t:Re):aT (t*(d:Re)-y)=aT (t-ov y d):=by
 have e:t*(d:Re)-y=(t-ov y d)*(d:Re):=by
  have:=vN hd y;grind
 rw[e,fC,bK (dQ hd)];lia
theorem La{d:Int}(hd:0<d){y z:Re}(h:y<z):ov y d<ov z d:=by
 have h1:=qI hd z (ov y d);rw[vN hd,cG (show y-z<0 by grind)] at h1;have:=HS h1.symm;grind
section
variable {p m d:Int} {s:Re}
theorem yd(hd:0<d)(hs:s*s=(m:Re))(t:Re):aT (at' t (aq (ar (qd p m d))))=aT (t-ov ((p:Re)-s) d)*aT (t-ov ((p:Re)+s) d):=by
 rw[HZ hd,FW,<-qI hd,<-qI hd,<-fC];congr 1;rw[<-hs];grind
theorem BE(hd:0<d)(hs:s*s=(m:Re))(t:Re):at' t (aq (ar (qd p m d)))=0↔t∈[ov ((p:Re)-s) d,ov ((p:Re)+s) d]:=by
 have h:=yd (p:=p) hd hs t;constructor
 ·intro z;rw[z,bC] at h;rcases Int.mul_eq_zero.mp h.symm with w|w
  ·have:=bc w;rw[show t=ov ((p:Re)-s) d by grind];exact List.mem_cons_self
  ·have:=bc w;rw[show t=ov ((p:Re)+s) d by grind];exact List.mem_cons_of_mem _ List.mem_cons_self
 ·intro z;refine bc ?_;rw[h];rcases List.mem_cons.mp z with w|w
  ·have:t-ov ((p:Re)-s) d=0:=by rw[w];grind
   rw[this,bC,Int.zero_mul]
  ·have:t-ov ((p:Re)+s) d=0:=by rw[List.mem_singleton.mp w];grind
   rw[this,bC,Int.mul_zero]
end
structure nC(zs:List Int)(x:Re)(lo hi:Rat):Prop where
 ge:q lo<=x
 le:x<=q hi
 st:lo<hi->q lo<x/\x<q hi
 sn:∃c:Int,(c=1\/c=-1)/\∀t:Rat,lo<=t->t<=hi->aT (at' (q t) (aq zs))=c*aT (q t-x)
theorem nC.ratio{t u:Int}(hu:0<u):nC [-t,u] (q ((t:Rat)/(u:Rat))) ((t:Rat)/(u:Rat)) ((t:Rat)/(u:Rat)):=by
 refine⟨Re.cy.mpr Rat.le_refl,Re.cy.mpr Rat.le_refl,fun z=>?_,1,.inl rfl,fun z _ _=>?_⟩
 ·exfalso;grind
 ·have dM:(0:Rat)<(u:Rat):=Rat.intCast_pos.mpr hu;have e:-t=0-t:=by lia
  rw[e,HU];have e2:(t:Re)=q ((t:Rat)/(u:Rat))*(u:Re):=by
   rw[cV,cV,<-Re.fy,Rat.div_mul_cancel (by grind)]
  have e3:q z*(u:Re)-(t:Re)=(q z-q ((t:Rat)/(u:Rat)))*(u:Re):=by
   generalize q ((t:Rat)/(u:Rat))=y at*;rw[e2];grind
  rw[e3,fC,bK (dQ hu)];lia
theorem nC.part{zs:List Int}{x:Re}{lo hi zu Ae:Rat}(h:nC zs x lo hi)(h1:lo<=zu)(h2:Ae<=hi)(ab:(zu<Ae/\aT (at' (q zu) (aq zs))*aT (at' (q Ae) (aq zs))=-1)\/(zu=Ae/\at' (q zu) (aq zs)=0)):nC zs x zu Ae:=by
 obtain⟨c,hc,hs⟩:=h.sn;have cc:c*c=1:=by rcases hc with rfl|rfl<;>decide
 rcases ab with⟨a1,a2⟩|⟨a1,a2⟩
 ·rw[hs zu h1 (by grind),hs Ae (by grind) h2] at a2;have e:c*aT (q zu-x)*(c*aT (q Ae-x))=c*c*(aT (q zu-x)*aT (q Ae-x)):=by grind
  rw[e,cc,Int.one_mul] at a2;have hq:=Re.dP.mpr a1;have k:q zu<x/\x<q Ae:=by
   rcases aS (q zu-x) with w|w|w<;>rcases aS (q Ae-x) with v|v|v<;>rw[w.2,v.2] at a2<;>first|(exfalso;revert a2;decide)|(constructor<;>grind)|(exfalso;grind)
  exact⟨by grind,by grind,fun _=>k,c,hc,fun t t1 t2=>hs t (by grind) (by grind)⟩
 ·subst a1;have z:=hs zu h1 h2;rw[a2,bC] at z;have z2:aT (q zu-x)=0:=by
   rcases hc with rfl|rfl<;>lia
  have z3:=bc z2;exact⟨by grind,by grind,fun w=>by exfalso;grind,c,hc,fun t t1 t2=>hs t (by grind) (by grind)⟩
end Po
end SF
namespace SF
namespace Po
open Re
open Classical in
noncomputable def sq(m:Int):Re:=if h:0<m then Classical.choose (yb h) else 0
theorem ye{m:Int}(h:0<m):0<sq m/\sq m*sq m=(m:Re):=by
 unfold sq;rw[dif_pos h];exact Classical.choose_spec (yb h)
noncomputable def ms:List Int:=[2,3,5,6,7,8,10,18,99,1000003]
theorem Lb:∀m∈ms,ot m/\Bd 24 m:=by
 intro m hm;unfold ms at hm;simp only[List.mem_cons,List.not_mem_nil,or_false] at hm;have one:∀n j:Int,0<=j->j*j<n->n<(j+1)*(j+1)->n<2^24->ot n/\Bd 24 n:=fun n j h1 h2 h3 h4=>⟨K' h1 h2 h3,by
  have:=(K' h1 h2 h3).1
  unfold Bd;lia⟩;rcases hm with rfl|rfl|rfl|rfl|rfl|rfl|rfl|rfl|rfl|rfl
 ·exact one 2 1 (by decide) (by decide) (by decide) (by decide)
 ·exact one 3 1 (by decide) (by decide) (by decide) (by decide)
 ·exact one 5 2 (by decide) (by decide) (by decide) (by decide)
 ·exact one 6 2 (by decide) (by decide) (by decide) (by decide)
 ·exact one 7 2 (by decide) (by decide) (by decide) (by decide)
 ·exact one 8 2 (by decide) (by decide) (by decide) (by decide)
 ·exact one 10 3 (by decide) (by decide) (by decide) (by decide)
 ·exact one 18 4 (by decide) (by decide) (by decide) (by decide)
 ·exact one 99 9 (by decide) (by decide) (by decide) (by decide)
 ·exact one 1000003 1000 (by decide) (by decide) (by decide) (by decide)
end Po
end SF
namespace L2
open PySem PySem.Spec PyProof.Rows
section
variable {X:Cx}
theorem qJ:fN X (.type "int") (fun xs H Q=>∃z n,xs=[.str z]/\intText? z=some n/\z.length<=640/\Q (.int n) H):=by
 intro pins s σ H xs us Q I r h;obtain⟨z,n,rfl,hn,hz,q⟩:=h;obtain⟨u,rfl,t,rfl⟩:=vals1 r;exact PySem.W.KIN.call_text hn hz ⟨.int n,H,I.tok _,⟨_,rfl⟩,q⟩
noncomputable def ON:V->Option Int->Option Int->Hp->VK->Prop:=fun x lo hi H Q=>∃z,x=.str z/\z.length<=sizeLine/\Q (.str (Txt.slice z lo hi)) H
theorem nD:NF X ON:=by
 intro pins s σ H x v vl vu lo hi sl Q I rx hs pl pu h;obtain⟨z,rfl,hz,q⟩:=h;obtain⟨t,rfl⟩:=rx;refine⟨"str",_,F.slot_str_getitem.lookup,typeIs_str _ _ _,?_⟩;have fin:∀t' k,EP X pins σ Q (.str (Txt.slice z lo hi) t') {s with toks:=k}:=fun t' k=>⟨.str _,H,I.tok _,⟨_,rfl⟩,q⟩;cases pl with
 |none=>
  cases pu with
  |none=>exact wpAny_getItem_str_slice (l:=none) (u:=none) (st:=none) hs rfl (post_val_or_str ⟨Nat.le_trans (Txt.slice_le z _ _) hz,fin⟩)
  |int j uj=>exact wpAny_getItem_str_slice (l:=none) (u:=some (j,uj)) (st:=none) hs rfl (post_val_or_str ⟨Nat.le_trans (Txt.slice_le z _ _) hz,fin⟩)
 |int i ui=>
  cases pu with
  |none=>exact wpAny_getItem_str_slice (l:=some (i,ui)) (u:=none) (st:=none) hs rfl (post_val_or_str ⟨Nat.le_trans (Txt.slice_le z _ _) hz,fin⟩)
  |int j uj=>exact wpAny_getItem_str_slice (l:=some (i,ui)) (u:=some (j,uj)) (st:=none) hs rfl (post_val_or_str ⟨Nat.le_trans (Txt.slice_le z _ _) hz,fin⟩)
end
end L2
namespace SF
open PySem
noncomputable abbrev S(l:List Nat):Str:=⟨l.toArray⟩
theorem cj(l:List Nat):(S l).length=l.length:=by show l.toArray.size=_;simp
theorem H_(z:Str):S z.cps.toList=z:=by cases z;rfl
theorem tF(a b:List Nat):S a++S b=S (a++b):=by
 show(⟨a.toArray++b.toArray⟩:Str)=⟨(a++b).toArray⟩;simp
theorem yf{a b:List Nat}(h:S a=S b):a=b:=by
 have:=congrArg (fun z:Str=>z.cps.toList) h;simpa using this
noncomputable def QY(c:Nat):Bool:=48<=c&&c<=57
noncomputable def oh(n:Nat):List Nat:=(Nat.toDigits 10 n).map Char.toNat
theorem Ed(n:Nat):(Str.ofString (toString ((n:Nat):Int)):Str)=S (oh n):=by
 rw[<-H_ (Str.ofString _)];congr 1;rw[PySem.W.KIN.signs_num];rfl
theorem yg(n:Nat):∀c∈oh n,48<=c/\c<=57:=by
 intro c hc;obtain⟨ch,rN,rfl⟩:=List.mem_map.mp hc;have:=Nat.isDigit_of_mem_toDigits (b:=10) (by decide) (by decide) rN;exact PyProof.Rows.digit_range this
theorem d7{n:Nat}(h:n<10):oh n=[48+n]:=by
 unfold oh;rw[Nat.toDigits_of_lt_base h];have:∀m:Nat,m<10->(Nat.digitChar m).toNat=48+m:=by decide
 rw[List.map_cons,List.map_nil,this n h]
theorem nE{n:Nat}(h:10<=n):oh n=oh (n/10)++[48+n%10]:=by
 have hm:n%10<10:=Nat.mod_lt n (by decide);have t:Nat.toDigits 10 (n/10)++Nat.toDigits 10 (n%10)=Nat.toDigits 10 (10*(n/10)+n%10):=Nat.toDigits_append_toDigits (by decide) (by lia) hm;rw[Nat.div_add_mod] at t;rw[<-d7 hm];unfold oh;rw[<-t,List.map_append]
theorem Ia(n:Nat):oh n≠[]:=by
 by_cases h:n<10
 ·rw[d7 h];simp
 ·rw[nE (by lia)];simp
theorem my:∀(k n:Nat),n<10^(k+1)->(oh n).length<=k+1
 |0,n,h=>by rw[d7 (by lia)];simp
 |k+1,n,h=>by
  by_cases OO:n<10
  ·rw[d7 OO];simp
  ·rw[nE (by lia),List.length_append];have:=my k (n/10) (Nat.div_lt_of_lt_mul (by rw[Nat.mul_comm,<-Nat.pow_succ];exact h));show _+1<=_;lia
theorem BF:∀(n:Nat),n≠0->(oh n).head?≠some 48:=by
 intro n
 induction n using Nat.strongRecOn with
 |_ n ih=>
  intro hn;by_cases OO:n<10
  ·rw[d7 OO];intro z;have:48+n=48:=Option.some.inj z;lia
  ·rw[nE (by lia)];have:=ih (n/10) (by lia) (by lia);cases hd:oh (n/10) with
   |nil=>exact absurd hd (Ia _)
   |cons a r=>
    rw[hd] at this;exact this
theorem Ee{l:List Nat}{i j:Nat}(h1:i<=j)(h2:j<=l.length):Txt.slice (S l) (some (i:Int)) (some (j:Int))=S ((l.drop i).take (j-i)):=by
 have:=PyProof.Rows.slice_closesL (x:=S l) (i:=(i:Int)) (j:=(j:Int)) (by lia) (by lia) (by rw[cj];lia);rw[eq_of_beq this];congr 1;have e:((j:Int)-(i:Int)).toNat=j-i:=by lia
 rw[e,Int.toNat_natCast]
end SF
namespace L2
open PySem PySem.Spec PyProof.Rows
section
variable {X:Cx}
end
end L2
namespace SF
open PySem
end SF
namespace SF
open PySem
theorem yh{i j:Nat}{n:Nat}:Builtin.Str.strSliceIndices (some (i:Int)) (some (j:Int)) 1 n=Builtin.Str.strSliceIndices (some ((min i n:Nat):Int)) (some ((min j n:Nat):Int)) 1 n:=by
 unfold Builtin.Str.strSliceIndices;have c:∀k:Nat,max (0:Int) (min (if(k:Int)<0 then(k:Int)+n else(k:Int)) n)=max (0:Int) (min (if((min k n:Nat):Int)<0 then((min k n:Nat):Int)+n else((min k n:Nat):Int)) n):=fun k=>by
  rw[if_neg (by lia),if_neg (by lia)];lia
 have e:(1:Int)>0:=by decide
 simp only[if_pos e];rw[c i,c j]
theorem Ef{j:Option Int}{n:Nat}:Builtin.Str.strSliceIndices none j 1 n=Builtin.Str.strSliceIndices (some ((0:Nat):Int)) j 1 n:=by
 unfold Builtin.Str.strSliceIndices;have e:(1:Int)>0:=by decide
 simp only[if_pos e];have:max (0:Int) (min (if((0:Nat):Int)<0 then((0:Nat):Int)+n else((0:Nat):Int)) n)=0:=by
  rw[if_neg (by decide)];lia
 rw[this]
theorem BG{i:Option Int}{n:Nat}:Builtin.Str.strSliceIndices i none 1 n=Builtin.Str.strSliceIndices i (some (n:Int)) 1 n:=by
 unfold Builtin.Str.strSliceIndices;have e:(1:Int)>0:=by decide
 simp only[if_pos e];have:max (0:Int) (min (if(n:Int)<0 then(n:Int)+n else(n:Int)) n)=n:=by
  rw[if_neg (by lia)];lia
 rw[this]
theorem Ib{l:List Nat}{i j:Nat}(h:i<=j):Txt.slice (S l) (some (i:Int)) (some (j:Int))=S ((l.drop i).take (j-i)):=by
 have e:Txt.slice (S l) (some (i:Int)) (some (j:Int))=Txt.slice (S l) (some ((min i l.length:Nat):Int)) (some ((min j l.length:Nat):Int)):=by
  unfold Txt.slice;rw[cj,yh]
 rw[e,Ee (by lia) (by lia)];by_cases hi:i<=l.length
 ·rw[Nat.min_eq_left hi];by_cases hj:j<=l.length
  ·rw[Nat.min_eq_left hj]
  ·rw[Nat.min_eq_right (by lia),List.take_of_length_le (by rw[List.length_drop];exact Nat.le_refl _),List.take_of_length_le (by rw[List.length_drop];lia)]
 ·rw[show min i l.length=l.length by lia,List.drop_eq_nil_of_le (Nat.le_refl _),List.drop_eq_nil_of_le (by lia),List.take_nil,List.take_nil]
theorem FZ{l:List Nat}{j:Nat}:Txt.slice (S l) none (some (j:Int))=S (l.take j):=by
 have e:Txt.slice (S l) none (some (j:Int))=Txt.slice (S l) (some ((0:Nat):Int)) (some (j:Int)):=by
  unfold Txt.slice;rw[Ef]
 rw[e,Ib (Nat.zero_le _)];rfl
theorem yi{l:List Nat}{i:Nat}:Txt.slice (S l) (some (i:Int)) none=S (l.drop i):=by
 have e:Txt.slice (S l) (some (i:Int)) none=Txt.slice (S l) (some (i:Int)) (some (l.length:Int)):=by
  unfold Txt.slice;rw[cj,BG]
 rw[e];by_cases hi:i<=l.length
 ·rw[Ib hi,List.take_of_length_le (by rw[List.length_drop];exact Nat.le_refl _)]
 ·have e2:Txt.slice (S l) (some (i:Int)) (some (l.length:Int))=Txt.slice (S l) (some (l.length:Int)) (some (l.length:Int)):=by
   unfold Txt.slice;rw[cj,yh,Nat.min_eq_right (by lia),Nat.min_self]
  rw[e2,Ib (Nat.le_refl _),List.drop_eq_nil_of_le (Nat.le_refl _),List.drop_eq_nil_of_le (by lia),List.take_nil]
noncomputable def tw(l:List Nat):Nat:=(l.takeWhile QY).length
noncomputable def fg(l:List Nat)(s:Nat):List Nat:=(l.drop s).takeWhile QY
noncomputable def nz(ds:List Nat):Bool:=(ds.take 1==[48])&&!decide (ds=[48])
noncomputable def vl(ds:List Nat):Option Nat:=if ds=[]\/12<ds.length\/nz ds=true then none else some (PySem.NumText.digitsVal ds)
noncomputable def Lc(l:List Nat)(i c:Nat):Bool:=(l.drop i).take 1==[c]
noncomputable def sz(l:List Nat)(s:Nat):Except Nat Nat:=if(Lc l (s+tw (l.drop s)) 120&&s==s+tw (l.drop s))=true then .ok 1 else match vl (fg l s) with
 |none=>.error s
 |some n=>if n=0\/(Lc l (s+tw (l.drop s)) 120=true/\n=1) then .error s else .ok n
noncomputable def pw(l:List Nat)(s:Nat):Except Nat (Nat×Nat):=if Lc l s 120=false then .ok (0,s) else if Lc l (s+1) 94=false then .ok (1,s+1) else match vl (fg l (s+2)) with
 |none=>.error (s+2)
 |some p=>if p<2\/12<p then .error (s+2) else .ok (p,s+2+tw (l.drop (s+2)))
noncomputable def pt(l:List Nat)(s above:Nat):Except Nat (Nat×Nat×Nat):=match sz l s with
 |.error e=>.error e
 |.ok n=>match pw l (s+tw (l.drop s)) with
  |.error e=>.error e
  |.ok (p,e)=>if above<=p then .error s else .ok (n,p,e)
noncomputable def tn(l:List Nat)(s:Nat):Option Bool:=if(l.drop s).take 3=[32,43,32] then some false else if(l.drop s).take 3=[32,45,32] then some true else none
noncomputable def un(l:List Nat)(s:Nat)(top:Int):Except Nat (Nat×Nat):=if Lc l s 47=false then .ok (1,s) else match vl (fg l (s+1)) with
 |none=>.error (s+1)
 |some u=>if u<2\/Int.gcd top u≠1 then .error (s+1) else .ok (u,s+1+tw (l.drop (s+1)))
end SF
namespace L2
open PySem PySem.Spec PyProof.Rows
section
variable {X:Cx}
noncomputable def Ic:V->List V->Hp->VK->Prop:=fun x vs H Q=>∃z n,x=.str z/\vs=[.int n]/\PadOk n=true/\Q (.str (Txt.zfill z n)) H
theorem BH:Mo X "str.zfill" Ic:=by
 intro pins s σ H x vs v us Q I rx rv h;obtain⟨z,n,rfl,rfl,hp,q⟩:=h;obtain⟨t,rfl⟩:=rx;obtain⟨u,rfl,t',rfl⟩:=vals1 rv;exact SC.zfill hp fun t' k=>⟨.str _,H,I.tok _,⟨_,rfl⟩,q⟩
noncomputable def Ld:V->List V->Hp->VK->Prop:=fun x vs H Q=>∃z y,x=.str z/\vs=[.str y]/\(y.length==0)=false/\z.length<=sizeLine/\∀p,H p=none->Q (.ref p) (upd H p (.tup [.str (Txt.partition z y).1,.str (Txt.partition z y).2.1,.str (Txt.partition z y).2.2]))
theorem qK:Mo X "str.partition" Ld:=by
 intro pins s σ H x vs v us Q I rx rv h;obtain⟨z,y,rfl,rfl,hy,hz,q⟩:=h;obtain⟨t,rfl⟩:=rx;obtain⟨u,rfl,t',rfl⟩:=vals1 rv;have hf:H s.heap.objs.size=none:=I.dE.fresh (Nat.le_refl _);have q':=q _ hf;refine call_meets F.slot_str_partition (typeIs_str _ _ _) F.entry_str_partition (F.args_str_partition_2 _ _) (meets_str_partition z y t t' hy hz) ?_;unfold Txt.partition at q';revert q';cases Builtin.Str.occurrences z y 0 z.length 1 with
 |nil=>
  intro q';exact⟨.ref s.heap.objs.size,_,I.laid (o:=.tup [.str z,.str Str.empty,.str Str.empty]) (t':=s.toks+1) (fun b u e=>Heap.get?_push_of_some _ e) (Nat.le_refl _) ⟨by show 3<=sizeLine;unfold sizeLine;decide,_,.cons ⟨_,rfl⟩ (.cons ⟨_,rfl⟩ (.cons ⟨_,rfl⟩ .nil)),⟨_,Heap.get?_push_size _ rfl,rfl,_,rfl⟩⟩,rfl,q'⟩
 |cons i r=>
  intro q';exact⟨.ref s.heap.objs.size,_,I.laid (o:=.tup [.str (Builtin.Str.strSub z 0 i),.str y,.str (Builtin.Str.strSub z (i+y.length) z.length)]) (t':=s.toks+1+1) (fun b u e=>Heap.get?_push_of_some _ e) (Nat.le_refl _) ⟨by show 3<=sizeLine;unfold sizeLine;decide,_,.cons ⟨_,rfl⟩ (.cons ⟨_,rfl⟩ (.cons ⟨_,rfl⟩ .nil)),⟨_,Heap.get?_push_size _ rfl,rfl,_,rfl⟩⟩,rfl,q'⟩
noncomputable def Le(z:Str):It:=⟨fun i _=>i<z.length,fun i H x H'=>H'=H/\∃c,z.cps[i]?=some c/\x=.str ⟨#[c]⟩,fun i _=>z.length<=i⟩
theorem BI{P:Program}{w:World}{K:PySem.W.Frag}{tg:Expr}(z:Str)(t:Tok)(it:Addr):Turn P w K tg (Le z) [it] it (fun i h=>h.IsStrIter it "str_ascii_iterator" z t i) where
 mem:=by simp
 obj:=fun i h st b hb=>by
  have e:b=it:=by simpa using hb
  subst e;obtain⟨o,e,c,d⟩:=st;exact⟨o,e,fun v z=>by rw[d] at z;cases z⟩
 keep:=fun i h h' st k=>by
  obtain⟨o,e,c,d⟩:=st;exact⟨o,k it (by simp) o e,c,d⟩
 item:=by
  intro X hP hw hK hc i pins s σ H E I hf st hg;subst hP hw hK;obtain⟨f0,f1,f2,f3,f4,f5⟩:=hf it (by simp);have Dt:i<z.cps.size:=hg;have hx:z.cps[i]?=some z.cps[i]:=Array.getElem?_eq_getElem Dt;refine wpAny_pyNext_ascii_item st hx fun h' Fe sb=>?_;have I1:Inv X pins σ H {s with heap:=h',toks:=s.toks+1}:=I.turned (t':=s.toks+1) (fun b o hb e=>(sb.2 b hb).trans e) f0 f1 f3 f4 f5;obtain⟨o,e,c,d⟩:=id Fe;exact⟨_,rfl,rS (s:={s with heap:=h',toks:=s.toks+1}) e c d (by decide) ⟨.str ⟨#[z.cps[i]]⟩,H,I1,⟨_,rfl⟩,⟨rfl,_,hx,rfl⟩,Fe,fun b hb=>(hf b hb).1⟩⟩
 done:=by
  intro X hP hw hK hc i pins s σ H E I hf st hg;subst hP hw hK;obtain⟨f0,f1,f2,f3,f4,f5⟩:=hf it (by simp);have Dt:z.cps.size<=i:=hg;exact wpAny_pyNext_ascii_end (I.ok.hd hc) st (Array.getElem?_eq_none Dt) fun h' eb=>⟨rfl,I.turned (t':=s.toks) (fun b o hb e=>eb b o hb e) f0 f1 f3 f4 f5⟩
 self:=fun _ _ _ _ _ st h=>wpAny_pyIter_striter_ascii st h
noncomputable def Lf(tl:TE):TI:=fun σ H R=>tl σ H fun x H1=>∃z,x=.str z/\z.cps.all (·<128)=true/\R (Le z) H1
theorem Ie{tg l:Expr}{tl:TE}(hl:PE X l tl):PI X tg l (Lf tl):=by
 intro pins s σ H R I h;refine c_ (hl pins s σ H _ I h) fun v s1⟨x,H1,I1,r1,q1⟩=>?_;obtain⟨z,e,ha,q⟩:=q1;subst e;obtain⟨t,rfl⟩:=r1;refine wpAny_pyIter_ascii ha ?_;refine⟨s1.heap.objs.size,[s1.heap.objs.size],_,_,H1,rfl,I1.kept (t':=s1.toks) fun b o e=>Heap.get?_push_of_some _ e,BI z t _,⟨_,Heap.get?_push_size _ rfl,rfl,rfl⟩,fun b hb=>?_,q⟩;have e:b=s1.heap.objs.size:=by simpa using hb
 subst e;exact I1.rR (Nat.le_refl _) (I1.dE.fresh (Nat.le_refl _))
theorem BJ{own:List Str}{fr:List Nat}{g:TG}{te:TE}{σ:St}{H1:Hp}{Q:VK}{z:Str}(Pv:List V->Prop)(hz:z.length<=sizeLine)(p0:Pv [])(hs:∀(i c:Nat)(r:St)(ys:List V)(H2:Hp),z.cps[i]?=some c->r.length=own.length->ys.length=i->Pv ys->au H1 H2->∀Z:V->St->Hp->Prop,(∀y dw H5,au H2 H5->Pv (ys++[y])->(∃r',r'.length=own.length/\dw=r'++p_ fr σ)->Z y dw H5)->g (.str ⟨#[c]⟩) (r++p_ fr σ) H2 fun dw H4=>te dw H4 fun y H5=>Z y dw H5)(hq:∀D H2 ys,H1 D=none->au H1 H2->H2 D=some (.lst ys)->ys.length=z.length->Pv ys->Q (.ref D) H2):jA (Le z) own fr σ g te H1 Q:=
 qa z.length Pv hz p0 (fun i r ys H2 hi hr hl hp dJ=>⟨hi,fun x H3 y=>by
  obtain⟨rfl,c,hc,rfl⟩:=y
  exact⟨au.refl _,hs i c r ys _ hc hr hl hp dJ⟩⟩) (fun H2 dJ=>Nat.le_refl _) hq
end
end L2
local macro_rules|`(tactic| walk_at "sf")=>`(tactic| (repeat first
 |((with_reducible apply L2.Ka);exact rfl)
 |with_reducible apply L2.SR|with_reducible apply L2.J8|with_reducible apply L2.J9|with_reducible apply L2.J'|with_reducible apply L2.NW|with_reducible apply L2.NX
 |with_reducible apply L2.NY|with_reducible apply L2.SS|with_reducible apply L2.G4|with_reducible apply L2.NZ|with_reducible apply L2.N0|with_reducible apply L2.Kc|with_reducible apply L2.Kd
 |with_reducible apply L2.Ke|with_reducible apply L2.Kf|with_reducible apply L2.Kg|with_reducible apply L2.N1|with_reducible apply L2.Kh|with_reducible apply L2.G5|with_reducible apply L2.Ki|with_reducible apply L2.G6
 |with_reducible apply L2.Kj|with_reducible apply L2.G7|with_reducible apply L2.G8|with_reducible apply L2.N2|with_reducible apply L2.Kk|with_reducible apply L2.Km|with_reducible apply L2.G0|with_reducible apply L2.G1
 |with_reducible apply L2.Kn|with_reducible apply L2.Kb|with_reducible apply L2.G2|with_reducible apply L2.Dr|with_reducible apply L2.Ds|with_reducible apply L2.G3|with_reducible apply L2.J_
 |with_reducible apply L2.Dx|with_reducible apply L2.G_|with_reducible apply L2.G'|with_reducible apply L2.Dy|with_reducible apply L2.Ha|with_reducible apply L2.Hb|with_reducible apply L2.AN|with_reducible apply L2.Dz|with_reducible apply L2.Ks
 |((with_reducible show(_<=PySem.sizeLine)/\_);refine And.intro (L2.bZ (Nat.le_of_ble_eq_true rfl)) ?_)))
namespace dH
open PySem PyProof.Rows L2 SF
noncomputable def top(i:Nat):Stmt:=PySem.Challenge.pw_surefoot_k22_whole_decimals.main.body.getD i (.Pass ⟨0,0,0,0⟩)
noncomputable abbrev fb:Stmt:=top 5
theorem bQ:aA ["one","other","greater","lesser","rest"] ["one","other"] (ao fb):=⟨rfl,rfl,rfl,by decide +kernel,rfl,by decide +kernel,by decide +kernel⟩
noncomputable abbrev vO:Stmt:=top 6
theorem Eg:aA ["number"] ["number"] (ao vO):=⟨rfl,rfl,rfl,by decide +kernel,rfl,by decide +kernel,by decide +kernel⟩
noncomputable abbrev qL:Stmt:=top 7
theorem fY:aA ["number","many","product","square","left"] ["number","many"] (ao qL):=⟨rfl,rfl,rfl,by decide +kernel,rfl,by decide +kernel,by decide +kernel⟩
noncomputable abbrev qM:Stmt:=top 8
theorem nF:aA ["top","under","shared"] ["top","under"] (ao qM):=⟨rfl,rfl,rfl,by decide +kernel,rfl,by decide +kernel,by decide +kernel⟩
noncomputable abbrev nG:Stmt:=top 9
theorem zv:aA ["one","other"] ["one","other"] (ao nG):=⟨rfl,rfl,rfl,by decide +kernel,rfl,by decide +kernel,by decide +kernel⟩
noncomputable abbrev jD:Stmt:=top 10
theorem tG:aA ["one","other"] ["one","other"] (ao jD):=⟨rfl,rfl,rfl,by decide +kernel,rfl,by decide +kernel,by decide +kernel⟩
noncomputable abbrev kQ:Stmt:=top 12
theorem jE:aA ["row","length"] ["row"] (ao kQ):=⟨rfl,rfl,rfl,by decide +kernel,rfl,by decide +kernel,by decide +kernel⟩
noncomputable abbrev nH:Stmt:=top 13
theorem zw:aA ["poly"] ["poly"] (ao nH):=⟨rfl,rfl,rfl,by decide +kernel,rfl,by decide +kernel,by decide +kernel⟩
noncomputable abbrev iw:Stmt:=top 14
theorem ou:aA ["poly"] ["poly"] (ao iw):=⟨rfl,rfl,rfl,by decide +kernel,rfl,by decide +kernel,by decide +kernel⟩
noncomputable abbrev kR:Stmt:=top 15
theorem iy:aA ["poly","shared","number"] ["poly"] (ao kR):=⟨rfl,rfl,rfl,by decide +kernel,rfl,by decide +kernel,by decide +kernel⟩
noncomputable abbrev iX:Stmt:=top 16
theorem ke:aA ["poly","shared"] ["poly"] (ao iX):=⟨rfl,rfl,rfl,by decide +kernel,rfl,by decide +kernel,by decide +kernel⟩
noncomputable abbrev jF:Stmt:=top 17
theorem gr:aA ["poly","point","value","number"] ["poly","point"] (ao jF):=⟨rfl,rfl,rfl,by decide +kernel,rfl,by decide +kernel,by decide +kernel⟩
noncomputable abbrev nI:Stmt:=top 18
theorem fJ:aA ["value","point","poly","rest","number"] ["value","point"] (ao nI):=⟨rfl,rfl,rfl,by decide +kernel,rfl,by decide +kernel,by decide +kernel⟩
noncomputable abbrev kS:Stmt:=top 19
theorem dW:aA ["poly","divisor","rest","factors","factor","shift","power","number"] ["poly","divisor"] (ao kS):=⟨rfl,rfl,rfl,by decide +kernel,rfl,by decide +kernel,by decide +kernel⟩
noncomputable abbrev kT:Stmt:=top 20
theorem vP:aA ["poly"] ["poly"] (ao kT):=⟨rfl,rfl,rfl,by decide +kernel,rfl,by decide +kernel,by decide +kernel⟩
noncomputable abbrev iz:Stmt:=top 21
theorem cI:aA ["one","other","first","second","point","shared","found"] ["one","other"] (ao iz):=⟨rfl,rfl,rfl,by decide +kernel,rfl,by decide +kernel,by decide +kernel⟩
noncomputable abbrev jG:Stmt:=top 22
theorem tH:aA ["one","other"] ["one","other"] (ao jG):=⟨rfl,rfl,rfl,by decide +kernel,rfl,by decide +kernel,by decide +kernel⟩
noncomputable abbrev gz:Stmt:=top 23
theorem nJ:aA ["poly"] ["poly"] (ao gz):=⟨rfl,rfl,rfl,by decide +kernel,rfl,by decide +kernel,by decide +kernel⟩
noncomputable abbrev iY:Stmt:=top 24
theorem dF:aA ["poly","top","under","height","scale","number"] ["poly","top","under"] (ao iY):=⟨rfl,rfl,rfl,by decide +kernel,rfl,by decide +kernel,by decide +kernel⟩
noncomputable abbrev kU:Stmt:=top 25
theorem vQ:aA ["poly","given"] ["poly","given"] (ao kU):=⟨rfl,rfl,rfl,by decide +kernel,rfl,by decide +kernel,by decide +kernel⟩
noncomputable abbrev iA:Stmt:=top 27
theorem de:aA ["row","many","before","number"] ["row"] (ao iA):=⟨rfl,rfl,rfl,by decide +kernel,rfl,by decide +kernel,by decide +kernel⟩
noncomputable abbrev iZ:Stmt:=top 28
theorem b_:aA ["one","other","size","turn","rest","shift","factor","power_of_x","number"] ["one","other"] (ao iZ):=⟨rfl,rfl,rfl,by decide +kernel,rfl,by decide +kernel,by decide +kernel⟩
noncomputable abbrev jH:Stmt:=top 29
theorem ck:aA ["free","chain","size","scale","one","other","gap","shared"] ["free"] (ao jH):=⟨rfl,rfl,rfl,by decide +kernel,rfl,by decide +kernel,by decide +kernel⟩
noncomputable abbrev iB:Stmt:=top 30
theorem ow:aA ["chain","given"] ["chain","given"] (ao iB):=⟨rfl,rfl,rfl,by decide +kernel,rfl,by decide +kernel,by decide +kernel⟩
noncomputable abbrev i4:Stmt:=top 33
theorem fD:aA ["free","reach","bound","number"] ["free","reach"] (ao i4):=⟨rfl,rfl,rfl,by decide +kernel,rfl,by decide +kernel,by decide +kernel⟩
noncomputable abbrev jI:Stmt:=top 34
theorem i7:aA ["free","reach"] ["free"] (ao jI):=⟨rfl,rfl,rfl,by decide +kernel,rfl,by decide +kernel,by decide +kernel⟩
noncomputable abbrev eO:Stmt:=top 35
theorem cW:aA ["free","odd","bound"] ["free"] (ao eO):=⟨rfl,rfl,rfl,by decide +kernel,rfl,by decide +kernel,by decide +kernel⟩
noncomputable abbrev nK:Stmt:=top 36
theorem zx:aA ["chain","given"] ["chain","given"] (ao nK):=⟨rfl,rfl,rfl,by decide +kernel,rfl,by decide +kernel,by decide +kernel⟩
noncomputable abbrev jJ:Stmt:=top 37
theorem bM:aA ["poly","free","chain","around","waiting","found","stretch","low","high","many","cut"] ["poly"] (ao jJ):=⟨rfl,rfl,rfl,by decide +kernel,rfl,by decide +kernel,by decide +kernel⟩
noncomputable abbrev iC:Stmt:=top 38
theorem gA:aA ["pair","low","high"] ["pair"] (ao iC):=⟨rfl,rfl,rfl,by decide +kernel,rfl,by decide +kernel,by decide +kernel⟩
noncomputable abbrev fZ:Stmt:=top 39
theorem iM:aA ["stretch","width","room"] ["stretch","width"] (ao fZ):=⟨rfl,rfl,rfl,by decide +kernel,rfl,by decide +kernel,by decide +kernel⟩
noncomputable abbrev f6:Stmt:=top 40
theorem cZ:aA ["free","stretch","parts","near","far","under","start","at_near","at_far"] ["free","stretch","parts","near","far"] (ao f6):=⟨rfl,rfl,rfl,by decide +kernel,rfl,by decide +kernel,by decide +kernel⟩
noncomputable abbrev kW:Stmt:=top 41
theorem fc:aA ["free","stretch","parts","step","at_low","at_high","part","near"] ["free","stretch","parts"] (ao kW):=⟨rfl,rfl,rfl,by decide +kernel,rfl,by decide +kernel,by decide +kernel⟩
noncomputable abbrev nL:Stmt:=top 42
theorem kX:aA ["free","stretch","cut","lower"] ["free","stretch"] (ao nL):=⟨rfl,rfl,rfl,by decide +kernel,rfl,by decide +kernel,by decide +kernel⟩
noncomputable abbrev jK:Stmt:=top 43
theorem cQ:aA ["free","pair","width","stretch","parts","needed","found"] ["free","pair","width"] (ao jK):=⟨rfl,rfl,rfl,by decide +kernel,rfl,by decide +kernel,by decide +kernel⟩
noncomputable abbrev jL:Stmt:=top 46
theorem tI:aA ["given"] ["given"] (ao jL):=⟨rfl,rfl,rfl,by decide +kernel,rfl,by decide +kernel,by decide +kernel⟩
noncomputable abbrev i8:Stmt:=top 47
theorem dG:aA ["free","pair","weight","last","narrow","low","high","given"] ["free","pair","weight"] (ao i8):=⟨rfl,rfl,rfl,by decide +kernel,rfl,by decide +kernel,by decide +kernel⟩
noncomputable abbrev qN:Stmt:=top 48
theorem nM:aA ["poly","pairs","free"] ["poly"] (ao qN):=⟨rfl,rfl,rfl,by decide +kernel,rfl,by decide +kernel,by decide +kernel⟩
noncomputable abbrev kY:Stmt:=top 49
theorem jM:aA ["number","given","low","side"] ["number","given"] (ao kY):=⟨rfl,rfl,rfl,by decide +kernel,rfl,by decide +kernel,by decide +kernel⟩
noncomputable abbrev gB:Stmt:=top 50
theorem f7:aA ["number","scale","low","whole"] ["number","scale"] (ao gB):=⟨rfl,rfl,rfl,by decide +kernel,rfl,by decide +kernel,by decide +kernel⟩
noncomputable abbrev iD:Stmt:=top 52
theorem ox:aA ["number","many","cut"] ["number"] (ao iD):=⟨rfl,rfl,rfl,by decide +kernel,rfl,by decide +kernel,by decide +kernel⟩
noncomputable abbrev kZ:Stmt:=top 53
theorem f9:aA ["number","digits","floor","figures","cut","point"] ["number","digits"] (ao kZ):=⟨rfl,rfl,rfl,by decide +kernel,rfl,by decide +kernel,by decide +kernel⟩
noncomputable abbrev jN:Stmt:=top 55
theorem tJ:aA ["_law_script","_law_k"] ["_law_script","_law_k"] (ao jN):=⟨rfl,rfl,rfl,by decide +kernel,rfl,by decide +kernel,by decide +kernel⟩
noncomputable abbrev i9:Stmt:=top 56
theorem kf:aA ["_law_cell_here","_law_k","_law_more"] ["_law_cell_here","_law_k"] (ao i9):=⟨rfl,rfl,rfl,by decide +kernel,rfl,by decide +kernel,by decide +kernel⟩
noncomputable abbrev iE:Stmt:=top 57
theorem di:aA ["_law_one","_law_other","_law_left"] ["_law_one","_law_other"] (ao iE):=⟨rfl,rfl,rfl,by decide +kernel,rfl,by decide +kernel,by decide +kernel⟩
noncomputable abbrev i_:Stmt:=top 58
theorem kg:aA ["_law_top","_law_under","_law_divisor"] ["_law_top","_law_under"] (ao i_):=⟨rfl,rfl,rfl,by decide +kernel,rfl,by decide +kernel,by decide +kernel⟩
noncomputable abbrev jO:Stmt:=top 60
theorem ft:aA ["_law_cell_here","_law_k","_law_more","_law_m","_law_p","_law_d"] ["_law_cell_here","_law_k"] (ao jO):=⟨rfl,rfl,rfl,by decide +kernel,rfl,by decide +kernel,by decide +kernel⟩
noncomputable abbrev iF:Stmt:=top 61
theorem dj:aA ["_law_surd_here","_law_p","_law_s","_law_m","_law_d","_law_pair"] ["_law_surd_here"] (ao iF):=⟨rfl,rfl,rfl,by decide +kernel,rfl,by decide +kernel,by decide +kernel⟩
noncomputable abbrev jP:Stmt:=top 62
theorem cR:aA ["_law_surd_here","_law_given","_law_p","_law_s","_law_m","_law_d","_law_gap","_law_left","_law_right"] ["_law_surd_here","_law_given"] (ao jP):=⟨rfl,rfl,rfl,by decide +kernel,rfl,by decide +kernel,by decide +kernel⟩
noncomputable abbrev iG:Stmt:=top 63
theorem dm:aA ["_law_text","_law_digits","_law_size","_law_head","_law_mark","_law_tail","_law_whole"] ["_law_text","_law_digits"] (ao iG):=⟨rfl,rfl,rfl,by decide +kernel,rfl,by decide +kernel,by decide +kernel⟩
noncomputable abbrev lN:Stmt:=top 64
theorem f_:aA ["_law_script","_law_k","_law_cell_here","_law_surd_here","_law_number_here","_law_digits","_law_text","_law_scale","_law_j","_law_whole"] ["_law_script"] (ao lN):=⟨rfl,rfl,rfl,by decide +kernel,rfl,by decide +kernel,by decide +kernel⟩
structure Nm(mg:Str->Option Value):Prop where
 gQ:mg "abs"=none
 fu:mg "len"=none
 nN:mg "int"=none
 F4:mg "max"=none
 BK:mg "min"=none
 QZ:mg "sum"=none
 Lg:mg "any"=none
 Lh:mg "all"=none
 vR:mg "list"=none
 qO:mg "range"=none
 i':mg "enumerate"=none
 iH:mg "reversed"=none
 F5:mg "str"=none
 qP:mg "isinstance"=none
noncomputable abbrev IL(H:Hp)(a:Addr)(xs:List Int):Prop:=H a=some (.lst (xs.map V.int))
noncomputable def Ab(n:Nat)(xs:List Int):Prop:=∀x∈xs,Bd n x
theorem Ab.co{n:Nat}{xs:List Int}(h:Ab n xs)(i:Nat):Bd n (SF.co xs i):=by
 by_cases hi:i<xs.length
 ·rw[bP hi];exact h _ (List.getElem_mem _)
 ·rw[cx (by lia)];show(0:Int).natAbs<2^n;exact Nat.two_pow_pos n
theorem Ab.mono{m n:Nat}{xs:List Int}(h:Ab m xs)(hm:m<=n):Ab n xs:=fun x hx=>(h x hx).mono hm
theorem aR{i j:Int}{m n:Nat}(hi:Bd m i)(hj:Bd n j)(h:m+n<=134217728):IntMulOk i j:=by
 have bits:∀{k:Nat}{x:Int},Bd k x->Builtin.Int.intBits x<=k:=fun{k x} hx=>PySem.intBits_le_iff.mpr hx;exact PySem.IntMulOk.of_le (bits hi) (bits hj) (by lia)
theorem yj{xs:List Int}{n:Nat}(h:n<xs.length):mf (xs.map V.int) (n:Int)=some (.int (SF.co xs n)):=
 pU (by rw[List.getElem?_map,List.getElem?_eq_getElem h,bP h]<;>rfl)
theorem k_{xs:List Int}{n:Nat}{x:V}(h:(xs.map V.int)[n]?=some x):n<xs.length/\x=.int (SF.co xs n):=by
 have hn:n<xs.length:=by
  have:=(List.getElem?_eq_some_iff.mp h).1
  rwa [List.length_map] at this
 rw[List.getElem?_map,List.getElem?_eq_getElem hn] at h;rw[bP hn];exact⟨hn,(Option.some.inj h).symm⟩
theorem BL(xs:List Int)(n:Nat):gE (xs.map V.int) none (some (n:Int))=(xs.take n).map V.int:=by
 unfold gE;rw[HT.mK,HT.xi,List.length_map,List.drop_zero,Nat.sub_zero,List.map_take];rcases Nat.le_total n xs.length with h|h
 ·rw[Nat.min_eq_left h]
 ·rw[Nat.min_eq_right h,List.take_of_length_le (by simp),List.take_of_length_le (by simpa using h)]
theorem BN(xs:List Int)(k:Nat):gE (xs.map V.int) (some (k:Int)) none=(xs.drop k).map V.int:=by
 unfold gE;rw[HT.mK,HT.xi,List.length_map,List.map_drop];rcases Nat.le_total k xs.length with h|h
 ·rw[Nat.min_eq_left h,List.take_of_length_le (by simp)]
 ·rw[Nat.min_eq_right h,Nat.sub_self,List.take_zero,List.drop_of_length_le (by simpa using h)]
theorem tK(xs:List Int):gE (xs.map V.int) none (some (-1))=xs.dropLast.map V.int:=by
 unfold gE;rw[HT.mK,List.drop_zero,Nat.sub_zero,List.length_map,List.dropLast_eq_take,List.map_take];have e:HT.rK xs.length xs.length (some (-1))=xs.length-1:=by
  show(if(-1:Int)<0 then((-1:Int)+(xs.length:Int)).toNat else min (-1:Int).toNat xs.length)=xs.length-1;rw[if_pos (by decide)];lia
 rw[e]
theorem BO{n i:Nat}(h:i<n):u_ n (i:Int)=some i:=by
 unfold u_;rw[if_pos (by lia),if_pos (by lia)];simp
theorem fE{xs:List Int}(h:xs≠[]):mf (xs.map V.int) (-1)=some (.int (SF.co xs (xs.length-1))):=by
 have hl:0<xs.length:=List.length_pos_iff.mpr h;unfold mf;have e:u_ (xs.map V.int).length (-1)=some (xs.length-1):=by
  unfold u_;rw[List.length_map,if_neg (by decide),if_pos (by lia)];congr 1;lia
 rw[e];show(xs.map V.int)[xs.length-1]?=_;rw[List.getElem?_map,List.getElem?_eq_getElem (by lia),bP (by lia)];rfl
noncomputable def yk:Sp:=fun vs H Q _=>∃a b:Int,vs=[.int a,.int b]/\Q (.int ((Int.gcd a b:Nat):Int)) H
noncomputable def BP(f:List Int->List Int)(Pr:List Int->Prop):Sp:=fun vs H Q _=>∃(a:Addr)(xs:List Int),vs=[.ref a]/\IL H a xs/\Pr xs/\∀(p:Addr)(H':Hp),au H H'->IL H' p (f xs)->Q (.ref p) H'
noncomputable def Eh(f:List Int->List Int->List Int)(Pr:List Int->List Int->Prop):Sp:=fun vs H Q _=>∃(a b:Addr)(xs ys:List Int),vs=[.ref a,.ref b]/\IL H a xs/\IL H b ys/\Pr xs ys/\∀(p:Addr)(H':Hp),au H H'->IL H' p (f xs ys)->Q (.ref p) H'
noncomputable def Q0(f:List Int->Int)(Pr:List Int->Prop):Sp:=fun vs H Q _=>∃(a:Addr)(xs:List Int),vs=[.ref a]/\IL H a xs/\Pr xs/\Q (.int (f xs)) H
noncomputable abbrev BQ(xs:List Int):Prop:=xs.length<=1000
noncomputable abbrev jQ:Nat:=60000000
section
variable {P:Program} {w:World} {K:PySem.W.Frag} {mg:Str->Option Value} {base:Heap}
theorem kh(T:Nm mg)(D:aL K mg "common_divisor" fb ["one","other"]):bq P w K mg base 1 "common_divisor" ["one","other"] yk:=by
 refine D.ok bQ (fun vs H Q E h=>?_) (fun f cD A outer s H vs Q E hr h=>?_)
 ·obtain⟨a,b,rfl,_⟩:=h;rfl
 obtain⟨a,b,rfl,q⟩:=h;refine⟨_,(ae (ai (i:=2) bQ.nd rfl (Or.inl rfl) (aG cK rfl T.gQ boot_abs (aa (pv 0) ag)))
  (ae (ai (i:=3) bQ.nd rfl (Or.inl rfl) (aG cK rfl T.gQ boot_abs (aa (pv 1) ag)))
  (ae (cX PassesOwn.never (fP (pv 3) (fun _=>rfl))
  (ae (ai (i:=4) bQ.nd rfl (Or.inl rfl) (aj cF (pv 2) (pv 3)))
  (ae (ai (i:=2) bQ.nd rfl (Or.inl rfl) (pv 3))
  (ah (ai (i:=3) bQ.nd rfl (Or.inl rfl) (pv 4))))))
  (ah (ax (pv 2)))))),?_⟩;walk_at "sf";refine⟨_,rfl,?_⟩;walk_at "sf";refine⟨_,rfl,?_⟩;walk_at "sf";refine cM (fun m σ H'=>∃(g l:Int)(r:Option V),m=l.toNat/\σ=[some (.int a),some (.int b),some (.int g),some (.int l),r]/\H'=H/\0<=g/\0<=l/\Int.gcd g l=Int.gcd a b)
  ⟨_,_,_,_,rfl,rfl,rfl,by split<;>lia,by split<;>lia,xo⟩ ?_
 rintro m σ H' ⟨g,l,r,rfl,rfl,rfl,hg,hl,e⟩;walk_at "sf";refine dI (fun c=>?_) (fun c=>?_)
 ·have vA:l≠0:=by simpa using c
  have hp:0<l:=by lia
  refine⟨_,fun cz H' h=>h,?_⟩;walk_at "sf";refine bN vA ?_;walk_at "sf";have h1:=Int.emod_nonneg g vA;have h2:=Int.emod_lt_of_pos g hp;rw[fo hp];exact⟨_,by lia,_,_,_,rfl,rfl,rfl,hl,h1,by rw[sk hg hp,e]⟩
 ·have vA:l=0:=by simpa using c
  subst vA;walk_at "sf";have e':((Int.gcd a b:Nat):Int)=g:=by rw[<-e];exact xp hg
  rw[e'] at q;exact q
theorem zy(xs:List Int):ar xs=fG (fun i=>(co xs i).fdiv (cont xs)) xs.length:=by
 unfold ar;refine List.ext_getElem (by rw[List.length_map,aN]) fun i h1 h2=>?_;simp only[fG,List.getElem_map,List.getElem_range];rw[bP (by simpa using h1)]
theorem oy(T:Nm mg)(D:aL K mg "derivative" iw ["poly"]):bq P w K mg base 1 "derivative" ["poly"] (BP bR (fun xs=>BQ xs/\Ab jQ xs)):=by
 refine D.ok ou (fun vs H Q E h=>?_) (fun f cD A outer s H vs Q E hr h=>?_)
 ·obtain⟨a,xs,rfl,_⟩:=h;rfl
 obtain⟨a,xs,rfl,ha,⟨hx,bx⟩,q⟩:=h;refine⟨_,(ah (ax (eH mi (g9 rfl rfl (iP (own:=["power","number"]) (fr:=[]) (fs:=[]) (by with_unfolding_all rfl) rfl (by decide +kernel) (by decide +kernel) (by exact trivial) (by with_unfolding_all rfl) (by exact trivial)) (pZ rfl T.i' (aa (pv 0) ag)) (fun _ _ _ _ _=>(DF (K:=K) (n:=2) rfl rfl (bL (aQ (i:=0) (show List.Nodup (["power","number"]:List Str) by decide +kernel) rfl (Or.inl rfl) (Or.inr rfl)) (bL (aQ (i:=1) (show List.Nodup (["power","number"]:List Str) by decide +kernel) rfl (Or.inl rfl) (Or.inr rfl)) jf)) rfl rfl)) (fun _ _ _ _ _=>(aj aw (pv 0) (pv 1)))) (fA af) fz))),?_⟩;walk_at "sf";refine ij (H1:=H) (AI K a) (fun R hR=>?_) (vj (xs:=xs) (aZ.of ha) (fun i=>(i:Int)*co xs i) hx ?_ ?_)
 ·walk_at "sf";exact⟨a,rfl,⟨_,aZ.of ha⟩,hR⟩
 ·intro i p r H2 hi hr dJ hp Z hZ;obtain⟨x0,x1,rfl⟩:=Oh hr;refine kG (cC.of hp) rfl ?_;walk_at "sf";refine bN (aR (m:=10) (Bd.fR (by lia) (by have:xs.length<=1000:=hx;lia)) (bx.co i) (by decide)) ?_;exact hZ _ _ (au.refl _) ⟨[_,_],rfl,rfl⟩
 ·intro D H2 hD dJ h2;walk_at "sf";refine⟨_,rfl,?_⟩;walk_at "sf";refine⟨D,_,rfl,aZ.of h2,fun p hp=>q p _ (dJ.trans (au.new hp _)) ?_⟩;show upd H2 p _ p=_;rw[ak];have e:gE ((fG (fun i=>(i:Int)*co xs i) xs.length).map V.int) (some 1) none=((fG (fun i=>(i:Int)*co xs i) xs.length).drop 1).map V.int:=BN _ 1;rw[e,y6]
theorem vS{xs:List Int}{i:Nat}(h:i<xs.length):jZ 0 (xs.take (i+1))=Int.gcd ((jZ 0 (xs.take i):Nat):Int) (co xs i):=by
 rw[List.take_add_one,List.getElem?_eq_getElem h,Option.toList_some];unfold jZ;rw[List.foldl_append,bP h];rfl
theorem vT(cN:bq P w K mg base 1 "common_divisor" ["one","other"] yk)(D:aL K mg "content" kR ["poly"]):bq P w K mg base 2 "content" ["poly"] (Q0 cont BQ):=by
 refine D.ok iy (fun vs H Q E h=>?_) (fun f cD A outer s H vs Q E hr h=>?_)
 ·obtain⟨a,xs,rfl,_⟩:=h;rfl
 obtain⟨a,xs,rfl,ha,hx,q⟩:=h;refine⟨_,(ae (ai (i:=1) iy.nd rfl (Or.inl rfl) af)
  (ae (gx PassesOwn.never rfl (gn (pv 0)) (aQ (i:=2) iy.nd rfl (Or.inl rfl))
  (ah (ai (i:=1) iy.nd rfl (Or.inl rfl) (av cN hr (aa (pv 1) (aa (pv 2) ag))))))
  (ah (ax (eD (PW.pt (jy (fP (pv 0) (fun _=>rfl)) (gX (aB iL (aD bI (pv 0) (dn bY af) (fun _ _=>rfl)) af (aE _))))) (dn bY (pv 1)) (pv 1)))))),?_⟩;walk_at "sf";refine⟨a,rfl,⟨_,aZ.of ha⟩,?_⟩;refine rT (xs:=xs.map V.int) (fun i σ H'=>(∃r,σ=[some (.ref a),some (.int ((jZ 0 (xs.take i):Nat):Int)),r])/\H'=H) ⟨⟨_,rfl⟩,rfl⟩ (fun i σ H' _ z=>by rw[z.2];exact aZ.of ha) ?_ ?_
 ·rintro i x σ H' hi ⟨⟨r,rfl⟩,rfl⟩;obtain⟨Jd,rfl⟩:=k_ hi;walk_at "sf";refine⟨_,_,rfl,?_⟩;walk_at "sf";exact⟨⟨_,by rw[vS Jd];rfl⟩,rfl⟩
 ·rintro σ H' ⟨⟨r,rfl⟩,rfl⟩;have e:jZ 0 (xs.take (xs.map V.int).length)=eS xs:=by rw[List.length_map,List.take_length];rfl
  rw[e];walk_at "sf";refine vg (aZ.of ha) ?_
  dsimp only
  unfold cont at q;by_cases K9:xs=[]
  ·subst K9;rw[if_neg (by decide),if_neg (by decide)];walk_at "sf";exact q
  ·have e1:(!(xs.map V.int).isEmpty)=true:=by
    cases xs with
    |nil=>exact absurd rfl K9
    |cons x r=>rfl
   rw[e1,if_pos rfl];walk_at "sf";refine dr (aZ.of ha) (fE K9) ?_;walk_at "sf";refine dI (fun c=>?_) (fun c=>?_)
   ·rw[if_pos (by simpa using c)] at q;walk_at "sf";exact q
   ·rw[if_neg (by simpa using c)] at q;walk_at "sf";exact q
theorem qQ(hT:P.given.tree=none)(zz:bq P w K mg base 33 "content" ["poly"] (Q0 cont BQ))(D:aL K mg "primitive" iX ["poly"]):bq P w K mg base 34 "primitive" ["poly"] (BP ar (fun xs=>BQ xs/\Tr xs)):=by
 refine D.ok ke (fun vs H Q E h=>?_) (fun f cD A outer s H vs Q E hr h=>?_)
 ·obtain⟨a,xs,rfl,_⟩:=h;rfl
 obtain⟨a,xs,rfl,ha,⟨hx,tx⟩,q⟩:=h;refine⟨_,(ae (ai (i:=1) ke.nd rfl (Or.inr rfl) (av zz hr (aa (pv 0) ag)))
  (ah (ax (g9 rfl rfl (iP (own:=["number"]) (fr:=[1]) (fs:=["shared"]) (by with_unfolding_all rfl) rfl (by decide +kernel) (by decide +kernel) (by exact⟨rfl,trivial⟩) (by with_unfolding_all rfl) (by exact⟨⟨rfl,rfl,rfl,Or.inl rfl⟩,trivial⟩)) (gn (pv 0)) (fun _ _ _ _ _=>(aQ (i:=0) (show List.Nodup (["number","shared"]:List Str) by decide +kernel) rfl (Or.inl rfl) (Or.inr rfl))) (fun _ _ _ _ _=>(aj (dB ⟨hT,⟨_,_,rfl,rfl,rfl,rfl,rfl⟩,hr.py⟩) (pv 0) (pv 1))))))),?_⟩;walk_at "sf";refine⟨a,xs,rfl,ha,hx,?_⟩;walk_at "sf";refine ij (H1:=H) (rH K a) (fun R hR=>?_) (ig (xs:=xs) (aZ.of ha) (fun i=>(co xs i).fdiv (cont xs)) hx ?_ ?_)
 ·walk_at "sf";exact⟨a,rfl,⟨_,aZ.of ha⟩,hR⟩
 ·intro i r H2 hi hr dJ Z hZ;have hn:xs≠[]:=by rintro rfl;exact absurd hi (Nat.not_lt_zero _)
  obtain⟨x0,rfl⟩:=sE hr;walk_at "sf";refine bN (fe tx hn) ?_;exact hZ _ _ (au.refl _) ⟨[_],rfl,rfl⟩
 ·intro D H2 hD dJ h2;refine q D H2 dJ ?_;show H2 D=some (.lst ((ar xs).map V.int));rw[zy];exact h2
end
end dH
namespace dH
open PySem PyProof.Rows L2 SF
noncomputable def BR(K:PySem.W.Frag):Sp:=fun vs H Q _=>∃(a:Addr)(ns:List Int)(k:Int),vs=[.ref a,.int k]/\aZ K H a (ns.map V.int)/\ns.length<=63/\0<=k/\∀(c:Int)(H':Hp),au H H'->Q (.int c) H'
noncomputable def qR:Sp:=fun vs H Q _=>∃c k:Int,vs=[.int c,.int k]/\∀m:Int,0<=m->Bd 128 m->Q (.int m) H
theorem fm{x:Int}{m:Int}(hm:0<m):x.fmod m=x%m/\0<=x%m/\x%m<m:=⟨fo hm,Int.emod_nonneg x (Int.ne_of_gt hm),Int.emod_lt_of_pos x hm⟩
theorem Ig(n:Int)(h1:0<n)(h2:n<2^64):(n≠0/\n.natAbs.log2<9000):=⟨Int.ne_of_gt h1,(Bd.fR (n:=64) (by lia) h2).log2 (by decide)⟩
section
variable {P:Program} {w:World} {K:PySem.W.Frag} {mg:Str->Option Value} {base:Heap}
theorem tL(T:Nm mg)(D:aL K mg "_law_cell" jN ["_law_script","_law_k"]):bq P w K mg base 1 "_law_cell" ["_law_script","_law_k"] (BR K):=by
 refine D.ok tJ (fun vs H Q E h=>?_) (fun f cD A outer s H vs Q E hr h=>?_)
 ·obtain⟨a,ns,k,rfl,_⟩:=h;rfl
 obtain⟨a,ns,k,rfl,hS,hl,hk,q⟩:=h;refine⟨_,(ae (bO (aB (GZ hr.Ax) (pv 0) (eV ag) (aE _))
  (ah (ax (aj aw (pv 1) af)))
  aO)
  (ah (ax (aj bA (aD bI (pv 0) (aj cF (pv 1) (aG aW rfl T.fu boot_len (aa (pv 0) ag))) (fun _ _=>rfl)) (aj aw (aj cY (pv 1) (aG aW rfl T.fu boot_len (aa (pv 0) ag))) af))))),?_⟩;walk_at "sf";intro p hp;have g1:au H (upd H p (.lst [])):=au.new hp _;refine⟨a,p,ns,[],rfl,rfl,g1.seq hS,aZ.of ak,?_⟩;walk_at "sf";refine dI (fun c=>?_) (fun c=>?_)
 ·walk_at "sf";refine bN (IntMulOk.of_right (by decide)) ?_;exact q _ _ g1
 ·have eQ:ns≠[]:=by simpa using c
  have m5:0<ns.length:=List.length_pos_iff.mpr eQ;have em:(ns.map V.int).length=ns.length:=List.length_map _;have Li:(0:Int)<((ns.map V.int).length:Nat):=by rw[em];lia
  walk_at "sf";refine⟨a,_,rfl,.inl (g1.seq hS),?_⟩;refine bN (Int.ne_of_gt Li) ?_;rw[fo Li];have h1:=Int.emod_nonneg k (Int.ne_of_gt Li);have h2:=Int.emod_lt_of_pos k Li;obtain⟨j,ej⟩:=Int.eq_ofNat_of_zero_le h1;rw[ej] at h2 ⊢;have hj:j<ns.length:=by rw[em] at h2;lia
  refine dr (g1.seq hS) (pU (v:=V.int ns[j]) (by rw[List.getElem?_map,List.getElem?_eq_getElem hj]<;>rfl)) ?_;walk_at "sf";refine⟨a,_,rfl,.inl (g1.seq hS),?_⟩;refine bN ⟨Int.ne_of_gt Li,(Bd.fR (n:=64) (by lia) (by rw[em];lia)).log2 (by decide)⟩ ?_;walk_at "sf";refine bN (IntMulOk.of_right (by decide)) ?_;walk_at "sf";exact q _ _ g1
theorem qS(D:aL K mg "_law_drawn" i9 ["_law_cell_here","_law_k"]):bq P w K mg base 1 "_law_drawn" ["_law_cell_here","_law_k"] qR:=by
 refine D.ok kf (fun vs H Q E h=>?_) (fun f cD A outer s H vs Q E hr h=>?_)
 ·obtain⟨c,k,rfl,_⟩:=h;rfl
 obtain⟨c,k,rfl,q⟩:=h;refine⟨_,(ae (ai (i:=2) kf.nd rfl (Or.inl rfl) (aj cF (aj bA (aj aw (pv 0) af) (aj aw (aj bA (pv 1) af) af)) af))
  (ah (ax (aj cF (aj aw (pv 2) (pv 2)) af)))),?_⟩;walk_at "sf";refine bN (IntMulOk.of_right (by decide)) ?_;walk_at "sf";refine bN (IntMulOk.of_right (by decide)) ?_;walk_at "sf";refine bN (by decide) ?_;rw[fo (by decide)];generalize hm:(c*6364136223846793005+(k+1)*1442695040888963407)%340282366920938463463374607431768211507=m;have m1:0<=m:=by rw[<-hm];exact Int.emod_nonneg _ (by decide)
 have m2:m<340282366920938463463374607431768211507:=by rw[<-hm];exact Int.emod_lt_of_pos _ (by decide)
 have mz:Bd 129 m:=Bd.fR m1 (Int.lt_of_lt_of_le m2 (by decide));walk_at "sf";refine bN (aR mz mz (by decide)) ?_;walk_at "sf";refine bN (by decide) ?_;rw[fo (by decide)];exact q _ (Int.emod_nonneg _ (by decide)) (Bd.fR (Int.emod_nonneg _ (by decide)) (Int.lt_of_lt_of_le (Int.emod_lt_of_pos _ (by decide)) (by decide)))
end
end dH
namespace dH
open PySem PyProof.Rows L2 SF SF.Po
theorem BS{p:Int}{P b:Nat}(hb:Bd P p){xs:List Int}(hx:Ab b xs):∀i,i<=xs.length->Bd (b+(P+1)*i) (eA p (xs.drop (xs.length-i)))
 |0,_=>by rw[sS];show(0:Int).natAbs<_;exact Nat.two_pow_pos _
 |i+1,h=>by
  rw[sR p xs (by lia)];have ih:=BS hb hx i (by lia);have h1:Bd (b+(P+1)*i+P) (eA p (xs.drop (xs.length-i))*p):=ih.mul hb;have h2:Bd (b+(P+1)*i+P) (co xs (xs.length-1-i)):=(hx.co _).mono (by lia);have e:b+(P+1)*(i+1)=b+(P+1)*i+P+1:=by rw[Nat.mul_add];lia
  rw[e];exact h1.add h2
noncomputable def F6:Sp:=fun vs H Q _=>∃(a:Addr)(xs:List Int)(p:Int)(P:Nat),vs=[.ref a,.int p]/\IL H a xs/\(∃b,xs.length<=40/\Ab b xs/\Bd P p/\P<=1400000/\b<=1000000)/\Q (.int (eA p xs)) H
noncomputable def tM:Sp:=fun vs H Q _=>∃(v p:Int)(n:Nat),vs=[.int v,.int p]/\(3<=p/\0<=v/\v<=p^n/\n<=50)/\∀(a:Addr)(xs:List Int)(H':Hp),au H H'->IL H' a xs->FG p v xs->xs.length<=n+1->Q (.ref a) H'
noncomputable def pA:Sp:=fun vs H Q _=>∃(a:Addr)(xs:List Int),vs=[.ref a]/\IL H a xs/\(xs≠[]/\BQ xs)/\∀(m:Int)(H':Hp),au H H'->(∃x∈xs,m=ab x)->(∀x∈xs,ab x<=m)->Q (.int m) H'
section
variable {P:Program} {w:World} {K:PySem.W.Frag} {mg:Str->Option Value} {base:Heap}
theorem tN(T:Nm mg)(D:aL K mg "value_at" jF ["poly","point"]):bq P w K mg base 1 "value_at" ["poly","point"] F6:=by
 refine D.ok gr (fun vs H Q E h=>?_) (fun f cD A outer s H vs Q E hr h=>?_)
 ·obtain⟨a,xs,p,P,rfl,_⟩:=h;rfl
 obtain⟨a,xs,p,P,rfl,ha,⟨b,hx,Uc,hb,hP,Ud⟩,q⟩:=h;refine⟨_,(ae (ai (i:=2) gr.nd rfl (Or.inl rfl) af)
  (ae (gx PassesOwn.never rfl (vf rfl T.iH (aa (pv 0) ag)) (aQ (i:=3) gr.nd rfl (Or.inl rfl))
  (ah (ai (i:=2) gr.nd rfl (Or.inl rfl) (aj bA (aj aw (pv 2) (pv 1)) (pv 3)))))
  (ah (ax (pv 2))))),?_⟩;walk_at "sf";refine⟨a,_,rfl,aZ.of ha,?_⟩;refine qb (xs:=xs.map V.int) (fun i σ H'=>(∃r,σ=[some (.ref a),some (.int p),some (.int (eA p (xs.drop (xs.length-i)))),r])/\H'=H) ⟨⟨_,by rw[sS];rfl⟩,rfl⟩ (fun i σ H' _ z=>by rw[z.2];exact aZ.of ha) ?_ ?_
 ·rintro i x σ H' hi zt ⟨⟨r,rfl⟩,rfl⟩;rw[List.length_map] at hi zt;obtain⟨Jd,rfl⟩:=k_ zt;have h1:=BS hb Uc i (by lia);have h2:(P+1)*i<=1400001*40:=Nat.mul_le_mul (by lia) (by lia);walk_at "sf";refine bN (aR h1 hb (by lia)) ?_;walk_at "sf";exact⟨⟨_,by rw[sR p xs hi];rfl⟩,rfl⟩
 ·rintro σ H' ⟨⟨r,rfl⟩,rfl⟩;rw[List.length_map,A'];walk_at "sf";exact q
theorem zA(hT:P.given.tree=none)(D:aL K mg "spread" nI ["value","point"]):bq P w K mg base 33 "spread" ["value","point"] tM:=by
 refine D.ok fJ (fun vs H Q E h=>?_) (fun f cD A outer s H vs Q E hr h=>?_)
 ·obtain⟨v,p,n,rfl,_⟩:=h;rfl
 obtain⟨v,p,n,rfl,⟨Ei,hv,Ih,hn⟩,q⟩:=h;have hp:0<p:=by lia
 have DN:p≠0:=by lia
 refine⟨_,(ae (ai (i:=2) fJ.nd rfl (Or.inl rfl) (eV ag))
  (ae (ai (i:=3) fJ.nd rfl (Or.inl rfl) (pv 0))
  (ae (cX PassesOwn.never (fP (pv 3) (fun _=>rfl))
  (ae (ai (i:=4) fJ.nd rfl (Or.inl rfl) (aj cF (pv 3) (pv 1)))
  (ae (bO (aB fO (aj aw af (pv 4)) (pv 1) (aE _))
  (ah (ai (i:=4) fJ.nd rfl (Or.inl rfl) (aj bJ (pv 4) (pv 1))))
  aO)
  (ae (je (lA PySem.F.plainAttrs_list PySem.F.slot_list_append PySem.F.type_list_append eW (pv 2) (aa (pv 4) ag)))
  (ah (ai (i:=3) fJ.nd rfl (Or.inl rfl) (aj (dB ⟨hT,⟨_,_,rfl,rfl,rfl,rfl,rfl⟩,hr.py⟩) (aj bJ (pv 3) (pv 4)) (pv 1))))))))
  (ah (ax (pv 2)))))),?_⟩;walk_at "sf";intro p1 m5;walk_at "sf";refine cM (fun m σ H'=>∃(xs:List Int)(r:Int)(z:Option V),m=r.toNat/\σ=[some (.int v),some (.int p),some (.ref p1),some (.int r),z]/\au H H'/\IL H' p1 xs/\0<=r/\
  eA p xs+p^xs.length*r=v/\(∀x∈xs,-p<2*x/\2*x<=p)/\(r=0->Tr xs)/\((xs.length<=n/\r<=p^(n-xs.length))\/(xs.length<=n+1/\r=0)))
  ⟨_,[],v,_,rfl,rfl,au.new m5 _,ak,hv,by show 0+p^0*v=v;rw[Int.pow_zero];lia,fun x hx=>by simp at hx,fun _=>Tr.nil,.inl ⟨Nat.zero_le _,Ih⟩⟩ ?_
 rintro m σ H' ⟨xs,r,z,rfl,rfl,s1,h1,Je,e,Hw,Ue,xc⟩;walk_at "sf";refine dI (fun c=>?_) (fun c=>?_)
 ·have BU:r≠0:=by simpa using c
  have Q1:0<r:=by lia
  have hlen:xs.length<=n/\r<=p^(n-xs.length):=by
   rcases xc with h|h
   ·exact h
   ·exact absurd h.2 BU
  have fin:∀d:Int,d=digit p r->∀H2:Hp,au H H2->IL H2 p1 (xs++[d])->∃m',m'<r.toNat/\∃(xs:List Int)(t:Int)(z:Option V),m'=t.toNat/\[some (.int v),some (.int p),some (.ref p1),some (.int ((iV p r))),some (V.int d)]=[some (.int v),some (.int p),some (.ref p1),some (.int t),z]/\au H H2/\IL H2 p1 xs/\0<=t/\
   eA p xs+p^xs.length*t=v/\(∀x∈xs,-p<2*x/\2*x<=p)/\(t=0->Tr xs)/\((xs.length<=n/\t<=p^(n-xs.length))\/(xs.length<=n+1/\t=0)):=by
   intro d hd H2 s2 h2;have q0:=sQ hp Je;have q1:=D0 Ei Q1;refine⟨_,by lia,xs++[d],iV p r,_,rfl,rfl,s2,h2,q0,?_,?_,?_,?_⟩
   ·rw[xO,List.length_append,List.length_singleton,Int.pow_succ];show eA p xs+p^xs.length*(d+p*0)+p^xs.length*p*iV p r=v;have e2:=m9 (v:=r) hp;rw[<-e,hd]
    conv=>rhs;rw[<-e2]
    grind
   ·intro x hx;rcases List.mem_append.mp hx with hx|hx
    ·exact Hw x hx
    ·rw[List.mem_singleton.mp hx,hd];exact mv hp
   ·intro hz y hy;rw[List.getLast?_append,List.getLast?_singleton] at hy;have:d=y:=by simpa using hy
    rw[<-this,hd];exact vB hp BU hz
   ·rw[List.length_append,List.length_singleton];by_cases hl:xs.length=n
    ·right;have h3:=hlen.2;rw[hl,Nat.sub_self,Int.pow_zero] at h3;have h4:r=1:=by lia
     rw[h4];exact⟨by lia,(A_ (by lia)).1⟩
    ·left;refine⟨by lia,DZ hp ?_⟩;have e3:n-xs.length=n-(xs.length+1)+1:=by lia
     have h3:=hlen.2;rw[e3,Int.pow_succ] at h3;rw[Int.mul_comm];exact h3
  have Lj:∀d:Int,IL (upd H' p1 (.lst (xs.map V.int++[V.int d]))) p1 (xs++[d]):=fun d=>by
   show upd H' p1 _ p1=_;rw[ak,List.map_append];rfl
  have x':∀o:HO,au H (upd H' p1 o):=fun o c u z=>by
   rw[aH (aI z m5)];exact s1 _ _ z
  refine⟨_,fun cz H' h=>h,?_⟩;walk_at "sf";refine bN DN ?_;rw[fo hp];walk_at "sf";have b1:IntMulOk 2 (r%p):=IntMulOk.of_left (by decide);refine bN b1 ?_;walk_at "sf";refine dI (fun c2=>?_) (fun c2=>?_)
  ·have h2:2*(r%p)>p:=by simpa using c2
   have ed:r%p-p=digit p r:=by unfold digit;rw[if_pos h2]
   walk_at "sf";refine⟨_,rfl,.inl ⟨rfl,_,aZ.of h1⟩,?_⟩;walk_at "sf";refine⟨p1,_,_,rfl,rfl,h1,?_,?_⟩
   ·rw[List.length_map];exact Nat.lt_of_lt_of_le (Nat.lt_of_le_of_lt hlen.1 (by lia:n<1000)) (bZ (Nat.le_refl _))
   ·walk_at "sf";refine bN DN ?_;rw[ed,dO hp];exact fin _ rfl _ (x' _) (Lj _)
  ·have h2:¬2*(r%p)>p:=by simpa using c2
   have ed:r%p=digit p r:=by unfold digit;rw[if_neg h2]
   walk_at "sf";refine⟨_,rfl,.inl ⟨rfl,_,aZ.of h1⟩,?_⟩;walk_at "sf";refine⟨p1,_,_,rfl,rfl,h1,?_,?_⟩
   ·rw[List.length_map];exact Nat.lt_of_lt_of_le (Nat.lt_of_le_of_lt hlen.1 (by lia:n<1000)) (bZ (Nat.le_refl _))
   ·walk_at "sf";refine bN DN ?_;rw[ed,dO hp];exact fin _ rfl _ (x' _) (Lj _)
 ·have BU:r=0:=by simpa using c
  subst BU;walk_at "sf";refine q p1 xs H' s1 h1 ⟨by rw[<-e];lia,Hw,Ue rfl⟩ ?_;rcases xc with h|h<;>lia
theorem vU(T:Nm mg)(D:aL K mg "largest" kT ["poly"]):bq P w K mg base 1 "largest" ["poly"] pA:=by
 refine D.ok vP (fun vs H Q E h=>?_) (fun f cD A outer s H vs Q E hr h=>?_)
 ·obtain⟨a,xs,rfl,_⟩:=h;rfl
 obtain⟨a,xs,rfl,ha,⟨hn,hf⟩,q⟩:=h;have Af:∀i,(if co xs i<0 then-co xs i else co xs i)=ab (co xs i):=fun i=>by unfold ab;split<;>lia
 refine⟨_,(ah (ax (aG (y' rfl) rfl T.F4 boot_max (aa (g9 rfl rfl (iP (own:=["number"]) (fr:=[]) (fs:=[]) (by with_unfolding_all rfl) rfl (by decide +kernel) (by decide +kernel) (by exact trivial) (by with_unfolding_all rfl) (by exact trivial)) (gn (pv 0)) (fun _ _ _ _ _=>(aQ (i:=0) (show List.Nodup (["number"]:List Str) by decide +kernel) rfl (Or.inl rfl) (Or.inr rfl))) (fun _ _ _ _ _=>(aG cK rfl T.gQ boot_abs (aa (pv 0) ag)))) ag)))),?_⟩;walk_at "sf";refine ij (H1:=H) (rH K a) (fun R hR=>?_) (ig (xs:=xs) (aZ.of ha) (fun i=>ab (co xs i)) hf ?_ ?_)
 ·walk_at "sf";exact⟨a,rfl,⟨_,aZ.of ha⟩,hR⟩
 ·intro i r H2 hi hr dJ Z hZ;obtain⟨x0,rfl⟩:=sE hr;walk_at "sf";refine⟨_,rfl,?_⟩;rw[Af];exact hZ _ _ (au.refl _) ⟨[_],rfl,rfl⟩
 ·intro D H2 hD dJ h2;walk_at "sf";have hl:=List.length_pos_iff.mpr hn;refine⟨D,_,rfl,aZ.of h2,fun z=>?_,fun m hm OP=>q m H2 dJ ?_ fun x hx=>?_⟩
  ·have:=congrArg List.length z;rw[aN] at this;simp at this;exact hn this
  ·obtain⟨i,hi,e⟩:=List.mem_map.mp hm;have hi:=List.mem_range.mp hi;exact⟨co xs i,by rw[bP hi];exact List.getElem_mem hi,e.symm⟩
  ·obtain⟨i,hi,e⟩:=List.getElem_of_mem hx;refine OP _ (List.mem_map.mpr ⟨i,List.mem_range.mpr hi,?_⟩);rw[bP hi,e]
end
end dH
namespace dH
open PySem PyProof.Rows L2 SF SF.Po
noncomputable def vV:Sp:=fun vs H Q _=>∃(a d:Addr)(xs ds:List Int)(b c:Nat),vs=[.ref a,.ref d]/\IL H a xs/\IL H d ds/\(ds≠[]/\Tr ds/\xs.length<=40/\ds.length<=60/\Ab b xs/\Ab c ds/\b+41*(c+1)<=jQ)/\
 (∀H',au H H'->(∀s,aq xs≠aq ds*s)->Q .eT H')/\
 (∀(a':Addr)(qs:List Int)(H':Hp),au H H'->IL H' a' qs->aq xs=aq ds*aq qs->(ds.length<=xs.length->qs.length+ds.length=xs.length+1)->Q (.ref a') H')
theorem Ej{rs ds:List Int}{t:Int}{k r c:Nat}(hk:k+ds.length<=rs.length)(b1:Ab r rs)(b2:Ab c ds)(bt:Bd r t):Ab (r+(c+1)) (iU rs ds t k):=fun x hx=>by
 obtain⟨j,e⟩:=kM hx;rw[<-e,m8 hk];have h1:Bd (r+c) (co rs j):=(b1.co j).mono (by lia);have h2:Bd (r+c) (if k<=j then t*co ds (j-k) else 0):=by
  split
  ·exact bt.mul (b2.co _)
  ·show(0:Int).natAbs<_;exact Nat.two_pow_pos _
 exact h1.sub h2
theorem tO{xs:List Int}(h:xs≠[]):(xs.map V.int)[(xs.map V.int).length-1]?=some (.int (SF.co xs (xs.length-1))):=by
 have hl:0<xs.length:=List.length_pos_iff.mpr h;rw[List.length_map,List.getElem?_map,List.getElem?_eq_getElem (by lia),bP (by lia)];rfl
section
variable {P:Program} {w:World} {K:PySem.W.Frag} {mg:Str->Option Value} {base:Heap}
theorem vW(T:Nm mg)(hT:P.given.tree=none)(D:aL K mg "divided" kS ["poly","divisor"]):bq P w K mg base 33 "divided" ["poly","divisor"] vV:=by
 refine D.ok dW (fun vs H Q E h=>?_) (fun f cD A outer s H vs Q E hr h=>?_)
 ·obtain⟨a,d,xs,ds,b,c,rfl,_⟩:=h;rfl
 obtain⟨a,d,xs,ds,b,c,rfl,ha,hd,⟨vz,td,hx,WB,bx,bd,xc⟩,qn,qs⟩:=h;have ed:(ds.map V.int).length=ds.length:=List.length_map _;have WC:=List.length_pos_iff.mpr vz;have F7:=td.last vz;have gR:jQ=60000000:=rfl;refine⟨_,(ae (ai (i:=2) dW.nd rfl (Or.inl rfl) (da jV rfl T.vR boot_list (aa (pv 0) ag)))
  (ae (ai (i:=3) dW.nd rfl (Or.inl rfl) (eV ag))
  (ae (cX PassesOwn.never (aB Fi (aG aW rfl T.fu boot_len (aa (pv 2) ag)) (aG aW rfl T.fu boot_len (aa (pv 1) ag)) (aE _))
  (ae (ai (i:=4) dW.nd rfl (Or.inl rfl) (aj (dB ⟨hT,⟨_,_,rfl,rfl,rfl,rfl,rfl⟩,hr.py⟩) (aD bI (pv 2) (dn bY af) (fun _ _=>rfl)) (aD bI (pv 1) (dn bY af) (fun _ _=>rfl))))
  (ae (ai (i:=5) dW.nd rfl (Or.inl rfl) (aj bJ (aG aW rfl T.fu boot_len (aa (pv 2) ag)) (aG aW rfl T.fu boot_len (aa (pv 1) ag))))
  (ae (gx PassesOwn.never rfl (pZ rfl T.i' (aa (pv 1) ag)) (kz rfl (bL (aQ (i:=6) dW.nd rfl (Or.inl rfl)) (bL (aQ (i:=7) dW.nd rfl (Or.inl rfl)) jf)))
  (ah (mH (aj bJ (aD bI (pv 2) (aj bA (pv 5) (pv 6)) (fun _ _=>rfl)) (aj aw (pv 4) (pv 7))) (An (pv 2) (aj bA (pv 5) (pv 6)) set_list))))
  (ae (bO (aB mI (vb PySem.F.plainAttrs_list PySem.F.slot_list_pop PySem.F.type_list_pop vd (pv 2)) af (aE _))
  (ah (ax fv))
  aO)
  (ah (je (lA PySem.F.plainAttrs_list PySem.F.slot_list_append PySem.F.type_list_append eW (pv 3) (aa (pv 4) ag)))))))))
  (ae (bO (pO (aG (y9 rfl) rfl T.Lg boot_any (aa (pv 2) ag)))
  (ah (ax fv))
  aO)
  (ah (ax (DI rfl rfl T.iH rfl T.vR (aa (pv 3) ag)))))))),?_⟩;walk_at "sf";refine⟨a,_,rfl,.inl (aZ.of ha),fun p1 m5=>?_⟩;have s1:=au.new m5 (.lst (xs.map V.int));walk_at "sf";intro p2 vx;have s2:=s1.trans (au.new vx (.lst []));have OQ:H p2=none:=s1.free vx;have MI:p1≠p2:=fun z=>by rw[<-z,ak] at vx;cases vx
 walk_at "sf";refine cM (fun m σ H'=>∃(rs fs:List Int)(z1 z2 z3 z4:Option V),m=rs.length/\σ=[some (.ref a),some (.ref d),some (.ref p1),some (.ref p2),z1,z2,z3,z4]/\au H H'/\IL H' p1 rs/\IL H' p2 fs/\
  aq xs=aq rs+aq ds*(X (rs.length+1-ds.length)*aq fs.reverse)/\rs.length+fs.length=xs.length/\(ds.length<=rs.length+1\/fs=[])/\Ab (b+fs.length*(c+1)) rs)
  ⟨_,xs,[],_,_,_,_,rfl,rfl,s2,by show upd _ p2 _ p1=_;rw[aH MI,ak],ak,?_,by simp,.inr rfl,bx.mono (by simp)⟩ ?_
 ·rw[List.reverse_nil,dt];grind
 rintro m σ H' ⟨rs,fs,z1,z2,z3,z4,rfl,rfl,s3,h1,h2,e,hlen,Ug,Ek⟩;have er:(rs.map V.int).length=rs.length:=List.length_map _;have WD:fs.length*(c+1)<=40*(c+1):=Nat.mul_le_mul_right _ (by lia);walk_at "sf";refine⟨p1,_,rfl,.inl (aZ.of h1),?_⟩;walk_at "sf";refine⟨d,_,rfl,.inl (aZ.of (s3 _ _ hd)),?_⟩;walk_at "sf";rw[er,ed];refine dI (fun cc=>?_) (fun cc=>?_)
 ·have Q2:ds.length<=rs.length:=by simpa using cc
  have BU:rs≠[]:=List.length_pos_iff.mp (by lia);refine⟨_,fun cz H' h=>h,?_⟩;walk_at "sf";refine dr (aZ.of h1) (fE BU) ?_;walk_at "sf";refine dr (aZ.of (s3 _ _ hd)) (fE vz) ?_;refine bN F7 ?_;generalize ht:(co rs (rs.length-1)).fdiv (co ds (ds.length-1))=t;have bt:Bd (b+fs.length*(c+1)) t:=(Ek.co (rs.length-1)).of_le (by rw[<-ht];exact xN _ _);walk_at "sf";refine⟨p1,_,rfl,.inl (aZ.of h1),?_⟩;walk_at "sf";refine⟨d,_,rfl,.inl (aZ.of (s3 _ _ hd)),?_⟩;walk_at "sf";rw[er,ed];have ek:(rs.length:Int)-(ds.length:Int)=((rs.length-ds.length:Nat):Int):=by lia
  rw[ek];generalize hk:rs.length-ds.length=k;have WE:k+ds.length=rs.length:=by lia
  refine⟨d,rfl,⟨_,aZ.of (s3 _ _ hd)⟩,?_⟩;refine si (xs:=ds.map V.int) (fun i σ H'=>(∃r1 r2,σ=[some (.ref a),some (.ref d),some (.ref p1),some (.ref p2),some (.int t),some (.int (k:Int)),r1,r2])/\au H H'/\IL H' p2 fs/\
   IL H' p1 (fG (fun j=>co rs j-if k<=j/\j<k+i then t*co ds (j-k) else 0) rs.length))
   ⟨⟨_,_,rfl⟩,s3,h2,?_⟩ (fun i σ H' _ z=>aZ.of (z.2.1 _ _ hd)) ?_ ?_
  ·show H' p1=_;rw[h1];refine congrArg (fun l:List Int=>some (HO.lst (l.map V.int))) ?_
   conv=>lhs;rw[<-Hf rs]
   exact fH fun j _=>by rw[if_neg (by lia)];lia
  ·rintro i x pp σ H4 hi sF ⟨⟨r1,r2,rfl⟩,s4,h4,h5⟩;obtain⟨Oi,rfl⟩:=k_ hi;have s5:=au.new sF (.tup [.int (i:Int),.int (co ds i)]);have h6:=s5 _ _ h5;have ei:(k:Int)+(i:Int)=((k+i:Nat):Int):=by lia
   refine kG (cC.of ak) rfl ?_;walk_at "sf";rw[ei];refine dr (aZ.of h6) (yj (by rw[aN];lia)) ?_;walk_at "sf";refine bN (aR bt (bd.co i) (by lia)) ?_;walk_at "sf";rw[ei];refine⟨p1,_,_,k+i,rfl,rfl,h6,BO (by rw[List.length_map,aN];lia),?_⟩;refine⟨⟨_,_,rfl⟩,fun c o z=>?_,?_,?_⟩
   ·rw[aH (aI z m5)];exact s5 _ _ (s4 _ _ z)
   ·show upd _ p1 _ p2=_;rw[aH MI.symm];exact s5 _ _ h4
   ·show upd _ p1 _ p1=_;rw[ak,kH,if_pos (by lia),<-List.map_set,xq (by lia)];refine congrArg (fun l=>some (HO.lst (l.map V.int))) (fH fun j hj=>?_);show(if j=k+i then _ else _)=_;by_cases e:j=k+i
    ·subst e;have e3:k+i-k=i:=by lia
     rw[if_pos rfl,if_neg (by lia),if_pos ⟨by lia,by lia⟩,e3];lia
    ·rw[if_neg e];by_cases e4:k<=j/\j<k+i
     ·rw[if_pos e4,if_pos ⟨e4.1,by lia⟩]
     ·rw[if_neg e4,if_neg (by lia)]
  ·rintro σ H4 ⟨⟨r1,r2,rfl⟩,s4,h4,h5⟩;rw[ed] at h5;have es:fG (fun j=>co rs j-if k<=j/\j<k+ds.length then t*co ds (j-k) else 0) rs.length=iU rs ds t k:=fH fun j hj=>by
    by_cases e:k<=j
    ·rw[if_pos e,if_pos ⟨e,by lia⟩]
    ·rw[if_neg e,if_neg (fun z=>e z.1)]
   rw[es] at h5;have Jf:=zf rs ds t k;have Uh:iU rs ds t k≠[]:=List.length_pos_iff.mp (by rw[Jf];lia);have etop:co (iU rs ds t k) ((iU rs ds t k).length-1)=co rs (rs.length-1)-t*co ds (ds.length-1):=by
    rw[Jf,m8 (by lia),if_pos (by lia)];have e3:rs.length-1-k=ds.length-1:=by lia
    rw[e3]
   have s6:∀o:HO,au H (upd H4 p1 o):=fun o c u z=>by
    rw[aH (aI z m5)];exact s4 _ _ z
   walk_at "sf";refine⟨_,rfl,.inl ⟨rfl,_,aZ.of h5⟩,p1,_,_,rfl,rfl,h5,tO Uh,?_⟩;walk_at "sf";rw[etop];refine dI (fun c2=>?_) (fun c2=>?_)
   ·have eQ:co rs (rs.length-1)-t*co ds (ds.length-1)≠0:=by simpa using c2
    walk_at "sf";refine qn _ (s6 _) fun s hs=>eQ ?_;have e2:aq rs=aq ds*(s-X (rs.length+1-ds.length)*aq fs.reverse):=by
     rw[e] at hs;grind
    have:=zh td vz Q2 e2;rw[ht] at this;exact this
   ·have hz:co rs (rs.length-1)-t*co ds (ds.length-1)=0:=by simpa using c2
    walk_at "sf";have h7:upd H4 p1 (.lst ((iU rs ds t k).map V.int).dropLast) p2=some (.lst (fs.map V.int)):=by rw[aH MI.symm];exact h4
    refine⟨_,rfl,.inl ⟨rfl,_,aZ.of h7⟩,?_⟩;walk_at "sf";refine⟨p2,_,_,rfl,rfl,h7,?_,?_⟩
    ·rw[List.length_map];exact Nat.lt_of_lt_of_le (by lia:fs.length<1000) (bZ (Nat.le_refl _))
    ·refine⟨_,?_,(iU rs ds t k).dropLast,fs++[t],_,_,_,_,rfl,rfl,fun c o z=>?_,?_,?_,?_,?_,?_,?_⟩
     ·rw[List.length_dropLast,Jf];lia
     ·rw[aH (aI z OQ)];exact s6 _ _ _ z
     ·show upd _ p2 _ p1=_;rw[aH MI,ak,List.map_dropLast]
     ·show upd _ p2 _ p2=_;rw[ak,List.map_append];rfl
     ·rw[A9 (by rw[etop];exact hz),zg (by lia),List.length_dropLast,Jf,List.reverse_append,List.reverse_singleton,List.singleton_append,mZ];have e3:rs.length+1-ds.length=k+1:=by lia
      have e4:rs.length-1+1-ds.length=k:=by lia
      rw[e3] at e;rw[e4,e,FH];grind
     ·rw[List.length_dropLast,Jf,List.length_append,List.length_singleton];lia
     ·left;rw[List.length_dropLast,Jf];lia
     ·rw[List.length_append,List.length_singleton];have:=Ej (k:=k) (by lia) Ek bd bt;have e5:b+(fs.length+1)*(c+1)=b+fs.length*(c+1)+(c+1):=by rw[Nat.add_mul];lia
      rw[e5];exact fun x hx=>this x (List.mem_of_mem_take (by rw[List.dropLast_eq_take] at hx;exact hx))
 ·have eE:rs.length<ds.length:=by
   have:¬ds.length<=rs.length:=by simpa using cc
   lia
  have e0:rs.length+1-ds.length=0:=by lia
  rw[e0,qp] at e;have e1:aq xs=aq rs+aq ds*aq fs.reverse:=by rw[e];grind
  walk_at "sf";refine⟨p1,_,rfl,aZ.of h1,?_⟩;walk_at "sf";cases Lk:rs.any (·!=0) with
  |true=>
   rw[if_pos rfl];walk_at "sf";refine qn H' s3 fun s hs=>?_;have e2:aq rs=aq ds*(s-aq fs.reverse):=by rw[e1] at hs;grind
   have:=any_zero.mpr (zi td eE e2);rw[Lk] at this;cases this
  |false=>
   have hz:=any_zero.mp Lk;rw[hz] at e1;have e2:aq xs=aq ds*aq fs.reverse:=by rw[e1];grind
   rw[if_neg (by decide)];walk_at "sf";refine⟨_,rfl,p2,_,rfl,aZ.of h2,fun l hl=>?_⟩;refine qs l fs.reverse _ (s3.trans (au.new hl _)) ?_ e2 fun Q2=>?_
   ·show upd H' l _ l=_;rw[ak,List.map_reverse]
   ·rw[List.length_reverse];rcases Ug with h|h
    ·lia
    ·rw[h,List.length_nil] at hlen;lia
end
end dH
namespace dH
open PySem PyProof.Rows L2 SF SF.Po
theorem dD{xs:List Int}{n:Nat}(h:Tr xs)(hn:xs≠[])(b:Ab n xs):Ab n (ar xs):=fun x hx=>by
 obtain⟨i,hi,e⟩:=List.getElem_of_mem hx;rw[aP] at hi;have e2:=gJ hi;have hc:=fe h hn;rw[<-e,<-bP];refine(b.co i).of_le ?_;rw[<-e2,Int.natAbs_mul];exact Nat.le_mul_of_pos_right _ (Int.natAbs_pos.mpr hc)
theorem tP{b:Nat}{x:Int}(h:Bd b x):ab x<=((2^b:Nat):Int):=by
 unfold Bd at h;unfold ab;lia
theorem Ll{b:Nat}{x:Int}{B:Nat}(h:ab x<=(B:Int))(hB:B<2^b):Bd b x:=by
 unfold Bd;unfold ab at h;lia
noncomputable def Lm(xs ys:List Int):Prop:=Tr xs/\Tr ys/\xs.length<=40/\ys.length<=40/\xs.length+ys.length<=62/\∃b,b<=10000/\Ab b xs/\Ab b ys
theorem Ln{xs:List Int}:(!(xs.map V.int).isEmpty)=decide (xs≠[]):=by cases xs<;>rfl
theorem El{xs ys:List Int}{b:Nat}(hx:Tr xs)(hy:Tr ys)(hl:xs.length+ys.length<=62)(b1:Ab b xs)(b2:Ab b ys):Ab (61*b+427) (dy xs ys):=by
 by_cases eC:xs=[]
 ·subst eC;rw[o_,j_ hy];by_cases gU:ys=[]
  ·subst gU;intro x hx;exact absurd hx (by simp[ar])
  ·exact(dD hy gU b2).mono (by lia)
 by_cases gU:ys=[]
 ·subst gU;rw[j_ hx];exact(dD hx eC b1).mono (by lia)
 intro x zt;obtain⟨i,e⟩:=kM zt;have h1:=DY hx hy eC gU (A:=60) (M:=2^b) (by lia) (fun i=>tP ((dD hx eC b1).co i)) (fun i=>tP ((dD hy gU b2).co i)) i;rw[e] at h1;have h2:=xP b;exact Ll h1 (by lia)
section
variable {P:Program} {w:World} {K:PySem.W.Frag} {mg:Str->Option Value} {base:Heap}
theorem oz(T:Nm mg)(cN:bq P w K mg base 34 "common_divisor" ["one","other"] yk)(d8:bq P w K mg base 34 "primitive" ["poly"] (BP ar (fun xs=>BQ xs/\Tr xs)))(nO:bq P w K mg base 34 "value_at" ["poly","point"] F6)(BV:bq P w K mg base 34 "spread" ["value","point"] tM)(pB:bq P w K mg base 34 "largest" ["poly"] pA)(jo:bq P w K mg base 34 "divided" ["poly","divisor"] vV)(D:aL K mg "divisor_of" iz ["one","other"]):bq P w K mg base 35 "divisor_of" ["one","other"] (Eh dy Lm):=by
 refine D.ok cI (fun vs H Q E h=>?_) (fun f cD A outer s H vs Q E hr h=>?_)
 ·obtain⟨a,b,xs,ys,rfl,_⟩:=h;rfl
 obtain⟨a,b,xs,ys,rfl,ha,hb,⟨tx,ty,lx,ly,WG,bb,Mq,bx,Ii⟩,q⟩:=h;refine⟨_,(ae (ai (i:=2) cI.nd rfl (Or.inl rfl) (av d8 hr (aa (pv 0) ag)))
  (ae (ai (i:=3) cI.nd rfl (Or.inl rfl) (av d8 hr (aa (pv 1) ag)))
  (ae (bO (mF (fP (pv 2) (fun _=>rfl)))
  (ah (ax (pv 3)))
  aO)
  (ae (bO (mF (fP (pv 3) (fun _=>rfl)))
  (ah (ax (pv 2)))
  aO)
  (ae (ai (i:=4) cI.nd rfl (Or.inl rfl) (aj aw (aj aw af (aj bA (aG (kB rfl) rfl T.BK boot_min (aa (av pB hr (aa (pv 2) ag)) (aa (av pB hr (aa (pv 3) ag)) ag))) af)) (aj Au af af)))
  (ah (cX PassesOwn.never (fP mE (fun _=>rfl))
  (ae (ai (i:=5) cI.nd rfl (Or.inl rfl) (av cN hr (aa (av nO hr (aa (pv 2) (aa (pv 4) ag))) (aa (av nO hr (aa (pv 3) (aa (pv 4) ag))) ag))))
  (ae (ai (i:=6) cI.nd rfl (Or.inl rfl) (av d8 hr (aa (av BV hr (aa (pv 5) (aa (pv 4) ag))) ag)))
  (ae (bO (PW.pt (jy (aB w_ (av jo hr (aa (pv 2) (aa (pv 6) ag))) fv (aE _)) (gX (aB w_ (av jo hr (aa (pv 3) (aa (pv 6) ag))) fv (aE _)))))
  (ah (ax (pv 6)))
  aO)
  (ah (ai (i:=4) cI.nd rfl (Or.inl rfl) (aj aw (pv 4) (pv 4)))))))))))))),?_⟩;walk_at "sf";refine⟨a,xs,rfl,ha,⟨by show xs.length<=1000;lia,tx⟩,fun p1 H1 s1 h1=>?_⟩;walk_at "sf";refine⟨b,ys,rfl,s1 _ _ hb,⟨by show ys.length<=1000;lia,ty⟩,fun p2 H2 s2 h2=>?_⟩;have dJ:=s1.trans s2;walk_at "sf";refine vg (aZ.of (s2 _ _ h1)) ?_
 dsimp only
 rw[Ln];by_cases eC:xs=[]
 ·subst eC;have e1:ar []=[]:=rfl;rw[if_pos (by rw[e1];rfl)];walk_at "sf";refine q p2 H2 dJ ?_;rw[o_,j_ ty];exact h2
 have MJ:ar xs≠[]:=fun z=>eC (by have:=congrArg List.length z;rw[aP] at this;exact List.length_eq_zero_iff.mp this);rw[if_neg (by simpa using MJ)];walk_at "sf";refine vg (aZ.of h2) ?_
 dsimp only
 rw[Ln];by_cases gU:ys=[]
 ·subst gU;have e1:ar []=[]:=rfl;rw[if_pos (by rw[e1];rfl)];walk_at "sf";refine q p1 H2 dJ ?_;rw[j_ tx];exact s2 _ _ h1
 have MK:ar ys≠[]:=fun z=>gU (by have:=congrArg List.length z;rw[aP] at this;exact List.length_eq_zero_iff.mp this);rw[if_neg (by simpa using MK)];have OR:=s2 _ _ h1;have Ui:=aP xs;have Uj:=aP ys;have ML:=dD tx eC bx;have OS:=dD ty gU Ii;walk_at "sf";refine⟨p1,_,rfl,OR,⟨MJ,by show(ar xs).length<=1000;lia⟩,fun m1 H3 s3⟨x1,mB,Q3⟩ K_=>?_⟩;walk_at "sf";refine⟨p2,_,rfl,s3 _ _ h2,⟨MK,by show(ar ys).length<=1000;lia⟩,fun m2 H4 s4⟨x2,Jg,Uk⟩ OT=>?_⟩;walk_at "sf";refine⟨_,_,rfl,?_⟩;walk_at "sf";have Lo:=s3.trans s4;have Q5:=dJ.trans Lo;have OU:ab m1<=((2^bb:Nat):Int):=by
  rw[Q3,lH (aF _)];exact tP (ML _ mB)
 have Lp:0<=m1:=by rw[Q3];exact aF _
 have OV:0<=m2:=by rw[Uk];exact aF _
 have key:∀M:Int,M=(if m2<m1 then m2 else m1)->0<=M/\M<=((2^bb:Nat):Int)/\((∀x∈ar xs,ab x<=M)\/(∀y∈ar ys,ab y<=M)):=fun M e=>by
  rw[lH Lp] at OU;rw[e];split
  ·exact⟨OV,by lia,.inr OT⟩
  ·exact⟨Lp,by lia,.inl K_⟩
 generalize hM:(if m2<m1 then m2 else m1)=M at*;obtain⟨Hr,WH,Lq⟩:=key M rfl;refine bN (IntMulOk.of_left (by decide)) ?_;walk_at "sf";refine bN ⟨by decide,by decide,by decide⟩ ?_;refine bN (IntMulOk.of_right (by decide)) ?_;walk_at "sf";have Ul:(2:Int)^(32:Int).toNat=4294967296:=by decide
 rw[Ul]
 dsimp only
 let PB:Nat:=122*bb+860;have WI:PB=122*bb+860:=rfl;have WJ:=xP bb;have MM:Pr (aq (ar xs)):=cJ tx eC;have OW:Pr (aq (ar ys)):=cJ ty gU;have Lr:(∀i,ab ((aq (ar xs)).c i)<=M)\/(∀i,ab ((aq (ar ys)).c i)<=M):=by
  rcases Lq with h|h
  ·exact .inl fun i=>mem_co h Hr i
  ·exact .inr fun i=>mem_co h Hr i
 have DN:Bd PB (2*(M+1)*4294967296):=by
  unfold Bd;have e3:(2*(M+1)*4294967296).natAbs=(2*(M+1)*4294967296).toNat:=by lia
  have e4:2^(bb+35)=2^bb*34359738368:=by rw[Nat.pow_add]
  have e5:2^(bb+35)<=2^PB:=Nat.pow_le_pow_right (by decide) (by lia);have e6:0<2^bb:=Nat.two_pow_pos bb;lia
 refine cM (fun m σ H'=>∃(p:Int)(z1 z2:Option V),m=(2*((NB 60 (2^bb):Nat):Int)+1-p).toNat/\σ=[some (.ref a),some (.ref b),some (.ref p1),some (.ref p2),some (.int p),z1,z2]/\au H2 H'/\2*(M+1)<p/\Bd PB p)
  ⟨_,_,_,_,rfl,rfl,Lo,by lia,DN⟩ ?_
 rintro m σ H5 ⟨p,z1,z2,rfl,rfl,s5,hp,bp⟩;have Ls:=zj MM.ne OW.ne Lq Hr hp 40 (by lia) (by lia);have Q6:=dJ.trans s5;walk_at "sf";refine⟨true,rfl,?_⟩
 dsimp only
 rw[if_pos rfl];refine⟨_,fun cz H' h=>h,?_⟩;walk_at "sf";refine⟨p1,_,p,PB,rfl,s5 _ _ OR,⟨bb,by lia,ML,bp,by lia,by lia⟩,?_⟩;walk_at "sf";refine⟨p2,_,p,PB,rfl,s5 _ _ h2,⟨bb,by lia,OS,bp,by lia,by lia⟩,?_⟩;walk_at "sf";refine⟨_,_,rfl,?_⟩;walk_at "sf";refine⟨_,_,40,rfl,⟨by lia,by lia,Ls.2,by decide⟩,fun p6 G H6 s6 h6 Jh WK=>?_⟩;walk_at "sf";refine⟨p6,G,rfl,h6,⟨by show G.length<=1000;lia,Jh.tr⟩,fun p7 H7 s7 h7=>?_⟩;have OX:=(s5.trans s6).trans s7;have DV:G≠[]:=by
  rintro rfl;have:=Jh.val;have e0:eA p []=0:=rfl;rw[e0] at this;lia
 have Q7:ar G≠[]:=fun z=>DV (by have:=congrArg List.length z;rw[aP] at this;exact List.length_eq_zero_iff.mp this);have WL:=aP G;have bG:Ab PB G:=fun x hx=>by
  have h8:=Jh.Hw x hx;unfold Bd at bp ⊢;lia
 have Q8:=dD Jh.tr DV bG;have OY:=bW Jh.tr;have Lu:FG p ((Int.gcd (ev p (aq (ar xs))) (ev p (aq (ar ys))):Nat):Int) G:=by rw[iT,iT];exact Jh
 have small:(∀s,aq (ar xs)≠aq (ar G)*s)\/(∀s,aq (ar ys)≠aq (ar G)*s)->p<=2*((NB 60 (2^bb):Nat):Int):=fun Em=>by
  rcases Int.lt_or_le (2*((NB 60 (2^bb):Nat):Int)) p with eE|hle
  ·exfalso;have gc:=cU (xs:=ar xs) (ys:=ar ys) (.inl MM.ne);have ef:=zc MM OW (fun i=>tP (ML.co i)) (fun i=>tP (OS.co i)) gc (A:=60) (by rw[bB (bW tx),bB (bW ty)];lia) eE Lu (by rw[iT,iT];exact Ls.1);obtain⟨f1,e1⟩:=gc.pr.div gc.df;obtain⟨g1,e2⟩:=gc.pr.div gc.dg;rcases Em with h|h
   ·exact h f1 (by rw[ef];exact e1)
   ·exact h g1 (by rw[ef];exact e2)
  ·exact hle
 have again:∀H8:Hp,au H2 H8->p<=2*((NB 60 (2^bb):Nat):Int)->IntMulOk p p/\∃m',m'<(2*((NB 60 (2^bb):Nat):Int)+1-p).toNat/\∃(p':Int)(z1 z2:Option V),m'=(2*((NB 60 (2^bb):Nat):Int)+1-p').toNat/\
  [some (V.ref a),some (V.ref b),some (V.ref p1),some (V.ref p2),some (V.int (p*p)),some (V.int ((Int.gcd (eA p (ar xs)) (eA p (ar ys)):Nat):Int)),some (V.ref p7)]=[some (.ref a),some (.ref b),some (.ref p1),some (.ref p2),some (.int p'),z1,z2]/\au H2 H8/\2*(M+1)<p'/\Bd PB p':=fun H8 s8 hle=>by
  have sF:p*2<=p*p:=Int.mul_le_mul_of_nonneg_left (by lia) (by lia);refine⟨aR bp bp (by lia),_,?_,p*p,_,_,rfl,rfl,s8,by lia,?_⟩
  ·lia
  ·have h9:Bd (61*bb+427) p:=by unfold Bd;lia
   exact(h9.mul h9).mono (by lia)
 walk_at "sf";refine⟨p1,p7,_,_,bb,PB,rfl,OX _ _ OR,h7,⟨Q7,OY,by lia,by lia,ML,Q8,by show bb+41*(PB+1)<=60000000;lia⟩,fun H8 s8 Em=>?_,fun p8 q1 H8 s8 h8 e8 _=>?_⟩
 ·obtain⟨OZ,fin⟩:=again H8 (OX.trans s8) (small (.inl Em));walk_at "sf";refine⟨rfl,false,rfl,?_⟩;rw[if_neg (by decide),if_neg (by decide)];walk_at "sf";refine bN OZ ?_;walk_at "sf";exact fin
 ·walk_at "sf";refine⟨rfl,true,rfl,?_⟩;rw[if_pos rfl];walk_at "sf";have O0:=OX.trans s8;refine⟨p2,p7,_,_,bb,PB,rfl,O0 _ _ h2,s8 _ _ h7,⟨Q7,OY,by lia,by lia,OS,Q8,by show bb+41*(PB+1)<=60000000;lia⟩,fun H9 s9 Em=>?_,fun p9 q2 H9 s9 h9 e9 _=>?_⟩
  ·obtain⟨OZ,fin⟩:=again H9 (O0.trans s9) (small (.inr Em));walk_at "sf";refine⟨rfl,false,rfl,?_⟩;rw[if_neg (by decide)];walk_at "sf";refine bN OZ ?_;walk_at "sf";exact fin
  ·walk_at "sf";refine⟨rfl,true,rfl,?_⟩;rw[if_pos rfl];walk_at "sf";refine q p7 H9 (dJ.trans (O0.trans s9)) ?_;have gc:GC (aq (ar xs)) (aq (ar ys)) (aq (ar G)):=gcd_right MM OW Lr hp Lu (by rw[e8];exact Po.D.mul _ _) (by rw[e9];exact Po.D.mul _ _);rw[<-m7 tx ty eC gU,<-mr OY gc];exact s9 _ _ (s8 _ _ h7)
noncomputable def Lv(xs ys:List Int):Prop:=Tr xs/\Tr ys/\xs≠[]/\ys≠[]/\xs.length<=40/\ys.length<=40/\Po.D (aq ys) (aq xs)/\∃b c,b<=1000000/\c<=1000000/\Ab b xs/\Ab c ys
theorem tQ(d8:bq P w K mg base 34 "primitive" ["poly"] (BP ar (fun xs=>BQ xs/\Tr xs)))(jo:bq P w K mg base 34 "divided" ["poly","divisor"] vV)(D:aL K mg "quotient" jG ["one","other"]):bq P w K mg base 35 "quotient" ["one","other"] (Eh ka Lv):=by
 refine D.ok tH (fun vs H Q E h=>?_) (fun f cD A outer s H vs Q E hr h=>?_)
 ·obtain⟨a,b,xs,ys,rfl,_⟩:=h;rfl
 obtain⟨a,b,xs,ys,rfl,ha,hb,⟨tx,ty,eC,gU,lx,ly,hd,bb,cc,Mq,Nl,bx,Ii⟩,q⟩:=h;have MJ:ar xs≠[]:=fun z=>eC (by have:=congrArg List.length z;rw[aP] at this;exact List.length_eq_zero_iff.mp this);have MK:ar ys≠[]:=fun z=>gU (by have:=congrArg List.length z;rw[aP] at this;exact List.length_eq_zero_iff.mp this);have Ui:=aP xs;have Uj:=aP ys;have eq:=qx tx ty eC gU hd;refine⟨_,(ah (ax (av jo hr (aa (av d8 hr (aa (pv 0) ag)) (aa (av d8 hr (aa (pv 1) ag)) ag))))),?_⟩;walk_at "sf";refine⟨a,xs,rfl,ha,⟨by show xs.length<=1000;lia,tx⟩,fun p1 H1 s1 h1=>?_⟩;walk_at "sf";refine⟨b,ys,rfl,s1 _ _ hb,⟨by show ys.length<=1000;lia,ty⟩,fun p2 H2 s2 h2=>?_⟩;have dJ:=s1.trans s2;walk_at "sf";refine⟨p1,p2,_,_,bb,cc,rfl,s2 _ _ h1,h2,⟨MK,bW ty,by lia,by lia,dD tx eC bx,dD ty gU Ii,by show bb+41*(cc+1)<=60000000;lia⟩,fun H3 s3 Em=>?_,fun p3 qs H3 s3 h3 e3 hl=>?_⟩
 ·exact absurd eq (Em _)
 ·refine q p3 H3 (dJ.trans s3) ?_;have om:(ar ys).length<=(ar xs).length:=by
   have h0:=(cJ tx eC).ne;rw[eq] at h0;have:=len_mul (qo h0) (gK h0);rw[<-eq,bB (bW tx),bB (bW ty)] at this;have:=len_pos (gK h0);lia
  have tq:Tr qs:=HB (bW tx) MJ (bW ty) e3 (hl om);rw[<-DW ty gU tq e3];exact h3
noncomputable def BW(xs:List Int):Prop:=Tr xs/\xs≠[]/\xs.length<=31/\∃b,b<=9990/\Ab b xs
theorem ym{xs:List Int}{b:Nat}(h:Ab b xs)(hl:xs.length<=31):Ab (b+5) (bR xs):=fun x hx=>by
 obtain⟨i,hi,e⟩:=List.getElem_of_mem hx;have OA:i<xs.length-1:=by rw[show(bR xs).length=xs.length-1 from aN _ _] at hi;exact hi
 rw[<-e,<-bP,jY];show Bd (b+5) (((i+1:Nat):Int)*co xs (i+1));have h1:Bd 5 (((i+1:Nat):Int)):=Bd.fR (by lia) (by lia);have h2:=h1.mul (h.co (i+1));rw[Nat.add_comm] at h2;exact h2
theorem tR(xs:List Int):(bR xs).length=xs.length-1:=aN _ _
theorem nP(vX:bq P w K mg base 35 "quotient" ["one","other"] (Eh ka Lv))(qT:bq P w K mg base 35 "divisor_of" ["one","other"] (Eh dy Lm))(iI:bq P w K mg base 35 "derivative" ["poly"] (BP bR (fun xs=>BQ xs/\Ab jQ xs)))(D:aL K mg "square_free" gz ["poly"]):bq P w K mg base 36 "square_free" ["poly"] (BP uN BW):=by
 refine D.ok nJ (fun vs H Q E h=>?_) (fun f cD A outer s H vs Q E hr h=>?_)
 ·obtain⟨a,xs,rfl,_⟩:=h;rfl
 obtain⟨a,xs,rfl,ha,⟨tx,eC,lx,bb,Mq,bx⟩,q⟩:=h;have gR:jQ=60000000:=rfl;have ld:=tR xs;have td:=xr tx;have bd:=ym bx lx;have h0:aq xs≠0\/aq (bR xs)≠0:=.inl (ip tx eC);refine⟨_,(ah (ax (av vX hr (aa (pv 0) (aa (av qT hr (aa (pv 0) (aa (av iI hr (aa (pv 0) ag)) ag))) ag))))),?_⟩;walk_at "sf";refine⟨a,xs,rfl,ha,⟨by show xs.length<=1000;lia,bx.mono (by lia)⟩,fun p1 H1 s1 h1=>?_⟩;walk_at "sf";refine⟨a,p1,xs,_,rfl,s1 _ _ ha,h1,⟨tx,td,by lia,by lia,by lia,bb+5,by lia,bx.mono (by lia),bd⟩,fun p2 H2 s2 h2=>?_⟩;have dJ:=s1.trans s2;have WM:(dy xs (bR xs)).length<=xs.length:=by
  have:=(cU h0).df.len (ip tx eC);rw[bB (gq _ _),bB tx] at this;exact this
 walk_at "sf";refine⟨a,p2,xs,_,rfl,dJ _ _ ha,h2,⟨tx,gq _ _,eC,xK h0,by lia,by lia,KP tx eC,bb,61*(bb+5)+427,by lia,by lia,bx,El tx td (by lia) (bx.mono (by lia)) bd⟩,fun p3 H3 s3 h3=>?_⟩;exact q p3 H3 (dJ.trans s3) h3
end
end dH
namespace dH
open PySem PyProof.Rows L2 SF
noncomputable def sg(a:Int):Int:=if a<0 then -1 else if 0<a then 1 else 0
noncomputable def lj:Sp:=fun vs H Q _=>∃a:Int,vs=[.int a]/\Q (.int (sg a)) H
noncomputable def ki:Sp:=fun vs H Q _=>∃(a:Addr)(xs:List Int)(t u:Int)(b p:Nat),vs=[.ref a,.int t,.int u]/\IL H a xs/\(xs.length<=100/\Ab b xs/\Bd p t/\Bd p u/\b+(p+1)*101<=jQ)/\Q (.int (hv t u xs)) H
noncomputable def En:Sp:=fun vs H Q _=>∃(a g:Addr)(xs:List Int)(t u:Int)(b p:Nat),vs=[.ref a,.ref g]/\IL H a xs/\H g=some (.tup [.int t,.int u])/\(xs.length<=100/\Ab b xs/\Bd p t/\Bd p u/\b+(p+1)*101<=jQ)/\Q (.int (sg (hv t u xs))) H
theorem vY{t u:Int}{xs:List Int}{j b p:Nat}(bt:Bd p t)(bu:Bd p u)(hb:Ab b xs):j<=xs.length->Bd (b+(p+1)*j+1) (AV t u xs j).1/\Bd (p*j+1) (AV t u xs j).2:=by
 induction j with
 |zero=>
  intro _;rw[AW];exact⟨by show(0:Int).natAbs<_;exact Nat.two_pow_pos _,Bd.mono (m:=1) (by show(1:Int).natAbs<2^1;decide) (by lia)⟩
 |succ j ih=>
  intro hj;obtain⟨h1,h2⟩:=ih (by lia);rw[sC t u xs j (by lia)];unfold iQ;have e1:(p+1)*(j+1)=(p+1)*j+(p+1):=by rw[Nat.mul_add];lia
  have e2:p*(j+1)=p*j+p:=by rw[Nat.mul_add];lia
  have e3:(p+1)*j=p*j+j:=by rw[Nat.add_mul];lia
  refine⟨?_,(h2.mul bu).mono (by lia)⟩;have z1:=(h1.mul bt);have z2:=((hb.co (xs.length-1-j)).mul h2);exact((z1.mono (by lia:b+(p+1)*j+1+p<=b+(p+1)*j+1+p)).add (z2.mono (by lia))).mono (by lia)
section
variable {P:Program} {w:World} {K:PySem.W.Frag} {mg:Str->Option Value} {base:Heap}
theorem Eo(D:aL K mg "sign" vO ["number"]):bq P w K mg base 1 "sign" ["number"] lj:=by
 refine D.ok Eg (fun vs H Q E h=>?_) (fun f cD A outer s H vs Q E hr h=>?_)
 ·obtain⟨a,rfl,_⟩:=h;rfl
 obtain⟨a,rfl,q⟩:=h;refine⟨_,(ae (bO (aB iL (pv 0) af (aE _))
  (ah (ax (dn bY af)))
  aO)
  (ah (ax (eD (aB fO (pv 0) af (aE _)) af af)))),?_⟩;walk_at "sf";unfold sg at q;refine dI (fun c=>?_) (fun c=>?_)
 ·walk_at "sf";rw[if_pos (by simpa using c)] at q;exact q
 ·rw[if_neg (by simpa using c)] at q;walk_at "sf";refine dI (fun c2=>?_) (fun c2=>?_)
  ·walk_at "sf";rw[if_pos (by simpa using c2)] at q;exact q
  ·walk_at "sf";rw[if_neg (by simpa using c2)] at q;exact q
theorem vZ(T:Nm mg)(D:aL K mg "trimmed" kQ ["row"]):bq P w K mg base 1 "trimmed" ["row"] (BP dA BQ):=by
 refine D.ok jE (fun vs H Q E h=>?_) (fun f cD A outer s H vs Q E hr h=>?_)
 ·obtain⟨a,xs,rfl,_⟩:=h;rfl
 obtain⟨a,xs,rfl,ha,hl,q⟩:=h;have em:(xs.map V.int).length=xs.length:=List.length_map _;refine⟨_,(ae (ai (i:=1) jE.nd rfl (Or.inl rfl) (aG aW rfl T.fu boot_len (aa (pv 0) ag)))
  (ae (cX PassesOwn.never (PW.pt (jy (aB fO (pv 1) af (aE _)) (gX (aB dN (aD bI (pv 0) (aj bJ (pv 1) af) (fun _ _=>rfl)) af (aE _)))))
  (ah (ai (i:=1) jE.nd rfl (Or.inl rfl) (aj bJ (pv 1) af))))
  (ah (ax (eH mi (pv 0) fz (fA (pv 1))))))),?_⟩;walk_at "sf";refine⟨a,_,rfl,.inl (aZ.of ha),?_⟩;walk_at "sf";rw[em];refine cM (fun m σ H'=>∃n:Nat,n=m/\σ=[some (.ref a),some (.int (n:Int))]/\H'=H/\n<=xs.length/\dA (xs.take n)=dA xs) ⟨_,xs.length,rfl,rfl,rfl,Nat.le_refl _,by rw[List.take_length]⟩ ?_;rintro m σ H' ⟨n,rfl,rfl,rfl,hn,e⟩;have fin:(n=0\/SF.co xs (n-1)≠0)->∀p,H' p=none->Q (.ref p) (upd H' p (.lst (gE (xs.map V.int) none (some (n:Int))))):=fun hz p hp=>by
  have e2:dA xs=xs.take n:=by rw[<-e];exact AS (DC hn hz)
  exact q p _ (au.new hp _) (by show upd H' p _ p=_;rw[ak,BL,e2])
 walk_at "sf";refine dI (fun c=>?_) (fun c=>?_)
 ·have hp:0<n:=by simpa using c
  have ei:((n:Int)-1)=((n-1:Nat):Int):=by lia
  walk_at "sf";rw[ei];refine dr (aZ.of ha) (yj (by lia)) ?_;walk_at "sf";refine dI (fun c2=>?_) (fun c2=>?_)
  ·have hz:SF.co xs (n-1)=0:=by simpa using c2
   refine⟨_,fun cz H' h=>h,?_⟩;walk_at "sf";rw[ei];refine⟨n-1,by lia,n-1,rfl,rfl,rfl,by lia,?_⟩;have:=vi (xs:=xs) hz;rw[Nat.sub_add_cancel hp] at this;rw[<-this,e]
  ·have hz:SF.co xs (n-1)≠0:=by simpa using c2
   walk_at "sf";refine⟨_,rfl,?_⟩;exact⟨a,_,rfl,aZ.of ha,fin (.inr hz)⟩
 ·have hp:n=0:=by simpa using c
  rw[if_neg (by decide)];walk_at "sf";refine⟨_,rfl,?_⟩;exact⟨a,_,rfl,aZ.of ha,fin (.inl hp)⟩
theorem qU(T:Nm mg)(D:aL K mg "height_at" iY ["poly","top","under"]):bq P w K mg base 1 "height_at" ["poly","top","under"] ki:=by
 refine D.ok dF (fun vs H Q E h=>?_) (fun f cD A outer s H vs Q E hr h=>?_)
 ·obtain⟨a,xs,t,u,b,p,rfl,_⟩:=h;rfl
 obtain⟨a,xs,t,u,b,p,rfl,ha,⟨hx,bx,bt,bu,xc⟩,q⟩:=h;have gR:jQ=60000000:=rfl;refine⟨_,(ae (ai (i:=3) dF.nd rfl (Or.inl rfl) af)
  (ae (ai (i:=4) dF.nd rfl (Or.inl rfl) af)
  (ae (gx PassesOwn.never rfl (vf rfl T.iH (aa (pv 0) ag)) (aQ (i:=5) dF.nd rfl (Or.inl rfl))
  (ae (ai (i:=3) dF.nd rfl (Or.inl rfl) (aj bA (aj aw (pv 3) (pv 1)) (aj aw (pv 5) (pv 4))))
  (ah (ai (i:=4) dF.nd rfl (Or.inl rfl) (aj aw (pv 4) (pv 2))))))
  (ah (ax (pv 3)))))),?_⟩;walk_at "sf";refine⟨a,_,rfl,aZ.of ha,?_⟩;refine qb (xs:=xs.map V.int) (fun i σ H'=>(∃r,σ=[some (.ref a),some (.int t),some (.int u),some (.int (AV t u xs i).1),some (.int (AV t u xs i).2),r])/\H'=H) ⟨⟨_,rfl⟩,rfl⟩ (fun i σ H' _ z=>by rw[z.2];exact aZ.of ha) ?_ ?_
 ·rintro i x σ H' hi zt ⟨⟨r,rfl⟩,rfl⟩;rw[List.length_map] at hi zt;obtain⟨Jd,rfl⟩:=k_ zt;obtain⟨b1,b2⟩:=vY bt bu bx (j:=i) (by lia);have k1:(p+1)*i<=(p+1)*100:=Nat.mul_le_mul_left _ (by lia);have k2:p*i<=p*100:=Nat.mul_le_mul_left _ (by lia);have k3:(p+1)*101=(p+1)*100+(p+1):=by lia
  have k4:(p+1)*100=p*100+100:=by lia
  walk_at "sf";refine bN (aR b1 bt (by lia)) ?_;walk_at "sf";refine bN (aR (bx.co _) b2 (by lia)) ?_;walk_at "sf";refine bN (aR b2 bu (by lia)) ?_;walk_at "sf";exact⟨⟨_,by rw[sC t u xs i hi];rfl⟩,rfl⟩
 ·rintro σ H' ⟨⟨r,rfl⟩,rfl⟩;rw[List.length_map];walk_at "sf";rw[mU];exact q
theorem v5(gb:bq P w K mg base 1 "sign" ["number"] lj)(cS:bq P w K mg base 1 "height_at" ["poly","top","under"] ki)(D:aL K mg "sign_at" kU ["poly","given"]):bq P w K mg base 2 "sign_at" ["poly","given"] En:=by
 refine D.ok vQ (fun vs H Q E h=>?_) (fun f cD A outer s H vs Q E hr h=>?_)
 ·obtain⟨a,g,xs,t,u,b,p,rfl,_⟩:=h;rfl
 obtain⟨a,g,xs,t,u,b,p,rfl,ha,hg,yU,q⟩:=h;refine⟨_,(ah (ax (av gb hr (aa (av cS hr (aa (pv 0) (aa (aD aC (pv 1) af (fun _ _=>rfl)) (aa (aD aC (pv 1) af (fun _ _=>rfl)) ag)))) ag)))),?_⟩;walk_at "sf";refine aK (cC.of hg) rfl ?_;walk_at "sf";refine aK (cC.of hg) rfl ?_;walk_at "sf";refine⟨a,xs,t,u,b,p,rfl,ha,yU,?_⟩;walk_at "sf";exact⟨_,rfl,q⟩
end
end dH
namespace dH
open PySem PyProof.Rows L2 SF SF.Po
theorem Bd.pow{b:Nat}{x:Int}(h:Bd b x):∀k:Nat,Bd (b*k+1) (x^k)
 |0=>Bd.mono (m:=1) (by rw[Int.pow_zero];show(1:Int).natAbs<2^1;decide) (by lia)
 |k+1=>by
  rw[Int.pow_succ];have e:b*(k+1)=b*k+b:=by rw[Nat.mul_add];lia
  exact((Bd.pow h k).mul h).mono (by lia)
noncomputable def BX:Sp:=fun vs H Q _=>∃(x:Int)(k b:Nat),vs=[.int x,.int (k:Int)]/\(Bd b x/\k<=100/\b*k<=jQ/\b<=jQ)/\Q (.int (x^k)) H
noncomputable def F8:Sp:=fun vs H Q _=>∃(a d:Addr)(xs ys:List Int)(b c:Nat),vs=[.ref a,.ref d]/\IL H a xs/\IL H d ys/\(ys≠[]/\Tr ys/\ys.length<=xs.length/\xs.length<=60/\Ab b xs/\Ab c ys/\b+(xs.length-ys.length+1)*(c+1)<=jQ)/\
 ∀(p:Addr)(rs:List Int)(H':Hp),au H H'->IL H' p rs->QU xs ys rs->Ab (b+(xs.length-ys.length+1)*(c+1)) rs->Q (.ref p) H'
theorem Um{d:Nat}(h:d<=60):Builtin.Range.small (d:Int) (-1) (-1)=true:=by
 revert d;decide
theorem O1{d:Nat}:Builtin.Range.rangeSize (d:Int) (-1) (-1)=((d+1:Nat):Int):=by
 unfold Builtin.Range.rangeSize;rw[if_neg (by decide),if_pos (by lia)];have:((d:Int)- -1-1)=(d:Int):=by lia
 rw[this];simp
section
variable {P:Program} {w:World} {K:PySem.W.Frag} {mg:Str->Option Value} {base:Heap}
theorem BY(T:Nm mg)(D:aL K mg "power" qL ["number","many"]):bq P w K mg base 1 "power" ["number","many"] BX:=by
 refine D.ok fY (fun vs H Q E h=>?_) (fun f cD A outer s H vs Q E hr h=>?_)
 ·obtain⟨x,k,b,rfl,_⟩:=h;rfl
 obtain⟨x,k,b,rfl,⟨bx,hk,WN,hb⟩,q⟩:=h;have gR:jQ=60000000:=rfl;refine⟨_,(ae (ai (i:=2) fY.nd rfl (Or.inl rfl) af)
  (ae (ai (i:=3) fY.nd rfl (Or.inl rfl) (pv 0))
  (ae (ai (i:=4) fY.nd rfl (Or.inl rfl) (pv 1))
  (ae (cX PassesOwn.never (aB fO (pv 4) af (aE _))
  (ae (bO (aB dN (aj cF (pv 4) af) af (aE _))
  (ah (ai (i:=2) fY.nd rfl (Or.inl rfl) (aj aw (pv 2) (pv 3))))
  aO)
  (ae (ai (i:=4) fY.nd rfl (Or.inl rfl) (aj cY (pv 4) af))
  (ah (bO (aB fO (pv 4) af (aE _))
  (ah (ai (i:=3) fY.nd rfl (Or.inl rfl) (aj aw (pv 3) (pv 3))))
  aO)))))
  (ah (ax (pv 2))))))),?_⟩;walk_at "sf";refine cM (fun m σ H'=>∃(j s:Nat),σ=[some (.int x),some (.int (k:Int)),some (.int (x^j)),some (.int (x^s)),some (.int (m:Int))]/\H'=H/\j+s*m=k)
  ⟨k,0,1,by rw[Int.pow_zero,Int.pow_succ,Int.pow_zero,Int.one_mul];rfl,rfl,by lia⟩ ?_
 rintro m σ H' ⟨j,s,rfl,rfl,e⟩;walk_at "sf";refine dI (fun c=>?_) (fun c=>?_)
 ·have hm:0<m:=by
   have:(0:Int)<(m:Int):=by simpa using c
   lia
  have hs:s<=k:=by
   have:=Nat.mul_le_mul_left s hm;lia
  have h1:b*j<=b*k:=Nat.mul_le_mul_left _ (by lia);have h2:b*s<=b*k:=Nat.mul_le_mul_left _ hs;have ef:(m:Int).fmod 2=((m%2:Nat):Int):=by rw[fo (by decide)];rfl
  have ed:(m:Int).fdiv 2=((m/2:Nat):Int):=by rw[Int.fdiv_eq_ediv_of_nonneg _ (by decide)];rfl
  have Uo:=Nat.div_add_mod m 2;have Q9:s*m=s*(2*(m/2))+s*(m%2):=by rw[<-Nat.mul_add,Uo]
  have Up:s*(2*(m/2))=(s+s)*(m/2):=by rw[<-Nat.mul_assoc,Nat.mul_two]
  refine⟨_,fun cz H' h=>h,?_⟩;walk_at "sf";refine bN (by decide) ?_;rw[ef];walk_at "sf";refine dI (fun c1=>?_) (fun c1=>?_)
  case' refine_1=>
   have e1:m%2=1:=by
    have:((m%2:Nat):Int)=1:=by simpa using c1
    lia
   walk_at "sf";refine bN (aR (Bd.pow bx j) (Bd.pow bx s) (by lia)) ?_;rw[<-Int.pow_add];have e2:(j+s)+(s+s)*(m/2)=k:=by
    rw[e1,Nat.mul_one] at Q9;lia
   generalize Uq:j+s=j' at e2 ⊢
  case' refine_2=>
   have e1:m%2=0:=by
    have:¬((m%2:Nat):Int)=1:=by simpa using c1
    lia
   have e2:j+(s+s)*(m/2)=k:=by
    rw[e1,Nat.mul_zero] at Q9;lia
   generalize Uq:j=j' at e2 ⊢
  all_goals
   walk_at "sf";refine bN ⟨by decide,by decide⟩ ?_;rw[ed];have eE:m/2<m:=Nat.div_lt_self hm (by decide);walk_at "sf";generalize m/2=d at e2 eE ⊢;refine dI (fun c2=>?_) (fun c2=>?_)
   ·have hd:0<d:=by
     have:(0:Int)<(d:Int):=by simpa using c2
     lia
    have h3:(s+s)<=k:=by
     have:=Nat.mul_le_mul_left (s+s) hd;lia
    have h4:b*(s+s)<=b*k:=Nat.mul_le_mul_left _ h3;rw[Nat.mul_add] at h4;walk_at "sf";refine bN (aR (Bd.pow bx s) (Bd.pow bx s) (by lia)) ?_;rw[<-Int.pow_add];walk_at "sf";exact⟨d,eE,j',s+s,rfl,rfl,e2⟩
   ·have hd:d=0:=by
     have:¬(0:Int)<(d:Int):=by simpa using c2
     lia
    walk_at "sf";exact⟨d,eE,j',s,rfl,rfl,by rw[hd,Nat.mul_zero] at e2 ⊢;exact e2⟩
 ·have hm:m=0:=by
   have:¬(0:Int)<(m:Int):=by simpa using c
   lia
  subst hm;have ej:j=k:=by lia
  subst ej;walk_at "sf";exact q
theorem qV(T:Nm mg)(gb:bq P w K mg base 1 "sign" ["number"] lj)(zB:bq P w K mg base 1 "trimmed" ["row"] (BP dA BQ))(D:aL K mg "remainder" iZ ["one","other"]):
 bq P w K mg base 2 "remainder" ["one","other"] F8:=by
 refine D.ok b_ (fun vs H Q E h=>?_) (fun f cD A outer s H vs Q E hr h=>?_)
 ·obtain⟨a,d,xs,ys,b,c,rfl,_⟩:=h;rfl
 obtain⟨a,d,xs,ys,b,c,rfl,ha,hd,⟨gU,ty,hl,hx,bx,Ii,xc⟩,q⟩:=h;have gR:jQ=60000000:=rfl;have ex:(xs.map V.int).length=xs.length:=List.length_map _;have ey:(ys.map V.int).length=ys.length:=List.length_map _;have hyp:=List.length_pos_iff.mpr gU;have F7:=ty.last gU;refine⟨_,(ae (ai (i:=2) b_.nd rfl (Or.inr rfl) (aG cK rfl T.gQ boot_abs (aa (aD bI (pv 1) (dn bY af) (fun _ _=>rfl)) ag)))
  (ae (ai (i:=3) b_.nd rfl (Or.inl rfl) (av gb hr (aa (aD bI (pv 1) (dn bY af) (fun _ _=>rfl)) ag)))
  (ae (ai (i:=4) b_.nd rfl (Or.inl rfl) (da jV rfl T.vR boot_list (aa (pv 0) ag)))
  (ae (gx PassesOwn.never rfl (yY rfl T.qO (aa (aj bJ (aG aW rfl T.fu boot_len (aa (pv 0) ag)) (aG aW rfl T.fu boot_len (aa (pv 1) ag))) (aa (dn bY af) (aa (dn bY af) ag)))) (aQ (i:=5) b_.nd rfl (Or.inl rfl))
  (ae (ai (i:=6) b_.nd rfl (Or.inl rfl) (aj aw (vb PySem.F.plainAttrs_list PySem.F.slot_list_pop PySem.F.type_list_pop vd (pv 4)) (pv 3)))
  (ae (Du (i:=4) b_.nd rfl rfl rfl (iP (own:=["number"]) (fr:=[2]) (fs:=["size"]) (by with_unfolding_all rfl) rfl (by decide +kernel) (by decide +kernel) (by exact⟨rfl,trivial⟩) (by with_unfolding_all rfl) (by exact⟨⟨rfl,rfl,rfl,Or.inl rfl⟩,trivial⟩)) (gn (pv 4)) (fun _ _ _ _ _=>(aQ (i:=0) (show List.Nodup (["number","size"]:List Str) by decide +kernel) rfl (Or.inl rfl) (Or.inr rfl))) (fun _ _ _ _ _=>(aj aw (pv 0) (pv 1))) rfl)
  (ah (gx PassesOwn.never rfl (pZ rfl T.i' (aa (eH mi (pv 1) fz (fA (dn bY af))) ag)) (kz rfl (bL (aQ (i:=7) b_.nd rfl (Or.inl rfl)) (bL (aQ (i:=8) b_.nd rfl (Or.inl rfl)) jf)))
  (ah (mH (aj bJ (aD bI (pv 4) (aj bA (pv 5) (pv 7)) (fun _ _=>rfl)) (aj aw (pv 6) (pv 8))) (An (pv 4) (aj bA (pv 5) (pv 7)) set_list))))))))
  (ah (ax (av zB hr (aa (pv 4) ag)))))))),?_⟩;walk_at "sf";refine dr (aZ.of hd) (fE gU) ?_;walk_at "sf";refine⟨_,rfl,?_⟩;walk_at "sf";refine dr (aZ.of hd) (fE gU) ?_;walk_at "sf";refine⟨_,rfl,?_⟩;walk_at "sf";have Af:(if co ys (ys.length-1)<0 then -co ys (ys.length-1) else co ys (ys.length-1))=ab (co ys (ys.length-1)):=by unfold ab;split<;>lia
 rw[Af];have K3:sg (co ys (ys.length-1))*co ys (ys.length-1)=ab (co ys (ys.length-1)):=K4 _;have MN:Bd 1 (sg (co ys (ys.length-1))):=by unfold sg Bd;split<;>(try split)<;>decide
 have bl:Bd c (ab (co ys (ys.length-1))):=by
  have:=Ii.co (ys.length-1);unfold Bd at*;unfold ab;lia
 generalize sg (co ys (ys.length-1))=σs at K3 MN ⊢;generalize hle:ab (co ys (ys.length-1))=l at K3 bl ⊢;refine⟨a,_,rfl,.inl (aZ.of ha),fun p1 m5=>?_⟩;have s1:=au.new m5 (.lst (xs.map V.int));walk_at "sf";refine⟨a,_,rfl,.inl (aZ.of (s1 _ _ ha)),?_⟩;walk_at "sf";refine⟨d,_,rfl,.inl (aZ.of (s1 _ _ hd)),?_⟩;walk_at "sf";rw[ex,ey];have ek:(xs.length:Int)-(ys.length:Int)=((xs.length-ys.length:Nat):Int):=by lia
 rw[ek];generalize FP:xs.length-ys.length=δ at xc ⊢;refine⟨_,_,_,δ+1,rfl,by decide,by decide,Um (by lia),O1,?_⟩;refine ve (fun i σ H'=>∃(p:Addr)(rs:List Int)(q:Po)(z5 z6 z7 z8:Option V),σ=[some (.ref a),some (.ref d),some (.int l),some (.int σs),some (.ref p),z5,z6,z7,z8]/\au H H'/\IL H' p rs/\H p=none/\
  rs.length+i=xs.length/\Po.K (l^i)*aq xs=q*aq ys+aq rs/\len q<=δ+1/\Ab (b+i*(c+1)) rs)
  ⟨p1,xs,0,_,_,_,_,rfl,s1,ak,m5,by lia,by rw[Int.pow_zero,Po.cb];grind,by rw[fq];lia,bx.mono (by lia)⟩ ?_ ?_
 ·rintro i σ H2 hi ⟨p,rs,qq,z5,z6,z7,z8,rfl,s2,h2,v7,hlen,eq,hq,Ek⟩;have Q_:ys.length<=rs.length:=by lia
  have BU:rs≠[]:=List.length_pos_iff.mp (by lia);have hk:rs.length-ys.length=δ-i:=by lia
  have WO:i*(c+1)<=(δ+1)*(c+1):=Nat.mul_le_mul_right _ (by lia);have Ur:(i+1)*(c+1)<=(δ+1)*(c+1):=Nat.mul_le_mul_right _ (by lia);have Us:(i+1)*(c+1)=i*(c+1)+(c+1):=by rw[Nat.add_mul];lia
  walk_at "sf";refine⟨_,rfl,.inl ⟨rfl,_,aZ.of h2⟩,p,_,_,rfl,rfl,h2,tO BU,?_⟩;walk_at "sf";refine bN (aR (Ek.co _) MN (by lia)) ?_;walk_at "sf";have em:(rs.map V.int).dropLast=rs.dropLast.map V.int:=(List.map_dropLast ..).symm;have h3:IL (upd H2 p (.lst (rs.map V.int).dropLast)) p rs.dropLast:=by show upd _ p _ p=_;rw[ak,em]
  have s3:au H (upd H2 p (.lst (rs.map V.int).dropLast)):=fun c o z=>by
   rw[aH (aI z v7)];exact s2 _ _ z
  generalize upd H2 p (.lst (rs.map V.int).dropLast)=H3 at h3 s3 ⊢;have ld:rs.dropLast.length=rs.length-1:=List.length_dropLast;have cd:∀j,j<rs.length-1->co rs.dropLast j=co rs j:=fun j hj=>by rw[List.dropLast_eq_take,h_,if_pos hj]
  refine ij (H1:=H3) (rH K p) (fun R hR=>?_) (ig (xs:=rs.dropLast) (aZ.of h3) (fun i=>co rs.dropLast i*l) (by lia) ?_ ?_)
  ·walk_at "sf";exact⟨p,rfl,⟨_,aZ.of h3⟩,hR⟩
  ·intro j r H4 hj hr Lo Z hZ;obtain⟨x0,rfl⟩:=sE hr;walk_at "sf";have bj:Bd (b+i*(c+1)) (co rs.dropLast j):=by rw[cd j (by lia)];exact Ek.co j
   refine bN (aR bj bl (by lia)) ?_;exact hZ _ _ (au.refl _) ⟨[_],rfl,rfl⟩
  ·intro D2 H4 MO Lo h4;have s4:=s3.trans Lo;have O2:H D2=none:=s3.free MO;have e4:fG (fun i=>co rs.dropLast i*l) rs.dropLast.length=fG (fun j=>co rs j*l) (rs.length-1):=by
    rw[ld];exact fH fun j hj=>by rw[cd j hj]
   rw[e4] at h4;walk_at "sf";refine⟨_,rfl,?_⟩;walk_at "sf";refine⟨d,_,rfl,aZ.of (s4 _ _ hd),fun p5 Ij=>?_⟩;have e5:gE (ys.map V.int) none (some (-1))=ys.dropLast.map V.int:=tK ys;have Lw:=au.new Ij (.lst (gE (ys.map V.int) none (some (-1))));have h5:IL (upd H4 p5 (.lst (gE (ys.map V.int) none (some (-1))))) p5 ys.dropLast:=by show upd _ p5 _ p5=_;rw[ak,e5]
   have Ra:=Lw _ _ h4;have s5:=s4.trans Lw;have Ut:p5≠D2:=fun z=>by rw[z,h4] at Ij;cases Ij
   generalize upd H4 p5 (.lst (gE (ys.map V.int) none (some (-1))))=H5 at h5 Ra s5 ⊢;have Rb:ys.dropLast.length=ys.length-1:=List.length_dropLast;have Rf:∀j,j<ys.length-1->co ys.dropLast j=co ys j:=fun j hj=>by rw[List.dropLast_eq_take,h_,if_pos hj]
   have Uu:(ys.dropLast.map V.int).length=ys.length-1:=by rw[List.length_map,Rb]
   generalize Ob:rs.length-ys.length=kk at hk;have Uv:(δ:Int)+(i:Int)*-1=(kk:Int):=by lia
   rw[Uv];generalize ht:co rs (rs.length-1)=t;have bt:Bd (b+i*(c+1)) t:=by rw[<-ht];exact Ek.co _
   walk_at "sf";refine⟨p5,rfl,⟨_,aZ.of h5⟩,?_⟩;refine si (xs:=ys.dropLast.map V.int) (fun e σ H'=>(∃r1 r2,σ=[some (.ref a),some (.ref d),some (.int l),some (.int σs),some (.ref D2),some (.int (kk:Int)),some (.int (t*σs)),r1,r2])/\au H H'/\IL H' p5 ys.dropLast/\
    IL H' D2 (fG (fun j=>co rs j*l-if kk<=j/\j<kk+e then t*σs*co ys (j-kk) else 0) (rs.length-1)))
    ⟨⟨_,_,rfl⟩,s5,h5,?_⟩ (fun e σ H' _ z=>aZ.of z.2.2.1) ?_ ?_
   ·show H5 D2=_;rw[Ra];exact congrArg (fun l:List Int=>some (HO.lst (l.map V.int))) (fH fun j _=>by rw[if_neg (by lia)];lia)
   ·rintro e x pp σ H6 Uw sF ⟨⟨r1,r2,rfl⟩,s6,h6,h7⟩;obtain⟨O3,rfl⟩:=k_ Uw;rw[Rb] at O3;have O4:=au.new sF (.tup [.int (e:Int),.int (co ys.dropLast e)]);have h8:=O4 _ _ h7;have ei:(kk:Int)+(e:Int)=((kk+e:Nat):Int):=by lia
    refine kG (cC.of ak) rfl ?_;walk_at "sf";rw[ei];refine dr (aZ.of h8) (yj (by rw[aN];lia)) ?_;walk_at "sf";have be:Bd c (co ys.dropLast e):=by rw[Rf e O3];exact Ii.co e
    refine bN (aR (bt.mul MN) be (by lia)) ?_;walk_at "sf";rw[ei];refine⟨D2,_,_,kk+e,rfl,rfl,h8,BO (by rw[List.length_map,aN];lia),?_⟩;refine⟨⟨_,_,rfl⟩,fun c o z=>?_,?_,?_⟩
    ·rw[aH (aI z O2)];exact O4 _ _ (s6 _ _ z)
    ·show upd _ D2 _ p5=_;rw[aH Ut];exact O4 _ _ h6
    ·show upd _ D2 _ D2=_;rw[ak,kH,if_pos (by lia),Rf e O3,<-List.map_set,xq (by lia)];refine congrArg (fun l=>some (HO.lst (l.map V.int))) (fH fun j hj=>?_);show(if j=kk+e then _ else _)=_;by_cases e2:j=kk+e
     ·subst e2;have e3:kk+e-kk=e:=by lia
      rw[if_pos rfl,if_neg (by lia),if_pos ⟨by lia,by lia⟩,e3];lia
     ·rw[if_neg e2];by_cases e4:kk<=j/\j<kk+e
      ·rw[if_pos e4,if_pos ⟨e4.1,by lia⟩]
      ·rw[if_neg e4,if_neg (by lia)]
   ·rintro σ H6 ⟨⟨r1,r2,rfl⟩,s6,h6,h7⟩;rw[Uu] at h7;have es:=Bp (rs:=rs) gU Q_ K3;rw[Ob,ht] at es;have KH:Ab (b+(i+1)*(c+1)) (fG (fun j=>co rs j*l-if kk<=j/\j<kk+(ys.length-1) then t*σs*co ys (j-kk) else 0) (rs.length-1)):=fun x hx=>by
     obtain⟨j,hj,rfl⟩:=List.mem_map.mp hx;have g1:Bd (b+i*(c+1)+c) (co rs j*l):=(Ek.co j).mul bl;have g2:Bd (b+i*(c+1)+c) (if kk<=j/\j<kk+(ys.length-1) then t*σs*co ys (j-kk) else 0):=by
      split
      ·have e5:(t*σs*co ys (j-kk)).natAbs<=(t*co ys (j-kk)).natAbs:=by
        rw[Int.natAbs_mul,Int.natAbs_mul,Int.natAbs_mul];have:σs.natAbs<=1:=by unfold Bd at MN;lia
        have h9:t.natAbs*σs.natAbs<=t.natAbs*1:=Nat.mul_le_mul_left _ this;rw[Nat.mul_one] at h9;exact Nat.mul_le_mul_right _ h9
       exact(bt.mul (Ii.co (j-kk))).of_le e5
      ·show(0:Int).natAbs<_;exact Nat.two_pow_pos _
     have e6:b+(i+1)*(c+1)=b+i*(c+1)+c+1:=by lia
     rw[e6];exact g1.sub g2
    refine⟨D2,_,Po.K l*qq+Po.K (t*σs)*X kk,_,_,_,_,rfl,s6,h7,O2,by rw[aN];lia,?_,?_,KH⟩
    ·rw[es,Int.pow_succ,Po.bH];have e7:Po.K (l^i)*Po.K l*aq xs=Po.K l*(Po.K (l^i)*aq xs):=by grind
     rw[e7,eq];grind
    ·refine Nat.le_trans (qm _ _) (Nat.max_le.mpr ⟨?_,Nat.le_trans (HP _ _) (by lia)⟩);refine Nat.le_trans (cA fun j hj=>?_) hq;rw[aV,dS hj];grind
 ·rintro σ H2 ⟨p,rs,qq,z5,z6,z7,z8,rfl,s2,h2,v7,hlen,eq,hq,Ek⟩;walk_at "sf";refine⟨p,_,rfl,h2,by show rs.length<=1000;lia,fun p3 H3 s3 h3=>?_⟩;refine q p3 _ H3 (s2.trans s3) h3 ⟨gI _,D7 (by lia),qq,?_,by rw[FP];exact hq⟩ ?_
  ·rw[FP,hle,A0];exact eq
  ·intro x hx;obtain⟨j,e⟩:=kM hx;rw[<-e,fT,FP];exact Ek.co j
end
end dH
namespace dH
open PySem PyProof.Rows L2 SF SF.Po
noncomputable def pC(H:Hp):List Addr->List (List Int)->Prop
 |[],[]=>True
 |a::as,p::ps=>IL H a p/\pC H as ps
 |_,_=>False
theorem pC.len{H:Hp}:∀{as:List Addr}{ps:List (List Int)},pC H as ps->as.length=ps.length
 |[],[],_=>rfl
 |_::_,_::_,h=>by rw[List.length_cons,List.length_cons,h.2.len]
theorem pC.map{H H':Hp}(f:∀a(p:List Int),IL H a p->IL H' a p):∀{as:List Addr}{ps:List (List Int)},pC H as ps->pC H' as ps
 |[],[],_=>trivial
 |_::_,_::_,h=>⟨f _ _ h.1,h.2.map f⟩
theorem pC.snoc{H:Hp}{a:Addr}{p:List Int}(ha:IL H a p):∀{as:List Addr}{ps:List (List Int)},pC H as ps->pC H (as++[a]) (ps++[p])
 |[],[],_=>⟨ha,trivial⟩
 |_::_,_::_,h=>⟨h.1,h.2.snoc ha⟩
theorem pC.get{H:Hp}:∀{as:List Addr}{ps:List (List Int)}(i:Nat){a:Addr},pC H as ps->as[i]?=some a->∃p,ps[i]?=some p/\IL H a p
 |[],[],i,a,_,e=>by simp at e
 |b::as,p::ps,0,a,h,e=>by
  have:b=a:=by simpa using e
  subst this;exact⟨p,rfl,h.1⟩
 |b::as,p::ps,i+1,a,h,e=>pC.get i h.2 (by simpa using e)
theorem ll{as:List Addr}{u v:Addr}:mf ((as++[u,v]).map V.ref) (-1)=some (.ref v):=by
 unfold mf;have e:u_ ((as++[u,v]).map V.ref).length (-1)=some (as.length+1):=by
  unfold u_;rw[List.length_map,List.length_append,if_neg (by decide),if_pos (by simp;lia)];congr 1;simp;lia
 rw[e];show((as++[u,v]).map V.ref)[as.length+1]?=_;rw[List.getElem?_map,List.getElem?_append_right (by lia)];have e2:as.length+1-as.length=1:=by lia
 rw[e2];rfl
theorem v8{as:List Addr}{u v:Addr}:mf ((as++[u,v]).map V.ref) (-2)=some (.ref u):=by
 unfold mf;have e:u_ ((as++[u,v]).map V.ref).length (-2)=some as.length:=by
  unfold u_;rw[List.length_map,List.length_append,if_neg (by decide),if_pos (by simp;lia)];congr 1;simp;lia
 rw[e];show((as++[u,v]).map V.ref)[as.length]?=_;rw[List.getElem?_map,List.getElem?_append_right (by lia)];have e2:as.length-as.length=0:=by lia
 rw[e2];rfl
theorem Ep{H:Hp}{c a:Addr}{as:List Addr}{p:List Int}(hc:H c=some (.lst (as.map V.ref)))(hn:as≠[])(ha:IL H a p):a≠c:=fun z=>by
 subst z;have:some (HO.lst (as.map V.ref))=some (HO.lst (p.map V.int)):=hc.symm.trans ha;injection this with e;injection e with e;cases as with
 |nil=>exact hn rfl
 |cons x r=>
  cases p with
  |nil=>simp at e
  |cons y t=>simp at e
noncomputable abbrev BM:Nat:=56332746
structure C0(xs:List Int)(ps:List (List Int)):Prop where
 shape:∃rest,ps=xs::bR xs::rest
 HM:2<=xs.length->∀x:Re,zm x (ps.map aq)
 one:xs.length=1->ps=[xs,[]]
 C1:∀p∈ps,p.length<=13/\Ab BM p
 cnt:ps.length<=60
noncomputable def tS(xs:List Int):Prop:=Tr xs/\xs≠[]/\xs.length<=13/\Ab 100 xs/\CZ (aq xs) (aq xs)
noncomputable def yo:Sp:=fun vs H Q _=>∃(a:Addr)(xs:List Int),vs=[.ref a]/\IL H a xs/\tS xs/\∀(c:Addr)(as:List Addr)(ps:List (List Int))(H':Hp),au H H'->H' c=some (.lst (as.map V.ref))->pC H' as ps->C0 xs ps->Q (.ref c) H'
theorem O5{δ:Nat}(h:1<=δ):δ+2<=3^δ:=by
 induction δ with
 |zero=>lia
 |succ δ ih=>
  by_cases h0:δ=0
  ·subst h0;decide
  ·have:=ih (by lia);rw[Nat.pow_succ];lia
theorem F9{k:Nat}(h:k<=12):3^k*106<=BM:=by
 have:3^k<=3^12:=Nat.pow_le_pow_right (by decide) h;have e:3^12*106=BM:=by decide
 lia
theorem BZ{k δ:Nat}(h:1<=δ):3^k*106-2+(δ+1)*(3^k*106-2+1)<=3^(k+δ)*106-2/\δ*(3^k*106)<=3^(k+δ)*106/\106<=3^k*106:=by
 have h1:=O5 h;have h2:0<3^k:=Nat.pow_pos (by decide);have h3:(δ+2)*(3^k*106)<=3^δ*(3^k*106):=Nat.mul_le_mul_right _ h1;have h4:3^(k+δ)*106=3^δ*(3^k*106):=by rw[Nat.pow_add];grind
 have h5:(δ+2)*(3^k*106)=δ*(3^k*106)+2*(3^k*106):=by rw[Nat.add_mul]
 have h6:(δ+1)*(3^k*106-2+1)<=(δ+1)*(3^k*106)-(δ+1):=by
  have:3^k*106-2+1=3^k*106-1:=by lia
  rw[this,Nat.mul_sub,Nat.mul_one];exact Nat.le_refl _
 have h7:(δ+1)*(3^k*106)=δ*(3^k*106)+3^k*106:=by rw[Nat.add_mul];lia
 refine⟨?_,?_,?_⟩<;>lia
theorem Er{σ:L2.St}{H:Hp}{Q:VK}{own:List Str}{fr:List Nat}{wi:TI}{g:TG}{te:TE}(Pj:It->Hp->Prop)(h:∀R:It->Hp->Prop,(∀J H1,Pj J H1->R J H1)->wi σ H R)(h2:∀J H1,Pj J H1->jA J own fr σ g te H1 Q):xm own fr wi g te σ H Q:=h _ h2
section
variable {P:Program} {w:World} {K:PySem.W.Frag} {mg:Str->Option Value} {base:Heap}
theorem tT(T:Nm mg)(hT:P.given.tree=none)(iI:bq P w K mg base 33 "derivative" ["poly"] (BP bR (fun xs=>BQ xs/\Ab jQ xs)))(kj:bq P w K mg base 33 "power" ["number","many"] BX)(tU:bq P w K mg base 33 "remainder" ["one","other"] F8)(D:aL K mg "chain_of" jH ["free"]):bq P w K mg base 34 "chain_of" ["free"] yo:=by
 refine D.ok ck (fun vs H Q E h=>?_) (fun f cD A outer s H vs Q E hr h=>?_)
 ·obtain⟨a,xs,rfl,_⟩:=h;rfl
 obtain⟨a,xs,rfl,ha,⟨tx,eC,lx,bx,Rg⟩,q⟩:=h;have gR:jQ=60000000:=rfl;have Ux:BM=56332746:=rfl;have ld:=tR xs;have bd:=ym bx (by lia);have td:=xr tx;refine⟨_,(ae (ai (i:=1) ck.nd rfl (Or.inl rfl) (eV (aa (pv 0) (aa (av iI hr (aa (pv 0) ag)) ag))))
  (ae (ai (i:=2) ck.nd rfl (Or.inl rfl) af)
  (ae (ai (i:=3) ck.nd rfl (Or.inl rfl) af)
  (ae (cX PassesOwn.never (aB fO (aG aW rfl T.fu boot_len (aa (aD bI (pv 1) (dn bY af) (fun _ _=>rfl)) ag)) af (aE _))
  (ae (ai (i:=4) ck.nd rfl (Or.inl rfl) (aD bI (pv 1) (dn bY af) (fun _ _=>rfl)))
  (ae (ai (i:=5) ck.nd rfl (Or.inl rfl) (aD bI (pv 1) (dn bY af) (fun _ _=>rfl)))
  (ae (ai (i:=6) ck.nd rfl (Or.inl rfl) (aj bJ (aG aW rfl T.fu boot_len (aa (pv 4) ag)) (aG aW rfl T.fu boot_len (aa (pv 5) ag))))
  (ae (ai (i:=7) ck.nd rfl (Or.inr rfl) (aj aw (pv 2) (av kj hr (aa (pv 3) (aa (pv 6) ag)))))
  (ae (je (lA PySem.F.plainAttrs_list PySem.F.slot_list_append PySem.F.type_list_append eW (pv 1) (aa (g9 rfl rfl (iP (own:=["number"]) (fr:=[7]) (fs:=["shared"]) (by with_unfolding_all rfl) rfl (by decide +kernel) (by decide +kernel) (by exact⟨rfl,trivial⟩) (by with_unfolding_all rfl) (by exact⟨⟨rfl,rfl,rfl,Or.inl rfl⟩,trivial⟩)) (gn (av tU hr (aa (pv 4) (aa (pv 5) ag)))) (fun _ _ _ _ _=>(aQ (i:=0) (show List.Nodup (["number","shared"]:List Str) by decide +kernel) rfl (Or.inl rfl) (Or.inr rfl))) (fun _ _ _ _ _=>(aj (dB ⟨hT,⟨_,_,rfl,rfl,rfl,rfl,rfl⟩,hr.py⟩) (dn bY (pv 0)) (pv 1)))) ag)))
  (ae (ai (i:=2) ck.nd rfl (Or.inl rfl) (aG cK rfl T.gQ boot_abs (aa (aD bI (pv 5) (dn bY af) (fun _ _=>rfl)) ag)))
  (ah (ai (i:=3) ck.nd rfl (Or.inl rfl) (aj (dB ⟨hT,⟨_,_,rfl,rfl,rfl,rfl,rfl⟩,hr.py⟩) (av kj hr (aa (pv 2) (aa (pv 6) ag))) (av kj hr (aa (pv 3) (aa (aj bJ (pv 6) af) ag)))))))))))))
  (ah (ax (pv 1))))))),?_⟩;walk_at "sf";refine⟨a,xs,rfl,ha,⟨by show xs.length<=1000;lia,bx.mono (by lia)⟩,fun p1 H1 s1 h1=>?_⟩;walk_at "sf";intro pc O6;have O7:H pc=none:=s1.free O6;have s2:=s1.trans (au.new O6 (.lst [.ref a,.ref p1]));have uO:upd H1 pc (.lst [.ref a,.ref p1]) pc=some (.lst (([]++[a,p1]).map V.ref)):=ak;have i2:pC (upd H1 pc (.lst [.ref a,.ref p1])) ([]++[a,p1]) ([]++[xs,bR xs]):=⟨s2 _ _ ha,(au.new O6 _) _ _ h1,trivial⟩;generalize upd H1 pc (.lst [.ref a,.ref p1])=H2 at s2 uO i2 ⊢;walk_at "sf";have Rh:Ab 104 (bR xs):=fun x hx=>by
  obtain⟨i,hi,e⟩:=List.getElem_of_mem hx;have OA:i<xs.length-1:=by rw[ld] at hi;exact hi
  rw[<-e,<-bP,jY];show Bd 104 (((i+1:Nat):Int)*co xs (i+1));have h1:Bd 4 (((i+1:Nat):Int)):=Bd.fR (by lia) (by lia);exact(h1.mul (bx.co (i+1))).mono (by lia)
 by_cases Jg:2<=xs.length
 ·
  have vz:bR xs≠[]:=List.length_pos_iff.mp (by lia);obtain⟨n',Nj⟩:∃n',xs.length=n'+2:=⟨xs.length-2,by lia⟩;have lF:len (aq xs)=n'+2:=by rw[bB tx];exact Nj
  have lG:len (aq (bR xs))=n'+1:=by rw[bB td,ld];lia
  have gc:=cU (xs:=xs) (ys:=bR xs) (.inl Rg.pr.ne);have g1:=vy tx Rg;have o1:aq [1]=1:=Po.ext fun i=>by
   rw[aY,oZ];cases i with
   |zero=>rfl
   |succ i=>rfl
  rw[g1,o1] at gc;obtain⟨bu,bv,ba,Hm,K8⟩:=gc.bz;have Bw:bu*aq xs+bv*aq (bR xs)=Po.K ba:=by rw[K8];grind
  refine cM (fun m σ H'=>∃(hs:List (List Int))(us vs:List Int)(has:List Addr)(pu pv:Addr)(g0 h0:Int)(k:Nat)(z4 z5 z6 z7:Option V),m=vs.length/\
   σ=[some (.ref a),some (.ref pc),some (.int g0),some (.int h0),z4,z5,z6,z7]/\au H H'/\H' pc=some (.lst ((has++[pu,pv]).map V.ref))/\pC H' (has++[pu,pv]) (hs++[us,vs])/\(∃rest,hs++[us,vs]=xs::bR xs::rest)/\
   Tr us/\Tr vs/\us≠[]/\vs≠[]/\IL H' pu us/\IL H' pv vs/\us.length<=xs.length/\us.length+k=xs.length/\uP (aq xs) (aq (bR xs)) (aq us) (aq vs) (n'+1) n' (us.length-1) (vs.length-1) g0 h0/\
   (∀x:Re,lY x ((hs++[us,vs]).map aq))/\(∀x:Re,¬(at' x (aq us)=0/\at' x (aq vs)=0))/\(∀d,Po.D d (aq us)->Po.D d (aq vs)->Po.D d (aq xs)/\Po.D d (aq (bR xs)))/\
   Ab (3^k*106-2) us/\Ab (3^k*106-2) vs/\Bd (3^k*106) g0/\Bd (3^k*106) h0/\(∀p∈hs++[us,vs],p.length<=13/\Ab BM p)/\hs.length+vs.length<=xs.length)
   ⟨_,[],xs,bR xs,[],a,p1,1,1,0,_,_,_,_,rfl,rfl,s2,uO,i2,⟨[],rfl⟩,tx,td,eC,vz,i2.1,i2.2.1,Nat.le_refl _,rfl,?_,fun x=>trivial,fun x=>pk Hm Bw,fun d h1 h2=>⟨h1,h2⟩,bx.mono (by decide),Rh.mono (by decide),?_,?_,?_,by show 0+(bR xs).length<=xs.length;lia⟩ ?_
  ·have e1:xs.length-1=n'+1:=by lia
   have e2:(bR xs).length-1=n':=by lia
   rw[e1,e2];exact uP.start lF lG
  ·exact Bd.mono (m:=1) (by show(1:Int).natAbs<2^1;decide) (by decide)
  ·exact Bd.mono (m:=1) (by show(1:Int).natAbs<2^1;decide) (by decide)
  ·intro p hp;rcases List.mem_cons.mp hp with z|z
   ·rw[z];exact⟨lx,bx.mono (by lia)⟩
   ·rw[List.mem_singleton.mp z];exact⟨by lia,Rh.mono (by lia)⟩
  rintro m σ H' ⟨hs,us,vs,has,pu,pv,g0,h0,k,z4,z5,z6,z7,rfl,rfl,s3,Ac,i3,Mp,tu,tv,O8,Ih,hu,hv,lu,lk,F_,Lx,nz,ic,F',O9,bg,bh,C1,hlen⟩;have eu:(us.map V.int).length=us.length:=List.length_map _;have ev:(vs.map V.int).length=vs.length:=List.length_map _;have oq:=List.length_pos_iff.mpr O8;have AV:=List.length_pos_iff.mpr Ih;have FN:=F_.nm;walk_at "sf";refine dr (aZ.of Ac) ll ?_;refine⟨pv,_,rfl,.inl (aZ.of hv),?_⟩;walk_at "sf";rw[ev];refine dI (fun cc=>?_) (fun cc=>?_)
  ·have Ri:2<=vs.length:=by
    have:(1:Int)<(vs.length:Int):=by simpa using cc
    lia
   refine⟨_,fun cz H' h=>h,?_⟩;walk_at "sf";refine dr (aZ.of Ac) v8 ?_;walk_at "sf";refine dr (aZ.of Ac) ll ?_;walk_at "sf";refine⟨pu,_,rfl,.inl (aZ.of hu),?_⟩;walk_at "sf";refine⟨pv,_,rfl,.inl (aZ.of hv),?_⟩;walk_at "sf";rw[eu,ev];generalize FP:us.length-vs.length=δ;have O_:1<=δ:=by lia
   have ek:(us.length:Int)-(vs.length:Int)=(δ:Int):=by lia
   rw[ek];obtain⟨Uy,WQ,WR⟩:=BZ (k:=k) O_;have WS:=F9 (k:=k+δ) (by lia);have WT:=F9 (k:=k) (by lia);have MP:δ*(3^k*106)=3^k*106*δ:=Nat.mul_comm _ _;refine⟨h0,δ,3^k*106,rfl,⟨bh,by lia,by lia,by lia⟩,?_⟩;have Pa:=Bd.pow bh δ;refine bN (aR bg Pa (by lia)) ?_;have dd:us.length-1-(vs.length-1)=δ:=by lia
   have HN:0<g0*h0^δ:=Int.mul_pos F_.MG (bX F_.Jb _);walk_at "sf";refine⟨_,rfl,.inl ⟨rfl,_,aZ.of Ac⟩,?_⟩;walk_at "sf";refine Er (fun J H4=>∃(p:Addr)(rs:List Int),J=rH K p/\au H' H4/\IL H4 p rs/\QU us vs rs/\Ab (3^k*106-2+(us.length-vs.length+1)*(3^k*106-2+1)) rs) (fun R hR=>?_) ?_
   ·walk_at "sf";refine⟨pu,pv,us,vs,_,_,rfl,hu,hv,⟨Ih,tv,by lia,by lia,F',O9,by rw[FP];lia⟩,fun p rs H4 s4 h4 v9 hb=>?_⟩;exact⟨p,rfl,⟨_,aZ.of h4⟩,hR _ _ ⟨p,rs,rfl,s4,h4,v9,hb⟩⟩
   rintro J H4 ⟨pr,rs,rfl,s4,h4,v9,Rj⟩;rw[FP] at Rj;obtain⟨qq,eq,hq⟩:=v9.eq;rw[FP] at eq hq;have hl:=F_.lead;have yp:(aq vs).c (vs.length-1)=co vs (vs.length-1):=rfl;rw[yp] at hl;have eq1:Po.K (ab ((aq vs).c (vs.length-1))^(us.length-1-(vs.length-1)+1))*aq us=qq*aq vs+aq rs:=by rw[dd];exact eq
   obtain⟨hh,MQ⟩:=F_.rem (by lia) eq1 (by rw[dd];exact hq) (Nat.le_trans (by rw[bB v9.tr];exact Nat.le_refl _) (by have:=v9.lt;lia));rw[dd] at MQ;have Q_:=v9.lt;have Ly:=neg_fdiv HN MQ;refine ig (xs:=rs) (aZ.of h4) (fun i=>(-(co rs i)).fdiv (g0*h0^δ)) (by lia) ?_ ?_
   ·intro i r H5 hi hr Lw Z hZ;obtain⟨x0,rfl⟩:=sE hr;walk_at "sf";refine bN (Int.ne_of_gt HN) ?_;exact hZ _ _ (au.refl _) ⟨[_],rfl,rfl⟩
   intro D2 H5 MO Lw h5;have AM:=s4.trans Lw;have s5:=s3.trans AM;have Rk:=AM _ _ Ac;have i5:pC H5 (has++[pu,pv]) (hs++[us,vs]):=i3.map fun a p z=>AM _ _ z;have O2:H D2=none:=(s3.trans s4).free MO;have BU:rs≠[]:=fun z=>by
    subst z;have e1:Po.K (ab (co vs (vs.length-1))^(δ+1))*aq us=aq vs*qq:=by rw[eq,dt];grind
    have d1:Po.D (aq vs) (aq us):=⟨_,Int.ne_of_gt (bX hl _),qq,e1⟩;obtain⟨d2,d3⟩:=ic _ d1 (Po.D.refl _);have d4:=gc.MB d2 d3;have l1:len (1:Po)=1:=by rw[<-Po.cb];exact len_K (by decide)
    have:=d4.len (cm (by lia));rw[bB tv] at this;lia
   have Q1:=List.length_pos_iff.mpr BU;have tw:Tr (fG (fun i=>(-(co rs i)).fdiv (g0*h0^δ)) rs.length):=by
    refine Tr.jX fun _=>?_;rw[aN];have e1:(aq (fG (fun i=>(-(co rs i)).fdiv (g0*h0^δ)) rs.length)).c (rs.length-1)=(-hh).c (rs.length-1):=by rw[Ly]
    rw[aY,FC] at e1;rw[e1];have e2:(aq rs).c (rs.length-1)=(Po.K (g0*h0^δ)*hh).c (rs.length-1):=by rw[MQ]
    rw[aY,aV] at e2;have e3:=v9.tr.last BU;rw[e2] at e3;intro z;have:hh.c (rs.length-1)=0:=by lia
    rw[this] at e3;exact e3 (by simp)
   have bw:Ab (3^(k+δ)*106-2) (fG (fun i=>(-(co rs i)).fdiv (g0*h0^δ)) rs.length):=fun x hx=>by
    obtain⟨i,hi,rfl⟩:=List.mem_map.mp hx;have h6:Bd (3^(k+δ)*106-2) (co rs i):=(Rj.co i).mono Uy;refine h6.of_le ?_;have:=xN (-(co rs i)) (g0*h0^δ);rw[Int.natAbs_neg] at this;exact this
   have lw:(fG (fun i=>(-(co rs i)).fdiv (g0*h0^δ)) rs.length).length=rs.length:=aN _ _;have eqw:Po.K (ab ((aq vs).c (vs.length-1))^(us.length-1-(vs.length-1)+1))*aq us=qq*aq vs+Po.K (-(g0*h0^(us.length-1-(vs.length-1))))*aq (fG (fun i=>(-(co rs i)).fdiv (g0*h0^δ)) rs.length):=by
    rw[eq1,dd,Ly,MQ,Po.AZ];grind
   generalize fG (fun i=>(-(co rs i)).fdiv (g0*h0^δ)) rs.length=ws at h5 tw bw lw eqw;have Uz:ws≠[]:=List.length_pos_iff.mp (by lia);walk_at "sf";refine⟨pc,_,_,rfl,rfl,Rk,?_,?_⟩
   ·rw[List.length_map];have e1:=i5.len;have e2:(hs++[us,vs]).length<=200:=by rw[List.length_append];simp;lia
    exact Nat.lt_of_lt_of_le (by lia:(has++[pu,pv]).length<1000) (bZ (Nat.le_refl _))
   have Pb:has++[pu,pv]≠[]:=by simp
   have keep:∀(a:Addr)(p:List Int),IL H5 a p->IL (upd H5 pc (.lst ((has++[pu,pv]).map V.ref++[V.ref D2]))) a p:=fun a p z=>by
    show upd H5 pc _ a=_;rw[aH (Ep Rk Pb z)];exact z
   have s6:au H (upd H5 pc (.lst ((has++[pu,pv]).map V.ref++[V.ref D2]))):=fun c o z=>by
    rw[aH (aI z O7)];exact s5 _ _ z
   have Rl:upd H5 pc (.lst ((has++[pu,pv]).map V.ref++[V.ref D2])) pc=some (.lst (((has++[pu])++[pv,D2]).map V.ref)):=by
    rw[ak];simp
   have i6:pC (upd H5 pc (.lst ((has++[pu,pv]).map V.ref++[V.ref D2]))) ((has++[pu])++[pv,D2]) ((hs++[us])++[vs,ws]):=by
    have z:=(i5.map keep).snoc (keep _ _ h5);simpa using z
   have Lz:=keep _ _ (AM _ _ hv);have LA:=keep _ _ h5;generalize upd H5 pc (.lst ((has++[pu,pv]).map V.ref++[V.ref D2]))=H6 at s6 Rl i6 Lz LA ⊢;walk_at "sf";refine dr (aZ.of Lz) (fE Ih) ?_;walk_at "sf";refine⟨_,rfl,?_⟩;have Af:(if co vs (vs.length-1)<0 then -co vs (vs.length-1) else co vs (vs.length-1))=ab (co vs (vs.length-1)):=by unfold ab;split<;>lia
   rw[Af];have bl:Bd (3^k*106-2) (ab (co vs (vs.length-1))):=by
    have:=O9.co (vs.length-1);unfold Bd at*;unfold ab;lia
   have MC:=F_.scale;rw[dd,yp] at MC;walk_at "sf";have UA:(3^k*106-2)*δ<=3^k*106*δ:=Nat.mul_le_mul_right _ (by lia);refine⟨ab (co vs (vs.length-1)),δ,3^k*106-2,rfl,⟨bl,by lia,by lia,by lia⟩,?_⟩;walk_at "sf";have UB:(δ:Int)-1=((δ-1:Nat):Int):=by lia
   have UC:3^k*106*(δ-1)<=3^k*106*δ:=Nat.mul_le_mul_left _ (by lia);refine⟨h0,δ-1,3^k*106,by rw[UB];rfl,⟨bh,by lia,by lia,by lia⟩,?_⟩;have eQ:h0^(δ-1)≠0:=Int.ne_of_gt (bX F_.Jb _);refine bN eQ ?_;have Pc:=Int.fdiv_mul_cancel MC;have Pd:=Int.ne_of_gt (bX hl δ);generalize (ab (co vs (vs.length-1))^δ).fdiv (h0^(δ-1))=h1 at Pc ⊢;have UD:Bd (3^(k+δ)*106) h1:=by
    have:=(Bd.pow bl δ).of_dvd ⟨h0^(δ-1),Pc.symm⟩ Pd;refine this.mono ?_;have:(3^k*106-2)*δ+2*δ=3^k*106*δ:=by
     rw[Nat.sub_mul];have:2*δ<=3^k*106*δ:=Nat.mul_le_mul_right _ (by lia);lia
    lia
   have Pe:uP (aq xs) (aq (bR xs)) (aq vs) (aq ws) (n'+1) n' (vs.length-1) (ws.length-1) (ab (co vs (vs.length-1))) h1:=by
    refine F_.next eqw (by rw[dd];exact hq) (by rw[bB tw];lia) (by lia) ?_
    rw[dd,yp];exact Pc
   have Rm:∀x:Re,(at' x (aq vs)=0->aT (at' x (aq us))*aT (at' x (aq ws))<0)/\¬(at' x (aq vs)=0/\at' x (aq ws)=0):=fun x=>by
    rw[dd] at eqw;exact zp (bX hl _) HN eqw (nz x)
   walk_at "sf";refine⟨ws.length,by lia,hs++[us],vs,ws,has++[pu],pv,D2,_,h1,k+δ,_,_,_,_,rfl,rfl,s6,Rl,i6,?_,tv,tw,Ih,Uz,Lz,LA,by lia,by lia,Pe,fun x=>?_,fun x=>(Rm x).2,fun d d1 d2=>?_,?_,bw,?_,UD,?_,?_⟩
   ·obtain⟨rest,er⟩:=Mp;refine⟨rest++[ws],?_⟩;have e1:hs++[us]++[vs,ws]=(hs++[us,vs])++[ws]:=by simp
    rw[e1,er];rfl
   ·have t1:=Lx x;have e1:(hs++[us,vs]).map aq=hs.map aq++[aq us,aq vs]:=by simp
    have e2:(hs++[us]++[vs,ws]).map aq=hs.map aq++[aq us,aq vs,aq ws]:=by simp
    rw[e1] at t1;rw[e2];exact lY.snoc (Rm x).1 _ t1
   ·refine ic d (Po.D.xy (Int.ne_of_gt (bX hl (δ+1))) ?_) d1;have LB:=eqw;rw[dd,yp] at LB;rw[LB];exact(d1.mulL _).add (d2.mulL _)
   ·exact O9.mono (by lia)
   ·exact bl.mono (by lia)
   ·intro p hp;have e1:hs++[us]++[vs,ws]=(hs++[us,vs])++[ws]:=by simp
    rw[e1] at hp;rcases List.mem_append.mp hp with z|z
    ·exact C1 p z
    ·rw[List.mem_singleton.mp z];exact⟨by lia,bw.mono (by lia)⟩
   ·rw[List.length_append];simp;lia
  ·have UE:vs.length=1:=by
    have:¬(1:Int)<(vs.length:Int):=by simpa using cc
    lia
   walk_at "sf";refine q pc _ _ H' s3 Ac i3 ⟨Mp,fun _ x=>?_,fun h1=>by lia,C1,by rw[List.length_append];show hs.length+2<=60;lia⟩;have e1:(hs++[us,vs]).map aq=(hs.map aq++[aq us])++[aq vs]:=by simp
   have t1:=Lx x;rw[e1] at t1 ⊢;refine lY.HM ?_ _ t1;have ek:=bS (f:=aq vs) (by rw[bB tv];lia);have eQ:(aq vs).c 0≠0:=fun z=>ip tv Ih (by rw[ek,z,Po.cH]);rw[ek,Be];intro z;have z2:Re.q (((aq vs).c 0:Int):Rat)=Re.q 0:=z;have z3:(((aq vs).c 0:Int):Rat)=((0:Int):Rat):=Re.xR z2;exact eQ (Rat.intCast_inj.mp z3)
 ·have mB:xs.length=1:=by have:=List.length_pos_iff.mpr eC;lia
  have vz:bR xs=[]:=List.length_eq_zero_iff.mp (by lia);rw[vz] at i2;refine cM (fun m σ H'=>σ=[some (.ref a),some (.ref pc),some (.int 1),some (.int 1),none,none,none,none]/\H'=H2) ⟨0,rfl,rfl⟩ ?_;rintro m σ H' ⟨rfl,rfl⟩;walk_at "sf";refine dr (aZ.of uO) (ll (as:=[])) ?_;refine⟨p1,_,rfl,.inl (aZ.of i2.2.1),?_⟩;walk_at "sf";rw[if_neg (by decide)];walk_at "sf";refine q pc _ _ H' s2 uO i2 ⟨⟨[],by rw[vz];rfl⟩,fun h=>absurd h Jg,fun _=>rfl,fun p hp=>?_,show 2<=60 by decide⟩;rcases List.mem_cons.mp hp with z|z
  ·rw[z];exact⟨lx,bx.mono (by lia)⟩
  ·rw[List.mem_singleton.mp z];exact⟨by simp,fun x hx=>nomatch hx⟩
end
end dH
namespace dH
open PySem PyProof.Rows L2 SF SF.Po
noncomputable def d_(t u:Int)(ps:List (List Int)):List Int:=ps.map fun p=>sg (hv t u p)
theorem tV(b:Int):∀(l:List Int)(s:Int),cg b (l++[s])=cg b l+(if s*(l.foldl (fun b s=>if s≠0 then s else b) b)<0 then 1 else 0)
 |[],s=>by
  show(if s*b<0 then 1 else 0)+0=0+_;simp
 |x::l,s=>by
  show(if x*b<0 then 1 else 0)+cg (if x≠0 then x else b) (l++[s])=(if x*b<0 then 1 else 0)+cg (if x≠0 then x else b) l+_;rw[tV _ l s,List.foldl_cons];lia
noncomputable def ja(l:List Int):Int:=l.foldl (fun b s=>if s≠0 then s else b) 0
theorem v_(l:List Int)(s:Int):ja (l++[s])=if s≠0 then s else ja l:=by
 unfold ja;rw[List.foldl_append];rfl
noncomputable def yq:Sp:=fun vs H Q _=>∃(a:Addr)(xs:List Int)(b:Nat),vs=[.ref a]/\IL H a xs/\(Ab b xs/\b<=jQ/\xs.length<=100)/\Q (.int ((cg 0 (xs.map sg):Nat):Int)) H
noncomputable def Ga:Sp:=fun vs H Q _=>∃(c g:Addr)(as:List Addr)(ps:List (List Int))(t u:Int)(p:Nat),vs=[.ref c,.ref g]/\H c=some (.lst (as.map V.ref))/\pC H as ps/\H g=some (.tup [.int t,.int u])/\
 ((∀q∈ps,q.length<=13/\Ab BM q)/\ps.length<=60/\Bd p t/\Bd p u/\p<=30000)/\∀H',au H H'->Q (.int ((cg 0 (d_ t u ps):Nat):Int)) H'
theorem wa{K:PySem.W.Frag}{own:List Str}{fr:List Nat}{g:TG}{te:TE}{σ:L2.St}{H1:Hp}{Q:VK}{a:Addr}{xs:List V}(hS:aZ K H1 a xs)(Pv:List V->Prop)(hz:xs.length<=sizeLine)(p0:Pv [])(hs:∀(i:Nat)(x:V)(r:L2.St)(ys:List V)(H2:Hp),xs[i]?=some x->r.length=own.length->ys.length=i->Pv ys->au H1 H2->∀Z:V->L2.St->Hp->Prop,(∀y dw H5,au H2 H5->Pv (ys++[y])->(∃r':L2.St,r'.length=own.length/\dw=r'++p_ fr σ)->Z y dw H5)->g x (r++p_ fr σ) H2 fun dw H4=>te dw H4 fun y H5=>Z y dw H5)(hq:∀D H2 ys,H1 D=none->au H1 H2->H2 D=some (.lst ys)->ys.length=xs.length->Pv ys->Q (.ref D) H2):jA (rH K a) own fr σ g te H1 Q:=oV hS Pv hz p0 hs hq
theorem yr(x:Int):Bd 2 (sg x):=by unfold sg Bd;split<;>(try split)<;>decide
theorem Es:∀(l:List Int),(∀x∈l,Bd 2 x)->Bd 2 (ja l):=by
 intro l hl;unfold ja;have key:∀(l:List Int)(b:Int),Bd 2 b->(∀x∈l,Bd 2 x)->Bd 2 (l.foldl (fun b s=>if s≠0 then s else b) b):=by
  intro l
  induction l with
  |nil=>exact fun b hb _=>hb
  |cons x l ih=>
   intro b hb h;rw[List.foldl_cons];refine ih _ ?_ fun y hy=>h y (List.mem_cons_of_mem _ hy);split
   ·exact h x List.mem_cons_self
   ·exact hb
 exact key l 0 (by show(0:Int).natAbs<2^2;decide) hl
section
variable {P:Program} {w:World} {K:PySem.W.Frag} {mg:Str->Option Value} {base:Heap}
theorem LC(x:Int):sg (sg x)=sg x:=by
 rcases Int.lt_trichotomy x 0 with h|h|h
 ·have:sg x=-1:=if_pos h;rw[this];rfl
 ·rw[h];rfl
 ·have:sg x=1:=by unfold sg;rw[if_neg (by lia),if_pos h]
  rw[this];rfl
theorem nQ(x y:Int):x*y<0↔sg x*y<0:=by
 have hp:=fun a b:Int=>Int.mul_neg_of_pos_of_neg (a:=a) (b:=b);unfold sg;split
 ·rename_i h;constructor
  ·intro z;have:0<y:=by
    rcases Int.lt_trichotomy y 0 with h'|h'|h'
    ·have:=Int.mul_pos_of_neg_of_neg h h';lia
    ·rw[h',Int.mul_zero] at z;lia
    ·exact h'
   lia
  ·intro z;exact Int.mul_neg_of_neg_of_pos h (by lia)
 ·split
  ·rename_i h;constructor
   ·intro z;have:y<0:=by
     rcases Int.lt_trichotomy y 0 with h'|h'|h'
     ·exact h'
     ·rw[h',Int.mul_zero] at z;lia
     ·have:=Int.mul_pos h h';lia
    lia
   ·intro z;exact Int.mul_neg_of_pos_of_neg h (by lia)
  ·have:x=0:=by lia
   subst this;simp
theorem nS{x:Int}:sg x≠0↔x≠0:=by
 unfold sg;split<;>(try split)<;>constructor<;>intro h<;>lia
theorem oA(gb:bq P w K mg base 1 "sign" ["number"] lj)(D:aL K mg "changes_in" iA ["row"]):bq P w K mg base 2 "changes_in" ["row"] yq:=by
 refine D.ok de (fun vs H Q E h=>?_) (fun f cD A outer s H vs Q E hr h=>?_)
 ·obtain⟨a,xs,b,rfl,_⟩:=h;rfl
 obtain⟨a,xs,b,rfl,ha,⟨bx,hb,hl⟩,q⟩:=h;have gR:jQ=60000000:=rfl;refine⟨_,(ae (ai (i:=1) de.nd rfl (Or.inl rfl) af)
  (ae (ai (i:=2) de.nd rfl (Or.inl rfl) af)
  (ae (gx PassesOwn.never rfl (gn (pv 0)) (aQ (i:=3) de.nd rfl (Or.inl rfl))
  (ae (bO (aB iL (aj aw (pv 3) (pv 2)) af (aE _))
  (ah (ai (i:=1) de.nd rfl (Or.inl rfl) (aj bA (pv 1) af)))
  aO)
  (ah (bO (aB mI (pv 3) af (aE _))
  (ah (ai (i:=2) de.nd rfl (Or.inl rfl) (av gb hr (aa (pv 3) ag))))
  aO))))
  (ah (ax (pv 1)))))),?_⟩;walk_at "sf";refine⟨a,rfl,⟨_,aZ.of ha⟩,?_⟩;refine rT (xs:=xs.map V.int) (fun i σ H'=>(∃r1,σ=[some (.ref a),some (.int ((cg 0 ((xs.take i).map sg):Nat):Int)),some (.int (ja ((xs.take i).map sg))),r1])/\H'=H) ⟨⟨_,rfl⟩,rfl⟩ (fun i σ H' _ z=>by rw[z.2];exact aZ.of ha) ?_ ?_
 ·rintro i x σ H' hx ⟨⟨r1,rfl⟩,rfl⟩;obtain⟨hi,rfl⟩:=qj hx;have UG:xs[i]?=some (co xs i):=by
   rw[List.getElem?_eq_getElem hi,bP hi]
  have et:(xs.take (i+1)).map sg=(xs.take i).map sg++[sg (co xs i)]:=by
   rw[List.take_add_one,UG,List.map_append];rfl
  have bl:Bd 2 (ja ((xs.take i).map sg)):=Es _ fun y hy=>by
   obtain⟨z,_,rfl⟩:=List.mem_map.mp hy;exact yr _
  have ec:cg 0 ((xs.take (i+1)).map sg)=cg 0 ((xs.take i).map sg)+(if sg (co xs i)*ja ((xs.take i).map sg)<0 then 1 else 0):=by rw[et];exact tV 0 _ _
  have el:ja ((xs.take (i+1)).map sg)=if sg (co xs i)≠0 then sg (co xs i) else ja ((xs.take i).map sg):=by rw[et];exact v_ _ _
  walk_at "sf";refine bN (aR (bx.co i) bl (by lia)) ?_;walk_at "sf";generalize ja ((xs.take i).map sg)=lb at bl ec el ⊢;generalize cg 0 ((xs.take i).map sg)=cn at ec ⊢;refine dI (fun c1=>?_) (fun c1=>?_)
  case' refine_1=>
   have h1:co xs i*lb<0:=by simpa using c1
   rw[if_pos ((nQ _ _).mp h1)] at ec
  case' refine_2=>
   have h1:¬co xs i*lb<0:=by simpa using c1
   rw[if_neg (fun z=>h1 ((nQ _ _).mpr z))] at ec
  all_goals
   walk_at "sf";refine dI (fun c2=>?_) (fun c2=>?_)
   ·have h2:co xs i≠0:=by simpa using c2
    rw[if_pos (nS.mpr h2)] at el;walk_at "sf";refine⟨_,rfl,?_⟩;walk_at "sf";refine⟨⟨some (.int (co xs i)),?_⟩,rfl⟩;rw[ec,el];rfl
   ·have h2:¬co xs i≠0:=by simpa using c2
    rw[if_neg (fun z=>h2 (nS.mp z))] at el;walk_at "sf";refine⟨⟨some (.int (co xs i)),?_⟩,rfl⟩;rw[ec,el];rfl
 ·rintro σ H' ⟨⟨r1,rfl⟩,rfl⟩;have e:xs.take (xs.map V.int).length=xs:=by rw[List.length_map,List.take_length]
  rw[e];walk_at "sf";exact q
theorem oB(qW:bq P w K mg base 2 "changes_in" ["row"] yq)(fK:bq P w K mg base 2 "sign_at" ["poly","given"] En)(D:aL K mg "changes_at" iB ["chain","given"]):bq P w K mg base 3 "changes_at" ["chain","given"] Ga:=by
 refine D.ok ow (fun vs H Q E h=>?_) (fun f cD A outer s H vs Q E hr h=>?_)
 ·obtain⟨c,g,as,ps,t,u,p,rfl,_⟩:=h;rfl
 obtain⟨c,g,as,ps,t,u,p,rfl,hc,hi,hg,⟨C1,hn,bt,bu,hp⟩,q⟩:=h;have gR:jQ=60000000:=rfl;have Ux:BM=56332746:=rfl;have hlen:=hi.len;refine⟨_,(ah (ax (av qW hr (aa (g9 rfl rfl (iP (own:=["poly"]) (fr:=[1]) (fs:=["given"]) (by with_unfolding_all rfl) rfl (by decide +kernel) (by decide +kernel) (by exact⟨rfl,trivial⟩) (by with_unfolding_all rfl) (by exact⟨⟨rfl,rfl,rfl,Or.inl rfl⟩,trivial⟩)) (gn (pv 0)) (fun _ _ _ _ _=>(aQ (i:=0) (show List.Nodup (["poly","given"]:List Str) by decide +kernel) rfl (Or.inl rfl) (Or.inr rfl))) (fun _ _ _ _ _=>(av fK hr (aa (pv 0) (aa (pv 1) ag))))) ag)))),?_⟩;walk_at "sf";refine ij (H1:=H) (rH K c) (fun R hR=>?_) (wa (xs:=as.map V.ref) (aZ.of hc) (fun ys=>ys=(d_ t u (ps.take ys.length)).map V.int) (bZ (by rw[List.length_map];lia)) rfl ?_ ?_)
 ·walk_at "sf";exact⟨c,rfl,⟨_,aZ.of hc⟩,hR⟩
 ·intro i x r ys H2 hx Et om C2 dJ Z hZ;rw[List.getElem?_map] at hx;cases ea:as[i]? with
  |none=>rw[ea] at hx;cases hx
  |some a=>
   rw[ea] at hx;have UH:V.ref a=x:=by simpa using hx
   subst UH;obtain⟨xs,MR,OM⟩:=(hi.map fun a p z=>dJ _ _ z).get i ea;obtain⟨f1,f2⟩:=C1 xs (List.mem_of_getElem? MR);obtain⟨x0,rfl⟩:=sE Et;walk_at "sf";refine⟨a,g,xs,t,u,_,p,rfl,OM,dJ _ _ hg,⟨by lia,f2,bt,bu,by lia⟩,?_⟩;walk_at "sf";refine hZ _ _ _ (au.refl _) ?_ ⟨[_],rfl,rfl⟩;have el:(ys++[V.int (sg (hv t u xs))]).length=ys.length+1:=by simp
   unfold d_ at C2 ⊢;rw[el,List.take_add_one,om,MR,List.map_append,List.map_append,<-om,<-C2];rfl
 intro D2 H2 ys MO s2 Pf Rn C2;have hE:ys=(d_ t u ps).map V.int:=by
  rw[C2,Rn,List.length_map,hlen,List.take_length]
 walk_at "sf";have WU:(d_ t u ps).length=ps.length:=List.length_map _;refine⟨D2,d_ t u ps,2,rfl,by show H2 D2=_;rw[Pf,hE],⟨?_,by lia,by lia⟩,?_⟩
 ·intro y hy;obtain⟨z,_,rfl⟩:=List.mem_map.mp hy;exact yr _
 have e2:(d_ t u ps).map sg=d_ t u ps:=by
  unfold d_;rw[List.map_map];exact List.map_congr_left fun z _=>LC _
 rw[e2];walk_at "sf";exact q H2 s2
end
end dH
namespace dH
open PySem PyProof.Rows L2 SF SF.Po
noncomputable def tW:Sp:=fun vs H Q _=>∃a b:Int,vs=[.int a,.int b]/\Bd 8000 a/\Bd 8000 b/\Q (.int ((Int.gcd a b:Nat):Int)) H
noncomputable def wb:Sp:=fun vs H Q _=>∃(a b:Int)(n:Nat),vs=[.int a,.int b]/\Bd n a/\Bd n b/\n<=8000/\0<b/\∀(p:Addr)(t u:Int),H p=none->Bd n t->Bd n u->0<u->Int.gcd t u=1->t*b=a*u->Q (.ref p) (upd H p (.tup [.int t,.int u]))
theorem mC{a g:Int}{n:Nat}(hd:g∣a)(hg:g≠0)(b:Bd n a):Bd n (a.fdiv g):=by
 have e:=fS hd;refine b.of_le ?_;have h1:a.natAbs=(a.fdiv g).natAbs*g.natAbs:=by rw[<-Int.natAbs_mul,e]
 rw[h1];exact Nat.le_mul_of_pos_right _ (Int.natAbs_pos.mpr hg)
theorem LD{L:List Int}{i:Int}(h0:0<=i)(h1:i<(L.length:Int)):∃n∈L,mf (L.map V.int) i=some (.int n):=by
 obtain⟨k,rfl⟩:=Int.eq_ofNat_of_zero_le h0;have hk:k<L.length:=by lia
 exact⟨co L k,by rw[bP hk];exact List.getElem_mem hk,yj hk⟩
section
variable {P:Program} {w:World} {K:PySem.W.Frag} {mg:Str->Option Value} {base:Heap}
theorem oC(T:Nm mg)(D:aL K mg "_law_common" iE ["_law_one","_law_other"]):bq P w K mg base 1 "_law_common" ["_law_one","_law_other"] tW:=by
 refine D.ok di (fun vs H Q E h=>?_) (fun f cD A outer s H vs Q E hr h=>?_)
 ·obtain⟨a,b,rfl,_⟩:=h;rfl
 obtain⟨a,b,rfl,ha,hb,q⟩:=h;refine⟨_,(ae (ai (i:=0) di.nd rfl (Or.inl rfl) (aG cK rfl T.gQ boot_abs (aa (pv 0) ag)))
  (ae (ai (i:=1) di.nd rfl (Or.inl rfl) (aG cK rfl T.gQ boot_abs (aa (pv 1) ag)))
  (ae (cX PassesOwn.never (aB mI (pv 1) af (aE _))
  (ae (ai (i:=2) di.nd rfl (Or.inl rfl) (aj bJ (pv 0) (aj aw (aj cY (pv 0) (pv 1)) (pv 1))))
  (ae (ai (i:=0) di.nd rfl (Or.inl rfl) (pv 1))
  (ah (ai (i:=1) di.nd rfl (Or.inl rfl) (pv 2))))))
  (ah (ax (pv 0)))))),?_⟩;walk_at "sf";refine⟨_,rfl,?_⟩;walk_at "sf";refine⟨_,rfl,?_⟩;walk_at "sf";refine cM (fun m σ H'=>∃(g l:Int)(r:Option V),m=l.toNat/\σ=[some (.int g),some (.int l),r]/\H'=H/\0<=g/\0<=l/\Bd 8000 g/\Bd 8000 l/\Int.gcd g l=Int.gcd a b)
  ⟨_,_,_,_,rfl,rfl,rfl,by split<;>lia,by split<;>lia,ha.of_le (by split<;>lia),hb.of_le (by split<;>lia),xo⟩ ?_
 rintro m σ H' ⟨g,l,r,rfl,rfl,rfl,hg,hl,UI,MS,e⟩;walk_at "sf";refine dI (fun c=>?_) (fun c=>?_)
 ·have vA:l≠0:=by simpa using c
  have hp:0<l:=by lia
  refine⟨_,fun cz H' h=>h,?_⟩;walk_at "sf";refine bN ⟨vA,MS.log2 (by decide)⟩ ?_;walk_at "sf";have h1:=Int.emod_nonneg g vA;have h2:=Int.emod_lt_of_pos g hp;have ed:g.fdiv l=g/l:=dO hp;have UJ:Bd 8000 (g/l):=UI.of_le (by
   have h3:=Int.ediv_nonneg hg hl
   have h4:=Int.ediv_le_self l hg
   lia);rw[ed];refine bN (aR UJ MS (by decide)) ?_;walk_at "sf";have em:g-g/l*l=g%l:=by
   have:=Int.emod_add_mul_ediv g l;rw[Int.mul_comm] at this;lia
  rw[em];exact⟨_,by lia,_,_,_,rfl,rfl,rfl,hl,h1,MS,MS.of_le (by lia),by rw[sk hg hp,e]⟩
 ·have vA:l=0:=by simpa using c
  subst vA;walk_at "sf";have e':((Int.gcd a b:Nat):Int)=g:=by rw[<-e];exact xp hg
  rw[e'] at q;exact q
theorem qX(qY:bq P w K mg base 1 "_law_common" ["_law_one","_law_other"] tW)(D:aL K mg "_law_ratio" i_ ["_law_top","_law_under"]):bq P w K mg base 2 "_law_ratio" ["_law_top","_law_under"] wb:=by
 refine D.ok kg (fun vs H Q E h=>?_) (fun f cD A outer s H vs Q E hr h=>?_)
 ·obtain⟨a,b,n,rfl,_⟩:=h;rfl
 obtain⟨a,b,n,rfl,ha,hb,hn,OC,q⟩:=h;have hg:0<Int.gcd a b:=Int.gcd_pos_of_ne_zero_right a (by lia);have Eu:((Int.gcd a b:Nat):Int)≠0:=by lia
 have bg:Bd n ((Int.gcd a b:Nat):Int):=hb.of_dvd (Int.gcd_dvd_right ..) (by lia);refine⟨_,(ae (ai (i:=2) kg.nd rfl (Or.inl rfl) (av qY hr (aa (pv 0) (aa (pv 1) ag))))
  (ah (ax (cL (aa (aj cY (pv 0) (pv 2)) (aa (aj cY (pv 1) (pv 2)) ag)))))),?_⟩;walk_at "sf";refine⟨_,_,rfl,ha.mono (by lia),hb.mono (by lia),?_⟩;walk_at "sf";refine bN ⟨Eu,(bg.mono (by lia:n<=9000)).log2 (by decide)⟩ ?_;walk_at "sf";refine bN ⟨Eu,(bg.mono (by lia:n<=9000)).log2 (by decide)⟩ ?_;walk_at "sf";intro p hp;have e1:=fS (Int.gcd_dvd_left (a:=a) (b:=b));have e2:=fS (Int.gcd_dvd_right (a:=a) (b:=b));refine q p _ _ hp (mC (Int.gcd_dvd_left ..) Eu ha) (mC (Int.gcd_dvd_right ..) Eu hb) ?_ ?_ ?_
 ·have xH:(0:Int)<((Int.gcd a b:Nat):Int):=by lia
  rcases Int.lt_or_le 0 (b.fdiv ((Int.gcd a b:Nat):Int)) with z|z
  ·exact z
  ·have:=Int.mul_nonpos_of_nonpos_of_nonneg z (Int.le_of_lt xH);lia
 ·have h3:Int.gcd (a.fdiv ((Int.gcd a b:Nat):Int)*((Int.gcd a b:Nat):Int)) (b.fdiv ((Int.gcd a b:Nat):Int)*((Int.gcd a b:Nat):Int))=Int.gcd (a.fdiv ((Int.gcd a b:Nat):Int)) (b.fdiv ((Int.gcd a b:Nat):Int))*(((Int.gcd a b:Nat):Int)).natAbs:=Int.gcd_mul_right ..;rw[e1,e2,Int.natAbs_natCast] at h3;have h4:1*Int.gcd a b=Int.gcd (a.fdiv ((Int.gcd a b:Nat):Int)) (b.fdiv ((Int.gcd a b:Nat):Int))*Int.gcd a b:=by lia
  exact(Nat.eq_of_mul_eq_mul_right hg h4).symm
 ·generalize a.fdiv ((Int.gcd a b:Nat):Int)=x at*;generalize b.fdiv ((Int.gcd a b:Nat):Int)=y at*;generalize ((Int.gcd a b:Nat):Int)=z at*;rw[<-e1,<-e2];grind
end
end dH
namespace dH
open PySem PyProof.Rows L2 SF SF.Po
theorem nT{xs:List Int}(tx:Tr xs)(h:CZ (aq xs) (aq xs))(x:Re):¬(at' x (aq xs)=0/\at' x (aU (aq xs))=0):=by
 have gc:=cU (xs:=xs) (ys:=bR xs) (.inl h.pr.ne);have o1:aq [1]=1:=Po.ext fun i=>by
  rw[aY,oZ];cases i with
  |zero=>rfl
  |succ i=>rfl
 rw[vy tx h,o1] at gc;obtain⟨bu,bv,ba,Hm,K8⟩:=gc.bz;have Bw:bu*aq xs+bv*aq (bR xs)=Po.K ba:=by rw[K8];grind
 rw[<-eM];exact pk Hm Bw
theorem gS{t u:Int}(hu:0<u)(xs:List Int):sg (hv t u xs)=aT (at' (Re.q ((t:Rat)/(u:Rat))) (aq xs)):=HR hu xs
theorem gu{t u:Int}(hu:0<u)(ps:List (List Int)):d9 (Re.q ((t:Rat)/(u:Rat))) (ps.map aq)=d_ t u ps:=by
 unfold d9 d_;rw[List.map_map];exact List.map_congr_left fun p _=>(gS hu p).symm
end dH
namespace dH
open PySem PyProof.Rows L2 SF SF.Po
noncomputable def Rt(H:Hp)(g:Addr)(t u:Int):Prop:=H g=some (.tup [.int t,.int u])/\0<u/\Int.gcd t u=1
theorem Rt.same{H H':Hp}{g:Addr}{t u:Int}(h:Rt H g t u)(s:au H H'):Rt H' g t u:=⟨s _ _ h.1,h.2⟩
noncomputable def pD:Sp:=fun vs H Q _=>∃(a b:Int)(n:Nat),vs=[.int a,.int b]/\Bd n a/\Bd n b/\n<=1000000/\0<b/\∀(p:Addr)(t u:Int),H p=none->Bd n t->Bd n u->0<u->Int.gcd t u=1->t*b=a*u->Q (.ref p) (upd H p (.tup [.int t,.int u]))
noncomputable def Gb:Sp:=fun vs H Q _=>∃(g h:Addr)(t u t' u':Int)(n:Nat),vs=[.ref g,.ref h]/\H g=some (.tup [.int t,.int u])/\H h=some (.tup [.int t',.int u'])/\(Bd n t/\Bd n u/\Bd n t'/\Bd n u')/\n<=100000/\0<u/\0<u'/\
 ∀(p:Addr)(c d:Int),H p=none->0<d->Int.gcd c d=1->c*(2*u*u')=(t*u'+t'*u)*d->Q (.ref p) (upd H p (.tup [.int c,.int d]))
noncomputable def Ge(xs:List Int)(r:Int):Prop:=∀k,k<xs.length-1->ab (co xs (xs.length-2-k))<=ab (co xs (xs.length-1))*r^(k+1)
noncomputable def Ik(xs:List Int):Prop:=Tr xs/\xs≠[]/\xs.length<=13/\Ab 100 xs
noncomputable def tX:Sp:=fun vs H Q _=>∃(a:Addr)(xs:List Int)(r:Int),vs=[.ref a,.int r]/\IL H a xs/\Ik xs/\Bd 110 r/\(Ge xs r->∀H',au H H'->Q (.bl true) H')/\(¬Ge xs r->∀H',au H H'->Q (.bl false) H')
noncomputable def yu:Sp:=fun vs H Q _=>∃(a:Addr)(xs:List Int),vs=[.ref a]/\IL H a xs/\Ik xs/\∀(r:Int)(H':Hp),au H H'->0<r->r<=2^100->Ge xs r->(∃j:Nat,r=2^j/\∀i,i<j->¬Ge xs (2^i))->Q (.int (2*r)) H'
structure Ends(xs:List Int)(o b t u t' u':Int):Prop where
 odd:Int.gcd o 2=1
 three:3<=o
 nd:¬o∣co xs (xs.length-1)
 bo:Bd 102 o
 bb:0<b/\b<=2^102
 UK:∃r,0<r/\b=2*r+1/\Ge xs r/\∃j:Nat,r=2^j/\∀i,i<j->¬Ge xs (2^i)
 lo:t*o=(1-o*b)*u
 hi:t'*o=(1+o*b)*u'
 least:∀k,3<=k->k<o->Int.gcd k 2=1->k∣co xs (xs.length-1)
theorem yv{o:Int}(h:Int.gcd o 2=1):o%2=1:=by
 rcases Int.emod_two_eq o with z|z
 ·exfalso;have:=Int.dvd_coe_gcd (Int.dvd_of_emod_eq_zero z) (Int.dvd_refl 2);rw[h] at this;exact absurd this (by decide)
 ·exact z
noncomputable def tY:Sp:=fun vs H Q _=>∃(a:Addr)(xs:List Int),vs=[.ref a]/\IL H a xs/\Ik xs/\∀(p g h:Addr)(o b t u t' u':Int)(H':Hp),au H H'->H' p=some (.tup [.ref g,.ref h])->Rt H' g t u->Rt H' h t' u'->Ends xs o b t u t' u'->Q (.ref p) H'
noncomputable def B0:Sp:=fun vs H Q _=>∃(c g:Addr)(as:List Addr)(ps:List (List Int))(t u:Int)(p:Nat),vs=[.ref c,.ref g]/\H c=some (.lst (as.map V.ref))/\pC H as ps/\H g=some (.tup [.int t,.int u])/\
 ((∀q∈ps,q.length<=13/\Ab BM q)/\ps.length<=60/\Bd p t/\Bd p u/\p<=30000)/\∀(m:Addr)(H':Hp),au H H'->H' m=some (.tup [.ref g,.int ((cg 0 (d_ t u ps):Nat):Int)])->Q (.ref m) H'
section
variable {P:Program} {w:World} {K:PySem.W.Frag} {mg:Str->Option Value} {base:Heap}
theorem B3(hT:P.given.tree=none)(cN:bq P w K mg base 33 "common_divisor" ["one","other"] yk)(D:aL K mg "ratio" qM ["top","under"]):bq P w K mg base 34 "ratio" ["top","under"] pD:=by
 refine D.ok nF (fun vs H Q E h=>?_) (fun f cD A outer s H vs Q E hr h=>?_)
 ·obtain⟨a,b,n,rfl,_⟩:=h;rfl
 obtain⟨a,b,n,rfl,ha,hb,hn,OC,q⟩:=h;have hg:0<Int.gcd a b:=Int.gcd_pos_of_ne_zero_right a (by lia);have Eu:((Int.gcd a b:Nat):Int)≠0:=by lia
 refine⟨_,(ae (bO (aB dN (pv 1) af (aE _))
  (ah rQ)
  aO)
  (ae (ai (i:=2) nF.nd rfl (Or.inl rfl) (av cN hr (aa (pv 0) (aa (pv 1) ag))))
  (ae (bO (aB iL (pv 1) af (aE _))
  (ah (ai (i:=2) nF.nd rfl (Or.inl rfl) (dn bY (pv 2))))
  aO)
  (ah (ax (cL (aa (aj (dB ⟨hT,⟨_,_,rfl,rfl,rfl,rfl,rfl⟩,hr.py⟩) (pv 0) (pv 2)) (aa (aj (dB ⟨hT,⟨_,_,rfl,rfl,rfl,rfl,rfl⟩,hr.py⟩) (pv 1) (pv 2)) ag)))))))),?_⟩;walk_at "sf";rw[if_neg (by simp;lia)];walk_at "sf";refine⟨_,_,rfl,?_⟩;walk_at "sf";rw[if_neg (by simp;lia)];walk_at "sf";refine bN Eu ?_;walk_at "sf";refine bN Eu ?_;walk_at "sf";intro p hp;have e1:=fS (Int.gcd_dvd_left (a:=a) (b:=b));have e2:=fS (Int.gcd_dvd_right (a:=a) (b:=b));refine q p _ _ hp (mC (Int.gcd_dvd_left ..) Eu ha) (mC (Int.gcd_dvd_right ..) Eu hb) ?_ ?_ ?_
 ·have xH:(0:Int)<((Int.gcd a b:Nat):Int):=by lia
  rcases Int.lt_or_le 0 (b.fdiv ((Int.gcd a b:Nat):Int)) with z|z
  ·exact z
  ·have:=Int.mul_nonpos_of_nonpos_of_nonneg z (Int.le_of_lt xH);lia
 ·have h3:Int.gcd (a.fdiv ((Int.gcd a b:Nat):Int)*((Int.gcd a b:Nat):Int)) (b.fdiv ((Int.gcd a b:Nat):Int)*((Int.gcd a b:Nat):Int))=Int.gcd (a.fdiv ((Int.gcd a b:Nat):Int)) (b.fdiv ((Int.gcd a b:Nat):Int))*(((Int.gcd a b:Nat):Int)).natAbs:=Int.gcd_mul_right ..;rw[e1,e2,Int.natAbs_natCast] at h3;have h4:1*Int.gcd a b=Int.gcd (a.fdiv ((Int.gcd a b:Nat):Int)) (b.fdiv ((Int.gcd a b:Nat):Int))*Int.gcd a b:=by lia
  exact(Nat.eq_of_mul_eq_mul_right hg h4).symm
 ·generalize a.fdiv ((Int.gcd a b:Nat):Int)=x at*;generalize b.fdiv ((Int.gcd a b:Nat):Int)=y at*;generalize ((Int.gcd a b:Nat):Int)=z at*;rw[<-e1,<-e2];grind
theorem zC(eP:bq P w K mg base 34 "ratio" ["top","under"] pD)(D:aL K mg "middle" nG ["one","other"]):bq P w K mg base 35 "middle" ["one","other"] Gb:=by
 refine D.ok zv (fun vs H Q E h=>?_) (fun f cD A outer s H vs Q E hr h=>?_)
 ·obtain⟨g,h,t,u,t',u',n,rfl,_⟩:=h;rfl
 obtain⟨g,h,t,u,t',u',n,rfl,hg,hh,⟨b1,b2,b3,b4⟩,hn,hu,dM,q⟩:=h;have gR:jQ=60000000:=rfl;refine⟨_,(ah (ax (av eP hr (aa (aj bA (aj aw (aD aC (pv 0) af (fun _ _=>rfl)) (aD aC (pv 1) af (fun _ _=>rfl))) (aj aw (aD aC (pv 1) af (fun _ _=>rfl)) (aD aC (pv 0) af (fun _ _=>rfl)))) (aa (aj aw (aj aw af (aD aC (pv 0) af (fun _ _=>rfl))) (aD aC (pv 1) af (fun _ _=>rfl))) ag))))),?_⟩;walk_at "sf";refine aK (cC.of hg) rfl ?_;walk_at "sf";refine aK (cC.of hh) rfl ?_;refine bN (aR b1 b4 (by lia)) ?_;walk_at "sf";refine aK (cC.of hh) rfl ?_;walk_at "sf";refine aK (cC.of hg) rfl ?_;refine bN (aR b3 b2 (by lia)) ?_;walk_at "sf";refine aK (cC.of hg) rfl ?_;have b22:Bd 3 (2:Int):=Bd.of_two (by decide) (by decide);refine bN (aR b22 b2 (by lia)) ?_;walk_at "sf";refine aK (cC.of hh) rfl ?_;refine bN (aR (b22.mul b2) b4 (by lia)) ?_;walk_at "sf";have p1:=Int.mul_pos (Int.mul_pos (show(0:Int)<2 by decide) hu) dM;refine⟨_,_,n+n+3,rfl,((b1.mul b4).add (b3.mul b2)).mono (by lia),((b22.mul b2).mul b4).mono (by lia),by lia,p1,fun p c d hp _ _ hd hc e=>?_⟩;walk_at "sf";exact q p c d hp hd hc e
theorem qZ(T:Nm mg)(D:aL K mg "is_within" i4 ["free","reach"]):bq P w K mg base 1 "is_within" ["free","reach"] tX:=by
 refine D.ok fD (fun vs H Q E h=>?_) (fun f cD A outer s H vs Q E hr h=>?_)
 ·obtain⟨a,xs,r,rfl,_⟩:=h;rfl
 obtain⟨a,xs,r,rfl,ha,⟨tx,eC,hx,bx⟩,br,qt,qf⟩:=h;have gR:jQ=60000000:=rfl;have fx:=List.length_pos_iff.mpr eC;refine⟨_,(ae (ai (i:=2) fD.nd rfl (Or.inl rfl) (aG cK rfl T.gQ boot_abs (aa (aD bI (pv 0) (dn bY af) (fun _ _=>rfl)) ag)))
  (ae (gx PassesOwn.never rfl (vf rfl T.iH (aa (eH mi (pv 0) fz (fA (dn bY af))) ag)) (aQ (i:=3) fD.nd rfl (Or.inl rfl))
  (ae (ai (i:=2) fD.nd rfl (Or.inl rfl) (aj aw (pv 2) (pv 1)))
  (ah (bO (aB fO (aG cK rfl T.gQ boot_abs (aa (pv 3) ag)) (pv 2) (aE _))
  (ah (ax mE))
  aO))))
  (ah (ax mE)))),?_⟩;walk_at "sf";refine dr (aZ.of ha) (fE eC) ?_;walk_at "sf";refine⟨_,rfl,?_⟩;walk_at "sf";refine⟨_,rfl,?_⟩;refine⟨a,_,rfl,aZ.of ha,fun p5 Ij=>?_⟩;have e5:gE (xs.map V.int) none (some (-1))=xs.dropLast.map V.int:=tK xs;have s5:=au.new Ij (.lst (gE (xs.map V.int) none (some (-1))));have h5:IL (upd H p5 (.lst (gE (xs.map V.int) none (some (-1))))) p5 xs.dropLast:=by show upd _ p5 _ p5=_;rw[ak,e5]
 generalize upd H p5 (.lst (gE (xs.map V.int) none (some (-1))))=H5 at h5 s5 ⊢;walk_at "sf";refine⟨p5,_,rfl,aZ.of h5,?_⟩;have Af:(if co xs (xs.length-1)<0 then -co xs (xs.length-1) else co xs (xs.length-1))=ab (co xs (xs.length-1)):=by unfold ab;split<;>lia
 rw[Af];have ld:xs.dropLast.length=xs.length-1:=List.length_dropLast;have cd:∀j,j<xs.length-1->co xs.dropLast j=co xs j:=fun j hj=>by rw[List.dropLast_eq_take,h_,if_pos hj]
 have bl:Bd 100 (ab (co xs (xs.length-1))):=by
  have:=bx.co (xs.length-1);unfold Bd at*;unfold ab;lia
 refine qb (xs:=xs.dropLast.map V.int) (fun i σ H'=>(∃z,σ=[some (.ref a),some (.int r),some (.int (ab (co xs (xs.length-1))*r^i)),z])/\H'=H5/\∀k,k<i->ab (co xs (xs.length-2-k))<=ab (co xs (xs.length-1))*r^(k+1))
  ⟨⟨_,by rw[Int.pow_zero,Int.mul_one];rfl⟩,rfl,fun k hk=>absurd hk (Nat.not_lt_zero _)⟩ (fun i σ H' _ z=>by rw[z.2.1];exact aZ.of h5) ?_ ?_
 ·rintro i x σ H' hi zt ⟨⟨z,rfl⟩,rfl,mL⟩;rw[List.length_map] at hi zt;obtain⟨Jd,rfl⟩:=k_ zt;have ei:xs.dropLast.length-1-i=xs.length-2-i:=by lia
  rw[ei,cd _ (by lia)];have Jc:=Bd.pow br i;have UL:110*i<=110*12:=Nat.mul_le_mul_left _ (by lia);walk_at "sf";refine bN (aR (bl.mul Jc) br (by lia)) ?_;walk_at "sf";refine⟨_,rfl,?_⟩;walk_at "sf";have UM:(if co xs (xs.length-2-i)<0 then -co xs (xs.length-2-i) else co xs (xs.length-2-i))=ab (co xs (xs.length-2-i)):=by unfold ab;split<;>lia
  rw[UM];have ep:ab (co xs (xs.length-1))*r^i*r=ab (co xs (xs.length-1))*r^(i+1):=by rw[Int.mul_assoc,<-Int.pow_succ]
  rw[ep];refine dI (fun c=>?_) (fun c=>?_)
  ·have eE:ab (co xs (xs.length-1))*r^(i+1)<ab (co xs (xs.length-2-i)):=by simpa using c
   walk_at "sf";refine qf (fun W=>?_) H' s5;have:=W i (by lia);lia
  ·have hle:ab (co xs (xs.length-2-i))<=ab (co xs (xs.length-1))*r^(i+1):=by simpa using c
   walk_at "sf";refine⟨⟨_,rfl⟩,rfl,fun k hk=>?_⟩;by_cases UN:k<i
   ·exact mL k UN
   ·have:k=i:=by lia
    subst this;exact hle
 ·rintro σ H' ⟨⟨z,rfl⟩,rfl,mL⟩;walk_at "sf";refine qt (fun k hk=>mL k ?_) H' s5;rw[List.length_map,ld];exact hk
theorem Il{xs:List Int}(tx:Tr xs)(eC:xs≠[])(bx:Ab 100 xs):Ge xs (2^100):=fun k hk=>by
 have h1:=bx.co (xs.length-2-k);have h2:=fw (tx.last eC);have h3:(1:Int)<=(2^100)^k:=by
  rw[<-Int.pow_mul];exact Int.add_one_le_of_lt (Int.pow_pos (by decide))
 rw[Int.pow_succ];have h4:(2:Int)^100<=(2^100)^k*2^100:=by
  have:=Int.mul_le_mul_of_nonneg_right h3 (show(0:Int)<=2^100 by decide);lia
 have h5:(2^100)^k*2^100<=ab (co xs (xs.length-1))*((2^100)^k*2^100):=by
  have:=Int.mul_le_mul_of_nonneg_right (show(1:Int)<=ab (co xs (xs.length-1)) by lia) (show(0:Int)<=(2^100)^k*2^100 by lia);lia
 unfold Bd at h1;unfold ab at h5 ⊢;lia
theorem tZ(t_:bq P w K mg base 1 "is_within" ["free","reach"] tX)(D:aL K mg "bound_of" jI ["free"]):bq P w K mg base 2 "bound_of" ["free"] yu:=by
 refine D.ok i7 (fun vs H Q E h=>?_) (fun f cD A outer s H vs Q E hr h=>?_)
 ·obtain⟨a,xs,rfl,_⟩:=h;rfl
 obtain⟨a,xs,rfl,ha,hp,q⟩:=h;have gR:jQ=60000000:=rfl;have b22:Bd 3 (2:Int):=Bd.of_two (by decide) (by decide);refine⟨_,(ae (ai (i:=1) i7.nd rfl (Or.inl rfl) af)
  (ae (cX PassesOwn.never (mF (pO (av t_ hr (aa (pv 0) (aa (pv 1) ag)))))
  (ah (ai (i:=1) i7.nd rfl (Or.inl rfl) (aj aw af (pv 1)))))
  (ah (ax (aj aw af (pv 1)))))),?_⟩;walk_at "sf";refine cM (fun m σ H'=>∃j:Nat,m=100-j/\j<=100/\σ=[some (.ref a),some (.int ((2:Int)^j))]/\au H H'/\∀i,i<j->¬Ge xs (2^i)) ⟨_,0,rfl,by decide,rfl,au.refl _,fun i hi=>absurd hi (Nat.not_lt_zero i)⟩ ?_;rintro m σ H1 ⟨j,rfl,hj,rfl,s1,DT⟩;have bj:Bd (j+1) ((2:Int)^j):=by
  unfold Bd;rw[Int.natAbs_pow];exact Nat.pow_lt_pow_right (by decide) (by lia)
 walk_at "sf";refine⟨a,xs,_,rfl,s1 _ _ ha,hp,bj.mono (by lia),fun W H2 s2=>?_,fun W H2 s2=>?_⟩
 ·walk_at "sf";rw[if_neg (by decide)];walk_at "sf";refine bN (aR b22 bj (by lia)) ?_;walk_at "sf";refine q _ H2 (s1.trans s2) (Int.pow_pos (by decide)) ?_ W ⟨j,rfl,DT⟩;have e1:((2^j:Nat):Int)<=((2^100:Nat):Int):=Int.ofNat_le.mpr (Nat.pow_le_pow_right (by decide) hj);rw[Int.natCast_pow,Int.natCast_pow] at e1;exact e1
 ·have Ro:j≠100:=fun z=>by
   subst z;exact W (Il hp.1 hp.2.1 hp.2.2.2)
  walk_at "sf";rw[if_pos (by decide)];refine⟨_,fun cz H' h=>h,?_⟩;walk_at "sf";refine bN (aR b22 bj (by lia)) ?_;walk_at "sf";exact⟨_,by lia,j+1,rfl,by lia,by rw[Int.pow_succ,Int.mul_comm];rfl,s1.trans s2,fun i hi=>by
   rcases Nat.lt_or_ge i j with z|z
   ·exact DT i z
   ·have e:i=j:=by lia
    rw[e];exact W⟩
theorem jR(T:Nm mg)(wc:bq P w K mg base 34 "bound_of" ["free"] yu)(eP:bq P w K mg base 34 "ratio" ["top","under"] pD)(D:aL K mg "pair_around_all" eO ["free"]):bq P w K mg base 35 "pair_around_all" ["free"] tY:=by
 refine D.ok cW (fun vs H Q E h=>?_) (fun f cD A outer s H vs Q E hr h=>?_)
 ·obtain⟨a,xs,rfl,_⟩:=h;rfl
 obtain⟨a,xs,rfl,ha,hp,q⟩:=h;obtain⟨tx,eC,hx,bx⟩:=id hp;have gR:jQ=60000000:=rfl;have vA:=tx.last eC;have bl:=bx.co (xs.length-1);generalize hle:co xs (xs.length-1)=l at vA bl;have b1:Bd 100 ((ab l:Int)):=by
  unfold Bd at*;unfold ab;lia
 refine⟨_,(ae (ai (i:=1) cW.nd rfl (Or.inl rfl) af)
  (ae (cX PassesOwn.never (aB dN (aj cF (aD bI (pv 0) (dn bY af) (fun _ _=>rfl)) (pv 1)) af (aE _))
  (ah (ai (i:=1) cW.nd rfl (Or.inl rfl) (aj bA (pv 1) af))))
  (ae (ai (i:=2) cW.nd rfl (Or.inl rfl) (aj bA (av wc hr (aa (pv 0) ag)) af))
  (ah (ax (cL (aa (av eP hr (aa (aj bJ af (aj aw (pv 1) (pv 2))) (aa (pv 1) ag))) (aa (av eP hr (aa (aj bA af (aj aw (pv 1) (pv 2))) (aa (pv 1) ag))) ag)))))))),?_⟩;walk_at "sf";refine cM (fun m σ H'=>∃o:Int,m=(ab l+3-o).toNat/\Int.gcd o 2=1/\3<=o/\o<=ab l+2/\σ=[some (.ref a),some (.int o),none]/\H'=H/\∀k,3<=k->k<o->Int.gcd k 2=1->k∣l) ⟨_,3,rfl,by decide,by decide,?_,rfl,rfl,fun k h1 h2 _=>by lia⟩ ?_
 ·have:=fw vA;lia
 rintro m σ H' ⟨o,rfl,ho,h3,WV,rfl,rfl,LF⟩;have bo:Bd 102 o:=by
  unfold Bd at*;unfold ab at*;lia
 walk_at "sf";refine dr (aZ.of ha) (fE eC) ?_;rw[hle];walk_at "sf";refine bN (by lia) ?_;walk_at "sf";have ef:l.fmod o=l%o:=fo (by lia);rw[ef];refine dI (fun c=>?_) (fun c=>?_)
 ·have hz:l%o=0:=by simpa using c
  have hd:o∣l:=Int.dvd_of_emod_eq_zero hz;have UO:o<=ab l:=by
   have:=Int.le_of_dvd (fw vA) (by unfold ab;exact Int.dvd_natAbs.mpr hd);exact this
  refine⟨_,fun cz H' h=>h,?_⟩;walk_at "sf";refine⟨_,?_,o+2,rfl,?_,by lia,by lia,rfl,rfl,fun k k1 k2 k3=>?_⟩
  ·lia
  ·rw[<-ho,Int.gcd_add_right_left_of_dvd o (Int.dvd_refl 2)]
  ·have m1:=yv ho;have m2:=yv k3;rcases Int.lt_trichotomy k o with z|z|z
   ·exact LF k k1 z k3
   ·rw[z];exact hd
   ·lia
 ·have hz:¬l%o=0:=by simpa using c
  have Rp:¬o∣l:=fun z=>hz (Int.emod_eq_zero_of_dvd z);walk_at "sf";refine⟨a,xs,rfl,ha,hp,fun r H1 s1 Je KN W hj=>?_⟩;walk_at "sf";have bb:Bd 103 (2*r+1):=by unfold Bd;lia
  generalize hb:2*r+1=b at bb;have UP:0<b/\b<=2^102:=by lia
  refine bN (aR bo bb (by lia)) ?_;walk_at "sf";have Rq:=bo.mul bb;have LG:Bd (102+103) (1:Int):=Bd.mono (m:=1) (by show(1:Int).natAbs<2^1;decide) (by decide);refine⟨_,_,210,rfl,(LG.sub Rq).mono (by decide),bo.mono (by decide),by decide,by lia,fun p1 t u m5 _ _ hu hg e1=>?_⟩;walk_at "sf";refine bN (aR bo bb (by lia)) ?_;walk_at "sf";have s2:=au.new m5 (.tup [.int t,.int u]);have h1:upd H1 p1 (.tup [.int t,.int u]) p1=some (.tup [.int t,.int u]):=ak;generalize upd H1 p1 (.tup [.int t,.int u])=H2 at s2 h1 ⊢;refine⟨_,_,210,rfl,(LG.add Rq).mono (by decide),bo.mono (by decide),by decide,by lia,fun p2 t' u' vx _ _ dM Dt e2=>?_⟩;walk_at "sf";have s3:=au.new vx (.tup [.int t',.int u']);have h2:upd H2 p2 (.tup [.int t',.int u']) p2=some (.tup [.int t',.int u']):=ak;generalize upd H2 p2 (.tup [.int t',.int u'])=H3 at s3 h2 ⊢;intro p3 Ei;have s4:=au.new Ei (.tup [.ref p1,.ref p2]);refine q p3 p1 p2 o b t u t' u' _ (s1.trans (s2.trans (s3.trans s4))) ak ⟨s4 _ _ (s3 _ _ h1),hu,hg⟩ ⟨s4 _ _ h2,dM,Dt⟩ ⟨ho,h3,by rw[hle];exact Rp,bo,UP,⟨r,Je,hb.symm,W,hj⟩,e1,e2,by rw[hle];exact LF⟩
theorem zD(q5:bq P w K mg base 3 "changes_at" ["chain","given"] Ga)(D:aL K mg "marked" nK ["chain","given"]):bq P w K mg base 4 "marked" ["chain","given"] B0:=by
 refine D.ok zx (fun vs H Q E h=>?_) (fun f cD A outer s H vs Q E hr h=>?_)
 ·obtain⟨c,g,as,ps,t,u,p,rfl,_⟩:=h;rfl
 obtain⟨c,g,as,ps,t,u,p,rfl,hc,hi,hg,hh,q⟩:=h;refine⟨_,(ah (ax (cL (aa (pv 1) (aa (av q5 hr (aa (pv 0) (aa (pv 1) ag))) ag))))),?_⟩;walk_at "sf";refine⟨c,g,as,ps,t,u,p,rfl,hc,hi,hg,hh,fun H1 s1=>?_⟩;walk_at "sf";intro m hm;exact q m _ (s1.trans (au.new hm _)) ak
end
end dH
namespace dH
open PySem PyProof.Rows L2 SF SF.Po
theorem jb{a b c:Rat}(hc:0<c):a*c<=b*c↔a<=b:=by
 have:=Rat.mul_lt_mul_right (a:=b) (b:=a) hc;constructor
 ·intro h;by_cases z:a<=b
  ·exact z
  ·have z2:=this.mpr (by grind);grind
 ·intro h;by_cases z:a*c<=b*c
  ·exact z
  ·have z2:=this.mp (by grind);grind
theorem Im{t u t' u':Int}(hu:0<u)(dM:0<u'):((t:Rat)/(u:Rat)<=(t':Rat)/(u':Rat))↔t*u'<=t'*u:=by
 have h1:(0:Rat)<(u:Rat):=Rat.intCast_pos.mpr hu;have h2:(0:Rat)<(u':Rat):=Rat.intCast_pos.mpr dM;rw[<-Rat.intCast_le_intCast,Rat.intCast_mul,Rat.intCast_mul];have e1:(t:Rat)/(u:Rat)*(u:Rat)=(t:Rat):=Rat.div_mul_cancel (by grind);have e2:(t':Rat)/(u':Rat)*(u':Rat)=(t':Rat):=Rat.div_mul_cancel (by grind);generalize (t:Rat)/(u:Rat)=x at*;generalize (t':Rat)/(u':Rat)=y at*;rw[<-e1,<-e2];have hp:=Rat.mul_pos h1 h2;have g1:x*(u:Rat)*(u':Rat)=x*((u:Rat)*(u':Rat)):=by grind
 have g2:y*(u':Rat)*(u:Rat)=y*((u:Rat)*(u':Rat)):=by grind
 rw[g1,g2];exact(jb hp).symm
theorem C0.mono{xs:List Int}{ps:List (List Int)}(h:C0 xs ps)(hp:tS xs){t u t' u':Int}(hu:0<u)(dM:0<u')(hle:(t:Rat)/(u:Rat)<=(t':Rat)/(u':Rat)):cg 0 (d_ t' u' ps)<=cg 0 (d_ t u ps):=by
 obtain⟨pt,pn,pl,pa,Io⟩:=hp;by_cases h2:2<=xs.length
 ·obtain⟨rest,er⟩:=h.shape;have hc:=h.HM h2;have em:ps.map aq=aq xs::aU (aq xs)::rest.map aq:=by rw[er,List.map_cons,List.map_cons,eM]
  rw[em] at hc;have hz:=nT pt Io;have:=Br hc (fun x z w=>hz x ⟨z,w⟩) hle;rw[<-em,gu hu,gu dM] at this;exact this
 ·have l1:xs.length=1:=by have:=List.length_pos_iff.mpr pn;lia
  have e2:=h.one l1
  match xs,l1 with
  |[c],_=>
   rw[e2];have e3:∀a b:Int,d_ a b [[c],[]]=[sg c,0]:=fun a b=>by
    have h1:hv a b [c]=c:=by simp[hv,ay,co]
    have h2:hv a b []=0:=by simp[hv,ay,co]
    show[sg (hv a b [c]),sg (hv a b [])]=_;rw[h1,h2];rfl
   rw[e3,e3];exact Nat.le_refl _
theorem C0.short{xs:List Int}{ps:List (List Int)}(h:C0 xs ps)(hp:tS xs){o b:Int}{k:Nat}{m t u t' u':Int}(ho:0<o)(hb:0<b/\b<=2^102)(hu:0<u)(dM:0<u')(p1:Pt o k m t u)(p2:Pt o k (m+2*b) t' u')(m1:-(b*2^k)<=m)(m2:m+2*b<=b*2^k)(hk:5700<=k):
 cg 0 (d_ t u ps)<=cg 0 (d_ t' u' ps)+1:=by
 obtain⟨pt,pn,pl,pa,Io⟩:=id hp;have v1:=p1.val ho hu;have v2:=p2.val ho dM;have hz:(0:Rat)<2^k:=Rat.pow_pos (by grind);have Ak:(0:Rat)<(o:Rat):=Rat.intCast_pos.mpr ho;have Pg:(1:Rat)/(o:Rat)<=1/\0<(1:Rat)/(o:Rat):=by
  have:(1:Rat)<=(o:Rat):=Rat.intCast_le_intCast (a:=1).mpr (by lia);refine⟨?_,RR.vD (by grind) Ak⟩;have e:(1:Rat)/(o:Rat)*(o:Rat)=1:=Rat.div_mul_cancel (by grind);generalize (1:Rat)/(o:Rat)=z at*;by_cases c:z<=1
  ·exact c
  ·exfalso;have c2:0<(z-1)*(o:Rat):=Rat.mul_pos (by grind) Ak;grind
 have UQ:(0:Rat)<(b:Rat):=Rat.intCast_pos.mpr hb.1;have KH:(b:Rat)<=2^102:=by
  have:(b:Rat)<=((2^102:Int):Rat):=Rat.intCast_le_intCast.mpr hb.2;rw[Rat.intCast_pow] at this;exact this
 have KJ:(((m+2*b:Int)):Rat)=(m:Rat)+2*(b:Rat):=by rw[Rat.intCast_add,Rat.intCast_mul];rfl
 rw[KJ] at v2;have WW:-((b:Rat)*2^k)<=(m:Rat):=by
  have:=Rat.intCast_le_intCast.mpr m1;rw[Rat.intCast_neg,Rat.intCast_mul,Rat.intCast_pow] at this;exact this
 have WX:(m:Rat)+2*(b:Rat)<=(b:Rat)*2^k:=by
  have:=Rat.intCast_le_intCast.mpr m2;rw[Rat.intCast_add,Rat.intCast_mul,Rat.intCast_mul,Rat.intCast_pow] at this;exact this
 have d1:(m:Rat)/2^k*2^k=(m:Rat):=Rat.div_mul_cancel (by grind);have d2:((m:Rat)+2*(b:Rat))/2^k*2^k=(m:Rat)+2*(b:Rat):=Rat.div_mul_cancel (by grind);have w1:(t':Rat)/(u':Rat)-(t:Rat)/(u:Rat)<=1/2^5500:=by
  rw[v1,v2];have d3:(1:Rat)/2^5500*2^5500=1:=Rat.div_mul_cancel (by have:(0:Rat)<2^5500:=Rat.pow_pos (by grind);grind);have ek:(2:Rat)^k=2^5500*2^(k-5500):=by
   rw[<-fX];congr 1;lia
  have g1:(2:Rat)^103<=2^(k-5500):=kP (by grind) (by lia);have g2:(2:Rat)^103=2^102*2:=Rat.pow_succ ..;have p5:(0:Rat)<2^5500:=Rat.pow_pos (by grind);generalize ((m:Rat)+2*(b:Rat))/2^k=y at*;generalize (m:Rat)/2^k=x at*;have key:(y-x)*2^k<=1/2^5500*2^k:=by
   rw[ek];have:(1:Rat)/2^5500*(2^5500*2^(k-5500))=2^(k-5500):=by rw[<-Rat.mul_assoc,d3];grind
   rw[this,<-ek];grind
  have:=(jb hz).mp key;grind
 have hle:(t:Rat)/(u:Rat)<=(t':Rat)/(u':Rat):=by
  rw[v1,v2];generalize ((m:Rat)+2*(b:Rat))/2^k=y at*;generalize (m:Rat)/2^k=x at*;have key:x*2^k<=y*2^k:=by grind
  have:=(jb hz).mp key;grind
 have r1:-(2^110)<=(t:Rat)/(u:Rat):=by
  rw[v1];have g:(2:Rat)^102<=2^110:=kP (by grind) (by decide);generalize (m:Rat)/2^k=x at*;have key:-(b:Rat)*2^k<=x*2^k:=by grind
  have:=(jb hz).mp key;grind
 have r2:(t':Rat)/(u':Rat)<=2^110:=by
  rw[v2];have g:(2:Rat)^103<=2^110:=kP (by grind) (by decide);have g2:(2:Rat)^103=2^102*2:=Rat.pow_succ ..;have g3:(1:Rat)<=2^102:=cP (by grind) _;generalize ((m:Rat)+2*(b:Rat))/2^k=y at*;have key:y*2^k<=(b:Rat)*2^k:=by grind
  have:=(jb hz).mp key;grind
 by_cases h2:2<=xs.length
 ·obtain⟨rest,er⟩:=h.shape;have hc:=h.HM h2;have em:ps.map aq=aq xs::aU (aq xs)::rest.map aq:=by rw[er,List.map_cons,List.map_cons,eM]
  rw[em] at hc;have hz:=nT pt Io;have:=D_ hc (fun x z w=>hz x ⟨z,w⟩) hle fun x y x1 x2 y1 y2 x0 y0=>by
   have q1:Re.q (-(2^110))<=Re.q ((t:Rat)/(u:Rat)):=Re.cy.mpr r1;have q2:Re.q ((t':Rat)/(u':Rat))<=Re.q (2^110):=Re.cy.mpr r2;have q3:Re.q ((t':Rat)/(u':Rat)-(t:Rat)/(u:Rat))<=Re.q (1/2^5500):=Re.cy.mpr w1;rw[Re.pb] at q1;have q4:Re.q ((t':Rat)/(u':Rat)-(t:Rat)/(u:Rat))=Re.q ((t':Rat)/(u':Rat))-Re.q ((t:Rat)/(u:Rat)):=by
    rw[Rat.sub_eq_add_neg,Re.lI,Re.pb];grind
   rw[q4] at q3;refine sep pt h2 pl pa Io x0 y0 ?_ ?_ ?_
   ·rw[Re.gM];constructor<;>grind
   ·rw[Re.gM];constructor<;>grind
   ·rw[Re.gM];constructor<;>grind
  rw[<-em,gu hu,gu dM] at this;exact this
 ·have l1:xs.length=1:=by have:=List.length_pos_iff.mpr pn;lia
  have e2:=h.one l1
  match xs,l1 with
  |[c],_=>
   rw[e2];have e3:∀a b:Int,d_ a b [[c],[]]=[sg c,0]:=fun a b=>by
    have h1:hv a b [c]=c:=by simp[hv,ay,co]
    have h2:hv a b []=0:=by simp[hv,ay,co]
    show[sg (hv a b [c]),sg (hv a b [])]=_;rw[h1,h2];rfl
   rw[e3,e3];lia
theorem C0.signs{xs:List Int}{ps:List (List Int)}(h:C0 xs ps)(hp:tS xs){t u t' u':Int}(hu:0<u)(dM:0<u')(hle:(t:Rat)/(u:Rat)<=(t':Rat)/(u':Rat))(n1:hv t u xs≠0)(n2:hv t' u' xs≠0)(one:cg 0 (d_ t u ps)=cg 0 (d_ t' u' ps)+1):sg (hv t u xs)*sg (hv t' u' xs)=-1:=by
 obtain⟨pt,pn,pl,pa,Io⟩:=hp;by_cases h2:2<=xs.length
 ·obtain⟨rest,er⟩:=h.shape;have hc:=h.HM h2;have em:ps.map aq=aq xs::(aq (bR xs)::rest.map aq):=by rw[er,List.map_cons,List.map_cons]
  obtain⟨r,l,UR⟩:∃r l,aq (bR xs)::rest.map aq=r++[l]:=⟨_,_,(List.dropLast_concat_getLast (List.cons_ne_nil _ _)).symm⟩;rw[UR] at em;rw[em] at hc;have a1:at' (Re.q ((t:Rat)/(u:Rat))) (aq xs)≠0:=fun z=>n1 (by
   have:=gS (t:=t) hu xs
   rw[z,Re.bC] at this
   exact Classical.byContradiction fun w=>nS.mpr w this);have a2:at' (Re.q ((t':Rat)/(u':Rat))) (aq xs)≠0:=fun z=>n2 (by
   have:=gS (t:=t') dM xs
   rw[z,Re.bC] at this
   exact Classical.byContradiction fun w=>nS.mpr w this);have:=Ea hc hle a1 a2;rw[<-em,gu hu,gu dM,<-gS hu,<-gS dM,one,Int.pow_succ] at this;rw[this];have e:∀n:Nat,(-1:Int)^n*(-1)^n=1:=fun n=>by
   rw[<-Int.mul_pow];exact Int.one_pow
  have:=e (cg 0 (d_ t' u' ps));grind
 ·exfalso;have l1:xs.length=1:=by have:=List.length_pos_iff.mpr pn;lia
  have e2:=h.one l1
  match xs,l1 with
  |[c],_=>
   rw[e2] at one;have e3:∀a b:Int,d_ a b [[c],[]]=[sg c,0]:=fun a b=>by
    have h1:hv a b [c]=c:=by simp[hv,ay,co]
    have h2:hv a b []=0:=by simp[hv,ay,co]
    show[sg (hv a b [c]),sg (hv a b [])]=_;rw[h1,h2];rfl
   rw[e3,e3] at one;lia
end dH
namespace dH
open PySem PyProof.Rows L2 SF SF.Po
structure Sx where
 s:Addr
 ml:Addr
 mh:Addr
 gl:Addr
 gh:Addr
 k:Nat
 m:Int
 t:Int
 u:Int
 t':Int
 u':Int
structure Sx.Hx(H:Hp)(ps:List (List Int))(x:Sx):Prop where
 hs:H x.s=some (.tup [.ref x.ml,.ref x.mh])
 hl:H x.ml=some (.tup [.ref x.gl,.int ((cg 0 (d_ x.t x.u ps):Nat):Int)])
 hh:H x.mh=some (.tup [.ref x.gh,.int ((cg 0 (d_ x.t' x.u' ps):Nat):Int)])
 rl:Rt H x.gl x.t x.u
 rh:Rt H x.gh x.t' x.u'
structure Sx.Px(o b:Int)(x:Sx):Prop where
 pl:Pt o x.k x.m x.t x.u
 ph:Pt o x.k (x.m+2*b) x.t' x.u'
 lo:-(b*2^x.k)<=x.m
 hi:x.m+2*b<=b*2^x.k
 C1:x.k<=5700
structure Fx where
 p:Addr
 gl:Addr
 gh:Addr
 t:Int
 u:Int
 t':Int
 u':Int
structure Fx.Hx(H:Hp)(f:Fx):Prop where
 hp:H f.p=some (.tup [.ref f.gl,.ref f.gh])
 rl:Rt H f.gl f.t f.u
 rh:Rt H f.gh f.t' f.u'
structure Fx.Px(xs:List Int)(ps:List (List Int))(f:Fx):Prop where
 sgn:sg (hv f.t f.u xs)*sg (hv f.t' f.u' xs)=-1
 one:cg 0 (d_ f.t f.u ps)=cg 0 (d_ f.t' f.u' ps)+1
 bt:Bd 6000 f.t
 bu:Bd 6000 f.u
 Ji:Bd 6000 f.t'
 F':Bd 6000 f.u'
noncomputable def Sx.iv(x:Sx):Rat×Rat:=((x.t:Rat)/(x.u:Rat),(x.t':Rat)/(x.u':Rat))
noncomputable def Fx.iv(x:Fx):Rat×Rat:=((x.t:Rat)/(x.u:Rat),(x.t':Rat)/(x.u':Rat))
noncomputable def Fx.nums(x:Fx):Q4:=(x.t,x.u,x.t',x.u')
noncomputable def C3(ps:List (List Int))(t u t' u':Int):Int:=((cg 0 (d_ t u ps):Nat):Int)-((cg 0 (d_ t' u' ps):Nat):Int)
noncomputable def Sx.il(ps:List (List Int))(x:Sx):List Q4:=jC (C3 ps) (5701-x.k) x.t x.u x.t' x.u'
noncomputable def Rr(l:List (Rat×Rat)):Prop:=l.Pairwise (fun p q=>p.2<=q.1)/\∀p∈l,p.1<p.2
noncomputable def wt(ws:List Sx):Nat:=(ws.map fun x=>2^(5701-x.k)-1).sum
noncomputable def Gf(ps:List (List Int))(ws:List Sx):Nat:=(ws.map fun x=>cg 0 (d_ x.t x.u ps)-cg 0 (d_ x.t' x.u' ps)).sum
structure B4(xs:List Int)(ps:List (List Int))(o b t u t' u':Int)(fs:List Fx):Prop where
 pre:tS xs
 uQ:C0 xs ps
 ends:Ends xs o b t u t' u'
 hu:0<u
 dM:0<u'
 px:∀f∈fs,f.Px xs ps
 Ph:Rr (fs.map Fx.iv)
 cnt:fs.length+cg 0 (d_ t' u' ps)=cg 0 (d_ t u ps)
 low:Int.gcd t u=1/\Int.gcd t' u'=1
 iso:fs.map Fx.nums=jC (C3 ps) 5701 t u t' u'
theorem Sx.Px.lt{o b:Int}{x:Sx}(h:x.Px o b)(ho:0<o)(hb:0<b)(hu:0<x.u)(dM:0<x.u'):(x.t:Rat)/(x.u:Rat)<(x.t':Rat)/(x.u':Rat):=by
 rw[h.pl.val ho hu,h.ph.val ho dM];have hz:(0:Rat)<2^x.k:=Rat.pow_pos (by grind);have UQ:(0:Rat)<(b:Rat):=Rat.intCast_pos.mpr hb;have KJ:(((x.m+2*b:Int)):Rat)=(x.m:Rat)+2*(b:Rat):=by rw[Rat.intCast_add,Rat.intCast_mul];rfl
 rw[KJ];have d1:(x.m:Rat)/2^x.k*2^x.k=(x.m:Rat):=Rat.div_mul_cancel (by grind);have d2:((x.m:Rat)+2*(b:Rat))/2^x.k*2^x.k=(x.m:Rat)+2*(b:Rat):=Rat.div_mul_cancel (by grind);generalize ((x.m:Rat)+2*(b:Rat))/2^x.k=y2 at*;generalize (x.m:Rat)/2^x.k=y1 at*;have key:y1*2^x.k<y2*2^x.k:=by grind
 have:=(Rat.mul_lt_mul_right hz).mp key;grind
theorem Sx.Hx.upd{H:Hp}{ps:List (List Int)}{x:Sx}(h:x.Hx H ps){l:Addr}{ys:List V}(hl:H l=some (.lst ys))(o:HO):x.Hx (L2.upd H l o) ps:=by
 have key:∀(c:Addr)(vs:List V),H c=some (.tup vs)->L2.upd H l o c=some (.tup vs):=fun c vs z=>by
  rw[aH (fun w=>by rw[w,hl] at z;cases z)];exact z
 exact⟨key _ _ h.hs,key _ _ h.hl,key _ _ h.hh,⟨key _ _ h.rl.1,h.rl.2⟩,⟨key _ _ h.rh.1,h.rh.2⟩⟩
theorem Fx.Hx.upd{H:Hp}{x:Fx}(h:x.Hx H){l:Addr}{ys:List V}(hl:H l=some (.lst ys))(o:HO):x.Hx (L2.upd H l o):=by
 have key:∀(c:Addr)(vs:List V),H c=some (.tup vs)->L2.upd H l o c=some (.tup vs):=fun c vs z=>by
  rw[aH (fun w=>by rw[w,hl] at z;cases z)];exact z
 exact⟨key _ _ h.hp,⟨key _ _ h.rl.1,h.rl.2⟩,⟨key _ _ h.rh.1,h.rh.2⟩⟩
theorem Sx.Hx.same{H H':Hp}{ps:List (List Int)}{x:Sx}(h:x.Hx H ps)(s:au H H'):x.Hx H' ps:=⟨s _ _ h.hs,s _ _ h.hl,s _ _ h.hh,h.rl.same s,h.rh.same s⟩
theorem Fx.Hx.same{H H':Hp}{x:Fx}(h:x.Hx H)(s:au H H'):x.Hx H':=⟨s _ _ h.hp,h.rl.same s,h.rh.same s⟩
theorem Gg:∀(l:List Int)(b:Int),cg b l<=l.length
 |[],_=>Nat.le_refl _
 |x::r,b=>by
  have:=Gg r (if x≠0 then x else b);show(if x*b<0 then 1 else 0)+cg (if x≠0 then x else b) r<=r.length+1;split<;>lia
theorem Gh{n:Nat}(h:n<=10000):n<=sizeLine:=Nat.le_trans h (by unfold sizeLine;decide)
theorem kl{H3 H:Hp}{l:Addr}(s:au H3 H)(hl:H3 l=none)(o:HO):au H3 (L2.upd H l o):=fun c o' z=>by
 rw[aH (aI z hl)];exact s _ _ z
theorem q_(ws:List Sx)(x:Sx):wt (ws++[x])=wt ws+(2^(5701-x.k)-1):=by
 unfold wt;rw[List.map_append,List.sum_append];simp
theorem nU(ps:List (List Int))(ws:List Sx)(x:Sx):Gf ps (ws++[x])=Gf ps ws+(cg 0 (d_ x.t x.u ps)-cg 0 (d_ x.t' x.u' ps)):=by
 unfold Gf;rw[List.map_append,List.sum_append];simp
noncomputable def Gi:Sp:=fun vs H Q _=>∃(a:Addr)(xs:List Int),vs=[.ref a]/\IL H a xs/\(BW xs/\tS (uN xs)/\xs.length<=13)/\
 ∀(r:Addr)(fs:List Fx)(ps:List (List Int))(o b t u t' u':Int)(H':Hp),au H H'->H r=none->H' r=some (.lst (fs.map fun f=>V.ref f.p))->(∀f∈fs,f.Hx H')->B4 (uN xs) ps o b t u t' u' fs->fs.length<=60->Q (.ref r) H'
noncomputable def B5:Sp:=fun vs H Q _=>∃(a:Addr)(xs:List Int),vs=[.ref a]/\IL H a xs/\Q (.int ((xs.length:Int)-1)) H
section
variable {P:Program} {w:World} {K:PySem.W.Frag} {mg:Str->Option Value} {base:Heap}
theorem zE(T:Nm mg)(D:aL K mg "degree" nH ["poly"]):bq P w K mg base 1 "degree" ["poly"] B5:=by
 refine D.ok zw (fun vs H Q E h=>?_) (fun f cD A outer s H vs Q E hr h=>?_)
 ·obtain⟨a,xs,rfl,_⟩:=h;rfl
 obtain⟨a,xs,rfl,ha,q⟩:=h;have ex:(xs.map V.int).length=xs.length:=List.length_map _;refine⟨_,(ah (ax (aj bJ (aG aW rfl T.fu boot_len (aa (pv 0) ag)) af))),?_⟩;walk_at "sf";refine⟨a,_,rfl,.inl (aZ.of ha),?_⟩;walk_at "sf";rw[ex];exact q
theorem ua(T:Nm mg){uG:Value}(gf:mg "GREATEST_DEGREE"=some uG/\RelV (.int 12) uG)(nV:bq P w K mg base 36 "degree" ["poly"] B5)(gC:bq P w K mg base 36 "square_free" ["poly"] (BP uN BW))(we:bq P w K mg base 36 "chain_of" ["free"] yo)(km:bq P w K mg base 36 "pair_around_all" ["free"] tY)(nW:bq P w K mg base 36 "marked" ["chain","given"] B0)(B6:bq P w K mg base 36 "middle" ["one","other"] Gb)(D:aL K mg "isolated" jJ ["poly"]):bq P w K mg base 37 "isolated" ["poly"] Gi:=by
 refine D.ok bM (fun vs H Q E h=>?_) (fun f cD A outer s H vs Q E hr h=>?_)
 ·obtain⟨a,xs,rfl,_⟩:=h;rfl
 obtain⟨a,xs,rfl,ha,⟨US,Ew,lx⟩,q⟩:=h;refine⟨_,(ae (bO (aB fO (av nV hr (aa (pv 0) ag)) (C9 rfl gf.1 gf.2) (aE _))
  (ah rQ)
  aO)
  (ae (ai (i:=1) bM.nd rfl (Or.inl rfl) (av gC hr (aa (pv 0) ag)))
  (ae (ai (i:=2) bM.nd rfl (Or.inl rfl) (av we hr (aa (pv 1) ag)))
  (ae (ai (i:=3) bM.nd rfl (Or.inl rfl) (av km hr (aa (pv 1) ag)))
  (ae (ai (i:=4) bM.nd rfl (Or.inl rfl) (eV (aa (cL (aa (av nW hr (aa (pv 2) (aa (aD aC (pv 3) af (fun _ _=>rfl)) ag))) (aa (av nW hr (aa (pv 2) (aa (aD aC (pv 3) af (fun _ _=>rfl)) ag))) ag))) ag)))
  (ae (ai (i:=5) bM.nd rfl (Or.inl rfl) (eV ag))
  (ae (cX PassesOwn.never (fP (pv 4) (fun _=>rfl))
  (ae (ai (i:=6) bM.nd rfl (Or.inl rfl) (vb PySem.F.plainAttrs_list PySem.F.slot_list_pop PySem.F.type_list_pop vd (pv 4)))
  (ae (ai (i:=7) bM.nd rfl (Or.inl rfl) (aD aC (pv 6) af (fun _ _=>rfl)))
  (ae (ai (i:=8) bM.nd rfl (Or.inl rfl) (aD aC (pv 6) af (fun _ _=>rfl)))
  (ae (ai (i:=9) bM.nd rfl (Or.inl rfl) (aj bJ (aD aC (pv 7) af (fun _ _=>rfl)) (aD aC (pv 8) af (fun _ _=>rfl))))
  (ae (bO (aB dN (pv 9) af (aE _))
  (ah (je (lA PySem.F.plainAttrs_list PySem.F.slot_list_append PySem.F.type_list_append eW (pv 5) (aa (cL (aa (aD aC (pv 7) af (fun _ _=>rfl)) (aa (aD aC (pv 8) af (fun _ _=>rfl)) ag))) ag))))
  aO)
  (ah (bO (aB fO (pv 9) af (aE _))
  (ae (ai (i:=10) bM.nd rfl (Or.inl rfl) (av nW hr (aa (pv 2) (aa (av B6 hr (aa (aD aC (pv 7) af (fun _ _=>rfl)) (aa (aD aC (pv 8) af (fun _ _=>rfl)) ag))) ag))))
  (ae (je (lA PySem.F.plainAttrs_list PySem.F.slot_list_append PySem.F.type_list_append eW (pv 4) (aa (cL (aa (pv 10) (aa (pv 8) ag))) ag)))
  (ah (je (lA PySem.F.plainAttrs_list PySem.F.slot_list_append PySem.F.type_list_append eW (pv 4) (aa (cL (aa (pv 7) (aa (pv 10) ag))) ag))))))
  aO))))))))
  (ah (ax (pv 5)))))))))),?_⟩;walk_at "sf";refine⟨a,xs,rfl,ha,?_⟩;walk_at "sf";rw[if_neg (by simp;lia)];walk_at "sf";refine⟨a,xs,rfl,ha,US,fun p1 H1 s1 h1=>?_⟩;walk_at "sf";refine⟨p1,_,rfl,h1,Ew,fun c as ps H2 s2 hc hi uQ=>?_⟩;have dJ:=s1.trans s2;walk_at "sf";generalize C2:uN xs=ys at*;obtain⟨yt,yn,yl,ya,WY⟩:=id Ew;refine⟨p1,ys,rfl,s2 _ _ h1,⟨yt,yn,yl,ya⟩,fun pp g1 g2 o b t u t' u' H3 s3 sF r1 r2 en=>?_⟩;have Ru:=dJ.trans s3;have Ac:=s3 _ _ hc;have Pk:pC H3 as ps:=hi.map fun a p z=>s3 _ _ z;obtain⟨e1,e2,e3,bo,bb,UT,UU,UW,_⟩:=id en;have Jj:Pt o 0 (-b) t u:=by unfold Pt;rw[Int.pow_zero,Int.mul_one,UU];grind
 have Jk:Pt o 0 (-b+2*b) t' u':=by unfold Pt;rw[Int.pow_zero,Int.mul_one,UW];grind
 obtain⟨bt,bu⟩:=Jj.bits (by lia) r1.2.1 r1.2.2 bo bb (by rw[Int.pow_zero];lia) (by rw[Int.pow_zero];lia);obtain⟨Ji,F'⟩:=Jk.bits (by lia) r2.2.1 r2.2.2 bo bb (by rw[Int.pow_zero];lia) (by rw[Int.pow_zero];lia);walk_at "sf";refine aK (cC.of sF) rfl ?_;walk_at "sf";refine⟨c,g1,as,ps,t,u,210,rfl,Ac,Pk,r1.1,⟨uQ.C1,uQ.cnt,bt,bu,by decide⟩,fun m1 H4 s4 K_=>?_⟩;walk_at "sf";refine aK (cC.of (s4 _ _ sF)) rfl ?_;walk_at "sf";refine⟨c,g2,as,ps,t',u',210,rfl,s4 _ _ Ac,Pk.map fun a p z=>s4 _ _ z,(r2.same s4).1,⟨uQ.C1,uQ.cnt,Ji,F',by decide⟩,fun m2 H5 s5 OT=>?_⟩;walk_at "sf";intro s0 UX;have s6:=au.new UX (.tup [.ref m1,.ref m2]);have Rv:upd H5 s0 (.tup [.ref m1,.ref m2]) s0=some (.tup [.ref m1,.ref m2]):=ak;generalize upd H5 s0 (.tup [.ref m1,.ref m2])=H6 at s6 Rv ⊢;walk_at "sf";intro pw Jc;walk_at "sf";intro pf MT;have LH:=s4.trans (s5.trans s6);have Ip:H3 pw=none:=LH.free Jc;have s7:=au.new Jc (.lst [.ref s0]);have Pl:H6 pf=none:=s7.free MT;have LI:H3 pf=none:=LH.free Pl;have LJ:pw≠pf:=fun z=>by
  rw[<-z,ak] at MT;cases MT
 have s8:=au.new MT (.lst []);let x0:Sx:=⟨s0,m1,m2,g1,g2,0,-b,t,u,t',u'⟩;have X0:Sx.Hx (upd (upd H6 pw (.lst [.ref s0])) pf (.lst [])) ps x0:=
  ⟨s8 _ _ (s7 _ _ Rv),s8 _ _ (s7 _ _ (s6 _ _ (s5 _ _ K_))),s8 _ _ (s7 _ _ (s6 _ _ OT)),r1.same (LH.trans (s7.trans s8)),r2.same (LH.trans (s7.trans s8))⟩
 have Rw:upd (upd H6 pw (.lst [.ref s0])) pf (.lst []) pw=some (.lst ([x0].map fun x=>V.ref x.s)):=by rw[aH LJ,ak];rfl
 have Rx:upd (upd H6 pw (.lst [.ref s0])) pf (.lst []) pf=some (.lst (([]:List Fx).map fun x=>V.ref x.p)):=ak;have Ry:=LH.trans (s7.trans s8);generalize upd (upd H6 pw (.lst [.ref s0])) pf (.lst [])=H8 at X0 Rw Rx Ry ⊢;walk_at "sf";have UY:∀k:Nat,b*2^(k+1)=2*(b*2^k):=fun k=>by rw[Int.pow_succ];grind
 refine cM (fun m σ H'=>∃(ws:List Sx)(fs:List Fx)(z6 z7 z8 z9 RA:Option V),m=wt ws/\σ=[some (.ref a),some (.ref p1),some (.ref c),some (.ref pp),some (.ref pw),some (.ref pf),z6,z7,z8,z9,RA]/\
  au H3 H'/\H' pw=some (.lst (ws.map fun x=>V.ref x.s))/\H' pf=some (.lst (fs.map fun x=>V.ref x.p))/\(∀x∈ws,x.Hx H' ps)/\(∀x∈ws,x.Px o b)/\(∀f∈fs,f.Hx H')/\(∀f∈fs,f.Px ys ps)/\
  (∀(i:Nat)(x:Sx),ws[i]?=some x->i<=x.k)/\fs.length+Gf ps ws+cg 0 (d_ t' u' ps)=cg 0 (d_ t u ps)/\Rr (fs.map Fx.iv++ws.reverse.map Sx.iv)/\fs.map Fx.nums++ws.reverse.flatMap (Sx.il ps)=jC (C3 ps) 5701 t u t' u')
  ⟨_,[x0],[],_,_,_,_,_,rfl,rfl,Ry,Rw,Rx,?_,?_,fun f hf=>(nomatch hf),fun f hf=>(nomatch hf),?_,?_,?_,?_⟩ ?_
 ·intro x hx;rw[List.mem_singleton.mp hx];exact X0
 ·intro x hx;rw[List.mem_singleton.mp hx];exact⟨Jj,Jk,by show -(b*2^0)<=-b;rw[Int.pow_zero];lia,by show -b+2*b<=b*2^0;rw[Int.pow_zero];lia,by show 0<=5700;lia⟩
 ·intro i x Jd;have:i=0:=by
   have:=(List.getElem?_eq_some_iff.mp Jd).1;simp at this;exact this
  rw[this];exact Nat.zero_le _
 ·have Iq:=Rat.le_of_lt (Sx.Px.lt (x:=x0) (o:=o) (b:=b) ⟨Jj,Jk,by show -(b*2^0)<=-b;rw[Int.pow_zero];lia,by show -b+2*b<=b*2^0;rw[Int.pow_zero];lia,by show 0<=5700;lia⟩ (by lia) bb.1 r1.2.1 r2.2.1);have MA:cg 0 (d_ t' u' ps)<=cg 0 (d_ t u ps):=uQ.mono Ew r1.2.1 r2.2.1 Iq;show 0+((cg 0 (d_ t u ps)-cg 0 (d_ t' u' ps))+0)+cg 0 (d_ t' u' ps)=cg 0 (d_ t u ps);generalize cg 0 (d_ t u ps)=q1 at MA ⊢;generalize cg 0 (d_ t' u' ps)=q2 at MA ⊢;lia
 ·have Iq:=(Sx.Px.lt (x:=x0) (o:=o) (b:=b) ⟨Jj,Jk,by show -(b*2^0)<=-b;rw[Int.pow_zero];lia,by show -b+2*b<=b*2^0;rw[Int.pow_zero];lia,by show 0<=5700;lia⟩ (by lia) bb.1 r1.2.1 r2.2.1);refine⟨List.pairwise_singleton _ _,fun p hp=>?_⟩;rw[List.mem_singleton.mp hp];exact Iq
 ·rw[List.map_nil,List.nil_append,List.reverse_singleton,List.flatMap_cons,List.flatMap_nil,List.append_nil];rfl
 rintro m σ H' ⟨ws,fs,z6,z7,z8,z9,RA,rfl,rfl,sH,hw,hf,hX,pX,hF,pF,Ey,Pm,wg,Jl⟩;have MF:cg 0 (d_ t u ps)<=60:=by
  have h1:=Gg (d_ t u ps) 0;have h2:(d_ t u ps).length=ps.length:=List.length_map _;have h3:=uQ.cnt;lia
 walk_at "sf";refine⟨_,.inl ⟨_,aZ.of hw,rfl⟩,?_⟩;rcases List.eq_nil_or_concat ws with ew|⟨dR,x,ew⟩
 ·subst ew;walk_at "sf";rw[if_neg (by decide)];walk_at "sf";subst C2;refine q pf fs ps o b t u t' u' H' (Ru.trans sH) (Ru.free LI) hf hF ⟨Ew,uQ,en,r1.2.1,r2.2.1,pF,?_,?_,⟨r1.2.2,r2.2.2⟩,?_⟩ ?_
  ·have e:fs.map Fx.iv++([]:List Sx).reverse.map Sx.iv=fs.map Fx.iv:=by simp
   rw[e] at wg;exact wg
  ·have:Gf ps []=0:=rfl;lia
  ·rw[List.reverse_nil,List.flatMap_nil,List.append_nil] at Jl;exact Jl
  ·have:Gf ps []=0:=rfl;lia
 rw[List.concat_eq_append] at ew;subst ew;have RB:x∈dR++[x]:=List.mem_append_right _ List.mem_cons_self;have hx:=hX x RB;have px:=pX x RB;have WZ:dR.length<=x.k:=Ey dR.length x (by rw[List.getElem?_append_right (Nat.le_refl _)];simp);rw[q_];rw[nU] at Pm;have RD:=px.lt (by lia) bb.1 hx.rl.2.1 hx.rh.2.1;have RE:=uQ.mono Ew hx.rl.2.1 hx.rh.2.1 (Rat.le_of_lt RD);have W0:=px.C1;have UZ:x.m<=b*2^x.k:=by have:=px.hi;lia
 have Pn:-(b*2^x.k)<=x.m+2*b:=by have:=px.lo;lia
 obtain⟨RF,RG⟩:=px.pl.bits (by lia) hx.rl.2.1 hx.rl.2.2 bo bb px.lo UZ;obtain⟨LK,LL⟩:=px.ph.bits (by lia) hx.rh.2.1 hx.rh.2.2 bo bb Pn px.hi;have LM:1<=2^(5701-x.k)-1:=by
  have:2^1<=2^(5701-x.k):=Nat.pow_le_pow_right (by decide) (by lia);lia
 rw[if_pos (by simp)];refine⟨_,fun cz H' h=>h,?_⟩;walk_at "sf";have RH:(dR++[x]).map (fun x=>V.ref x.s)=dR.map (fun x=>V.ref x.s)++[V.ref x.s]:=by rw[List.map_append];rfl
 refine⟨_,rfl,.inl ⟨rfl,_,aZ.of hw⟩,pw,_,V.ref x.s,rfl,rfl,hw,by rw[RH];simp,?_⟩;have U0:((dR++[x]).map (fun x=>V.ref x.s)).dropLast=dR.map (fun x=>V.ref x.s):=by rw[RH];simp
 have n1:=kl sH Ip (.lst ((dR++[x]).map (fun x=>V.ref x.s)).dropLast);have Jm:upd H' pw (.lst ((dR++[x]).map (fun x=>V.ref x.s)).dropLast) pw=some (.lst (dR.map (fun x=>V.ref x.s))):=by rw[ak,U0]
 have vw:upd H' pw (.lst ((dR++[x]).map (fun x=>V.ref x.s)).dropLast) pf=some (.lst (fs.map fun x=>V.ref x.p)):=by rw[aH (Ne.symm LJ)];exact hf
 have mB:=hx.upd hw (.lst ((dR++[x]).map (fun x=>V.ref x.s)).dropLast);have MU:∀y∈dR,y.Hx (upd H' pw (.lst ((dR++[x]).map (fun x=>V.ref x.s)).dropLast)) ps:=fun y hy=>(hX y (List.mem_append_left _ hy)).upd hw _;have MV:∀y∈fs,y.Hx (upd H' pw (.lst ((dR++[x]).map (fun x=>V.ref x.s)).dropLast)):=fun y hy=>(hF y hy).upd hw _;generalize upd H' pw (.lst ((dR++[x]).map (fun x=>V.ref x.s)).dropLast)=H9 at n1 Jm vw mB MU MV ⊢;walk_at "sf";refine aK (cC.of mB.hs) rfl ?_;walk_at "sf";refine aK (cC.of mB.hs) rfl ?_;walk_at "sf";refine aK (cC.of mB.hl) rfl ?_;walk_at "sf";refine aK (cC.of mB.hh) rfl ?_;walk_at "sf";generalize MW:cg 0 (d_ x.t x.u ps)=cl at*;generalize rN:cg 0 (d_ x.t' x.u' ps)=ch at*;have Pp:(dR++[x]).reverse.map Sx.iv=x.iv::dR.reverse.map Sx.iv:=by rw[List.reverse_append];rfl
 rw[Pp] at wg;have erw:(dR++[x]).reverse=x::dR.reverse:=by rw[List.reverse_append];rfl
 rw[erw,List.flatMap_cons] at Jl;obtain⟨kn,U1⟩:∃kn,5701-x.k=kn+1:=⟨5700-x.k,by lia⟩;have Pq:x.il ps=jC (C3 ps) (kn+1) x.t x.u x.t' x.u':=by unfold Sx.il;rw[U1]
 have MX:C3 ps x.t x.u x.t' x.u'=(cl:Int)-ch:=by unfold C3;rw[MW,rN]
 refine dI (fun c1=>?_) (fun c1=>?_)
 ·have h1:(cl:Int)-ch=1:=by simpa using c1
  walk_at "sf";refine⟨_,rfl,.inl ⟨rfl,_,aZ.of vw⟩,?_⟩;walk_at "sf";refine aK (cC.of mB.hl) rfl ?_;walk_at "sf";refine aK (cC.of mB.hh) rfl ?_;walk_at "sf";intro pn v7;have sn:=au.new v7 (.tup [.ref x.gl,.ref x.gh]);have DS:upd H9 pn (.tup [.ref x.gl,.ref x.gh]) pn=some (.tup [.ref x.gl,.ref x.gh]):=ak;have Jn:=sn _ _ vw;generalize upd H9 pn (.tup [.ref x.gl,.ref x.gh])=CU at sn DS Jn ⊢;walk_at "sf";have U2:fs.length<=60:=by lia
  refine⟨pf,_,_,rfl,rfl,Jn,by rw[List.length_map];exact bZ (by lia),?_⟩;let f0:Fx:=⟨pn,x.gl,x.gh,x.t,x.u,x.t',x.u'⟩;have F0:Fx.Hx CU f0:=⟨DS,mB.rl.same sn,mB.rh.same sn⟩;have n2:=n1.trans sn;have MY:=sn _ _ Jm;have U3:∀y∈fs++[f0],y.Hx CU:=fun y hy=>by
   rcases List.mem_append.mp hy with z|z
   ·exact(MV y z).same sn
   ·rw[List.mem_singleton.mp z];exact F0
  have emp:fs.map (fun x=>V.ref x.p)++[V.ref pn]=(fs++[f0]).map (fun x=>V.ref x.p):=by rw[List.map_append];rfl
  have n3:=kl n2 LI (.lst (fs.map (fun x=>V.ref x.p)++[V.ref pn]));have Ez:upd CU pf (.lst (fs.map (fun x=>V.ref x.p)++[V.ref pn])) pw=some (.lst (dR.map (fun x=>V.ref x.s))):=by rw[aH LJ];exact MY
  have RI:upd CU pf (.lst (fs.map (fun x=>V.ref x.p)++[V.ref pn])) pf=some (.lst ((fs++[f0]).map fun x=>V.ref x.p)):=by rw[ak,emp]
  have RJ:∀y∈fs++[f0],y.Hx (upd CU pf (.lst (fs.map (fun x=>V.ref x.p)++[V.ref pn]))):=fun y hy=>(U3 y hy).upd Jn _;have RK:∀y∈dR,y.Hx (upd CU pf (.lst (fs.map (fun x=>V.ref x.p)++[V.ref pn]))) ps:=fun y hy=>((MU y hy).same sn).upd Jn _;generalize upd CU pf (.lst (fs.map (fun x=>V.ref x.p)++[V.ref pn]))=Ir at n3 Ez RI RJ RK ⊢;walk_at "sf";rw[if_neg (by simp;lia)];walk_at "sf";have one:cg 0 (d_ x.t x.u ps)=cg 0 (d_ x.t' x.u' ps)+1:=by rw[MW,rN];lia
  have U4:hv x.t x.u ys≠0:=x9 yn hx.rl.2.2 (px.pl.odd e1) e3;have U5:hv x.t' x.u' ys≠0:=x9 yn hx.rh.2.2 (px.ph.odd e1) e3;have U6:=uQ.signs Ew hx.rl.2.1 hx.rh.2.1 (Rat.le_of_lt RD) U4 U5 one;refine⟨_,Nat.lt_of_lt_of_le (Nat.lt_succ_self _) (Nat.add_le_add_left LM _),dR,fs++[f0],_,_,_,_,_,rfl,rfl,n3,Ez,RI,RK,fun y hy=>pX y (List.mem_append_left _ hy),RJ,?_,?_,?_,?_,?_⟩
  ·intro y hy;rcases List.mem_append.mp hy with z|z
   ·exact pF y z
   ·rw[List.mem_singleton.mp z];exact⟨U6,one,RF.mono (by lia),RG.mono (by lia),LK.mono (by lia),LL.mono (by lia)⟩
  ·intro i y hy;exact Ey i y (by rw[List.getElem?_append_left (List.getElem?_eq_some_iff.mp hy).1];exact hy)
  ·rw[List.length_append];show fs.length+1+Gf ps dR+_=_;lia
  ·have e:(fs++[f0]).map Fx.iv++dR.reverse.map Sx.iv=fs.map Fx.iv++x.iv::dR.reverse.map Sx.iv:=by rw[List.map_append,List.append_assoc];rfl
   rw[e];exact wg
  ·rw[<-Jl,Pq,BB (by rw[MX];exact h1),List.map_append,List.append_assoc];rfl
 ·have h1:¬(cl:Int)-ch=1:=by simpa using c1
  walk_at "sf";refine dI (fun c2=>?_) (fun c2=>?_)
  ·have h2:1<(cl:Int)-ch:=by simpa using c2
   have U7:x.k<5700:=by
    rcases Nat.lt_or_ge x.k 5700 with z|z
    ·exact z
    ·exfalso;have:=uQ.short Ew (by lia) bb hx.rl.2.1 hx.rh.2.1 px.pl px.ph px.lo px.hi z;rw[MW,rN] at this;lia
   walk_at "sf";refine aK (cC.of mB.hl) rfl ?_;walk_at "sf";refine aK (cC.of mB.hh) rfl ?_;walk_at "sf";refine⟨x.gl,x.gh,x.t,x.u,x.t',x.u',x.k+210,rfl,mB.rl.1,mB.rh.1,⟨RF,RG,LK,LL⟩,by lia,mB.rl.2.1,mB.rh.2.1,fun gm tm um U8 Iu MP LN=>?_⟩;have Pu:=au.new U8 (.tup [.int tm,.int um]);have Iv:upd H9 gm (.tup [.int tm,.int um]) gm=some (.tup [.int tm,.int um]):=ak;generalize upd H9 gm (.tup [.int tm,.int um])=CU at Pu Iv ⊢;have n2:=n1.trans Pu;have Pw:Pt o (x.k+1) (x.m+(x.m+2*b)) tm um:=px.pl.mid px.ph hx.rl.2.1 hx.rh.2.1 LN;have Ud:=UY x.k;have W2:=px.lo;have W3:=px.hi;obtain⟨U9,U_⟩:=Pw.bits (by lia) Iu MP bo bb (by lia) (by lia);walk_at "sf";refine⟨c,gm,as,ps,tm,um,x.k+1+210,rfl,n2 _ _ Ac,Pk.map fun a p z=>n2 _ _ z,Iv,⟨uQ.C1,uQ.cnt,U9,U_,by lia⟩,fun mm Ir sm U'=>?_⟩;have Va:Rt Ir gm tm um:=⟨sm _ _ Iv,Iu,MP⟩;have ub:=Pu.trans sm;have n3:=n2.trans sm;have MY:=ub _ _ Jm;have Jn:=ub _ _ vw;have Jg:=mB.same ub;have Vb:∀y∈dR,y.Hx Ir ps:=fun y hy=>(MU y hy).same ub;have Vc:∀y∈fs,y.Hx Ir:=fun y hy=>(MV y hy).same ub;walk_at "sf";refine⟨_,rfl,.inl ⟨rfl,_,aZ.of MY⟩,?_⟩;walk_at "sf";intro sa Vd;have sn:=au.new Vd (.tup [.ref mm,.ref x.mh]);have DS:upd Ir sa (.tup [.ref mm,.ref x.mh]) sa=some (.tup [.ref mm,.ref x.mh]):=ak;generalize upd Ir sa (.tup [.ref mm,.ref x.mh])=Jo at sn DS ⊢;walk_at "sf";have W4:dR.length<=5700:=by lia
   have Ez:=sn _ _ MY;refine⟨pw,_,_,rfl,rfl,Ez,by rw[List.length_map];exact Gh (by lia),?_⟩;let xa:Sx:=⟨sa,mm,x.mh,gm,x.gh,x.k+1,x.m+(x.m+2*b),tm,um,x.t',x.u'⟩;have XA:xa.Hx Jo ps:=⟨DS,sn _ _ U',sn _ _ Jg.hh,Va.same sn,Jg.rh.same sn⟩;have Ve:x.m+(x.m+2*b)+2*b=2*(x.m+2*b):=by lia
   have Py:2*x.m+2*b=x.m+(x.m+2*b):=by lia
   have PA:xa.Px o b:=⟨Pw,by show Pt o (x.k+1) (x.m+(x.m+2*b)+2*b) x.t' x.u';rw[Ve];exact px.ph.up,by show -(b*2^(x.k+1))<=x.m+(x.m+2*b);lia,by show x.m+(x.m+2*b)+2*b<=b*2^(x.k+1);lia,by show x.k+1<=5700;lia⟩;have n4:=n3.trans sn;have emp:dR.map (fun x=>V.ref x.s)++[V.ref sa]=(dR++[xa]).map (fun x=>V.ref x.s):=by rw[List.map_append];rfl
   have n5:=kl n4 Ip (.lst (dR.map (fun x=>V.ref x.s)++[V.ref sa]));have Pz:upd Jo pw (.lst (dR.map (fun x=>V.ref x.s)++[V.ref sa])) pw=some (.lst ((dR++[xa]).map (fun x=>V.ref x.s))):=by rw[ak,emp]
   have RL:upd Jo pw (.lst (dR.map (fun x=>V.ref x.s)++[V.ref sa])) pf=some (.lst (fs.map fun x=>V.ref x.p)):=by rw[aH (Ne.symm LJ)];exact sn _ _ Jn
   have RM:∀y∈fs,y.Hx (upd Jo pw (.lst (dR.map (fun x=>V.ref x.s)++[V.ref sa]))):=fun y hy=>((Vc y hy).same sn).upd Ez _;have RN:∀y∈dR++[xa],y.Hx (upd Jo pw (.lst (dR.map (fun x=>V.ref x.s)++[V.ref sa]))) ps:=fun y hy=>by
    rcases List.mem_append.mp hy with z|z
    ·exact((Vb y z).same sn).upd Ez _
    ·rw[List.mem_singleton.mp z];exact XA.upd Ez _
   have PC:=(Jg.same sn).upd Ez (.lst (dR.map (fun x=>V.ref x.s)++[V.ref sa]));have PD:=XA.upd Ez (.lst (dR.map (fun x=>V.ref x.s)++[V.ref sa]));generalize upd Jo pw (.lst (dR.map (fun x=>V.ref x.s)++[V.ref sa]))=RO at n5 Pz RL RM RN PC PD ⊢;walk_at "sf";refine⟨_,rfl,.inl ⟨rfl,_,aZ.of Pz⟩,?_⟩;walk_at "sf";intro sb Kp;have so:=au.new Kp (.tup [.ref x.ml,.ref mm]);have Pg:upd RO sb (.tup [.ref x.ml,.ref mm]) sb=some (.tup [.ref x.ml,.ref mm]):=ak;generalize upd RO sb (.tup [.ref x.ml,.ref mm])=Jp at so Pg ⊢;walk_at "sf";have MZ:=so _ _ Pz;refine⟨pw,_,_,rfl,rfl,MZ,by rw[List.length_map,List.length_append];exact Gh (by show dR.length+1+1<=10000;lia),?_⟩;let xb:Sx:=⟨sb,x.ml,mm,x.gl,gm,x.k+1,2*x.m,x.t,x.u,tm,um⟩;have XB:xb.Hx Jp ps:=⟨Pg,so _ _ PC.hl,so _ _ PD.hl,PC.rl.same so,PD.rl.same so⟩;have PB:xb.Px o b:=⟨px.pl.up,by show Pt o (x.k+1) (2*x.m+2*b) tm um;rw[Py];exact Pw,by show -(b*2^(x.k+1))<=2*x.m;lia,by show 2*x.m+2*b<=b*2^(x.k+1);lia,by show x.k+1<=5700;lia⟩;have PF:(dR++[xa]).map (fun x=>V.ref x.s)++[V.ref sb]=(dR++[xa]++[xb]).map (fun x=>V.ref x.s):=by rw[List.map_append (l₁:=dR++[xa])];rfl
   have n6:=kl (n5.trans so) Ip (.lst ((dR++[xa]).map (fun x=>V.ref x.s)++[V.ref sb]));have LA:upd Jp pw (.lst ((dR++[xa]).map (fun x=>V.ref x.s)++[V.ref sb])) pw=some (.lst ((dR++[xa]++[xb]).map (fun x=>V.ref x.s))):=by rw[ak,PF]
   have RP:upd Jp pw (.lst ((dR++[xa]).map (fun x=>V.ref x.s)++[V.ref sb])) pf=some (.lst (fs.map fun x=>V.ref x.p)):=by rw[aH (Ne.symm LJ)];exact so _ _ RL
   have RQ:∀y∈fs,y.Hx (upd Jp pw (.lst ((dR++[xa]).map (fun x=>V.ref x.s)++[V.ref sb]))):=fun y hy=>((RM y hy).same so).upd MZ _;have RS:∀y∈dR++[xa]++[xb],y.Hx (upd Jp pw (.lst ((dR++[xa]).map (fun x=>V.ref x.s)++[V.ref sb]))) ps:=fun y hy=>by
    rcases List.mem_append.mp hy with z|z
    ·exact((RN y z).same so).upd MZ _
    ·rw[List.mem_singleton.mp z];exact XB.upd MZ _
   generalize upd Jp pw (.lst ((dR++[xa]).map (fun x=>V.ref x.s)++[V.ref sb]))=W5 at n6 LA RP RQ RS ⊢;walk_at "sf";have RT:=PB.lt (by lia) bb.1 hx.rl.2.1 Iu;have RU:=PA.lt (by lia) bb.1 Iu hx.rh.2.1;have mb:cg 0 (d_ tm um ps)<=cg 0 (d_ x.t x.u ps):=uQ.mono Ew hx.rl.2.1 Iu (Rat.le_of_lt RT);have ma:cg 0 (d_ x.t' x.u' ps)<=cg 0 (d_ tm um ps):=uQ.mono Ew Iu hx.rh.2.1 (Rat.le_of_lt RU);refine⟨_,?_,dR++[xa]++[xb],fs,_,_,_,_,_,rfl,rfl,n6,LA,RP,RS,?_,RQ,pF,?_,?_,?_,?_⟩
   ·rw[q_,q_];show wt dR+(2^(5701-(x.k+1))-1)+(2^(5701-(x.k+1))-1)<wt dR+(2^(5701-x.k)-1);obtain⟨j,hj⟩:∃j,5701-x.k=j+1:=⟨5700-x.k,by lia⟩;have Ro:5701-(x.k+1)=j:=by lia
    rw[hj,Ro,Nat.pow_succ];have:=Nat.two_pow_pos j;lia
   ·intro y hy;rcases List.mem_append.mp hy with z|z
    ·rcases List.mem_append.mp z with z|z
     ·exact pX y (List.mem_append_left _ z)
     ·rw[List.mem_singleton.mp z];exact PA
    ·rw[List.mem_singleton.mp z];exact PB
   ·intro i y hy;rcases Nat.lt_trichotomy i dR.length with z|z|z
    ·refine Ey i y ?_;rw[List.append_assoc,List.getElem?_append_left z] at hy;rw[List.getElem?_append_left z];exact hy
    ·rw[List.append_assoc,List.getElem?_append_right (by lia)] at hy;have e0:i-dR.length=0:=by lia
     rw[e0] at hy;have:xa=y:=Option.some.inj hy;rw[<-this];show i<=x.k+1;lia
    ·rw[List.append_assoc,List.getElem?_append_right (by lia)] at hy;have om:=(List.getElem?_eq_some_iff.mp hy).1;have e0:i-dR.length=1:=by
      simp at om;lia
     rw[e0] at hy;have:xb=y:=Option.some.inj hy;rw[<-this];show i<=x.k+1;lia
   ·rw[nU,nU];show fs.length+(Gf ps dR+(cg 0 (d_ tm um ps)-cg 0 (d_ x.t' x.u' ps))+(cg 0 (d_ x.t x.u ps)-cg 0 (d_ tm um ps)))+_=_;rw[MW] at mb ⊢;rw[rN] at ma ⊢;lia
   ·have PH:(dR++[xa]++[xb]).reverse.map Sx.iv=xb.iv::xa.iv::dR.reverse.map Sx.iv:=by rw[List.reverse_append,List.reverse_append];rfl
    rw[PH];obtain⟨RV,RW⟩:=wg;rw[List.pairwise_append,List.pairwise_cons] at RV;obtain⟨Vf,⟨RX,Vg⟩,RY⟩:=RV;have ia:xa.iv.2=x.iv.2:=rfl;have ib:xb.iv.1=x.iv.1:=rfl;have Vh:xb.iv.2=xa.iv.1:=rfl;have la:xa.iv.1<xa.iv.2:=RU;have lb:xb.iv.1<xb.iv.2:=RT;refine⟨?_,fun p hp=>?_⟩
    ·rw[List.pairwise_append,List.pairwise_cons,List.pairwise_cons];refine⟨Vf,⟨fun y hy=>?_,fun y hy=>?_,Vg⟩,fun y hy z hz=>?_⟩
     ·rcases List.mem_cons.mp hy with e|e
      ·rw[e,Vh];grind
      ·have:=RX y e;grind
     ·rw[ia];exact RX y hy
     ·have Vi:=RY y hy x.iv List.mem_cons_self;rcases List.mem_cons.mp hz with e|e
      ·rw[e,ib];exact Vi
      ·rcases List.mem_cons.mp e with e|e
       ·rw[e];grind
       ·exact RY y hy z (List.mem_cons_of_mem _ e)
    ·rcases List.mem_append.mp hp with z|z
     ·exact RW p (List.mem_append_left _ z)
     ·rcases List.mem_cons.mp z with e|e
      ·rw[e];exact lb
      ·rcases List.mem_cons.mp e with e|e
       ·rw[e];exact la
       ·exact RW p (List.mem_append_right _ (List.mem_cons_of_mem _ e))
   ·obtain⟨Vj,Vk⟩:=BA hx.rl.2.1 hx.rh.2.1 Iu MP LN;have PH:(dR++[xa]++[xb]).reverse=xb::xa::dR.reverse:=by rw[List.reverse_append,List.reverse_append];rfl
    have ek:5701-(x.k+1)=kn:=by lia
    have eb:xb.il ps=jC (C3 ps) kn x.t x.u tm um:=by
     show jC (C3 ps) (5701-(x.k+1)) x.t x.u tm um=_;rw[ek]
    have ea:xa.il ps=jC (C3 ps) kn tm um x.t' x.u':=by
     show jC (C3 ps) (5701-(x.k+1)) tm um x.t' x.u'=_;rw[ek]
    rw[<-Jl,Pq,BC (by rw[MX];exact h2),PH,List.flatMap_cons,List.flatMap_cons,eb,ea,<-Vj,<-Vk,List.append_assoc]
  ·have h2:¬1<(cl:Int)-ch:=by simpa using c2
   walk_at "sf";refine⟨_,Nat.lt_of_lt_of_le (Nat.lt_succ_self _) (Nat.add_le_add_left LM _),dR,fs,_,_,_,_,_,rfl,rfl,n1,Jm,vw,MU,fun y hy=>pX y (List.mem_append_left _ hy),MV,pF,?_,?_,?_,?_⟩
   ·intro i y hy;exact Ey i y (by rw[List.getElem?_append_left (List.getElem?_eq_some_iff.mp hy).1];exact hy)
   ·lia
   ·refine⟨wg.1.sublist (List.Sublist.append_left (List.sublist_cons_self _ _) _),fun p hp=>wg.2 p ?_⟩;rcases List.mem_append.mp hp with z|z
    ·exact List.mem_append_left _ z
    ·exact List.mem_append_right _ (List.mem_cons_of_mem _ z)
   ·rw[<-Jl,Pq,Eb (by rw[MX];exact h1) (by rw[MX];exact h2),List.nil_append]
end
end dH
namespace dH
open PySem PyProof.Rows L2 SF SF.Po
theorem Ends.pE{xs:List Int}{o b t u t' u':Int}(h:Ends xs o b t u t' u')(hu:0<u)(dM:0<u'):(t:Rat)/(u:Rat)=1/(o:Rat)-(b:Rat)/\(t':Rat)/(u':Rat)=1/(o:Rat)+(b:Rat)/\0<1/(o:Rat)/\1/(o:Rat)<=1:=by
 have h3:=h.three;have Jj:Pt o 0 (-b) t u:=by unfold Pt;rw[Int.pow_zero,Int.mul_one,h.lo];grind
 have Jk:Pt o 0 b t' u':=by unfold Pt;rw[Int.pow_zero,Int.mul_one,h.hi]
 have v1:=Jj.val (by lia) hu;have v2:=Jk.val (by lia) dM;rw[Rat.pow_zero] at v1 v2;rw[Rat.intCast_neg] at v1;have ho:(1:Rat)<=(o:Rat):=by
  have:((1:Int):Rat)<=(o:Rat):=Rat.intCast_le_intCast.mpr (by lia);exact this
 have hp:(0:Rat)<1/(o:Rat):=RR.vD (by decide) (by grind);have e1:1/(o:Rat)*(o:Rat)=1:=Rat.div_mul_cancel (by grind);have hle:1/(o:Rat)<=1:=by
  have:=Rat.mul_le_mul_of_nonneg_left ho (Rat.le_of_lt hp);grind
 have one:∀z:Rat,z/1=z:=fun z=>by grind
 rw[one] at v1 v2;exact⟨by rw[v1];grind,v2,hp,hle⟩
theorem B4.lO{xs:List Int}{ps:List (List Int)}{o b t u t' u':Int}{fs:List Fx}(r:B4 xs ps o b t u t' u' fs){x:Re}(h:Re.q ((t':Rat)/(u':Rat))<=x\/x<=Re.q ((t:Rat)/(u:Rat))):at' x (aq xs)≠0:=by
 obtain⟨f1,f2,f3,f4⟩:=r.ends.pE r.hu r.dM;obtain⟨rr,Je,hb,W,_⟩:=r.ends.UK;have eb:(b:Rat)=2*(rr:Rat)+1:=by rw[hb,Rat.intCast_add,Rat.intCast_mul];rfl
 have Dw:(0:Rat)<(rr:Rat):=Rat.intCast_pos.mpr Je;refine HW r.pre.2.1 Je (r.pre.1.last r.pre.2.1) W ?_;rcases h with h|h
 ·have h2:Re.q (2*(rr:Rat))<=Re.q ((t':Rat)/(u':Rat)):=Re.cy.mpr (by rw[f2,eb];grind);have h0:Re.q 0<=Re.q (2*(rr:Rat)):=Re.cy.mpr (by grind);rw[Re.fW] at h0;unfold Re.ab;split<;>grind
 ·have h2:Re.q ((t:Rat)/(u:Rat))<=Re.q (-(2*(rr:Rat))):=Re.cy.mpr (by rw[f1,eb];grind);rw[Re.pb] at h2;have h0:Re.q 0<=Re.q (2*(rr:Rat)):=Re.cy.mpr (by grind);rw[Re.fW] at h0;unfold Re.ab;split<;>grind
end dH
namespace dH
open PySem PyProof.Rows L2 SF SF.Po
theorem C0.B7{zs:List Int}{ps:List (List Int)}(hp:C0 zs ps)(pre:tS zs)(h2:2<=zs.length){rs:List Re}(nd:rs.Nodup)(hr:∀x,at' x (aq zs)=0↔x∈rs){t u t' u':Int}(hu:0<u)(dM:0<u')(hle:(t:Rat)/(u:Rat)<=(t':Rat)/(u':Rat)):
 ((cg 0 (d_ t u ps):Nat):Int)-((cg 0 (d_ t' u' ps):Nat):Int)=nR rs ((t':Rat)/(u':Rat))-nR rs ((t:Rat)/(u:Rat)):=by
 obtain⟨pt,pn,pl,pa,Io⟩:=pre;obtain⟨rest,er⟩:=hp.shape;have hc:=hp.HM h2;have em:ps.map aq=aq zs::aU (aq zs)::rest.map aq:=by rw[er,List.map_cons,List.map_cons,eM]
 rw[em] at hc;have hz:=nT pt Io;have:=KZ (N:=nR rs) hc (fun x z w=>hz x ⟨z,w⟩) (fun x=>Ec nd hr x) hle;rw[<-em,gu hu,gu dM] at this;lia
noncomputable def Fx.lo(f:Fx):Rat:=(f.t:Rat)/(f.u:Rat)
noncomputable def Fx.hi(f:Fx):Rat:=(f.t':Rat)/(f.u':Rat)
theorem gD{x y:Re}(h:x<y)(t:Rat):(nR [x,y] t=0/\Re.q t<x)\/(nR [x,y] t=1/\x<=Re.q t/\Re.q t<y)\/(nR [x,y] t=2/\y<=Re.q t):=by
 have e:nR [x,y] t=(open Classical in (if x<=Re.q t then 1 else 0))+((open Classical in (if y<=Re.q t then 1 else 0))+0):=rfl;rw[e];by_cases h1:x<=Re.q t
 ·by_cases h2:y<=Re.q t
  ·rw[if_pos h1,if_pos h2];exact .inr (.inr ⟨rfl,h2⟩)
  ·rw[if_pos h1,if_neg h2];exact .inr (.inl ⟨rfl,h1,by grind⟩)
 ·rw[if_neg h1,if_neg (by grind)];exact .inl ⟨rfl,by grind⟩
theorem B4.two{p m d:Int}(hd:0<d)(hm:ot m){s:Re}(s0:0<s)(hs:s*s=(m:Re)){ps:List (List Int)}{o b t u t' u':Int}{fs:List Fx}(r:B4 (ar (qd p m d)) ps o b t u t' u' fs)(fx:∀f∈fs,0<f.u/\0<f.u'):
 ∃f0 f1,fs=[f0,f1]/\f0.lo<f0.hi/\f1.lo<f1.hi/\nC (ar (qd p m d)) (ov ((p:Re)-s) d) f0.lo f0.hi/\nC (ar (qd p m d)) (ov ((p:Re)+s) d) f1.lo f1.hi:=by
 have l3:(ar (qd p m d)).length=3:=by rw[aP];rfl
 have eE:ov ((p:Re)-s) d<ov ((p:Re)+s) d:=La hd (by grind);have both:=fun t=>yd (p:=p) hd hs t;have hr:=fun x=>BE (p:=p) hd hs x;have sP:∀(z:Rat)(x:Re),x∈[ov ((p:Re)-s) d,ov ((p:Re)+s) d]->Re.q z≠x:=fun z x hx e=>by
  have:=(hr x).mpr hx;rw[<-e,qH hd] at this;exact vM hm z this
 generalize ov ((p:Re)-s) d=x1 at*;generalize ov ((p:Re)+s) d=x2 at*;have m1:x1∈[x1,x2]:=List.mem_cons_self;have m2:x2∈[x1,x2]:=List.mem_cons_of_mem _ List.mem_cons_self;have nd:[x1,x2].Nodup:=by
  rw[List.nodup_cons];refine⟨fun z=>?_,List.nodup_cons.mpr ⟨by simp,List.nodup_nil⟩⟩;rw[List.mem_singleton.mp z] at eE;exact Re.lt_irrefl _ eE
 obtain⟨f1,f2,f3,f4⟩:=r.ends.pE r.hu r.dM;have hb:(0:Rat)<(b:Rat):=Rat.intCast_pos.mpr r.ends.bb.1;have cnt:=fun{t u t' u':Int}(hu:0<u)(dM:0<u')(hle:(t:Rat)/(u:Rat)<=(t':Rat)/(u':Rat))=>r.uQ.B7 r.pre (by lia) nd hr hu dM hle;have c0:=cnt r.hu r.dM (by rw[f1,f2];grind);have n1:nR [x1,x2] ((t':Rat)/(u':Rat))=2:=by
  have k:¬Re.q ((t':Rat)/(u':Rat))<=x2:=fun z=>r.lO (.inl z) ((hr x2).mpr m2);rcases gD eE ((t':Rat)/(u':Rat)) with z|z|z
  ·exfalso;grind
  ·exfalso;grind
  ·exact z.1
 have n2:nR [x1,x2] ((t:Rat)/(u:Rat))=0:=by
  have k:¬x1<=Re.q ((t:Rat)/(u:Rat)):=fun z=>r.lO (.inr z) ((hr x1).mpr m1);rcases gD eE ((t:Rat)/(u:Rat)) with z|z|z
  ·exact z.1
  ·exact absurd z.2.1 k
  ·exfalso;exact k (by have:=z.2;grind)
 rw[n1,n2] at c0;have hlen:fs.length=2:=by have:=r.cnt;lia
 obtain⟨g0,g1,rfl⟩:∃g0 g1,fs=[g0,g1]:=by
  match fs,hlen with
  |[g0,g1],_=>exact⟨g0,g1,rfl⟩
 have M0:g0∈[g0,g1]:=List.mem_cons_self;have M1:g1∈[g0,g1]:=List.mem_cons_of_mem _ List.mem_cons_self;have Iq:g0.lo<g0.hi:=r.Ph.2 _ (List.mem_map.mpr ⟨_,M0,rfl⟩);have PJ:g1.lo<g1.hi:=r.Ph.2 _ (List.mem_map.mpr ⟨_,M1,rfl⟩);have PK:g0.hi<=g1.lo:=by
  have:=r.Ph.1;rw[List.map_cons,List.pairwise_cons] at this;exact this.1 _ (List.mem_map.mpr ⟨g1,List.mem_cons_self,rfl⟩)
 have k0:nR [x1,x2] g0.hi-nR [x1,x2] g0.lo=1:=by
  have:=cnt (fx g0 M0).1 (fx g0 M0).2 (Rat.le_of_lt Iq);have:=(r.px g0 M0).one;unfold Fx.hi Fx.lo;lia
 have k1:nR [x1,x2] g1.hi-nR [x1,x2] g1.lo=1:=by
  have:=cnt (fx g1 M1).1 (fx g1 M1).2 (Rat.le_of_lt PJ);have:=(r.px g1 M1).one;unfold Fx.hi Fx.lo;lia
 have q0:=Re.dP.mpr Iq;have q1:=Re.dP.mpr PJ;have W6:=Re.cy.mpr PK;refine⟨g0,g1,rfl,Iq,PJ,?_,?_⟩
 ·have w:Re.q g0.lo<x1/\x1<Re.q g0.hi/\Re.q g0.hi<x2:=by
   have i1:=sP g0.hi x1 m1;have i2:=sP g0.hi x2 m2;rcases gD eE g0.lo with a|a|a<;>rcases gD eE g0.hi with c|c|c<;>rcases gD eE g1.lo with e|e|e<;>rcases gD eE g1.hi with g|g|g<;>
    first|(exfalso;lia)|(exfalso;grind)|(refine⟨?_,?_,?_⟩<;>grind)
  refine⟨by grind,by grind,fun _=>⟨w.1,w.2.1⟩,-1,.inr rfl,fun z z1 z2=>?_⟩;have:=Re.cy.mpr z2;rw[both,SF.Re.cG (x:=Re.q z-x2) (by grind)];lia
 ·have w:x1<Re.q g1.lo/\Re.q g1.lo<x2/\x2<Re.q g1.hi:=by
   have i1:=sP g1.lo x1 m1;have i2:=sP g1.hi x2 m2;rcases gD eE g0.lo with a|a|a<;>rcases gD eE g0.hi with c|c|c<;>rcases gD eE g1.lo with e|e|e<;>rcases gD eE g1.hi with g|g|g<;>
    first|(exfalso;lia)|(exfalso;grind)|(refine⟨?_,?_,?_⟩<;>grind)
  refine⟨by grind,by grind,fun _=>⟨w.2.1,w.2.2⟩,1,.inl rfl,fun z z1 z2=>?_⟩;have:=Re.cy.mpr z1;rw[both,SF.Re.bK (x:=Re.q z-x1) (by grind)]
end dH
namespace dH
open PySem PyProof.Rows L2 SF SF.Po
noncomputable def vl(t u:Int):Rat:=(t:Rat)/(u:Rat)
theorem lP{t u t' u':Int}(hu:0<u)(dM:0<u')(h:vl t u=vl t' u')(xs:List Int):sg (hv t u xs)=sg (hv t' u' xs):=by
 have h':(t:Rat)/(u:Rat)=(t':Rat)/(u':Rat):=h;rw[gS hu,gS dM,h']
theorem gi{t u t' u':Int}(hu:0<u)(dM:0<u'):vl t u<=vl t' u'↔t*u'<=t'*u:=Im hu dM
theorem ko{t u t' u':Int}(hu:0<u)(dM:0<u'):vl t u=vl t' u'↔t*u'=t'*u:=by
 have h1:=gi (t:=t) (t':=t') hu dM;have h2:=gi (t:=t') (t':=t) dM hu;constructor
 ·intro h;have:=h1.mp (by rw[h];grind);have:=h2.mp (by rw[h];grind);lia
 ·intro h;have:=h1.mpr (by lia);have:=h2.mpr (by lia);grind
theorem jx{t u t' u':Int}(hu:0<u)(dM:0<u'):vl t u<vl t' u'↔t*u'<t'*u:=by
 have h2:=gi (t:=t') (t':=t) dM hu;constructor
 ·intro h;rcases Int.lt_or_le (t*u') (t'*u) with z|z
  ·exact z
  ·have:=h2.mpr z;grind
 ·intro h;by_cases z:vl t' u'<=vl t u
  ·have:=h2.mp z;lia
  ·grind
theorem gT{t u c:Int}(hu:0<u)(hc:0<c):vl (t*c) (u*c)=vl t u:=(ko (Int.mul_pos hu hc) hu).mpr (by grind)
noncomputable def Ag(xs:List Int)(s0 u parts near pE:Int):Option (Int×Int):=
 if hv near (u*parts) xs=0 then some (near,near) else if hv pE (u*parts) xs=0 then some (pE,pE)
 else if sg (hv near (u*parts) xs)=sg (hv s0 u xs)/\sg (hv pE (u*parts) xs)≠sg (hv s0 u xs) then some (near,pE) else none
structure Gd(xs:List Int)(lo hi:Rat)(D s0 s1 u:Int):Prop where
 pos:0<u
 lo:lo<=vl s0 u
 hi:vl s1 u<=hi
 alt:(s1-s0=D/\0<D/\sg (hv s0 u xs)*sg (hv s1 u xs)=-1)\/(s0=s1/\hv s0 u xs=0)
theorem yw(x:Int):sg x=0\/sg x=1\/sg x=-1:=by
 unfold sg;split
 ·exact .inr (.inr rfl)
 ·split
  ·exact .inr (.inl rfl)
  ·exact .inl rfl
theorem uc{x:Int}:sg x=0↔x=0:=by
 have:=nS (x:=x);constructor
 ·intro h;exact Classical.byContradiction fun z=>this.mpr z h
 ·intro h;exact Classical.byContradiction fun z=>this.mp z h
theorem Gd.part{xs:List Int}{lo hi:Rat}{D s0 s1 u:Int}(h:Gd xs lo hi D s0 s1 u)(hD:s1-s0=D/\0<D/\sg (hv s0 u xs)*sg (hv s1 u xs)=-1){parts j:Int}(hp:0<parts)(j0:0<=j)(j1:j<parts){l r:Int}(e:Ag xs s0 u parts (s0*parts+D*j) (s0*parts+D*j+D)=some (l,r)):Gd xs lo hi D l r (u*parts)/\(r-l=D\/l=r):=by
 obtain⟨d1,d2,d3⟩:=hD;have oq:=Int.mul_pos h.pos hp;have W7:=Int.mul_nonneg (Int.le_of_lt d2) j0;have W8:D*j+D<=D*parts:=by
  have:=Int.mul_le_mul_of_nonneg_left (show j+1<=parts by lia) (Int.le_of_lt d2);rw[Int.mul_add,Int.mul_one] at this;exact this
 have W9:s1*parts=s0*parts+D*parts:=by rw[<-d1];grind
 have Dn:∀z:Int,s0*parts<=z->lo<=vl z (u*parts):=fun z hz=>by
  have:=h.lo;rw[<-gT (t:=s0) h.pos hp] at this;have g:=(gi (t:=s0*parts) (t':=z) oq oq).mpr (Int.mul_le_mul_of_nonneg_right hz (Int.le_of_lt oq));grind
 have Bo:∀z:Int,z<=s1*parts->vl z (u*parts)<=hi:=fun z hz=>by
  have:=h.hi;rw[<-gT (t:=s1) h.pos hp] at this;have g:=(gi (t:=z) (t':=s1*parts) oq oq).mpr (Int.mul_le_mul_of_nonneg_right hz (Int.le_of_lt oq));grind
 unfold Ag at e;split at e
 ·rename_i c;obtain⟨rfl,rfl⟩:=Prod.mk.inj (Option.some.inj e);exact⟨⟨oq,Dn _ (by lia),Bo _ (by lia),.inr ⟨rfl,c⟩⟩,.inr rfl⟩
 ·split at e
  ·rename_i c0 c;obtain⟨rfl,rfl⟩:=Prod.mk.inj (Option.some.inj e);exact⟨⟨oq,Dn _ (by lia),Bo _ (by lia),.inr ⟨rfl,c⟩⟩,.inr rfl⟩
  ·split at e
   ·rename_i c0 c1 c;obtain⟨rfl,rfl⟩:=Prod.mk.inj (Option.some.inj e);refine⟨⟨oq,Dn _ (by lia),Bo _ (by lia),.inl ⟨by lia,d2,?_⟩⟩,.inl (by lia)⟩;have g1:=nS.mpr c0;have g2:=nS.mpr c1;have g3:=yw (hv (s0*parts+D*j) (u*parts) xs);have g4:=yw (hv (s0*parts+D*j+D) (u*parts) xs);obtain⟨c2,c3⟩:=c;rw[<-c2] at c3;generalize sg (hv (s0*parts+D*j) (u*parts) xs)=A at*;generalize sg (hv (s0*parts+D*j+D) (u*parts) xs)=B at*;rcases g3 with z|z|z<;>rcases g4 with y|y|y<;>subst z<;>subst y<;>first|rfl|(exfalso;lia)
   ·cases e
theorem Gd.upper{xs:List Int}{lo hi:Rat}{D s0 s1 u:Int}(h:Gd xs lo hi D s0 s1 u)(hD:s1-s0=D/\0<D/\sg (hv s0 u xs)*sg (hv s1 u xs)=-1)(e:Ag xs s0 u 2 (2*s0) (s0+s1)=none):Gd xs lo hi D (s0+s1) (2*s1) (2*u):=by
 obtain⟨d1,d2,d3⟩:=hD;have hu:=h.pos;have oq:0<u*2:=by lia
 have e2:2*u=u*2:=by lia
 have v1:vl (2*s0) (u*2)=vl s0 u:=by rw[Int.mul_comm 2 s0];exact gT hu (by decide)
 have v2:vl (2*s1) (u*2)=vl s1 u:=by rw[Int.mul_comm 2 s1];exact gT hu (by decide)
 have g1:=lP oq hu v1 xs;have g2:=lP oq hu v2 xs;rw[e2];unfold Ag at e;split at e
 ·cases e
 ·split at e
  ·cases e
  ·split at e
   ·cases e
   ·rename_i c0 c1 c;refine⟨oq,?_,by rw[v2];exact h.hi,.inl ⟨by lia,d2,?_⟩⟩
    ·have:=h.lo;rw[<-v1] at this;have g:=(gi (t:=2*s0) (t':=s0+s1) oq oq).mpr (Int.mul_le_mul_of_nonneg_right (by lia) (Int.le_of_lt oq));grind
    ·have c3:sg (hv (s0+s1) (u*2) xs)=sg (hv s0 u xs):=Classical.byContradiction fun z=>c ⟨g1,z⟩;rw[c3,g2];exact d3
noncomputable def uR(w0 w1 s0 s1 u:Int):Int:=((s1-s0)*w1+w0*u-1).fdiv (w0*u)
theorem nX{w0 w1 s0 s1 u:Int}(hw:0<w0)(hu:0<u):(uR w0 w1 s0 s1 u-1)*(w0*u)<(s1-s0)*w1/\(s1-s0)*w1<=uR w0 w1 s0 s1 u*(w0*u):=by
 have hr:=Int.mul_pos hw hu;unfold uR;generalize w0*u=r at hr ⊢;generalize (s1-s0)*w1=x;rw[Int.fdiv_eq_ediv_of_nonneg _ (Int.le_of_lt hr)];have h1:=Int.mul_ediv_add_emod (x+r-1) r;have h2:=Int.emod_nonneg (x+r-1) (Int.ne_of_gt hr);have h3:=Int.emod_lt_of_pos (x+r-1) hr;generalize (x+r-1)/r=y at*;generalize (x+r-1)%r=z at*;have e:(y-1)*r=r*y-r:=by grind
 have e2:y*r=r*y:=by grind
 rw[e,e2];constructor<;>lia
theorem yx{w0 w1 D u p nd zF:Int}(hw:0<w0)(hu:0<u)(hp:2<=p)(h2:D*w1<=nd*(w0*u))(hn:2<=nd)(h1:(zF-1)*(w0*(u*p))<D*w1):zF<nd/\(nd<=p->zF<=1):=by
 have hr:=Int.mul_pos hw hu;have e:(zF-1)*(w0*(u*p))=(zF-1)*p*(w0*u):=by grind
 rw[e] at h1;have h3:(zF-1)*p*(w0*u)<nd*(w0*u):=by lia
 have h4:(zF-1)*p<nd:=Int.lt_of_mul_lt_mul_right h3 (Int.le_of_lt hr);constructor
 ·rcases Int.lt_or_le zF nd with z|z
  ·exact z
  ·exfalso;have:(nd-1)*2<=(zF-1)*p:=by
    have a1:=Int.mul_le_mul_of_nonneg_right (show nd-1<=zF-1 by lia) (show(0:Int)<=2 by decide);have a2:=Int.mul_le_mul_of_nonneg_left hp (show 0<=zF-1 by lia);lia
   lia
 ·intro hle;rcases Int.lt_or_le 1 zF with z|z
  ·exfalso;have:=Int.mul_le_mul_of_nonneg_right (show(1:Int)<=zF-1 by lia) (show 0<=p by lia);lia
  ·exact z
theorem B8{w0 w1 D u nd p:Int}(hw:0<w0)(hu:0<u)(h1:(nd-1)*(w0*u)<D*w1)(hn:2<=nd)(hp:0<p)(v7:p<=nd):u*p<=2*(D*w1):=by
 have hr:=Int.mul_pos hw hu;have h2:u<=w0*u:=by
  have:=Int.mul_le_mul_of_nonneg_right (show(1:Int)<=w0 by lia) (Int.le_of_lt hu);lia
 have h3:u*p<=u*nd:=Int.mul_le_mul_of_nonneg_left v7 (Int.le_of_lt hu);have h4:u*nd<=u*(2*(nd-1)):=Int.mul_le_mul_of_nonneg_left (by lia) (Int.le_of_lt hu);have h5:u*(nd-1)<=w0*u*(nd-1):=Int.mul_le_mul_of_nonneg_right h2 (by lia);have e1:u*(2*(nd-1))=2*(u*(nd-1)):=by grind
 have e2:(nd-1)*(w0*u)=w0*u*(nd-1):=by grind
 lia
theorem Gd.bits{xs:List Int}{lo hi:Rat}{D s0 s1 u:Int}(h:Gd xs lo hi D s0 s1 u){n k:Nat}(Dn:-(2^n)<=lo)(Bo:hi<=2^n)(bu:Bd k u):Bd (n+k+1) s0/\Bd (n+k+1) s1:=by
 have hu:=h.pos;have hle:s0<=s1:=by
  rcases h.alt with z|z
  ·lia
  ·lia
 have e1:(vl (-(2^n)) 1)=-(2^n):=by
  unfold vl;rw[Rat.intCast_neg,Rat.intCast_pow];show -(2^n)/(1:Rat)=_;grind
 have e2:(vl (2^n) 1)=2^n:=by
  unfold vl;rw[Rat.intCast_pow];show(2^n)/(1:Rat)=_;grind
 have a1:vl (-(2^n)) 1<=vl s0 u:=by rw[e1];have:=h.lo;grind
 have a2:vl s1 u<=vl (2^n) 1:=by rw[e2];have:=h.hi;grind
 have b1:=(gi (by decide) hu).mp a1;have b2:=(gi hu (by decide)).mp a2;have bz:Bd (n+1) ((2:Int)^n):=by
  unfold Bd;rw[Int.natAbs_pow];exact Nat.pow_lt_pow_right (by decide) (by lia)
 have bp:=bz.mul bu;unfold Bd at*;have e3:n+1+k=n+k+1:=by lia
 rw[e3] at bp;have e4:-(2:Int)^n*u=-(2^n*u):=by grind
 rw[e4] at b1;constructor<;>lia
end dH
namespace dH
open PySem PyProof.Rows L2 SF SF.Po
noncomputable def PL(H:Hp)(Q:VK)(under:Int):Option (Int×Int)->Prop
 |none=>Q .eT H
 |some (l,h)=>∀p,H p=none->Q (.ref p) (upd H p (.tup [.int l,.int h,.int under]))
noncomputable def Gj:Sp:=fun vs H Q _=>∃(p g h:Addr)(t u t' u':Int)(n:Nat),vs=[.ref p]/\H p=some (.tup [.ref g,.ref h])/\H g=some (.tup [.int t,.int u])/\H h=some (.tup [.int t',.int u'])/\(Bd n t/\Bd n u/\Bd n t'/\Bd n u'/\n<=1000000)/\
 ∀s,H s=none->Q (.ref s) (upd H s (.tup [.int (t*u'),.int (t'*u),.int (u*u')]))
noncomputable def B9:Sp:=fun vs H Q _=>∃(s g:Addr)(s0 s1 u w0 w1:Int)(n:Nat),vs=[.ref s,.ref g]/\H s=some (.tup [.int s0,.int s1,.int u])/\H g=some (.tup [.int w0,.int w1])/\(Bd n s0/\Bd n s1/\Bd n u/\Bd n w0/\Bd n w1/\n<=1000000/\0<u/\0<w0)/\Q (.int (uR w0 w1 s0 s1 u)) H
noncomputable def wj:Sp:=fun vs H Q _=>∃(a s:Addr)(xs:List Int)(s0 s1 u parts near pE:Int)(n:Nat),vs=[.ref a,.ref s,.int parts,.int near,.int pE]/\IL H a xs/\H s=some (.tup [.int s0,.int s1,.int u])/\
 (xs.length<=13/\Ab 100 xs/\Bd n s0/\Bd n u/\Bd n (u*parts)/\Bd n parts/\Bd n near/\Bd n pE/\n<=500000)/\PL H Q (u*parts) (Ag xs s0 u parts near pE)
noncomputable def gj(xs:List Int)(s0 s1 u parts:Int):Int:=(parts*ab (hv s0 u xs)).fdiv (ab (hv s0 u xs)+ab (hv s1 u xs))
noncomputable def yy:Sp:=fun vs H Q _=>∃(a s:Addr)(xs:List Int)(s0 s1 u parts:Int)(n:Nat),vs=[.ref a,.ref s,.int parts]/\IL H a xs/\H s=some (.tup [.int s0,.int s1,.int u])/\
 (xs.length<=13/\Ab 100 xs/\Bd n s0/\Bd n s1/\Bd n u/\Bd n (u*parts)/\Bd n parts/\n<=240000)/\(hv s0 u xs≠0/\hv s1 u xs≠0/\0<parts)/\
 (Bd (n+n+4) (s0*parts+(s1-s0)*gj xs s0 s1 u parts)->PL H Q (u*parts) (Ag xs s0 u parts (s0*parts+(s1-s0)*gj xs s0 s1 u parts) (s0*parts+(s1-s0)*gj xs s0 s1 u parts+(s1-s0))))
noncomputable def B_:Sp:=fun vs H Q _=>∃(a s:Addr)(xs:List Int)(s0 s1 u:Int)(n:Nat),vs=[.ref a,.ref s]/\IL H a xs/\H s=some (.tup [.int s0,.int s1,.int u])/\
 (xs.length<=13/\Ab 100 xs/\Bd n s0/\Bd n s1/\Bd n u/\n<=240000)/\
 ∀(l h un:Int)(p:Addr)(H':Hp),(Ag xs s0 u 2 (2*s0) (s0+s1)=some (l,h)/\un=u*2)\/(Ag xs s0 u 2 (2*s0) (s0+s1)=none/\l=s0+s1/\h=2*s1/\un=2*u)->au H H'->H' p=some (.tup [.int l,.int h,.int un])->Q (.ref p) H'
theorem Gk{xs:List Int}{s0 s1 u parts:Int}(h0:hv s0 u xs≠0)(h1:hv s1 u xs≠0)(hp:0<parts):0<=gj xs s0 s1 u parts/\gj xs s0 s1 u parts<parts:=by
 have a0:=fw h0;have a1:=fw h1;unfold gj;generalize ab (hv s0 u xs)=x at*;generalize ab (hv s1 u xs)=y at*;rw[Int.fdiv_eq_ediv_of_nonneg _ (by lia)];constructor
 ·exact Int.ediv_nonneg (Int.mul_nonneg (by lia) (by lia)) (by lia)
 ·refine Int.ediv_lt_of_lt_mul (by lia) ?_;rw[Int.mul_add];have:=Int.mul_pos hp a1;lia
section
variable {P:Program} {w:World} {K:PySem.W.Frag} {mg:Str->Option Value} {base:Heap}
theorem oE(D:aL K mg "stretch_of" iC ["pair"]):bq P w K mg base 1 "stretch_of" ["pair"] Gj:=by
 refine D.ok gA (fun vs H Q E h=>?_) (fun f cD A outer s H vs Q E hr h=>?_)
 ·obtain⟨p,g,h,t,u,t',u',n,rfl,_⟩:=h;rfl
 obtain⟨p,g,h,t,u,t',u',n,rfl,hp,hg,hh,⟨b1,b2,b3,b4,hn⟩,q⟩:=h;have gR:jQ=60000000:=rfl;refine⟨_,(ae (ai (i:=1) gA.nd rfl (Or.inl rfl) (aD aC (pv 0) af (fun _ _=>rfl)))
  (ae (ai (i:=2) gA.nd rfl (Or.inl rfl) (aD aC (pv 0) af (fun _ _=>rfl)))
  (ah (ax (cL (aa (aj aw (aD aC (pv 1) af (fun _ _=>rfl)) (aD aC (pv 2) af (fun _ _=>rfl))) (aa (aj aw (aD aC (pv 2) af (fun _ _=>rfl)) (aD aC (pv 1) af (fun _ _=>rfl))) (aa (aj aw (aD aC (pv 1) af (fun _ _=>rfl)) (aD aC (pv 2) af (fun _ _=>rfl))) ag)))))))),?_⟩;walk_at "sf";refine aK (cC.of hp) rfl ?_;walk_at "sf";refine aK (cC.of hp) rfl ?_;walk_at "sf";refine aK (cC.of hg) rfl ?_;walk_at "sf";refine aK (cC.of hh) rfl ?_;refine bN (aR b1 b4 (by lia)) ?_;walk_at "sf";refine aK (cC.of hh) rfl ?_;walk_at "sf";refine aK (cC.of hg) rfl ?_;refine bN (aR b3 b2 (by lia)) ?_;walk_at "sf";refine aK (cC.of hg) rfl ?_;walk_at "sf";refine aK (cC.of hh) rfl ?_;refine bN (aR b2 b4 (by lia)) ?_;walk_at "sf";exact q
theorem lZ(hT:P.given.tree=none)(D:aL K mg "parts_needed" fZ ["stretch","width"]):bq P w K mg base 33 "parts_needed" ["stretch","width"] B9:=by
 refine D.ok iM (fun vs H Q E h=>?_) (fun f cD A outer s H vs Q E hr h=>?_)
 ·obtain⟨s,g,s0,s1,u,w0,w1,n,rfl,_⟩:=h;rfl
 obtain⟨s,g,s0,s1,u,w0,w1,n,rfl,hs,hg,⟨b1,b2,b3,b4,b5,hn,hu,hw⟩,q⟩:=h;have gR:jQ=60000000:=rfl;refine⟨_,(ae (ai (i:=2) iM.nd rfl (Or.inl rfl) (aj aw (aD aC (pv 1) af (fun _ _=>rfl)) (aD aC (pv 0) af (fun _ _=>rfl))))
  (ah (ax (aj (dB ⟨hT,⟨_,_,rfl,rfl,rfl,rfl,rfl⟩,hr.py⟩) (aj bJ (aj bA (aj aw (aj bJ (aD aC (pv 0) af (fun _ _=>rfl)) (aD aC (pv 0) af (fun _ _=>rfl))) (aD aC (pv 1) af (fun _ _=>rfl))) (pv 2)) af) (pv 2))))),?_⟩;walk_at "sf";refine aK (cC.of hg) rfl ?_;walk_at "sf";refine aK (cC.of hs) rfl ?_;refine bN (aR b4 b3 (by lia)) ?_;walk_at "sf";refine aK (cC.of hs) rfl ?_;walk_at "sf";refine aK (cC.of hs) rfl ?_;walk_at "sf";refine aK (cC.of hg) rfl ?_;refine bN (aR (b2.sub b1) b5 (by lia)) ?_;walk_at "sf";refine bN (Int.ne_of_gt (Int.mul_pos hw hu)) ?_;walk_at "sf";exact q
theorem l_(gb:bq P w K mg base 1 "sign" ["number"] lj)(cS:bq P w K mg base 1 "height_at" ["poly","top","under"] ki)(D:aL K mg "part_between" f6 ["free","stretch","parts","near","far"]):bq P w K mg base 2 "part_between" ["free","stretch","parts","near","far"] wj:=by
 refine D.ok cZ (fun vs H Q E h=>?_) (fun f cD A outer s H vs Q E hr h=>?_)
 ·obtain⟨a,s,xs,s0,s1,u,parts,near,pE,n,rfl,_⟩:=h;rfl
 obtain⟨a,s,xs,s0,s1,u,parts,near,pE,n,rfl,ha,hs,⟨hx,bx,b1,b2,b3,b4,b5,b6,hn⟩,q⟩:=h;have gR:jQ=60000000:=rfl;refine⟨_,(ae (ai (i:=5) cZ.nd rfl (Or.inl rfl) (aj aw (aD aC (pv 1) af (fun _ _=>rfl)) (pv 2)))
  (ae (ai (i:=6) cZ.nd rfl (Or.inl rfl) (av gb hr (aa (av cS hr (aa (pv 0) (aa (aD aC (pv 1) af (fun _ _=>rfl)) (aa (aD aC (pv 1) af (fun _ _=>rfl)) ag)))) ag)))
  (ae (ai (i:=7) cZ.nd rfl (Or.inl rfl) (av gb hr (aa (av cS hr (aa (pv 0) (aa (pv 3) (aa (pv 5) ag)))) ag)))
  (ae (bO (aB dN (pv 7) af (aE _))
  (ah (ax (cL (aa (pv 3) (aa (pv 3) (aa (pv 5) ag))))))
  aO)
  (ae (ai (i:=8) cZ.nd rfl (Or.inl rfl) (av gb hr (aa (av cS hr (aa (pv 0) (aa (pv 4) (aa (pv 5) ag)))) ag)))
  (ae (bO (aB dN (pv 8) af (aE _))
  (ah (ax (cL (aa (pv 4) (aa (pv 4) (aa (pv 5) ag))))))
  aO)
  (ah (ax (eD (PW.pt (jy (aB dN (pv 7) (pv 6) (aE _)) (gX (aB mI (pv 8) (pv 6) (aE _))))) (cL (aa (pv 3) (aa (pv 4) (aa (pv 5) ag)))) fv))))))))),?_⟩;walk_at "sf";refine aK (cC.of hs) rfl ?_;walk_at "sf";refine bN (aR b2 b4 (by lia)) ?_;walk_at "sf";refine aK (cC.of hs) rfl ?_;walk_at "sf";refine aK (cC.of hs) rfl ?_;walk_at "sf";refine⟨a,xs,s0,u,100,n,rfl,ha,⟨by lia,bx,b1,b2,by lia⟩,?_⟩;walk_at "sf";refine⟨_,rfl,?_⟩;walk_at "sf";refine⟨a,xs,near,u*parts,100,n,rfl,ha,⟨by lia,bx,b5,b3,by lia⟩,?_⟩;walk_at "sf";refine⟨_,rfl,?_⟩;walk_at "sf";unfold Ag at q;refine dI (fun c=>?_) (fun c=>?_)
 ·have h1:hv near (u*parts) xs=0:=uc.mp (by simpa using c);rw[if_pos h1] at q;walk_at "sf";exact q
 ·have h1:¬hv near (u*parts) xs=0:=fun z=>by
   have:¬sg (hv near (u*parts) xs)=0:=by simpa using c
   exact this (uc.mpr z)
  rw[if_neg h1] at q;walk_at "sf";refine⟨a,xs,pE,u*parts,100,n,rfl,ha,⟨by lia,bx,b6,b3,by lia⟩,?_⟩;walk_at "sf";refine⟨_,rfl,?_⟩;walk_at "sf";refine dI (fun c=>?_) (fun c=>?_)
  ·have h2:hv pE (u*parts) xs=0:=uc.mp (by simpa using c);rw[if_pos h2] at q;walk_at "sf";exact q
  ·have h2:¬hv pE (u*parts) xs=0:=fun z=>by
    have:¬sg (hv pE (u*parts) xs)=0:=by simpa using c
    exact this (uc.mpr z)
   rw[if_neg h2] at q;walk_at "sf";refine dI (fun c1=>?_) (fun c1=>?_)
   ·have h3:sg (hv near (u*parts) xs)=sg (hv s0 u xs):=by simpa using c1
    walk_at "sf";refine dI (fun c2=>?_) (fun c2=>?_)
    ·have h4:sg (hv pE (u*parts) xs)≠sg (hv s0 u xs):=by simpa using c2
     rw[if_pos ⟨h3,h4⟩] at q;walk_at "sf";exact q
    ·have h4:sg (hv pE (u*parts) xs)=sg (hv s0 u xs):=by simpa using c2
     rw[if_neg (fun z=>z.2 h4)] at q;walk_at "sf";exact q
   ·have h3:¬sg (hv near (u*parts) xs)=sg (hv s0 u xs):=by simpa using c1
    rw[if_neg (fun z=>h3 z.1)] at q;walk_at "sf";exact q
theorem wk(T:Nm mg)(hT:P.given.tree=none)(cS:bq P w K mg base 33 "height_at" ["poly","top","under"] ki)(gk:bq P w K mg base 33 "part_between" ["free","stretch","parts","near","far"] wj)(D:aL K mg "guessed" kW ["free","stretch","parts"]):bq P w K mg base 34 "guessed" ["free","stretch","parts"] yy:=by
 refine D.ok fc (fun vs H Q E h=>?_) (fun f cD A outer s H vs Q E hr h=>?_)
 ·obtain⟨a,s,xs,s0,s1,u,parts,n,rfl,_⟩:=h;rfl
 obtain⟨a,s,xs,s0,s1,u,parts,n,rfl,ha,hs,⟨hx,bx,b1,b2,b3,b4,b5,hn⟩,⟨HA,RZ,hp⟩,q⟩:=h;have gR:jQ=60000000:=rfl;have PM:=Gk HA RZ hp;have Af:∀x:Int,(if x<0 then -x else x)=ab x:=fun x=>by unfold ab;split<;>lia
 have Vl:∀{k:Nat}{x:Int},Bd k x->Bd k (ab x):=fun{k x} h=>by
  unfold Bd at*;unfold ab;lia
 have Vm:Bd (100+(n+1)*13+1) (hv s0 u xs):=by
  have:=(vY b1 b3 bx (j:=xs.length) (Nat.le_refl _)).1;rw[mU] at this;exact this.mono (by have:=Nat.mul_le_mul_left (n+1) hx;lia)
 have UE:Bd (100+(n+1)*13+1) (hv s1 u xs):=by
  have:=(vY b2 b3 bx (j:=xs.length) (Nat.le_refl _)).1;rw[mU] at this;exact this.mono (by have:=Nat.mul_le_mul_left (n+1) hx;lia)
 have bg:Bd n (gj xs s0 s1 u parts):=by
  unfold Bd at*;lia
 have Ca:Bd (n+n+3) (s0*parts+(s1-s0)*gj xs s0 s1 u parts):=(((b1.mul b5).mono (n:=n+n+2) (by lia)).add (((b2.sub b1).mul bg).mono (n:=n+n+2) (by lia))).mono (by lia);refine⟨_,(ae (ai (i:=3) fc.nd rfl (Or.inl rfl) (aj bJ (aD aC (pv 1) af (fun _ _=>rfl)) (aD aC (pv 1) af (fun _ _=>rfl))))
  (ae (ai (i:=4) fc.nd rfl (Or.inl rfl) (aG cK rfl T.gQ boot_abs (aa (av cS hr (aa (pv 0) (aa (aD aC (pv 1) af (fun _ _=>rfl)) (aa (aD aC (pv 1) af (fun _ _=>rfl)) ag)))) ag)))
  (ae (ai (i:=5) fc.nd rfl (Or.inl rfl) (aG cK rfl T.gQ boot_abs (aa (av cS hr (aa (pv 0) (aa (aD aC (pv 1) af (fun _ _=>rfl)) (aa (aD aC (pv 1) af (fun _ _=>rfl)) ag)))) ag)))
  (ae (ai (i:=6) fc.nd rfl (Or.inl rfl) (aj (dB ⟨hT,⟨_,_,rfl,rfl,rfl,rfl,rfl⟩,hr.py⟩) (aj aw (pv 2) (pv 4)) (aj bA (pv 4) (pv 5))))
  (ae (ai (i:=7) fc.nd rfl (Or.inl rfl) (aj bA (aj aw (aD aC (pv 1) af (fun _ _=>rfl)) (pv 2)) (aj aw (pv 3) (pv 6))))
  (ah (ax (av gk hr (aa (pv 0) (aa (pv 1) (aa (pv 2) (aa (pv 7) (aa (aj bA (pv 7) (pv 3)) ag))))))))))))),?_⟩;walk_at "sf";refine aK (cC.of hs) rfl ?_;walk_at "sf";refine aK (cC.of hs) rfl ?_;walk_at "sf";refine aK (cC.of hs) rfl ?_;walk_at "sf";refine aK (cC.of hs) rfl ?_;walk_at "sf";refine⟨a,xs,s0,u,100,n,rfl,ha,⟨by lia,bx,b1,b3,by lia⟩,?_⟩;walk_at "sf";refine⟨_,rfl,?_⟩;walk_at "sf";refine aK (cC.of hs) rfl ?_;walk_at "sf";refine aK (cC.of hs) rfl ?_;walk_at "sf";refine⟨a,xs,s1,u,100,n,rfl,ha,⟨by lia,bx,b2,b3,by lia⟩,?_⟩;walk_at "sf";refine⟨_,rfl,?_⟩;rw[Af,Af];walk_at "sf";refine bN (aR b5 (Vl Vm) (by lia)) ?_;walk_at "sf";have a0:=fw HA;have a1:=fw RZ;refine bN (by lia) ?_;walk_at "sf";have Vn:(parts*ab (hv s0 u xs)).fdiv (ab (hv s0 u xs)+ab (hv s1 u xs))=gj xs s0 s1 u parts:=rfl;rw[Vn];refine aK (cC.of hs) rfl ?_;walk_at "sf";refine bN (aR b1 b5 (by lia)) ?_;walk_at "sf";refine bN (aR (b2.sub b1) bg (by lia)) ?_;walk_at "sf";refine⟨a,s,xs,s0,s1,u,parts,_,_,n+n+4,rfl,ha,hs,⟨hx,bx,b1.mono (by lia),b3.mono (by lia),b4.mono (by lia),b5.mono (by lia),Ca.mono (by lia),(Ca.add ((b2.sub b1).mono (by lia))).mono (by lia),by lia⟩,?_⟩;exact q (Ca.mono (by lia))
theorem zG(gk:bq P w K mg base 33 "part_between" ["free","stretch","parts","near","far"] wj)(D:aL K mg "halved" nL ["free","stretch"]):bq P w K mg base 34 "halved" ["free","stretch"] B_:=by
 refine D.ok kX (fun vs H Q E h=>?_) (fun f cD A outer s H vs Q E hr h=>?_)
 ·obtain⟨a,s,xs,s0,s1,u,n,rfl,_⟩:=h;rfl
 obtain⟨a,s,xs,s0,s1,u,n,rfl,ha,hs,⟨hx,bx,b1,b2,b3,hn⟩,q⟩:=h;have gR:jQ=60000000:=rfl;have b22:Bd 3 (2:Int):=Bd.of_two (by decide) (by decide);refine⟨_,(ae (ai (i:=2) kX.nd rfl (Or.inl rfl) (aj bA (aD aC (pv 1) af (fun _ _=>rfl)) (aD aC (pv 1) af (fun _ _=>rfl))))
  (ae (ai (i:=3) kX.nd rfl (Or.inl rfl) (av gk hr (aa (pv 0) (aa (pv 1) (aa af (aa (aj aw af (aD aC (pv 1) af (fun _ _=>rfl))) (aa (pv 2) ag)))))))
  (ah (ax (eD (aB pQ (pv 3) fv (aE _)) (cL (aa (pv 2) (aa (aj aw af (aD aC (pv 1) af (fun _ _=>rfl))) (aa (aj aw af (aD aC (pv 1) af (fun _ _=>rfl))) ag)))) (pv 3)))))),?_⟩;walk_at "sf";refine aK (cC.of hs) rfl ?_;walk_at "sf";refine aK (cC.of hs) rfl ?_;walk_at "sf";refine aK (cC.of hs) rfl ?_;refine bN (aR b22 b1 (by lia)) ?_;walk_at "sf";refine⟨a,s,xs,s0,s1,u,2,2*s0,s0+s1,n+4,rfl,ha,hs,⟨hx,bx,b1.mono (by lia),b3.mono (by lia),(b3.mul b22).mono (by lia),b22.mono (by lia),(b22.mul b1).mono (by lia),(b1.add b2).mono (by lia),by lia⟩,?_⟩;cases e:Ag xs s0 u 2 (2*s0) (s0+s1) with
 |none=>
  show _;walk_at "sf";refine⟨_,rfl,?_⟩;refine(show _/\_ from⟨rfl,?_⟩);refine⟨_,rfl,?_⟩;show(if decide (V.eT=V.eT)=true then _ else _);rw[if_pos (by decide)];walk_at "sf";refine aK (cC.of hs) rfl ?_;refine bN (aR b22 b2 (by lia)) ?_;walk_at "sf";refine aK (cC.of hs) rfl ?_;refine bN (aR b22 b3 (by lia)) ?_;walk_at "sf";intro p hp;exact q _ _ _ p _ (.inr ⟨e,rfl,rfl,rfl⟩) (au.new hp _) ak
 |some r=>
  obtain⟨l,h⟩:=r;intro p hp;have sp:=au.new hp (.tup [.int l,.int h,.int (u*2)]);have m5:upd H p (.tup [.int l,.int h,.int (u*2)]) p=some (.tup [.int l,.int h,.int (u*2)]):=ak;generalize upd H p (.tup [.int l,.int h,.int (u*2)])=H1 at sp m5 ⊢;walk_at "sf";refine(show _/\_ from⟨rfl,?_⟩);refine⟨_,rfl,?_⟩;show(if decide (V.ref p=V.eT)=true then _ else _);rw[if_neg (by simp)];walk_at "sf";exact q l h (u*2) p H1 (.inl ⟨e,rfl⟩) sp m5
end
end dH
namespace dH
open PySem PyProof.Rows L2 SF SF.Po
noncomputable def EA(xs:List Int)(t u t' u':Int):Prop:=(vl t u<vl t' u'/\sg (hv t u xs)*sg (hv t' u' xs)=-1)\/(vl t u=vl t' u'/\hv t u xs=0)
structure Nw(xs:List Int)(t u t' u' w0 w1 c d c' d':Int)(k:Nat):Prop where
 lo:vl t u<=vl c d
 hi:vl c' d'<=vl t' u'
 wd:vl c' d'-vl c d<=vl w0 w1
 EB:EA xs c d c' d'
 b1:Bd k c
 b2:Bd k d
 b3:Bd k c'
 b4:Bd k d'
noncomputable def nY(Pre:List Int->Prop)(F:List Int->List Int):Sp:=fun vs H Q _=>∃(a pr g h wd:Addr)(xs:List Int)(t u t' u' w0 w1:Int)(n:Nat),vs=[.ref a,.ref pr,.ref wd]/\IL H a xs/\H pr=some (.tup [.ref g,.ref h])/\H g=some (.tup [.int t,.int u])/\H h=some (.tup [.int t',.int u'])/\H wd=some (.tup [.int w0,.int w1])/\
 Pre xs/\((F xs).length<=13/\Ab 100 (F xs))/\(Bd n t/\Bd n u/\Bd n t'/\Bd n u'/\n<=20000/\Bd 1000 w0/\Bd 1000 w1/\0<u/\0<u'/\0<w0/\0<w1)/\EA (F xs) t u t' u'/\
 ∀(p g h:Addr)(c d c' d':Int)(H':Hp),au H H'->H' p=some (.tup [.ref g,.ref h])->Rt H' g c d->Rt H' h c' d'->Nw (F xs) t u t' u' w0 w1 c d c' d' (3*n+1020)->Q (.ref p) H'
theorem Cb(s0 s1 u:Int):vl s1 u-vl s0 u=vl (s1-s0) u:=by
 unfold vl;have:((s1-s0:Int):Rat)=(s1:Rat)-(s0:Rat):=by rw[Int.sub_eq_add_neg,Rat.intCast_add,Rat.intCast_neg];grind
 rw[this,Rat.div_def,Rat.div_def,Rat.div_def];grind
theorem Cc{a b:Int}(h:sg a*sg b=-1):a≠0/\b≠0:=by
 constructor
 ·rintro rfl;have:sg 0=0:=rfl;rw[this] at h;lia
 ·rintro rfl;have:sg 0=0:=rfl;rw[this] at h;lia
theorem EA.start{xs:List Int}{t u t' u':Int}(h:EA xs t u t' u')(hu:0<u)(dM:0<u'):Gd xs (vl t u) (vl t' u') (t'*u-t*u') (t*u') (t'*u) (u*u'):=by
 have hp:=Int.mul_pos hu dM;have v1:vl (t*u') (u*u')=vl t u:=gT hu dM;have v2:vl (t'*u) (u*u')=vl t' u':=by rw[Int.mul_comm u u'];exact gT dM hu
 refine⟨hp,by rw[v1];grind,by rw[v2];grind,?_⟩;rcases h with⟨h1,h2⟩|⟨h1,h2⟩
 ·have:=(jx hu dM).mp h1;refine .inl ⟨rfl,by lia,?_⟩;rw[lP hp hu v1,lP hp dM v2];exact h2
 ·have:=(ko hu dM).mp h1;refine .inr ⟨by lia,uc.mp ?_⟩;rw[lP hp hu v1];exact uc.mpr h2
theorem kq{k:Nat}{x y:Int}(h0:0<=x)(h:x<=y)(b:Bd k y):Bd k x:=by
 unfold Bd at*;lia
section
variable {P:Program} {w:World} {K:PySem.W.Frag} {mg:Str->Option Value} {base:Heap}
theorem ud(T:Nm mg)(rd:bq P w K mg base 35 "stretch_of" ["pair"] Gj)(jc:bq P w K mg base 35 "parts_needed" ["stretch","width"] B9)(zH:bq P w K mg base 35 "guessed" ["free","stretch","parts"] yy)(Cd:bq P w K mg base 35 "halved" ["free","stretch"] B_)(eP:bq P w K mg base 35 "ratio" ["top","under"] pD)(D:aL K mg "narrowed" jK ["free","pair","width"]):bq P w K mg base 36 "narrowed" ["free","pair","width"] (nY (fun _=>True) id):=by
 refine D.ok cQ (fun vs H Q E h=>?_) (fun f cD A outer s H vs Q E hr h=>?_)
 ·obtain⟨a,pr,g,h,wd,xs,t,u,t',u',w0,w1,n,rfl,_⟩:=h;rfl
 obtain⟨a,pr,g,h,wd,xs,t,u,t',u',w0,w1,n,rfl,ha,PN,hg,hh,Iw,_,⟨hx,bx⟩,⟨b1,b2,b3,b4,hn,PQ,M3,hu,dM,zI,Jm⟩,EB,q⟩:=h;have gR:jQ=60000000:=rfl;have R0:=EB.start hu dM;have Dn:-(2^n)<=vl t u:=by
  have e1:(vl (-(2^n)) 1)=-(2^n):=by
   unfold vl;rw[Rat.intCast_neg,Rat.intCast_pow];show -(2^n)/(1:Rat)=_;grind
  rw[<-e1];refine(gi (by decide) hu).mpr ?_;have e2:(2:Int)^n=((2^n:Nat):Int):=by rw[Int.natCast_pow];rfl
  unfold Bd at b1;have h3:(((2^n:Nat):Int))<=((2^n:Nat):Int)*u:=by
   have:=Int.mul_le_mul_of_nonneg_left (show(1:Int)<=u by lia) (show(0:Int)<=((2^n:Nat):Int) by lia);lia
  rw[e2,Int.neg_mul];lia
 have Bo:vl t' u'<=2^n:=by
  have e1:(vl (2^n) 1)=2^n:=by
   unfold vl;rw[Rat.intCast_pow];show(2^n)/(1:Rat)=_;grind
  rw[<-e1];refine(gi dM (by decide)).mpr ?_;have e2:(2:Int)^n=((2^n:Nat):Int):=by rw[Int.natCast_pow];rfl
  unfold Bd at b3;have h3:(((2^n:Nat):Int))<=((2^n:Nat):Int)*u':=by
   have:=Int.mul_le_mul_of_nonneg_left (show(1:Int)<=u' by lia) (show(0:Int)<=((2^n:Nat):Int) by lia);lia
  rw[e2];lia
 have bD:Bd (n+n+1) (t'*u-t*u'):=((b3.mul b2).sub (b1.mul b4)).mono (by lia);have M4:Bd (n+n+1004) (2*((t'*u-t*u')*w1)):=((Bd.of_two (n:=2) (x:=2) (by decide) (by decide)).mul (bD.mul M3)).mono (by lia);have R1:=b2.mul b4;generalize hD:t'*u-t*u'=DD at R0 bD M4;refine⟨_,(ae (ai (i:=3) cQ.nd rfl (Or.inl rfl) (av rd hr (aa (pv 1) ag)))
  (ae (ai (i:=4) cQ.nd rfl (Or.inl rfl) af)
  (ae (ai (i:=5) cQ.nd rfl (Or.inl rfl) (av jc hr (aa (pv 3) (aa (pv 2) ag))))
  (ae (cX PassesOwn.never (aB fO (pv 5) af (aE _))
  (ae (ai (i:=6) cQ.nd rfl (Or.inl rfl) (av zH hr (aa (pv 0) (aa (pv 3) (aa (aG (kB rfl) rfl T.BK boot_min (aa (pv 4) (aa (pv 5) ag))) ag)))))
  (ae (ai (i:=4) cQ.nd rfl (Or.inl rfl) (eD (aB pQ (pv 6) fv (aE _)) af (aj aw (pv 4) (pv 4))))
  (ae (ai (i:=3) cQ.nd rfl (Or.inl rfl) (eD (aB pQ (pv 6) fv (aE _)) (av Cd hr (aa (pv 0) (aa (pv 3) ag))) (pv 6)))
  (ah (ai (i:=5) cQ.nd rfl (Or.inl rfl) (av jc hr (aa (pv 3) (aa (pv 2) ag)))))))))
  (ah (ax (cL (aa (av eP hr (aa (aD aC (pv 3) af (fun _ _=>rfl)) (aa (aD aC (pv 3) af (fun _ _=>rfl)) ag))) (aa (av eP hr (aa (aD aC (pv 3) af (fun _ _=>rfl)) (aa (aD aC (pv 3) af (fun _ _=>rfl)) ag))) ag))))))))),?_⟩;walk_at "sf";refine⟨pr,g,h,t,u,t',u',n,rfl,PN,hg,hh,⟨b1,b2,b3,b4,by lia⟩,fun LO PR=>?_⟩;have s1:=au.new PR (.tup [.int (t*u'),.int (t'*u),.int (u*u')]);have KO:upd H LO (.tup [.int (t*u'),.int (t'*u),.int (u*u')]) LO=some (.tup [.int (t*u'),.int (t'*u),.int (u*u')]):=ak;generalize upd H LO (.tup [.int (t*u'),.int (t'*u),.int (u*u')])=H1 at s1 KO ⊢;walk_at "sf";refine⟨LO,wd,_,_,_,w0,w1,n+n+1000,rfl,KO,s1 _ _ Iw,⟨(b1.mul b4).mono (by lia),(b3.mul b2).mono (by lia),R1.mono (by lia),PQ.mono (by lia),M3.mono (by lia),by lia,Int.mul_pos hu dM,zI⟩,?_⟩;walk_at "sf";have four:Bd 4 (4:Int):=Bd.of_two (by decide) (by decide);refine cM (fun m σ H'=>∃(sp:Addr)(s0 s1 uu parts:Int)(z:Option V),m=(uR w0 w1 s0 s1 uu).toNat/\σ=[some (.ref a),some (.ref pr),some (.ref wd),some (.ref sp),some (.int parts),some (.int (uR w0 w1 s0 s1 uu)),z]/\au H H'/\
  H' sp=some (.tup [.int s0,.int s1,.int uu])/\Gd xs (vl t u) (vl t' u') DD s0 s1 uu/\Bd (n+n+1010) uu/\4<=parts/\(uR w0 w1 s0 s1 uu<=1\/Bd (4*n+2100) parts))
  ⟨_,LO,_,_,_,4,_,rfl,rfl,s1,KO,R0,R1.mono (by lia),by decide,.inr (four.mono (by lia))⟩ ?_
 rintro m σ H2 ⟨sp,s0,C4,uu,parts,z,rfl,rfl,s2,xh,gd,LP,R3,R4⟩;obtain⟨PU,PV⟩:=gd.bits Dn Bo LP;obtain⟨LQ,M5⟩:=nX (w0:=w0) (w1:=w1) (s0:=s0) (s1:=C4) (u:=uu) zI gd.pos;generalize Rp:uR w0 w1 s0 C4 uu=nd at LQ M5 R4 ⊢;have hr:=Int.mul_pos zI gd.pos;walk_at "sf";refine dI (fun c=>?_) (fun c=>?_)
 ·have GP:1<nd:=by simpa using c
  have alt:C4-s0=DD/\0<DD/\sg (hv s0 uu xs)*sg (hv C4 uu xs)=-1:=by
   rcases gd.alt with z|z
   ·exact z
   ·exfalso;rw[z.1,Int.sub_self,Int.zero_mul] at LQ;have:=Int.mul_pos (show 0<nd-1 by lia) hr;lia
  have wm:Bd (4*n+2100) parts:=by
   rcases R4 with z|z
   ·lia
   ·exact z
  rw[alt.1] at LQ M5;refine⟨_,fun cz H' h=>h,?_⟩;walk_at "sf";refine⟨_,_,rfl,?_⟩;walk_at "sf";obtain⟨p,hp,vx,v7,sF,PX⟩:∃p:Int,(if nd<parts then nd else parts)=p/\2<=p/\p<=nd/\p<=parts/\(p=parts\/nd<=p):=by
   by_cases hc:nd<parts
   ·exact⟨nd,if_pos hc,by lia,by lia,by lia,.inr (by lia)⟩
   ·exact⟨parts,if_neg hc,by lia,by lia,by lia,.inl rfl⟩
  rw[hp];have Vo:=B8 zI gd.pos LQ (by lia) (show 0<p by lia) v7;have oq:0<uu*p:=Int.mul_pos gd.pos (by lia);have M6:Bd (n+n+1004) (uu*p):=kq (Int.le_of_lt oq) Vo M4;have PY:=B8 zI gd.pos LQ (by lia) (show(0:Int)<2 by decide) (show 2<=nd by lia);have PZ:Bd (n+n+1004) (uu*2):=kq (by have:=gd.pos;lia) PY M4;have hz:=Cc alt.2.2;have bp:Bd (4*n+2100) p:=kq (by lia) sF wm;refine⟨a,sp,xs,s0,C4,uu,p,4*n+2200,rfl,s2 _ _ ha,xh,⟨hx,bx,PU.mono (by lia),PV.mono (by lia),LP.mono (by lia),M6.mono (by lia),bp.mono (by lia),by lia⟩,⟨hz.1,hz.2,by lia⟩,fun _=>?_⟩;rw[alt.1];have PM:=Gk hz.1 hz.2 (show 0<p by lia);cases e:Ag xs s0 uu p (s0*p+DD*gj xs s0 C4 uu p) (s0*p+DD*gj xs s0 C4 uu p+DD) with
  |none=>
   unfold PL;show _;walk_at "sf";refine(show _/\_ from⟨rfl,?_⟩);refine⟨_,rfl,?_⟩;show(if decide (V.eT=V.eT)=true then _ else _);rw[if_pos (by decide)];walk_at "sf";refine(show _/\_ from⟨rfl,?_⟩);refine⟨_,rfl,?_⟩;show(if decide (V.eT=V.eT)=true then _ else _);rw[if_pos (by decide)];walk_at "sf";refine⟨a,sp,xs,s0,C4,uu,3*n+1020,rfl,s2 _ _ ha,xh,⟨hx,bx,PU.mono (by lia),PV.mono (by lia),LP.mono (by lia),by lia⟩,fun l r un sq H3 LR hs3 hq3=>?_⟩;obtain⟨Ce,P0,O8⟩:Gd xs (vl t u) (vl t' u') DD l r un/\(r-l=DD\/l=r)/\un=uu*2:=by
    rcases LR with⟨e2,P1⟩|⟨e2,rfl,rfl,P1⟩
    ·have ee:Ag xs s0 uu 2 (s0*2+DD*0) (s0*2+DD*0+DD)=some (l,r):=by
      have x1:s0*2+DD*0=2*s0:=by lia
      have x2:2*s0+DD=s0+C4:=by lia
      rw[x1,x2];exact e2
     obtain⟨y1,y2⟩:=gd.part alt (show(0:Int)<2 by decide) (Int.le_refl 0) (by decide) ee;rw[P1];exact⟨y1,y2,rfl⟩
    ·have:=gd.upper alt e2;rw[P1];exact⟨this,.inl (by lia),by lia⟩
   subst O8;walk_at "sf";obtain⟨P2,P4⟩:=Ce.bits Dn Bo PZ;refine⟨sq,wd,_,_,_,w0,w1,3*n+1020,rfl,hq3,(s2.trans hs3) _ _ Iw,⟨P2.mono (by lia),P4.mono (by lia),PZ.mono (by lia),PQ.mono (by lia),M3.mono (by lia),by lia,Ce.pos,zI⟩,?_⟩;walk_at "sf";obtain⟨Iy,Vp⟩:=nX (w0:=w0) (w1:=w1) (s0:=l) (s1:=r) (u:=uu*2) zI Ce.pos;have Gm:uR w0 w1 l r (uu*2)<nd:=by
    rcases P0 with z|z
    ·rw[z] at Iy;exact(yx zI gd.pos (Int.le_refl 2) M5 (by lia) Iy).1
    ·rw[z,Int.sub_self,Int.zero_mul] at Iy;rcases Int.lt_or_le (uR w0 w1 l r (uu*2)) nd with y|y
     ·exact y
     ·exfalso;rw[z] at y;have Et:=Int.mul_pos zI Ce.pos;have:=Int.mul_nonneg (show 0<=uR w0 w1 r r (uu*2)-1 by lia) (Int.le_of_lt Et);lia
   exact⟨_,by lia,sq,l,r,uu*2,4,_,rfl,rfl,s2.trans hs3,hq3,Ce,PZ.mono (by lia),by decide,.inr (four.mono (by lia))⟩
  |some r=>
   obtain⟨l,r⟩:=r;intro sq Vq;have hs3:=au.new Vq (.tup [.int l,.int r,.int (uu*p)]);have hq3:upd H2 sq (.tup [.int l,.int r,.int (uu*p)]) sq=some (.tup [.int l,.int r,.int (uu*p)]):=ak;generalize upd H2 sq (.tup [.int l,.int r,.int (uu*p)])=H3 at hs3 hq3 ⊢;obtain⟨Ce,P0⟩:=gd.part alt (show 0<p by lia) PM.1 PM.2 e;walk_at "sf";refine(show _/\_ from⟨rfl,?_⟩);refine⟨_,rfl,?_⟩;show(if decide (V.ref sq=V.eT)=true then _ else _);rw[if_neg (by simp)];walk_at "sf";refine bN (aR wm wm (by lia)) ?_;walk_at "sf";refine(show _/\_ from⟨rfl,?_⟩);refine⟨_,rfl,?_⟩;show(if decide (V.ref sq=V.eT)=true then _ else _);rw[if_neg (by simp)];walk_at "sf";obtain⟨P2,P4⟩:=Ce.bits Dn Bo M6;refine⟨sq,wd,_,_,_,w0,w1,3*n+1020,rfl,hq3,(s2.trans hs3) _ _ Iw,⟨P2.mono (by lia),P4.mono (by lia),M6.mono (by lia),PQ.mono (by lia),M3.mono (by lia),by lia,Ce.pos,zI⟩,?_⟩;walk_at "sf";obtain⟨Iy,Vp⟩:=nX (w0:=w0) (w1:=w1) (s0:=l) (s1:=r) (u:=uu*p) zI Ce.pos;have Gm:uR w0 w1 l r (uu*p)<nd/\(nd<=p->uR w0 w1 l r (uu*p)<=1):=by
    rcases P0 with z|z
    ·rw[z] at Iy;exact yx zI gd.pos vx M5 (by lia) Iy
    ·rw[z,Int.sub_self,Int.zero_mul] at Iy;have key:uR w0 w1 l r (uu*p)<=0:=by
      rcases Int.lt_or_le 0 (uR w0 w1 l r (uu*p)) with y|y
      ·exfalso;rw[z] at y;have Et:=Int.mul_pos zI Ce.pos;have:=Int.mul_nonneg (show 0<=uR w0 w1 r r (uu*p)-1 by lia) (Int.le_of_lt Et);lia
      ·exact y
     exact⟨by lia,fun _=>by lia⟩
   refine⟨_,by lia,sq,l,r,uu*p,parts*parts,_,rfl,rfl,s2.trans hs3,hq3,Ce,M6.mono (by lia),?_,?_⟩
   ·have:=Int.mul_le_mul_of_nonneg_left (show(1:Int)<=parts by lia) (show 0<=parts by lia);lia
   ·rcases PX with z|z
    ·rw[z] at v7;have R5:Bd (n+n+1004) parts:=by
      refine kq (by lia) ?_ M4;have h1:parts<=uu*p:=by
       have:=Int.mul_le_mul_of_nonneg_right (show(1:Int)<=uu by have:=gd.pos;lia) (show 0<=p by lia);lia
      lia
     exact .inr ((R5.mul R5).mono (by lia))
    ·exact .inl (Gm.2 z)
 ·have GP:¬1<nd:=by simpa using c
  walk_at "sf";refine aK (cC.of xh) rfl ?_;walk_at "sf";refine aK (cC.of xh) rfl ?_;walk_at "sf";refine⟨_,_,3*n+1020,rfl,PU.mono (by lia),LP.mono (by lia),by lia,gd.pos,fun g1 c1 d1 xH Vr Vs xA Vt e1=>?_⟩;have sa:=au.new xH (.tup [.int c1,.int d1]);have LS:upd H2 g1 (.tup [.int c1,.int d1]) g1=some (.tup [.int c1,.int d1]):=ak;generalize upd H2 g1 (.tup [.int c1,.int d1])=H3 at sa LS ⊢;have LU:=sa _ _ xh;walk_at "sf";refine aK (cC.of LU) rfl ?_;walk_at "sf";refine aK (cC.of LU) rfl ?_;walk_at "sf";refine⟨_,_,3*n+1020,rfl,PV.mono (by lia),LP.mono (by lia),by lia,gd.pos,fun g2 c2 d2 Vu Vv Vw hd2 Vx e2=>?_⟩;have sb:=au.new Vu (.tup [.int c2,.int d2]);have LV:upd H3 g2 (.tup [.int c2,.int d2]) g2=some (.tup [.int c2,.int d2]):=ak;generalize upd H3 g2 (.tup [.int c2,.int d2])=H4 at sb LV ⊢;walk_at "sf";intro pp sF;have sc:=au.new sF (.tup [.ref g1,.ref g2]);have v1:vl c1 d1=vl s0 uu:=(ko xA gd.pos).mpr e1;have v2:vl c2 d2=vl C4 uu:=(ko hd2 gd.pos).mpr e2;refine q pp g1 g2 c1 d1 c2 d2 _ (s2.trans (sa.trans (sb.trans sc))) ak ⟨sc _ _ (sb _ _ LS),xA,Vt⟩ ⟨sc _ _ LV,hd2,Vx⟩ ⟨by rw[v1];exact gd.lo,by rw[v2];exact gd.hi,?_,?_,Vr,Vs,Vv,Vw⟩
  ·rw[v1,v2,Cb];refine(gi gd.pos Jm).mpr ?_;have:nd*(w0*uu)<=1*(w0*uu):=Int.mul_le_mul_of_nonneg_right (by lia) (Int.le_of_lt hr);lia
  ·unfold EA;rw[v1,v2,lP xA gd.pos v1,lP hd2 gd.pos v2];rcases gd.alt with z|z
   ·exact .inl ⟨(jx gd.pos gd.pos).mpr (Int.mul_lt_mul_of_pos_right (by lia) gd.pos),z.2.2⟩
   ·refine .inr ⟨by rw[z.1],uc.mp ?_⟩;show sg (hv c1 d1 xs)=0;rw[lP xA gd.pos v1];exact uc.mpr z.2
end
end dH
namespace dH
open PySem PyProof.Rows L2 SF SF.Po
noncomputable abbrev jS:Stmt:=inClass (top 45) 0
theorem EC:aA ["self","poly","pair","weight"] ["self","poly","pair","weight"] (ao jS):=⟨rfl,rfl,rfl,by decide +kernel,rfl,by decide +kernel,by decide +kernel⟩
structure Rc(K:PySem.W.Frag)(mg:Str->Option Value)(C fI:Addr)(fd:FuncData):Prop where
 m:mg "Root"=some (.ref C)
 R6:Mk K C fI
 cl:Dh K C
 n1:gZ K C "poly"
 n2:gZ K C "pair"
 n3:gZ K C "weight"
 ex:∃(oc:Value)(od:Option Addr)(dV kV doc pm:Value)(an:Option Addr)(cD ct:Value)(xg:Array (Option Value)),
  fd=PySem.W.fnOf "__init__" "Root.__init__" (fB jS) (eI jS) (ao jS) dV kV doc pm an cD ct/\K.lookup fI=some ⟨oc,od,.func fd,xg⟩/\PySem.W.codeIn K cD "Root.__init__"=true
 b:Binds K fd ["self","poly","pair","weight"] []
noncomputable def wo(C:Addr):Sp:=fun vs H Q _=>∃(x dx:Addr)(v1 v2 v3:V),vs=[.ref x,v1,v2,v3]/\H x=some (.ins C dx [])/\∀H',(∀c,c≠x->H' c=H c)->H' x=some (.ins C dx [("poly",v1),("pair",v2),("weight",v3)])->Q .eT H'
section
variable {P:Program} {w:World} {K:PySem.W.Frag} {mg:Str->Option Value} {base:Heap} {C fI:Addr} {fd:FuncData}
theorem ED(RC:Rc K mg C fI fd):iN P w K mg base z_ 1 fI fd ["self","poly","pair","weight"] (wo C):=by
 obtain⟨oc,od,dV,kV,doc,pm,an,cD,ct,xg,rfl,lk,rG⟩:=RC.ex;refine Fn lk rG EC (fun vs H Q E h=>?_) fun A outer s H vs Q E hr h=>?_
 ·obtain⟨x,dx,v1,v2,v3,rfl,_⟩:=h;rfl
 obtain⟨x,dx,v1,v2,v3,rfl,hx,q⟩:=h;refine⟨_,uM.IU (ae (uZ (pv 0) (pv 1) ?s1) (ae (uZ (pv 0) (pv 2) ?s2) (ah (uZ (pv 0) (pv 3) ?s3)))),?_⟩
 case s1=>rfl
 case s2=>rfl
 case s3=>rfl
 walk_at "sf";refine⟨_,rfl,_,rfl,x,C,dx,[],rfl,hx,RC.cl,RC.n1,by decide,?_⟩;walk_at "sf";refine⟨_,rfl,_,rfl,x,C,dx,_,rfl,ak,RC.cl,RC.n2,Nat.lt_of_le_of_lt (fj _ _ _) (by decide),?_⟩;walk_at "sf";refine⟨_,rfl,_,rfl,x,C,dx,_,rfl,ak,RC.cl,RC.n3,Nat.lt_of_le_of_lt (fj _ _ _) (Nat.lt_of_le_of_lt (Nat.add_le_add_right (fj _ _ _) 1) (by decide)),?_⟩;walk_at "sf";refine q _ (fun c hc=>?_) ?_
 ·rw[aH hc,aH hc,aH hc]
 ·rw[ak];rfl
end
end dH
namespace dH
open PySem PyProof.Rows L2 SF SF.Po
noncomputable def Cf:Sp:=fun vs H Q _=>∃(g h:Addr)(t u t' u':Int),vs=[.ref g,.ref h]/\H g=some (.tup [.int t,.int u])/\H h=some (.tup [.int t',.int u'])/\(Bd 100000 t/\Bd 100000 u/\Bd 100000 t'/\Bd 100000 u')/\Q (.int (sg (t*u'-t'*u))) H
structure Nv where
 r:Addr
 dx:Addr
 pl:Addr
 pp:Addr
 g:Addr
 h:Addr
 zs:List Int
 t:Int
 u:Int
 t':Int
 u':Int
 w:Int
structure Nv.Hx(H:Hp)(C:Addr)(v:Nv):Prop where
 ir:H v.r=some (.ins C v.dx [("poly",.ref v.pl),("pair",.ref v.pp),("weight",.int v.w)])
 hl:IL H v.pl v.zs
 hp:H v.pp=some (.tup [.ref v.g,.ref v.h])
 rl:Rt H v.g v.t v.u
 rh:Rt H v.h v.t' v.u'
theorem Nv.Hx.same{H H':Hp}{C:Addr}{v:Nv}(x:v.Hx H C)(s:au H H'):v.Hx H' C:=⟨s _ _ x.ir,s _ _ x.hl,s _ _ x.hp,x.rl.same s,x.rh.same s⟩
structure Nv.Px(v:Nv)(x:Re):Prop where
 iso:nC v.zs x (vl v.t v.u) (vl v.t' v.u')
 EB:EA v.zs v.t v.u v.t' v.u'
 lz:v.zs.length<=13
 az:Ab 100 v.zs
 bt:Bd 20000 v.t
 bu:Bd 20000 v.u
 Ji:Bd 20000 v.t'
 F':Bd 20000 v.u'
theorem wq{t u t' u':Int}(hu:0<u)(dM:0<u'):sg (t*u'-t'*u)=aT (Re.q (vl t u)-Re.q (vl t' u')):=by
 have h1:=jx (t:=t) (t':=t') hu dM;have h2:=jx (t:=t') (t':=t) dM hu;unfold sg;split
 ·rename_i z;have:=Re.dP.mpr (h1.mpr (by lia));rw[SF.Re.cG (by grind)]
 ·split
  ·rename_i z;have:=Re.dP.mpr (h2.mpr (by lia));rw[SF.Re.bK (by grind)]
  ·have e:vl t u=vl t' u':=(ko hu dM).mpr (by lia);have z:Re.q (vl t' u')-Re.q (vl t' u')=0:=by grind
   rw[e,z,SF.Re.bC]
theorem Nv.Px.side{v:Nv}{x:Re}(px:v.Px x){z:Rat}(h:aT (Re.q (vl v.t v.u)-Re.q z)=aT (Re.q (vl v.t' v.u')-Re.q z)):aT (Re.q (vl v.t v.u)-Re.q z)=aT (x-Re.q z):=by
 have h1:=px.iso.ge;have h2:=px.iso.le;rcases SF.Re.aS (Re.q (vl v.t v.u)-Re.q z) with a|a|a<;>rcases SF.Re.aS (Re.q (vl v.t' v.u')-Re.q z) with b|b|b<;>rw[a.2,b.2] at h<;>
  first|(exfalso;revert h;decide)|skip
 ·rw[a.2,SF.Re.cG (by grind)]
 ·have:x-Re.q z=0:=by grind
  rw[a.2,this,SF.Re.bC]
 ·rw[a.2,SF.Re.bK (by grind)]
theorem Nv.Px.within{v:Nv}{x:Re}(px:v.Px x){z:Rat}(h:¬aT (Re.q (vl v.t v.u)-Re.q z)=aT (Re.q (vl v.t' v.u')-Re.q z)):aT (at' (Re.q (vl v.t v.u)) (aq v.zs))*aT (at' (Re.q z) (aq v.zs))=aT (x-Re.q z):=by
 have h1:=px.iso.ge;have h2:=px.iso.le;have lt:vl v.t v.u<vl v.t' v.u':=by
  refine Re.dP.mp ?_;rcases SF.Re.Aa (Re.q (vl v.t v.u)) (Re.q (vl v.t' v.u')) with w|w|w
  ·exact w
  ·exact absurd (by rw[w]) h
  ·exfalso;grind
 obtain⟨k1,k2⟩:=px.iso.st lt;obtain⟨c,hc,hs⟩:=px.iso.sn;have w:vl v.t v.u<=z/\z<=vl v.t' v.u':=by
  constructor<;>refine Re.cy.mp ?_
  ·rcases SF.Re.aS (Re.q (vl v.t v.u)-Re.q z) with a|a|a
   ·grind
   ·grind
   ·exact absurd (by rw[a.2,SF.Re.bK (by grind)]) h
  ·rcases SF.Re.aS (Re.q (vl v.t' v.u')-Re.q z) with a|a|a
   ·exact absurd (by rw[a.2,SF.Re.cG (by grind)]) h
   ·grind
   ·grind
 have ec:Re.q z-x=-(x-Re.q z):=by grind
 rw[hs _ Rat.le_refl (Rat.le_of_lt lt),hs z w.1 w.2,SF.Re.cG (x:=Re.q (vl v.t v.u)-x) (by grind),ec,SF.Re.qC];rcases hc with rfl|rfl<;>lia
section
variable {P:Program} {w:World} {K:PySem.W.Frag} {mg:Str->Option Value} {base:Heap} {C fI:Addr} {fd:FuncData}
theorem ue(gb:bq P w K mg base 1 "sign" ["number"] lj)(D:aL K mg "order_of" jD ["one","other"]):bq P w K mg base 2 "order_of" ["one","other"] Cf:=by
 refine D.ok tG (fun vs H Q E h=>?_) (fun f cD A outer s H vs Q E hr h=>?_)
 ·obtain⟨g,h,t,u,t',u',rfl,_⟩:=h;rfl
 obtain⟨g,h,t,u,t',u',rfl,hg,hh,⟨b1,b2,b3,b4⟩,q⟩:=h;refine⟨_,(ah (ax (av gb hr (aa (aj bJ (aj aw (aD aC (pv 0) af (fun _ _=>rfl)) (aD aC (pv 1) af (fun _ _=>rfl))) (aj aw (aD aC (pv 1) af (fun _ _=>rfl)) (aD aC (pv 0) af (fun _ _=>rfl)))) ag)))),?_⟩;walk_at "sf";refine aK (cC.of hg) rfl ?_;walk_at "sf";refine aK (cC.of hh) rfl ?_;refine bN (aR b1 b4 (by decide)) ?_;walk_at "sf";refine aK (cC.of hh) rfl ?_;walk_at "sf";refine aK (cC.of hg) rfl ?_;refine bN (aR b3 b2 (by decide)) ?_;walk_at "sf";exact⟨_,rfl,q⟩
noncomputable def pG(C:Addr):Sp:=fun vs H Q _=>∃(v:Nv)(g:Addr)(t u:Int)(x:Re),vs=[.ref v.r,.ref g]/\v.Hx H C/\v.Px x/\H g=some (.tup [.int t,.int u])/\0<u/\Bd 100000 t/\Bd 100000 u/\Q (.int (aT (x-Re.q (vl t u)))) H
theorem wu(RC:Rc K mg C fI fd)(iJ:bq P w K mg base 35 "order_of" ["one","other"] Cf)(fK:bq P w K mg base 35 "sign_at" ["poly","given"] En)(D:aL K mg "against" kY ["number","given"]):bq P w K mg base 36 "against" ["number","given"] (pG C):=by
 refine D.ok jM (fun vs H Q E h=>?_) (fun f cD A outer s H vs Q E hr h=>?_)
 ·obtain⟨v,g,t,u,x,rfl,_⟩:=h;rfl
 obtain⟨v,g,t,u,x,rfl,hx,px,hg,hu,bt,bu,q⟩:=h;have gR:jQ=60000000:=rfl;refine⟨_,(ae (ai (i:=2) jM.nd rfl (Or.inl rfl) (aD aC (kD (pv 0) rfl) af (fun _ _=>rfl)))
  (ae (ai (i:=3) jM.nd rfl (Or.inl rfl) (av iJ hr (aa (pv 2) (aa (pv 1) ag))))
  (ae (bO (aB dN (pv 3) (av iJ hr (aa (aD aC (kD (pv 0) rfl) af (fun _ _=>rfl)) (aa (pv 1) ag))) (aE _))
  (ah (ax (pv 3)))
  aO)
  (ah (ax (aj aw (av fK hr (aa (kD (pv 0) rfl) (aa (pv 2) ag))) (av fK hr (aa (kD (pv 0) rfl) (aa (pv 1) ag))))))))),?_⟩;walk_at "sf";refine⟨_,rfl,_,C,_,_,_,rfl,hx.ir,RC.cl,RC.n2,rfl,?_⟩;walk_at "sf";refine aK (cC.of hx.hp) rfl ?_;walk_at "sf";refine⟨v.g,g,_,_,_,_,rfl,hx.rl.1,hg,⟨px.bt.mono (by decide),px.bu.mono (by decide),bt,bu⟩,?_⟩;rw[wq hx.rl.2.1 hu];walk_at "sf";refine⟨_,rfl,_,C,_,_,_,rfl,hx.ir,RC.cl,RC.n2,rfl,?_⟩;walk_at "sf";refine aK (cC.of hx.hp) rfl ?_;walk_at "sf";refine⟨v.h,g,_,_,_,_,rfl,hx.rh.1,hg,⟨px.Ji.mono (by decide),px.F'.mono (by decide),bt,bu⟩,?_⟩;rw[wq hx.rh.2.1 hu];walk_at "sf";refine dI (fun c=>?_) (fun c=>?_)
 ·walk_at "sf";rw[px.side (by simpa using c)];exact q
 ·walk_at "sf";refine⟨_,rfl,_,C,_,_,_,rfl,hx.ir,RC.cl,RC.n1,rfl,?_⟩;walk_at "sf";refine⟨v.pl,v.g,v.zs,_,_,100,20000,rfl,hx.hl,hx.rl.1,⟨by have:=px.lz;lia,px.az,px.bt,px.bu,by lia⟩,?_⟩;walk_at "sf";refine⟨_,rfl,_,C,_,_,_,rfl,hx.ir,RC.cl,RC.n1,rfl,?_⟩;walk_at "sf";refine⟨v.pl,g,v.zs,_,_,100,100000,rfl,hx.hl,hg,⟨by have:=px.lz;lia,px.az,bt,bu,by lia⟩,?_⟩;walk_at "sf";refine bN (aR (yr _) (yr _) (by decide)) ?_;have e:=px.within (z:=vl t u) (by simpa using c);rw[gS hx.rl.2.1,gS hu];have e2:aT (at' (Re.q ((v.t:Rat)/(v.u:Rat))) (aq v.zs))*aT (at' (Re.q ((t:Rat)/(u:Rat))) (aq v.zs))=aT (x-Re.q (vl t u)):=e;rw[e2];exact q
end
end dH
namespace dH
open PySem PyProof.Rows L2 SF SF.Po
theorem uf{c:Bool}{A B:Prop}(h1:c=true->B->A)(h:B):if c=true then A else B:=by
 cases c with
 |true=>rw[if_pos rfl];exact h1 rfl h
 |false=>rw[if_neg (by decide)];exact h
theorem Cg{C:Addr}{sp:Sp}{dvs:List V}{E:XK}{t:TA}{σ:L2.St}{H:Hp}{Q:VK}(h:t σ H fun vs H1=>∀x dx,H1 x=none->H1 dx=none->dx≠x->sp (.ref x::(vs++dvs)) (upd (upd H1 dx (.own x)) x (.ins C dx [])) (fun v H2=>v=.eT/\Q (.ref x) H2) E):Fm C sp dvs E t σ H Q:=h
theorem uh{H1 H':Hp}{C x dx:Addr}(h1:H1 x=none)(h2:H1 dx=none)(n:dx≠x)(h:∀c,c≠x->H' c=upd (upd H1 dx (.own x)) x (.ins C dx []) c):au H1 H':=fun c o e=>by
 rw[h c (aI e h1),aH (aI e h1),aH (aI e h2)];exact e
theorem Ci(t u:Int):hv t u [-t,u]=0:=by
 simp[hv,ay,co];grind
noncomputable def Gives(C:Addr)(H:Hp)(x:Re)(Q:VK):Prop:=∀(v:Nv)(H':Hp),au H H'->v.Hx H' C->v.Px x->Q (.ref v.r) H'
noncomputable def mD(C:Addr):Sp:=fun vs H Q _=>∃(g:Addr)(t u:Int),vs=[.ref g]/\Rt H g t u/\Bd 100 t/\Bd 100 u/\Gives C H (Re.q (vl t u)) Q
noncomputable def yz(C:Addr):Sp:=fun vs H Q _=>∃(a pr g h:Addr)(zs:List Int)(t u t' u' wt:Int)(x:Re),vs=[.ref a,.ref pr,.int wt]/\IL H a zs/\H pr=some (.tup [.ref g,.ref h])/\Rt H g t u/\Rt H h t' u'/\
 (zs.length<=13/\Ab 100 zs/\zs≠[]/\0<co zs (zs.length-1))/\(Bd 6000 t/\Bd 6000 u/\Bd 6000 t'/\Bd 6000 u')/\nC zs x (vl t u) (vl t' u')/\EA zs t u t' u'/\(∀z:Rat,at' (Re.q z) (aq zs)≠0)/\∀(v:Nv)(H':Hp),au H H'->v.Hx H' C->v.Px x->v.pl=a->Q (.ref v.r) H'
theorem EA.re{zs:List Int}{t u t' u':Int}(h:EA zs t u t' u')(hu:0<u)(dM:0<u'):(vl t u<vl t' u'/\aT (at' (Re.q (vl t u)) (aq zs))*aT (at' (Re.q (vl t' u')) (aq zs))=-1)\/(vl t u=vl t' u'/\at' (Re.q (vl t u)) (aq zs)=0):=by
 rcases h with⟨h1,h2⟩|⟨h1,h2⟩
 ·rw[gS hu,gS dM] at h2;exact .inl ⟨h1,h2⟩
 ·refine .inr ⟨h1,SF.Re.bc ?_⟩;have:=gS (t:=t) hu zs;rw[h2] at this;exact this.symm
section
variable {P:Program} {w:World} {K:PySem.W.Frag} {mg:Str->Option Value} {base:Heap} {C fI:Addr} {fd:FuncData}
theorem uk(RC:Rc K mg C fI fd)(wx:iN P w K mg base z_ 34 fI fd ["self","poly","pair","weight"] (wo C))(D:aL K mg "of_ratio" jL ["given"]):bq P w K mg base 36 "of_ratio" ["given"] (mD C):=by
 refine D.ok tI (fun vs H Q E h=>?_) (fun f cD A outer s H vs Q E hr h=>?_)
 ·obtain⟨g,t,u,rfl,_⟩:=h;rfl
 obtain⟨g,t,u,rfl,rg,bt,bu,q⟩:=h;refine⟨_,(ah (ax (xf (dvs:=[]) (E:=E0) RC.R6 wx hr rfl RC.m RC.b .nil AF (aa (eV (aa (dn bY (aD aC (pv 0) af (fun _ _=>rfl))) (aa (aD aC (pv 0) af (fun _ _=>rfl)) ag))) (aa (cL (aa (pv 0) (aa (pv 0) ag))) (aa af ag)))))),?_⟩;walk_at "sf";refine Cg ?_;walk_at "sf";refine aK (cC.of rg.1) rfl ?_;walk_at "sf";refine aK (cC.of rg.1) rfl ?_;walk_at "sf";intro pl rJ;have s1:=au.new rJ (.lst [V.int (-t),V.int u]);have h1:upd H pl (.lst [V.int (-t),V.int u]) pl=some (.lst ([-t,u].map V.int)):=ak;generalize upd H pl (.lst [V.int (-t),V.int u])=H1 at s1 h1 ⊢;walk_at "sf";intro pp sF;have s2:=au.new sF (.tup [.ref g,.ref g]);have h2:upd H1 pp (.tup [.ref g,.ref g]) pp=some (.tup [.ref g,.ref g]):=ak;generalize upd H1 pp (.tup [.ref g,.ref g])=H2 at s2 h2 ⊢;walk_at "sf";intro x dx e1 e2 e3;refine⟨x,dx,_,_,_,rfl,ak,fun H' hk hx=>⟨rfl,?_⟩⟩;have s3:=uh e1 e2 e3 hk;have R7:=rg.same (s1.trans (s2.trans s3));refine q ⟨x,dx,pl,pp,g,g,[-t,u],t,u,t,u,1⟩ H' (s1.trans (s2.trans s3)) ⟨hx,s3 _ _ (s2 _ _ h1),s3 _ _ h2,R7,R7⟩ ⟨nC.ratio rg.2.1,.inr ⟨rfl,Ci t u⟩,by show 2<=13;decide,fun y hy=>?_,bt.mono (by decide),bu.mono (by decide),bt.mono (by decide),bu.mono (by decide)⟩;rcases List.mem_cons.mp hy with z|z
 ·rw[z];unfold Bd at*;rw[Int.natAbs_neg];exact bt
 ·rw[List.mem_singleton.mp z];exact bu
theorem rf(hT:P.given.tree=none)(RC:Rc K mg C fI fd)(wx:iN P w K mg base z_ 35 fI fd ["self","poly","pair","weight"] (wo C))(jT:bq P w K mg base 36 "narrowed" ["free","pair","width"] (nY (fun _=>True) id))(dX:bq P w K mg base 36 "of_ratio" ["given"] (mD C))(eP:bq P w K mg base 36 "ratio" ["top","under"] pD)(iJ:bq P w K mg base 36 "order_of" ["one","other"] Cf)(fK:bq P w K mg base 36 "sign_at" ["poly","given"] En)(D:aL K mg "number_in" i8 ["free","pair","weight"]):bq P w K mg base 37 "number_in" ["free","pair","weight"] (yz C):=by
 refine D.ok dG (fun vs H Q E h=>?_) (fun f cD A outer s H vs Q E hr h=>?_)
 ·obtain⟨a,pr,g,h,zs,t,u,t',u',wt,x,rfl,_⟩:=h;rfl
 obtain⟨a,pr,g,h,zs,t,u,t',u',wt,x,rfl,ha,PN,rg,rh,⟨lz,az,P5,Cj⟩,⟨b1,b2,b3,b4⟩,iso,EB,K6,q⟩:=h;have gR:jQ=60000000:=rfl;have bl:=az.co (zs.length-1);refine⟨_,(ae (ai (i:=3) dG.nd rfl (Or.inl rfl) (aD bI (pv 0) (dn bY af) (fun _ _=>rfl)))
  (ae (ai (i:=4) dG.nd rfl (Or.inl rfl) (av jT hr (aa (pv 0) (aa (pv 1) (aa (cL (aa af (aa (pv 3) ag))) ag)))))
  (ae (ai (i:=5) dG.nd rfl (Or.inl rfl) (aD aC (pv 4) af (fun _ _=>rfl)))
  (ae (ai (i:=6) dG.nd rfl (Or.inl rfl) (aD aC (pv 4) af (fun _ _=>rfl)))
  (ae (bO (aB (Hi hr.Ax) (pv 5) (pv 6) (aE _))
  (ah (ax (av dX hr (aa (pv 5) ag))))
  aO)
  (ae (ai (i:=7) dG.nd rfl (Or.inl rfl) (av eP hr (aa (aj bA (aj (dB ⟨hT,⟨_,_,rfl,rfl,rfl,rfl,rfl⟩,hr.py⟩) (aj aw (aD aC (pv 5) af (fun _ _=>rfl)) (pv 3)) (aD aC (pv 5) af (fun _ _=>rfl))) af) (aa (pv 3) ag))))
  (ae (bO (PW.pt (jy (aB iL (av iJ hr (aa (pv 7) (aa (pv 6) ag))) af (aE _)) (gX (aB dN (av fK hr (aa (pv 0) (aa (pv 7) ag))) af (aE _)))))
  (ah (ax (av dX hr (aa (pv 7) ag))))
  aO)
  (ah (ax (xf (dvs:=[]) (E:=E0) RC.R6 wx hr rfl RC.m RC.b .nil AF (aa (pv 0) (aa (pv 4) (aa (pv 2) ag))))))))))))),?_⟩;walk_at "sf";refine dr (aZ.of ha) (fE P5) ?_;generalize co zs (zs.length-1)=l at Cj bl;walk_at "sf";intro wd Iw;have s1:=au.new Iw (.tup [.int 1,.int l]);have h1:upd H wd (.tup [.int 1,.int l]) wd=some (.tup [.int 1,.int l]):=ak;generalize upd H wd (.tup [.int 1,.int l])=H1 at s1 h1 ⊢;walk_at "sf";refine⟨a,pr,g,h,wd,zs,t,u,t',u',1,l,6000,rfl,s1 _ _ ha,s1 _ _ PN,(rg.same s1).1,(rh.same s1).1,h1,trivial,⟨lz,az⟩,⟨b1,b2,b3,b4,by decide,Bd.mono (m:=1) (by show(1:Int).natAbs<2^1;decide) (by decide),bl.mono (by decide),rg.2.1,rh.2.1,by decide,Cj⟩,EB,fun pn g2 h2 c d c' d' H2 s2 v7 r2 Jq nw=>?_⟩;have dJ:=s1.trans s2;have R8:=nw.EB.re r2.2.1 Jq.2.1;have EE:=iso.part nw.lo nw.hi R8;have Vy:vl c d<vl c' d':=by
  rcases R8 with z|z
  ·exact z.1
  ·exact absurd z.2 (K6 _)
 walk_at "sf";refine aK (cC.of v7) rfl ?_;walk_at "sf";refine aK (cC.of v7) rfl ?_;walk_at "sf";refine⟨g2,h2,c,d,c',d',rfl,rfl,cC.of r2.1,cC.of Jq.1,?_⟩;have ne:(c==c'&&d==d')=false:=by
  rw[Bool.and_eq_false_iff,beq_eq_false_iff_ne,beq_eq_false_iff_ne];by_cases z:c=c'
  ·refine .inr fun z2=>?_;rw[z,z2] at Vy;grind
  ·exact .inl z
 rw[ne];walk_at "sf";refine kF ?_;walk_at "sf";refine aK (cC.of r2.1) rfl ?_;walk_at "sf";refine bN (aR nw.b1 bl (by decide)) ?_;walk_at "sf";refine aK (cC.of r2.1) rfl ?_;refine bN (by have:=r2.2.1;lia) ?_;walk_at "sf";have bf:Bd 19200 ((c*l).fdiv d):=by
  have b5:=nw.b1.mul bl;rw[dO r2.2.1];unfold Bd at*;have e:=Int.natAbs_ediv_le_natAbs (c*l) d;exact Nat.lt_of_le_of_lt e (Nat.lt_of_lt_of_le b5 (Nat.pow_le_pow_right (by decide) (by decide)))
 have P6:Bd 19300 ((c*l).fdiv d+1):=(bf.add (Bd.mono (m:=1) (by show(1:Int).natAbs<2^1;decide) (by decide))).mono (by decide);refine⟨_,l,19300,rfl,P6,bl.mono (by decide),by decide,Cj,fun p3 tg ug Ei M7 M8 M9 _ _=>?_⟩;have s3:=au.new Ei (.tup [.int tg,.int ug]);have h3:upd H2 p3 (.tup [.int tg,.int ug]) p3=some (.tup [.int tg,.int ug]):=ak;generalize upd H2 p3 (.tup [.int tg,.int ug])=H3 at s3 h3 ⊢;walk_at "sf";refine⟨p3,h2,_,_,_,_,rfl,h3,s3 _ _ Jq.1,⟨M7.mono (by decide),M8.mono (by decide),nw.b3.mono (by decide),nw.b4.mono (by decide)⟩,?_⟩;walk_at "sf";refine uf (fun _ hB=>?_) ?_
 ·walk_at "sf";refine⟨a,p3,zs,tg,ug,100,19300,rfl,s3 _ _ (dJ _ _ ha),h3,⟨by lia,az,M7,M8,by lia⟩,?_⟩;walk_at "sf";have nz:sg (hv tg ug zs)≠0:=fun z=>by
   rw[gS M9] at z;exact K6 _ (SF.Re.bc z)
  rw[decide_eq_false nz];refine kF ?_;exact hB
 refine kF ?_;walk_at "sf";refine Cg ?_;walk_at "sf";intro x2 dx e1 e2 e3;refine⟨x2,dx,_,_,_,rfl,ak,fun H' hk hx=>⟨rfl,?_⟩⟩;have s4:=s3.trans (uh e1 e2 e3 hk);have R9:=dJ.trans s4;exact q ⟨x2,dx,a,pn,g2,h2,zs,c,d,c',d',wt⟩ H' R9 ⟨hx,R9 _ _ ha,s4 _ _ v7,r2.same s4,Jq.same s4⟩ ⟨EE,nw.EB,lz,az,nw.b1.mono (by decide),nw.b2.mono (by decide),nw.b3.mono (by decide),nw.b4.mono (by decide)⟩ rfl
end
end dH
namespace dH
open PySem PyProof.Rows L2 SF SF.Po
section
variable {K:PySem.W.Frag} {own:List Str} {fr:List Nat} {g:TG} {te:TE} {σ:L2.St} {H1:Hp} {Q:VK}
theorem wy{a:Addr}{xs:List V}(hS:aZ K H1 a xs)(Pv:List V->Hp->Prop)(hz:xs.length<=sizeLine)(p0:∀H2,au H1 H2->Pv [] H2)(hu:∀ys H D l l',H1 D=none->H D=some (.lst l)->Pv ys H->Pv ys (upd H D (.lst l')))(hs:∀(i:Nat)(x:V)(r:L2.St)(ys:List V)(H2:Hp),xs[i]?=some x->r.length=own.length->ys.length=i->Pv ys H2->au H1 H2->∀Z:V->L2.St->Hp->Prop,(∀y dw H5,au H2 H5->Pv (ys++[y]) H5->(∃r',r'.length=own.length/\dw=r'++p_ fr σ)->Z y dw H5)->g x (r++p_ fr σ) H2 fun dw H4=>te dw H4 fun y H5=>Z y dw H5)(hq:∀D H2 ys,H1 D=none->au H1 H2->H2 D=some (.lst ys)->ys.length=xs.length->Pv ys H2->Q (.ref D) H2):jA (rH K a) own fr σ g te H1 Q:=by
 intro D hD;refine⟨fun i m fM H2=>m=xs.length-i/\i<=xs.length/\au H1 H2/\(∃r:L2.St,r.length=own.length/\fM=r++p_ fr σ)/\∃ys,ys.length=i/\Pv ys H2/\H2 D=some (.lst ys),⟨xs.length,rfl,Nat.zero_le _,au.new hD _,⟨_,List.length_replicate,rfl⟩,[],rfl,p0 _ (au.new hD _),ak⟩,fun i m fM H2 w=>?_⟩;obtain⟨rfl,hi,dJ,⟨r,hr,rfl⟩,ys,hl,hp,hy⟩:=w;by_cases eE:i<xs.length
 ·refine .inr ⟨⟨xs,xs[i],dJ.seq hS,by simp[eE]⟩,fun x H3 y=>?_⟩;obtain⟨rfl,y⟩:=y;refine hs i x r ys _ (y xs (dJ.seq hS)) hr hl hp dJ _ fun v dw H5 AM pv⟨r',Dw,e⟩=>?_;refine⟨ys,AM _ _ hy,by lia,xs.length-(i+1),by lia,rfl,eE,fun b o q=>?_,⟨r',Dw,e⟩,ys++[v],by rw[List.length_append,hl];rfl,hu _ _ _ _ _ hD (AM _ _ hy) pv,ak⟩;rw[aH (aI q hD)];exact AM _ _ (dJ _ _ q)
 ·obtain rfl:i=xs.length:=by lia
  exact .inl ⟨⟨xs,dJ.seq hS,Nat.le_refl _⟩,hq D H2 ys hD dJ hy hl hp⟩
end
theorem Nv.Hx.upd{H:Hp}{C D:Addr}{v:Nv}{l l':List V}(x:v.Hx H C)(hD:H D=some (.lst l))(n:v.pl≠D):v.Hx (L2.upd H D (.lst l')) C:=by
 have key:∀(c:Addr)(o:HO),c≠D->H c=some o->L2.upd H D (.lst l') c=some o:=fun c o z e=>by rw[aH z];exact e
 have k2:∀(c:Addr)(vs:List V),H c=some (.tup vs)->c≠D:=fun c vs e z=>by rw[z,hD] at e;cases e
 exact⟨key _ _ (fun z=>by have:=x.ir;rw[z,hD] at this;cases this) x.ir,key _ _ n x.hl,key _ _ (k2 _ _ x.hp) x.hp,⟨key _ _ (k2 _ _ x.rl.1) x.rl.1,x.rl.2⟩,⟨key _ _ (k2 _ _ x.rh.1) x.rh.1,x.rh.2⟩⟩
structure Qd(p m d:Int)(s:Re):Prop where
 hd:0<d
 hm:ot m
 s0:0<s
 ss:s*s=(m:Re)
 bp:Bd 12 p
 bm:Bd 24 m
 bd:Bd 8 d
theorem Qd.ab{p m d:Int}{s:Re}(h:Qd p m d s):Ab 40 (qd p m d):=fun x hx=>by
 have b2:Bd 3 (2:Int):=Bd.of_two (by decide) (by decide);have b0:Bd 30 (0:Int):=Bd.mono (m:=1) (by show(0:Int).natAbs<2^1;decide) (by decide);unfold qd at hx;rcases List.mem_cons.mp hx with e|hx
 ·rw[e];exact((h.bp.mul h.bp).sub h.bm).mono (by decide)
 ·rcases List.mem_cons.mp hx with e|hx
  ·rw[e];exact(b0.sub ((b2.mul h.bp).mul h.bd |>.mono (by decide))).mono (by decide)
  ·rw[List.mem_singleton.mp hx];exact(h.bd.mul h.bd).mono (by decide)
theorem Qd.LW{p m d:Int}{s:Re}(h:Qd p m d s):BW (qd p m d):=⟨gP h.hd,lM _ _ _,by show 3<=_;decide,40,by decide,h.ab⟩
theorem Qd.P7{p m d:Int}{s:Re}(h:Qd p m d s):tS (uN (qd p m d)):=by
 rw[FY h.hd h.hm];refine⟨bW (gP h.hd),fun z=>?_,by rw[aP];show 3<=13;decide,(dD (gP h.hd) (lM _ _ _) h.ab).mono (by decide),H0 h.hd h.hm⟩;have:=congrArg List.length z;rw[aP] at this;cases this
noncomputable def yA(C:Addr):Sp:=fun vs H Q _=>∃(a:Addr)(p m d:Int)(s:Re),vs=[.ref a]/\IL H a (qd p m d)/\Qd p m d s/\
 ∀(l:Addr)(v0 v1:Nv)(H':Hp),au H H'->H' l=some (.lst [.ref v0.r,.ref v1.r])->v0.Hx H' C->v1.Hx H' C->v0.Px (ov ((p:Re)-s) d)->v1.Px (ov ((p:Re)+s) d)->Q (.ref l) H'
section
variable {P:Program} {w:World} {K:PySem.W.Frag} {mg:Str->Option Value} {base:Heap} {C fI:Addr} {fd:FuncData}
theorem Ck(T:Nm mg)(wz:bq P w K mg base 37 "isolated" ["poly"] Gi)(gC:bq P w K mg base 37 "square_free" ["poly"] (BP uN BW))(uo:bq P w K mg base 37 "number_in" ["free","pair","weight"] (yz C))(nV:bq P w K mg base 37 "degree" ["poly"] B5)(D:aL K mg "roots" qN ["poly"]):bq P w K mg base 38 "roots" ["poly"] (yA C):=by
 refine D.ok nM (fun vs H Q E h=>?_) (fun f cD A outer s H vs Q E hr h=>?_)
 ·obtain⟨a,p,m,d,s,rfl,_⟩:=h;rfl
 obtain⟨a,p,m,d,sq,rfl,ha,hq,q⟩:=h;refine⟨_,(ae (ai (i:=1) nM.nd rfl (Or.inl rfl) (av wz hr (aa (pv 0) ag)))
  (ae (ai (i:=2) nM.nd rfl (Or.inr rfl) (av gC hr (aa (pv 0) ag)))
  (ah (ax (g9 rfl rfl (iP (own:=["pair"]) (fr:=[2]) (fs:=["free"]) (by with_unfolding_all rfl) rfl (by decide +kernel) (by decide +kernel) (by exact⟨rfl,trivial⟩) (by with_unfolding_all rfl) (by exact⟨⟨rfl,rfl,rfl,Or.inl rfl⟩,trivial⟩)) (gn (pv 1)) (fun _ _ _ _ _=>(aQ (i:=0) (show List.Nodup (["pair","free"]:List Str) by decide +kernel) rfl (Or.inl rfl) (Or.inr rfl))) (fun _ _ _ _ _=>(av uo hr (aa (pv 1) (aa (pv 0) (aa (av nV hr (aa (pv 1) ag)) ag)))))))))),?_⟩;walk_at "sf";refine⟨a,_,rfl,ha,⟨hq.LW,hq.P7,by show 3<=13;decide⟩,fun r fs ps o b t u t' u' H1 s1 _ KN hF iso U2=>?_⟩;walk_at "sf";refine⟨a,_,rfl,s1 _ _ ha,hq.LW,fun p1 H2 s2 h2=>?_⟩;rw[FY hq.hd hq.hm] at iso h2;have two:=iso.two hq.hd hq.hm hq.s0 hq.ss fun f hf=>⟨(hF f hf).rl.2.1,(hF f hf).rh.2.1⟩;obtain⟨f0,f1,rfl,l0,l1,i0,i1⟩:=two;have l3:(ar (qd p m d)).length=3:=by rw[aP];rfl
 have az:Ab 100 (ar (qd p m d)):=(dD (gP hq.hd) (lM _ _ _) hq.ab).mono (by decide);have P5:ar (qd p m d)≠[]:=fun z=>by rw[z] at l3;cases l3
 have Cj:0<co (ar (qd p m d)) ((ar (qd p m d)).length-1):=by
  have:=ie (gP (p:=p) (m:=m) hq.hd) (lM _ _ _);rw[l3];exact this
 have K6:∀z:Rat,at' (Re.q z) (aq (ar (qd p m d)))≠0:=fun z w=>vM hq.hm z ((qH hq.hd _).mp w);generalize ar (qd p m d)=zs at*;walk_at "sf";refine ij (H1:=H2) (rH K r) (fun R hR=>?_) (wy (xs:=[V.ref f0.p,V.ref f1.p]) (aZ.of (s2 _ _ KN)) (fun ys H3=>∃vs:List Nv,ys=vs.map (fun v=>V.ref v.r)/\(∀v∈vs,v.Hx H3 C/\v.pl=p1)/\(∀v,vs[0]?=some v->v.Px (ov ((p:Re)-sq) d))/\(∀v,vs[1]?=some v->v.Px (ov ((p:Re)+sq) d))) (bZ (by show 2<=1000;decide)) ?_ ?_ ?_ ?_)
 ·walk_at "sf";exact⟨r,rfl,⟨_,aZ.of (s2 _ _ KN)⟩,hR⟩
 ·exact fun H3 _=>⟨[],rfl,fun v hv=>(nomatch hv),fun v e=>(nomatch e),fun v e=>(nomatch e)⟩
 ·rintro ys H3 D1 l l' hD hl ⟨vs,rfl,hv,e0,e1⟩;refine⟨vs,rfl,fun v hm=>⟨(hv v hm).1.upd hl ?_,(hv v hm).2⟩,e0,e1⟩;rw[(hv v hm).2];exact aI h2 hD
 ·rintro i x r1 ys H3 hx Et om ⟨vs,rfl,hv,e0,e1⟩ s3 Z hZ;obtain⟨x0,rfl⟩:=sE Et;rw[List.length_map] at om;have R_:∀f∈[f0,f1],f.Hx H3:=fun f hf=>(hF f hf).same (s2.trans s3);obtain⟨f,y,rfl,hf,pf,Vz,VA,ends⟩:∃(f:Fx)(y:Re),x=.ref f.p/\f.Hx H3/\f.Px zs ps/\nC zs y f.lo f.hi/\f.lo<f.hi/\(∀v:Nv,v.Px y->(∀v',(vs++[v])[0]?=some v'->v'.Px (ov ((p:Re)-sq) d))/\(∀v',(vs++[v])[1]?=some v'->v'.Px (ov ((p:Re)+sq) d))):=by
   match i,hx,om with
   |0,hx,om=>
    cases hx;have ev:vs=[]:=List.eq_nil_of_length_eq_zero om;subst ev;exact⟨f0,_,rfl,R_ f0 List.mem_cons_self,iso.px f0 List.mem_cons_self,i0,l0,fun v pv=>⟨fun v' e=>by cases e;exact pv,fun v' e=>(nomatch e)⟩⟩
   |1,hx,om=>
    cases hx;obtain⟨w0,rfl⟩:=sE om;exact⟨f1,_,rfl,R_ f1 (List.mem_cons_of_mem _ List.mem_cons_self),iso.px f1 (List.mem_cons_of_mem _ List.mem_cons_self),i1,l1,fun v pv=>⟨fun v' e=>e0 v' e,fun v' e=>by cases e;exact pv⟩⟩
  walk_at "sf";refine⟨p1,zs,rfl,s3 _ _ h2,?_⟩;walk_at "sf";refine⟨p1,f.p,f.gl,f.gh,zs,f.t,f.u,f.t',f.u',_,y,rfl,s3 _ _ h2,hf.hp,hf.rl,hf.rh,⟨by lia,az,P5,Cj⟩,⟨pf.bt,pf.bu,pf.Ji,pf.F'⟩,Vz,.inl ⟨VA,pf.sgn⟩,K6,fun v H4 s4 VC R' rJ=>?_⟩;walk_at "sf";refine hZ _ _ _ s4 ⟨vs++[v],by rw[List.map_append];rfl,fun v' hm=>?_,(ends v R').1,(ends v R').2⟩ ⟨[_],rfl,rfl⟩;rcases List.mem_append.mp hm with z|z
  ·exact⟨(hv v' z).1.same s4,(hv v' z).2⟩
  ·rw[List.mem_singleton.mp z];exact⟨VC,rJ⟩
 rintro D1 H3 ys hD Mw VD Sa ⟨vs,rfl,hv,e0,e1⟩;rw[List.length_map] at Sa;obtain⟨v0,v1,rfl⟩:∃v0 v1,vs=[v0,v1]:=by
  match vs,Sa with
  |[v0,v1],_=>exact⟨v0,v1,rfl⟩
 exact q D1 v0 v1 H3 (s1.trans (s2.trans Mw)) VD (hv v0 List.mem_cons_self).1 (hv v1 (List.mem_cons_of_mem _ List.mem_cons_self)).1 (e0 v0 rfl) (e1 v1 rfl)
end
end dH
namespace dH
open PySem PyProof.Rows L2 SF SF.Po
noncomputable def Cm(x:Re)(sc F:Int):Prop:=Re.q (vl F sc)<=x/\x<Re.q (vl (F+1) sc)
noncomputable def uq(C:Addr):Sp:=fun vs H Q _=>∃(v:Nv)(sc:Int)(x:Re),vs=[.ref v.r,.int sc]/\v.Hx H C/\v.Px x/\0<sc/\Bd 200 sc/\∀(F:Int)(H':Hp),au H H'->Cm x sc F->Q (.int F) H'
theorem jd{y:Re}:aT y<0↔y<0:=by
 rcases SF.Re.aS y with z|z|z
 ·rw[z.2];exact⟨fun _=>z.1,fun _=>by decide⟩
 ·rw[z.2];exact⟨fun w=>absurd w (by decide),fun w=>by exfalso;grind⟩
 ·rw[z.2];exact⟨fun w=>absurd w (by decide),fun w=>by exfalso;grind⟩
section
variable {P:Program} {w:World} {K:PySem.W.Frag} {mg:Str->Option Value} {base:Heap} {C fI:Addr} {fd:FuncData}
theorem nZ(hT:P.given.tree=none)(RC:Rc K mg C fI fd)(jT:bq P w K mg base 36 "narrowed" ["free","pair","width"] (nY (fun _=>True) id))(zJ:bq P w K mg base 36 "against" ["number","given"] (pG C))(eP:bq P w K mg base 36 "ratio" ["top","under"] pD)(D:aL K mg "floor_times" gB ["number","scale"]):bq P w K mg base 37 "floor_times" ["number","scale"] (uq C):=by
 refine D.ok f7 (fun vs H Q E h=>?_) (fun f cD A outer s H vs Q E hr h=>?_)
 ·obtain⟨v,sc,x,rfl,_⟩:=h;rfl
 obtain⟨v,sc,x,rfl,hx,px,Cn,Iz,q⟩:=h;refine⟨_,(ae (ai (i:=2) f7.nd rfl (Or.inl rfl) (aD aC (av jT hr (aa (kD (pv 0) rfl) (aa (kD (pv 0) rfl) (aa (cL (aa af (aa (pv 1) ag))) ag)))) af (fun _ _=>rfl)))
  (ae (ai (i:=3) f7.nd rfl (Or.inl rfl) (aj (dB ⟨hT,⟨_,_,rfl,rfl,rfl,rfl,rfl⟩,hr.py⟩) (aj aw (aD aC (pv 2) af (fun _ _=>rfl)) (pv 1)) (aD aC (pv 2) af (fun _ _=>rfl))))
  (ah (ax (eD (aB iL (av zJ hr (aa (pv 0) (aa (av eP hr (aa (aj bA (pv 3) af) (aa (pv 1) ag))) ag))) af (aE _)) (pv 3) (aj bA (pv 3) af)))))),?_⟩;walk_at "sf";refine⟨_,rfl,_,C,_,_,_,rfl,hx.ir,RC.cl,RC.n1,rfl,?_⟩;walk_at "sf";refine⟨_,rfl,_,C,_,_,_,rfl,hx.ir,RC.cl,RC.n2,rfl,?_⟩;walk_at "sf";intro wd Iw;have s1:=au.new Iw (.tup [.int 1,.int sc]);have h1:upd H wd (.tup [.int 1,.int sc]) wd=some (.tup [.int 1,.int sc]):=ak;generalize upd H wd (.tup [.int 1,.int sc])=H1 at s1 h1 ⊢;have mB:=hx.same s1;walk_at "sf";refine⟨v.pl,v.pp,v.g,v.h,wd,v.zs,v.t,v.u,v.t',v.u',1,sc,20000,rfl,mB.hl,mB.hp,mB.rl.1,mB.rh.1,h1,trivial,⟨px.lz,px.az⟩,⟨px.bt,px.bu,px.Ji,px.F',by decide,Bd.mono (m:=1) (by show(1:Int).natAbs<2^1;decide) (by decide),Iz.mono (by decide),hx.rl.2.1,hx.rh.2.1,by decide,Cn⟩,px.EB,fun pn g2 h2 c d c' d' H2 s2 v7 r2 Jq nw=>?_⟩;have dJ:=s1.trans s2;have EE:=px.iso.part nw.lo nw.hi (nw.EB.re r2.2.1 Jq.2.1);walk_at "sf";refine aK (cC.of v7) rfl ?_;walk_at "sf";refine aK (cC.of r2.1) rfl ?_;walk_at "sf";refine bN (aR nw.b1 Iz (by decide)) ?_;walk_at "sf";refine aK (cC.of r2.1) rfl ?_;refine bN (by have:=r2.2.1;lia) ?_;walk_at "sf";have bf:Bd 61220 ((c*sc).fdiv d):=by
  have b5:=nw.b1.mul Iz;rw[dO r2.2.1];unfold Bd at*;have e:=Int.natAbs_ediv_le_natAbs (c*sc) d;exact Nat.lt_of_le_of_lt e (Nat.lt_of_lt_of_le b5 (Nat.pow_le_pow_right (by decide) (by decide)))
 have dd:=r2.2.1;have f1:(c*sc).fdiv d*d<=c*sc:=by rw[dO dd];exact Int.ediv_mul_le _ (by lia)
 have f2:c*sc<((c*sc).fdiv d+1)*d:=by rw[dO dd];exact Int.lt_ediv_add_one_mul_self _ dd
 generalize (c*sc).fdiv d=W at*;have P6:Bd 61300 (W+1):=(bf.add (Bd.mono (m:=1) (by show(1:Int).natAbs<2^1;decide) (by decide))).mono (by decide);refine⟨_,sc,61300,rfl,P6,Iz.mono (by decide),by decide,Cn,fun p3 tg ug Ei M7 M8 M9 _ LX=>?_⟩;have s3:=au.new Ei (.tup [.int tg,.int ug]);have h3:upd H2 p3 (.tup [.int tg,.int ug]) p3=some (.tup [.int tg,.int ug]):=ak;generalize upd H2 p3 (.tup [.int tg,.int ug])=H3 at s3 h3 ⊢;have ev:vl tg ug=vl (W+1) sc:=(ko M9 Cn).mpr LX;have P8:=dJ.trans s3;walk_at "sf";refine⟨v,p3,tg,ug,x,rfl,hx.same P8,px,h3,M9,M7.mono (by decide),M8.mono (by decide),?_⟩;rw[ev];have lo1:vl W sc<=vl c d:=(gi Cn dd).mpr (by rw[Int.mul_comm W d] at f1;rw[Int.mul_comm W d];exact f1);have W_:vl c d<vl (W+1) sc:=(jx dd Cn).mpr f2;have g1:=EE.ge;have W':=EE.le;have q1:=Re.cy.mpr lo1;walk_at "sf";refine dI (fun c1=>?_) (fun c1=>?_)
 ·have c2:x-Re.q (vl (W+1) sc)<0:=jd.mp (by simpa using c1);walk_at "sf";exact q W H3 P8 ⟨by grind,by grind⟩
 ·have c2:¬x-Re.q (vl (W+1) sc)<0:=fun z=>c1 (by simpa using jd.mpr z);walk_at "sf";refine q (W+1) H3 P8 ⟨by grind,?_⟩;have Xa:=nw.wd;have e:=Cb (W+1) (W+1+1) sc;have e1:W+1+1-(W+1)=1:=by lia
  rw[e1] at e;have:vl c' d'<vl (W+1+1) sc:=by grind
  have:=Re.dP.mpr this;grind
end
end dH
namespace dH
open PySem PyProof.Rows L2 SF SF.Po
noncomputable def Gn:Sp:=fun vs H Q _=>∃n:Nat,vs=[.int (n:Int)]/\n<10^64/\Q (.str (S (oh n))) H
theorem zK{n:Nat}(h:n<10^64):n.log2<1920:=by
 by_cases hn:n=0
 ·subst hn;decide
 ·exact(Nat.log2_lt hn).mpr (Nat.lt_of_lt_of_le h (by
   have:(10:Nat)^64<=2^256:=by decide
   exact Nat.le_trans this (Nat.pow_le_pow_right (by decide) (by decide))))
noncomputable def md(l:List Nat)(k:Nat):List Nat:=List.replicate (k-l.length) 48++l
theorem kr(l:List Nat)(k:Nat):k<=(md l k).length/\l.length<=(md l k).length/\(md l k).length<=k+l.length:=by
 unfold md;rw[List.length_append,List.length_replicate];lia
theorem EF{l:List Nat}(h:∀c∈l,48<=c)(k:Nat):Txt.zfill (S l) (k:Int)=S (md l k):=by
 have hl:(S l).length=l.length:=cj l;unfold Txt.zfill md;by_cases hk:(k:Int)<=((S l).length:Int)
 ·rw[if_pos hk];have e:k-l.length=0:=by lia
  rw[e];rfl
 ·rw[if_neg hk,Int.toNat_natCast,hl];unfold zfilled;have e2:Builtin.Str.padded (S l) (k-l.length) 0 48=S (List.replicate (k-l.length) 48++l):=by
   unfold Builtin.Str.padded S;congr 1;apply Array.toList_inj.mp;simp
  split
  ·rename_i e;exfalso;have:(43:Nat)∈l:=by
    cases l with
    |nil=>cases e
    |cons a r=>cases e;exact List.mem_cons_self
   have:=h _ this;lia
  ·rename_i e;exfalso;have:(45:Nat)∈l:=by
    cases l with
    |nil=>cases e
    |cons a r=>cases e;exact List.mem_cons_self
   have:=h _ this;lia
  ·exact e2
noncomputable def bE(F:Int)(k:Nat):List Nat:=md (oh F.natAbs) (k+1)
noncomputable def rj(F:Int)(k:Nat):List Nat:=(if F<0 then[45] else[])++(bE F k).take ((bE F k).length-k)++(if 0<k then[46] else[])++(bE F k).drop ((bE F k).length-k)
theorem wA(k:Nat)(h:k<=31):Bd 200 ((10:Int)^k):=by
 unfold Bd;rw[Int.natAbs_pow];have h1:(10:Nat)^k<=10^31:=Nat.pow_le_pow_right (by decide) h;exact Nat.lt_of_le_of_lt h1 (by decide)
noncomputable def Gp(C:Addr):Sp:=fun vs H Q _=>∃(v:Nv)(k:Nat)(x:Re),vs=[.ref v.r,.int (k:Int)]/\v.Hx H C/\v.Px x/\k<=31/\(∀F,Cm x (10^k) F->F.natAbs<10^64)/\∀(F:Int)(H':Hp),au H H'->Cm x (10^k) F->Q (.str (S (rj F k))) H'
theorem LY{K:PySem.W.Frag}{T:String}{r:V->List V->Hp->VK->Prop}{te:TE}{ta:TA}{σ:L2.St}{H:Hp}{Q:VK}(h:te σ H fun x H1=>Mn K T x H1/\ta σ H1 fun vs H2=>r x vs H2 Q):Qu K T r te ta σ H Q:=h
theorem Co{c:Prop}[Decidable c]{a b:List Nat}{za zb:Str}{σ:L2.St}{H:Hp}{Q:VK}(ha:za=S a)(hb:zb=S b)(h:Q (.str (S (if c then a else b))) H):if decide c=true then tC (.str za) σ H Q else tC (.str zb) σ H Q:=by
 subst ha hb;by_cases hc:c
 ·rw[if_pos (decide_eq_true hc)];rw[if_pos hc] at h;exact h
 ·rw[if_neg (by rw[decide_eq_false hc];decide)];rw[if_neg hc] at h;exact h
theorem Cp:(Str.ofString ".":Str)=S [46]:=by first|(rfl;done)|kernel_rfl
theorem Gq:(Str.ofString "-":Str)=S [45]:=by first|(rfl;done)|kernel_rfl
theorem Cq:(Str.ofString "":Str)=S []:=by first|(rfl;done)|kernel_rfl
section
variable {P:Program} {w:World} {K:PySem.W.Frag} {mg:Str->Option Value} {base:Heap} {C fI:Addr} {fd:FuncData}
theorem oF(T:Nm mg)(D:aL K mg "figures_of" iD ["number"]):bq P w K mg base 1 "figures_of" ["number"] Gn:=by
 refine D.ok ox (fun vs H Q E h=>?_) (fun f cD A outer s H vs Q E hr h=>?_)
 ·obtain⟨n,rfl,_⟩:=h;rfl
 obtain⟨n,rfl,hn,q⟩:=h;refine⟨_,(ae (bO (aB iL (pv 0) (aj Au af af) (aE _)) (ah (ax (da pR rfl T.F5 boot_str (aa (pv 0) ag)))) aO) yJ),?_⟩;walk_at "sf";refine bN ⟨by decide,by decide,by decide⟩ ?_;have VE:((10:Int)^(64:Int).toNat)=((10^64:Nat):Int):=rfl;rw[VE];generalize hM:(10:Nat)^64=M at hn;walk_at "sf";rw[if_pos (decide_eq_true (by lia))];walk_at "sf";refine⟨_,rfl,by rw[Int.natAbs_natCast];exact zK (by rw[hM];exact hn),?_⟩;walk_at "sf";rw[<-Ed] at q;exact q
theorem wB(T:Nm mg)(oG:bq P w K mg base 37 "floor_times" ["number","scale"] (uq C))(kj:bq P w K mg base 37 "power" ["number","many"] BX)(rk:bq P w K mg base 37 "figures_of" ["number"] Gn)(D:aL K mg "decimal" kZ ["number","digits"]):bq P w K mg base 38 "decimal" ["number","digits"] (Gp C):=by
 refine D.ok f9 (fun vs H Q E h=>?_) (fun f cD A outer s H vs Q E hr h=>?_)
 ·obtain⟨v,k,x,rfl,_⟩:=h;rfl
 obtain⟨v,k,x,rfl,hx,px,k31,hF,q⟩:=h;have gR:jQ=60000000:=rfl;refine⟨_,(ae (ai (i:=2) f9.nd rfl (Or.inl rfl) (av oG hr (aa (pv 0) (aa (av kj hr (aa af (aa (pv 1) ag))) ag))))
  (ae (ai (i:=3) f9.nd rfl (Or.inl rfl) (lA PySem.F.plainAttrs_str PySem.F.slot_str_zfill PySem.F.type_str_zfill BH (av rk hr (aa (aG cK rfl T.gQ boot_abs (aa (pv 2) ag)) ag)) (aa (aj bA (pv 1) af) ag)))
  (ae (ai (i:=4) f9.nd rfl (Or.inl rfl) (aj bJ (aG g7 rfl T.fu boot_len (aa (pv 3) ag)) (pv 1)))
  (ae (ai (i:=5) f9.nd rfl (Or.inl rfl) (eD (aB fO (pv 1) af (aE _)) eU eU))
  (ah (ax (aj fQ (aj fQ (aj fQ (eD (aB iL (pv 2) af (aE _)) eU eU) (eH nD (pv 3) fz (fA (pv 4)))) (pv 5)) (eH nD (pv 3) (fA (pv 4)) fz)))))))),?_⟩;walk_at "sf";refine⟨10,k,4,rfl,⟨Bd.of_two (by decide) (by decide),by lia,by lia,by lia⟩,?_⟩;walk_at "sf";refine⟨v,_,x,rfl,hx,px,Int.pow_pos (by decide),wA k k31,fun F H1 s1 fl=>?_⟩;have hn:=hF F fl;walk_at "sf";refine LY ?_;walk_at "sf";have Af:(if F<0 then -F else F)=((F.natAbs:Nat):Int):=by split<;>lia
 refine⟨F,rfl,?_⟩;rw[Af];walk_at "sf";refine⟨F.natAbs,rfl,hn,?_⟩;refine⟨?ty,?_⟩
 case ty=>exact rfl
 walk_at "sf";have e1:(k:Int)+1=((k+1:Nat):Int):=by lia
 rw[e1];refine⟨_,_,rfl,rfl,padOk_of (by lia) (by lia),?_⟩;rw[EF (fun c hc=>(yg _ c hc).1)];have hl:=kr (oh F.natAbs) (k+1);have om:=my 63 F.natAbs hn;have ef:md (oh F.natAbs) (k+1)=bE F k:=rfl;rw[ef] at hl ⊢;walk_at "sf";refine⟨_,rfl,by rw[cj];exact bZ (by lia),?_⟩;rw[cj];walk_at "sf";refine Co Cp Cq ?_;walk_at "sf";refine Co Gq Cq ?_;walk_at "sf";have ec:((bE F k).length:Int)-(k:Int)=(((bE F k).length-k:Nat):Int):=by lia
 rw[ec];have l1:(if F<0 then[45] else[]:List Nat).length<=1:=by split<;>decide
 have l2:(if(0:Int)<(k:Int) then[46] else[]:List Nat).length<=1:=by split<;>decide
 have l3:((bE F k).take ((bE F k).length-k)).length<=200:=by rw[List.length_take];lia
 have l4:((bE F k).drop ((bE F k).length-k)).length<=200:=by rw[List.length_drop];lia
 refine⟨_,rfl,_,rfl,by rw[cj];exact bZ (by lia),?_⟩;rw[FZ];refine⟨_,_,rfl,rfl,by rw[cj,cj];exact bZ (by lia),?_⟩;rw[tF];walk_at "sf";refine⟨_,_,rfl,rfl,by rw[cj,cj,List.length_append];exact bZ (by lia),?_⟩;rw[tF];walk_at "sf";refine⟨_,rfl,_,rfl,by rw[cj];exact bZ (by lia),?_⟩;rw[yi];refine⟨_,_,rfl,rfl,by rw[cj,cj,List.length_append,List.length_append];exact bZ (by lia),?_⟩;rw[tF];have e2:(if(0:Int)<(k:Int) then[46] else[]:List Nat)=(if 0<k then[46] else[]):=by
  by_cases z:0<k
  ·rw[if_pos z,if_pos (by lia)]
  ·rw[if_neg z,if_neg (by lia)]
 rw[e2];exact q F H1 s1 fl
end
end dH
namespace dH
open PySem PyProof.Rows L2 SF SF.Po
structure M_(p σ m d:Int):Prop where
 sg:σ=1\/σ=-1\/σ=0
 hm:ot m
 bm:Bd 24 m
 p1:-1000<=p
 p2:p<=1000
 d1:1<=d
 d2:d<=50
noncomputable def xS(p σ m d:Int):Re:=if σ=0 then Re.q (vl p d) else if σ=1 then ov ((p:Re)+sq m) d else ov ((p:Re)-sq m) d
noncomputable def Cr:Sp:=fun vs H Q _=>∃(c k:Int),vs=[.int c,.int k]/\∀(g:Addr)(p σ m d:Int)(H':Hp),au H H'->H' g=some (.tup [.int p,.int σ,.int m,.int d])->M_ p σ m d->Q (.ref g) H'
section
variable {P:Program} {w:World} {K:PySem.W.Frag} {mg:Str->Option Value} {base:Heap} {C fI:Addr} {fd:FuncData}
theorem ur(gv:bq P w K mg base 2 "_law_drawn" ["_law_cell_here","_law_k"] qR)(D:aL K mg "_law_surd" jO ["_law_cell_here","_law_k"]):bq P w K mg base 3 "_law_surd" ["_law_cell_here","_law_k"] Cr:=by
 refine D.ok ft (fun vs H Q E h=>?_) (fun f cD A outer s H vs Q E hr h=>?_)
 ·obtain⟨c,k,rfl,_⟩:=h;rfl
 obtain⟨c,k,rfl,q⟩:=h;refine'⟨_,?term,?rest⟩
 case' term=>refine'(ae (ai (i:=2) ft.nd rfl (Or.inl rfl) (av gv hr (aa (pv 0) (aa (pv 1) ag)))) ?r1)
 case' r1=>refine'(ae ?s1 ?s2)
 case' s1=>with_reducible refine'(ai (i:=3) ?nd ?hi ?hl ?x1 ?hs ?hf)
 case nd=>exact ft.nd
 case hi=>rfl
 case hl=>exact Or.inl rfl
 case hs=>rfl
 case hf=>first|exact .inl rfl|exact .inr rfl
 case' x1=>with_reducible refine'(aD ?ix ?l ?k ?u)
 case' ix=>refine' bI
 case' l=>with_reducible refine'(eV ?li)
 case' li=>with_reducible refine'(qk ?ii)
 case' ii=>exact(.pos (.pos (.pos (.pos (.pos (.pos (.pos (.pos (.pos (.pos .nil))))))))))
 case' k=>exact(aj cF (pv 2) af)
 case' u=>exact(fun _ _=>rfl)
 case' s2=>exact(ae (ai (i:=4) ft.nd rfl (Or.inl rfl) (aD bI (eV (aa (aj bJ (aj cF (aj cY (pv 2) af) af) af) (aa (aj bJ (aj cF (aj cY (pv 2) af) af) af) ag))) (aj cF (aj cY (pv 2) af) af) (fun _ _=>rfl)))
  (ae (ai (i:=5) ft.nd rfl (Or.inl rfl) (aj bA af (aj cF (aj cY (pv 2) af) (aD bI (eV (aa af (aa af ag))) (aj cF (aj cY (pv 2) af) af) (fun _ _=>rfl)))))
  (ah (ax (cL (aa (pv 4) (aa (aD bI (eV (aa af (aa (dn bY af) (aa af (aa af ag))))) (aj cF (aj cY (pv 2) af) af) (fun _ _=>rfl)) (aa (pv 3) (aa (pv 5) ag)))))))))
 walk_at "sf";refine⟨_,_,rfl,fun mo Xb Xc=>?_⟩;walk_at "sf";unfold Fz;walk_at "sf";intro p1 m5;walk_at "sf";refine bN (by decide) ?_;obtain⟨c1,c2,c3⟩:=fm (x:=mo) (m:=10) (by decide);rw[c1];walk_at "sf";obtain⟨m,hm,em⟩:=LD (L:=ms) c2 c3;refine dr (aZ.of ak) em ?_;have s1:=au.new m5 (.lst ([2,3,5,6,7,8,10,18,99,1000003].map V.int));generalize upd H p1 (.lst ([2,3,5,6,7,8,10,18,99,1000003].map V.int))=H1 at s1 ⊢;obtain⟨Em,VF⟩:=Lb m hm;walk_at "sf";refine bN (Ig 16 (by decide) (by decide)) ?_;walk_at "sf";refine bN (by decide) ?_;obtain⟨d1,d2,d3⟩:=fm (x:=mo.fdiv 16) (m:=21) (by decide);rw[d1];walk_at "sf";refine bN (Ig 16 (by decide) (by decide)) ?_;walk_at "sf";refine bN (by decide) ?_;obtain⟨e1,e2,e3⟩:=fm (x:=mo.fdiv 16) (m:=2001) (by decide);rw[e1];walk_at "sf";intro p2 vx;walk_at "sf";refine bN (Ig 8192 (by decide) (by decide)) ?_;walk_at "sf";refine bN (by decide) ?_;obtain⟨f1,f2,f3⟩:=fm (x:=mo.fdiv 8192) (m:=2) (by decide);rw[f1];have k2:mo.fdiv 8192%2=0\/mo.fdiv 8192%2=1:=by lia
 obtain⟨p,ep,pl,pu⟩:∃p:Int,mf [V.int (mo.fdiv 16%21-10),V.int (mo.fdiv 16%2001-1000)] (mo.fdiv 8192%2)=some (.int p)/\-1000<=p/\p<=1000:=by
  rcases k2 with e|e
  ·exact⟨_,by rw[e];rfl,by lia,by lia⟩
  ·exact⟨_,by rw[e];rfl,by lia,by lia⟩
 refine dr (aZ.of ak) ep ?_;have s2:=s1.trans (au.new vx (.lst [V.int (mo.fdiv 16%21-10),V.int (mo.fdiv 16%2001-1000)]));generalize upd H1 p2 (.lst [V.int (mo.fdiv 16%21-10),V.int (mo.fdiv 16%2001-1000)])=H2 at s2 ⊢;walk_at "sf";refine bN (Ig 32768 (by decide) (by decide)) ?_;walk_at "sf";intro p3 Ei;walk_at "sf";refine bN (Ig 8192 (by decide) (by decide)) ?_;walk_at "sf";refine bN (by decide) ?_;rw[f1];obtain⟨z,ez,z1,z2⟩:∃z:Int,mf [V.int 6,V.int 50] (mo.fdiv 8192%2)=some (.int z)/\0<z/\z<=50:=by
  rcases k2 with e|e
  ·exact⟨_,by rw[e];rfl,by decide,by decide⟩
  ·exact⟨_,by rw[e];rfl,by decide,by decide⟩
 refine dr (aZ.of ak) ez ?_;have s3:=s2.trans (au.new Ei (.lst [V.int 6,V.int 50]));generalize upd H2 p3 (.lst [V.int 6,V.int 50])=H3 at s3 ⊢;refine bN (Int.ne_of_gt z1) ?_;obtain⟨g1,g2,g3⟩:=fm (x:=mo.fdiv 32768) (m:=z) z1;rw[g1];walk_at "sf";intro p4 R3;walk_at "sf";refine bN (Ig 1048576 (by decide) (by decide)) ?_;walk_at "sf";refine bN (by decide) ?_;obtain⟨j1,j2,j3⟩:=fm (x:=mo.fdiv 1048576) (m:=4) (by decide);rw[j1];obtain⟨y,ey,hy⟩:∃y:Int,mf [V.int 1,V.int (-1),V.int 0,V.int 1] (mo.fdiv 1048576%4)=some (.int y)/\(y=1\/y=-1\/y=0):=by
  have:mo.fdiv 1048576%4=0\/mo.fdiv 1048576%4=1\/mo.fdiv 1048576%4=2\/mo.fdiv 1048576%4=3:=by lia
  rcases this with e|e|e|e
  ·exact⟨1,by rw[e];rfl,.inl rfl⟩
  ·exact⟨-1,by rw[e];rfl,.inr (.inl rfl)⟩
  ·exact⟨0,by rw[e];rfl,.inr (.inr rfl)⟩
  ·exact⟨1,by rw[e];rfl,.inl rfl⟩
 refine dr (aZ.of ak) ey ?_;have s4:=s3.trans (au.new R3 (.lst [V.int 1,V.int (-1),V.int 0,V.int 1]));generalize upd H3 p4 (.lst [V.int 1,V.int (-1),V.int 0,V.int 1])=H4 at s4 ⊢;walk_at "sf";intro p5 Ij;exact q p5 _ _ _ _ _ (s4.trans (au.new Ij _)) ak ⟨hy,Em,VF,pl,pu,by lia,by lia⟩
noncomputable def uv(C:Addr):Sp:=fun vs H Q _=>∃(g:Addr)(p σ m d:Int),vs=[.ref g]/\H g=some (.tup [.int p,.int σ,.int m,.int d])/\M_ p σ m d/\Gives C H (xS p σ m d) Q
theorem oH(T:Nm mg)(dX:bq P w K mg base 38 "of_ratio" ["given"] (mD C))(gw:bq P w K mg base 38 "_law_ratio" ["_law_top","_law_under"] wb)(EG:bq P w K mg base 38 "roots" ["poly"] (yA C))(D:aL K mg "_law_number" iF ["_law_surd_here"]):bq P w K mg base 39 "_law_number" ["_law_surd_here"] (uv C):=by
 refine D.ok dj (fun vs H Q E h=>?_) (fun f cD A outer s H vs Q E hr h=>?_)
 ·obtain⟨g,p,y,m,d,rfl,_⟩:=h;rfl
 obtain⟨g,p,y,m,d,rfl,hg,sd,q⟩:=h;have bp:Bd 12 p:=by have:=sd.p1;have:=sd.p2;unfold Bd;lia
 have bd:Bd 8 d:=by have:=sd.d1;have:=sd.d2;unfold Bd;lia
 have d0:0<d:=sd.d1;refine⟨_,(ae (mH (pv 0) (kz rfl (bL (aQ (i:=1) dj.nd rfl (Or.inl rfl)) (bL (aQ (i:=2) dj.nd rfl (Or.inl rfl)) (bL (aQ (i:=3) dj.nd rfl (Or.inl rfl)) (bL (aQ (i:=4) dj.nd rfl (Or.inl rfl)) jf))))))
  (ae (bO (aB dN (pv 2) af (aE _))
  (ah (ax (av dX hr (aa (av gw hr (aa (pv 1) (aa (pv 4) ag))) ag))))
  aO)
  (ae (ai (i:=5) dj.nd rfl (Or.inl rfl) (av EG hr (aa (eV (aa (aj bJ (aj aw (pv 1) (pv 1)) (pv 3)) (aa (aj bJ af (aj aw (aj aw af (pv 1)) (pv 4))) (aa (aj aw (pv 4) (pv 4)) ag)))) ag)))
  (ah (ax (aD bI (pv 5) (da fF rfl T.nN boot_int (aa (eF dN (pv 2) af (aE _)) ag)) (fun _ _=>rfl))))))),?_⟩;walk_at "sf";refine kG (cC.of hg) rfl ?_;walk_at "sf";refine dI (fun c=>?_) (fun c=>?_)
 ·have y0:y=0:=by simpa using c
  walk_at "sf";refine⟨p,d,12,rfl,bp,bd.mono (by decide),by decide,d0,fun p1 t u m5 bt bu hu VG LX=>?_⟩;have s1:=au.new m5 (.tup [.int t,.int u]);walk_at "sf";refine⟨p1,t,u,rfl,⟨ak,hu,VG⟩,bt.mono (by decide),bu.mono (by decide),fun v H' s2 hv pv=>?_⟩;refine q v H' (s1.trans s2) hv ?_;have ev:vl t u=vl p d:=(ko hu d0).mpr LX;unfold xS;rw[if_pos y0,<-ev];exact pv
 ·have y0:¬y=0:=by simpa using c
  have b2:Bd 3 (2:Int):=Bd.of_two (by decide) (by decide);walk_at "sf";refine bN (aR bp bp (by decide)) ?_;walk_at "sf";refine bN (aR b2 bp (by decide)) ?_;walk_at "sf";refine bN (aR (b2.mul bp) bd (by decide)) ?_;walk_at "sf";refine bN (aR bd bd (by decide)) ?_;walk_at "sf";intro pl rJ;have s1:=au.new rJ (.lst [V.int (p*p-m),V.int (0-2*p*d),V.int (d*d)]);obtain⟨VH,VI⟩:=ye sd.hm.1;walk_at "sf";refine⟨pl,p,m,d,sq m,rfl,ak,⟨d0,sd.hm,VH,VI,bp,sd.bm,bd⟩,fun l v0 v1 H' s2 hl h0 h1 p0 p1=>?_⟩;walk_at "sf";rcases sd.sg with rfl|rfl|rfl
  ·refine .inr ⟨_,rfl,?_⟩;refine dr (aZ.of hl) (show mf [V.ref v0.r,V.ref v1.r] _=some (V.ref v1.r) from rfl) ?_;exact q v1 H' (s1.trans s2) h1 p1
  ·refine .inr ⟨_,rfl,?_⟩;refine dr (aZ.of hl) (show mf [V.ref v0.r,V.ref v1.r] _=some (V.ref v0.r) from rfl) ?_;exact q v0 H' (s1.trans s2) h0 p0
  ·exact absurd rfl y0
end
end dH
namespace dH
open PySem PyProof.Rows L2 SF SF.Po
theorem IA(a b:Re):aT (a-b)=aT (a*Re.ab a-b*Re.ab b):=by
 have key:∀{a b:Re},a<b->a*Re.ab a<b*Re.ab b:=fun{a b} h=>by
  by_cases ha:a<0
  ·by_cases hb:b<0
   ·have e1:Re.ab a=-a:=if_pos ha;have e2:Re.ab b=-b:=if_pos hb;rw[e1,e2];have:=Re.mul_pos (x:=b-a) (y:=-a+-b) (by grind) (by grind);grind
   ·have e1:Re.ab a=-a:=if_pos ha;have e2:Re.ab b=b:=if_neg hb;rw[e1,e2];have h1:=Re.mul_pos (x:=-a) (y:=-a) (by grind) (by grind);have h2:=sq_nonneg b;grind
  ·have e1:Re.ab a=a:=if_neg ha;have e2:Re.ab b=b:=if_neg (by grind);rw[e1,e2];have:=Re.mul_pos (x:=b-a) (y:=a+b) (by grind) (by grind);grind
 rcases SF.Re.Aa a b with h|h|h
 ·have:=key h;rw[SF.Re.cG (by grind),SF.Re.cG (by grind)]
 ·have e1:a-b=0:=by rw[h];grind
  have e2:a*Re.ab a-b*Re.ab b=0:=by rw[h];grind
  rw[e1,e2]
 ·have:=key h;rw[SF.Re.bK (by grind),SF.Re.bK (by grind)]
theorem EH(z:Int):sg z=aT ((z:Int):Re):=x4 z
theorem EI(z:Int):(((if z<0 then -z else z:Int)):Re)=Re.ab (z:Re):=by
 unfold Re.ab;by_cases h:z<0
 ·have h2:(z:Re)<0:=by have:=dQ (n:=-z) (by lia);rw[e_] at this;grind
  rw[if_pos h,if_pos h2,e_]
 ·have h2:¬(z:Re)<0:=fun w=>by
   rcases Int.lt_or_eq_of_le (show 0<=z by lia) with k|k
   ·have:=dQ k;grind
   ·rw[<-k,c0] at w;exact Re.lt_irrefl _ w
  rw[if_neg h,if_neg h2]
theorem EJ{p m d σ t u:Int}(hd:0<d)(hu:0<u)(hm:0<m)(hs:σ=1\/σ=-1):sg (σ*m*u*u-(t*d-p*u)*(if t*d-p*u<0 then -(t*d-p*u) else t*d-p*u))=aT (xS p σ m d-Re.q (vl t u)):=by
 obtain⟨s0,ss⟩:=ye hm;have dM:=dQ hu;have MR:xS p σ m d=ov ((p:Re)+(σ:Re)*sq m) d:=by
  unfold xS;rcases hs with rfl|rfl
  ·rw[if_neg (by decide),if_pos rfl,c1];congr 1;grind
  ·rw[if_neg (by decide),if_neg (by decide)];congr 1;have e:((-1:Int):Re)=-1:=by have:=e_ 1;rw[c1] at this;exact this
   rw[e];grind
 have qu:Re.q (vl t u)*(u:Re)=(t:Re):=by
  have VJ:(0:Rat)<(u:Rat):=Rat.intCast_pos.mpr hu;rw[cV,cV,<-Re.fy];unfold vl;rw[Rat.div_mul_cancel (by grind)]
 have e1:aT (Re.q (vl t u)-xS p σ m d)=aT (((t*d-p*u:Int):Re)-(σ:Re)*sq m*(u:Re)):=by
  rw[MR,<-qI hd];have e2:((t*d-p*u:Int):Re)-(σ:Re)*sq m*(u:Re)=(Re.q (vl t u)*(d:Re)-((p:Re)+(σ:Re)*sq m))*(u:Re):=by
   rw[pz,Lean.Grind.Ring.intCast_mul,Lean.Grind.Ring.intCast_mul,<-qu];grind
  rw[e2,SF.Re.fC,SF.Re.bK dM];lia
 have e3:xS p σ m d-Re.q (vl t u)=-(Re.q (vl t u)-xS p σ m d):=by grind
 rw[e3,SF.Re.qC,e1];generalize t*d-p*u=gap;have e4:((gap:Int):Re)-(σ:Re)*sq m*(u:Re)=-((σ:Re)*sq m*(u:Re)-(gap:Re)):=by grind
 rw[e4,SF.Re.qC,IA,EH];have su:=Re.mul_pos s0 dM;have e5:(σ:Re)*sq m*(u:Re)*Re.ab ((σ:Re)*sq m*(u:Re))=((σ*m*u*u:Int):Re):=by
  rw[Lean.Grind.Ring.intCast_mul,Lean.Grind.Ring.intCast_mul,Lean.Grind.Ring.intCast_mul,<-ss];rcases hs with rfl|rfl
  ·rw[c1];have e6:(1:Re)*sq m*(u:Re)=sq m*(u:Re):=by grind
   rw[e6];have:Re.ab (sq m*(u:Re))=sq m*(u:Re):=if_neg (by grind);rw[this];grind
  ·have e:((-1:Int):Re)=-1:=by have:=e_ 1;rw[c1] at this;exact this
   rw[e];have e6:(-1:Re)*sq m*(u:Re)=-(sq m*(u:Re)):=by grind
   rw[e6];have:Re.ab (-(sq m*(u:Re)))=sq m*(u:Re):=by
    rw[Re.vE];exact if_neg (by grind)
   rw[this];grind
 rw[e5,<-EI,<-Lean.Grind.Ring.intCast_mul,<-pz];lia
theorem IB(a b:Int):sg (a-b)=(if decide (a>b)=true then(1:Int) else 0)-(if decide (a<b)=true then 1 else 0):=by
 unfold sg;simp only[decide_eq_true_eq];split<;>split<;>first|lia|(split<;>lia)
noncomputable def Cs:Sp:=fun vs H Q _=>∃(g h:Addr)(p σ m d t u:Int),vs=[.ref g,.ref h]/\H g=some (.tup [.int p,.int σ,.int m,.int d])/\M_ p σ m d/\H h=some (.tup [.int t,.int u])/\0<u/\Bd 400 t/\Bd 400 u/\Q (.int (aT (xS p σ m d-Re.q (vl t u)))) H
section
variable {P:Program} {w:World} {K:PySem.W.Frag} {mg:Str->Option Value} {base:Heap}
theorem uw(T:Nm mg)(D:aL K mg "_law_side" jP ["_law_surd_here","_law_given"]):bq P w K mg base 1 "_law_side" ["_law_surd_here","_law_given"] Cs:=by
 refine D.ok cR (fun vs H Q E h=>?_) (fun f cD A outer s H vs Q E hr h=>?_)
 ·obtain⟨g,h,p,y,m,d,t,u,rfl,_⟩:=h;rfl
 obtain⟨g,h,p,y,m,d,t,u,rfl,hg,sd,hh,hu,bt,bu,q⟩:=h;have bp:Bd 12 p:=by have:=sd.p1;have:=sd.p2;unfold Bd;lia
 have bd:Bd 8 d:=by have:=sd.d1;have:=sd.d2;unfold Bd;lia
 have P9:Bd 2 y:=by rcases sd.sg with rfl|rfl|rfl<;>(unfold Bd;decide)
 have d0:0<d:=sd.d1;refine⟨_,(ae (mH (pv 0) (kz rfl (bL (aQ (i:=2) cR.nd rfl (Or.inl rfl)) (bL (aQ (i:=3) cR.nd rfl (Or.inl rfl)) (bL (aQ (i:=4) cR.nd rfl (Or.inl rfl)) (bL (aQ (i:=5) cR.nd rfl (Or.inl rfl)) jf))))))
  (ae (ai (i:=6) cR.nd rfl (Or.inl rfl) (aj bJ (aj aw (aD aC (pv 1) af (fun _ _=>rfl)) (pv 5)) (aj aw (pv 2) (aD aC (pv 1) af (fun _ _=>rfl)))))
  (ae (bO (aB dN (pv 3) af (aE _))
  (ah (ax (aj bJ (da fF rfl T.nN boot_int (aa (eF iL (pv 6) af (aE _)) ag)) (da fF rfl T.nN boot_int (aa (eF fO (pv 6) af (aE _)) ag)))))
  aO)
  (ae (ai (i:=7) cR.nd rfl (Or.inl rfl) (aj aw (aj aw (aj aw (pv 3) (pv 4)) (aD aC (pv 1) af (fun _ _=>rfl))) (aD aC (pv 1) af (fun _ _=>rfl))))
  (ae (ai (i:=8) cR.nd rfl (Or.inl rfl) (aj aw (pv 6) (aG cK rfl T.gQ boot_abs (aa (pv 6) ag))))
  (ah (ax (aj bJ (da fF rfl T.nN boot_int (aa (eF fO (pv 7) (pv 8) (aE _)) ag)) (da fF rfl T.nN boot_int (aa (eF iL (pv 7) (pv 8) (aE _)) ag)))))))))),?_⟩;walk_at "sf";refine kG (cC.of hg) rfl ?_;walk_at "sf";refine aK (cC.of hh) rfl ?_;walk_at "sf";refine bN (aR bt bd (by decide)) ?_;walk_at "sf";refine aK (cC.of hh) rfl ?_;refine bN (aR bp bu (by decide)) ?_;walk_at "sf";have bg:Bd 420 (t*d-p*u):=(((bt.mul bd).mono (by decide:400+8<=418)).sub ((bp.mul bu).mono (by decide))).mono (by decide);refine dI (fun c=>?_) (fun c=>?_)
 ·have y0:y=0:=by simpa using c
  subst y0;walk_at "sf";refine .inr ⟨_,rfl,?_⟩;walk_at "sf";refine .inr ⟨_,rfl,?_⟩;walk_at "sf";have e:aT (xS p 0 m d-Re.q (vl t u))=sg (p*u-t*d):=by
   unfold xS;rw[if_pos rfl,<-wq d0 hu]
  have e2:sg (p*u-t*d)=(if decide (t*d-p*u<0)=true then 1 else 0)-(if decide (t*d-p*u>0)=true then 1 else 0):=by
   unfold sg;simp only[decide_eq_true_eq];split
   ·rw[if_neg (by lia),if_pos (by lia)];rfl
   ·split
    ·rw[if_pos (by lia),if_neg (by lia)];rfl
    ·rw[if_neg (by lia),if_neg (by lia)];rfl
  rw[e,e2] at q;exact q
 ·have y0:¬y=0:=by simpa using c
  have hs:y=1\/y=-1:=by rcases sd.sg with e|e|e;exact .inl e;exact .inr e;exact absurd e y0
  walk_at "sf";refine bN (aR P9 sd.bm (by decide)) ?_;walk_at "sf";refine aK (cC.of hh) rfl ?_;refine bN (aR (P9.mul sd.bm) bu (by decide)) ?_;walk_at "sf";refine aK (cC.of hh) rfl ?_;refine bN (aR ((P9.mul sd.bm).mul bu) bu (by decide)) ?_;walk_at "sf";refine⟨_,rfl,?_⟩;have VL:Bd 420 (if t*d-p*u<0 then -(t*d-p*u) else t*d-p*u):=by
   unfold Bd at*;split<;>lia
  refine bN (aR bg VL (by decide)) ?_;walk_at "sf";refine .inr ⟨_,rfl,?_⟩;walk_at "sf";refine .inr ⟨_,rfl,?_⟩;walk_at "sf";rw[<-EJ d0 hu sd.hm.1 hs,IB] at q;exact q
end
end dH
namespace dH
open PySem PyProof.Rows L2 SF SF.Po
theorem ux(l:List Nat)(i j:Nat):Builtin.Str.strSub (S l) i j=S ((l.take j).drop i):=by
 unfold Builtin.Str.strSub S;congr 1;apply Array.toList_inj.mp;simp[List.extract_eq_take_drop,List.drop_take]
theorem EK{l:List Nat}{c i:Nat}:StrLaws.At (S l) (S [c]) (S l).length i↔l[i]?=some c:=StrLaws.subAt_one (S l) c i
theorem Ct{a b:List Nat}{c:Nat}(h:c∉a):Txt.partition (S (a++c::b)) (S [c])=(S a,S [c],S b):=by
 have Sd:(a++c::b)[a.length]?=some c:=by
  rw[List.getElem?_append_right (Nat.le_refl _)];simp
 rcases partition_whole (S (a++c::b)) (S [c]) with⟨_,hn⟩|⟨i,hp,hi,hn⟩
 ·exact absurd (EK.mpr Sd) (hn _)
 ·have e:i=a.length:=by
   rcases Nat.lt_trichotomy i a.length with z|z|z
   ·exfalso;have h1:=EK.mp hi;rw[List.getElem?_append_left z] at h1;exact h (List.mem_of_getElem? h1)
   ·exact z
   ·exact absurd (EK.mpr Sd) (hn _ z)
  rw[hp,e,ux,ux,cj,cj];have e1:((a++c::b).take a.length).drop 0=a:=by simp
  have e2:((a++c::b).take (a++c::b).length).drop (a.length+[c].length)=b:=by
   rw[List.take_length,List.drop_append];simp
  rw[e1,e2]
theorem EL{a:List Nat}{c:Nat}(h:c∉a):Txt.partition (S a) (S [c])=(S a,S [],S []):=by
 rcases partition_whole (S a) (S [c]) with⟨hp,_⟩|⟨i,hp,hi,hn⟩
 ·exact hp
 ·exact absurd (List.mem_of_getElem? (EK.mp hi)) h
noncomputable def Dg(l:List Nat):Prop:=∀c∈l,48<=c/\c<=57
theorem wC(F:Int)(k:Nat):Dg (bE F k):=fun c hc=>by
 unfold bE md at hc;rcases List.mem_append.mp hc with z|z
 ·rw[List.eq_of_mem_replicate z];decide
 ·exact yg _ c z
theorem EM(j:Nat)(l:List Nat):NumText.digitsVal (List.replicate j 48++l)=NumText.digitsVal l:=by
 induction j with
 |zero=>rfl
 |succ j ih=>
  rw[List.replicate_succ,List.cons_append];exact ih
theorem uy(F:Int)(k:Nat):k+1<=(bE F k).length:=(kr _ _).1
theorem Cu{F:Int}{k:Nat}(h:F.natAbs<10^64)(hk:k<=31):intText? (S (bE F k))=some ((F.natAbs:Nat):Int):=by
 have h1:=my 63 F.natAbs h;have h2:=(kr (oh F.natAbs) (k+1)).2.2;have eQ:bE F k≠[]:=fun z=>by have:=uy F k;rw[z] at this;exact absurd this (by simp)
 have e:=intText_digits (x:=S (bE F k)) (wC F k) eQ (by rw[cj];unfold bE;lia);rw[e];show some ((NumText.digitsVal (bE F k):Nat):Int)=_;unfold bE md;rw[EM,show NumText.digitsVal (oh F.natAbs)=F.natAbs from PySem.W.KIN.val_back F.natAbs]
theorem zL{F:Int}{k:Nat}(h:k+1<(bE F k).length):(bE F k)[0]?≠some 48:=by
 unfold bE md at*;rw[List.length_append,List.length_replicate] at h;have e:k+1-(oh F.natAbs).length=0:=by lia
 rw[e] at h ⊢;have hn:F.natAbs≠0:=fun z=>by
  rw[z,d7 (by decide)] at h;simp at h
 have:=BF F.natAbs hn;rw[<-List.head?_eq_getElem?];exact this
theorem IC(F:Int)(k:Nat):∃c r,(bE F k).take ((bE F k).length-k)=c::r/\48<=c/\c<=57:=by
 have h:=uy F k;cases e:(bE F k).take ((bE F k).length-k) with
 |nil=>
  have:=congrArg List.length e;rw[List.length_take] at this;exact absurd this (by simp;lia)
 |cons c r=>
  have hm:c∈bE F k:=List.mem_of_mem_take (i:=(bE F k).length-k) (by rw[e];exact List.mem_cons_self);exact⟨c,r,rfl,wC F k c hm⟩
theorem LZ{a b:Str}{H:Hp}{Q:VK}(h:Q (.bl (decide (a=b))) H):Ml (.str a) (.str b) H Q:=⟨rfl,by
 have e:decide (V.str a=V.str b)=decide (a=b):=by
  by_cases z:a=b
  ·rw[decide_eq_true z,decide_eq_true (by rw[z])]
  ·rw[decide_eq_false z,decide_eq_false (fun w=>z (by cases w;rfl))]
 rw[e];exact h⟩
theorem VM{a b:Bool}{H:Hp}{Q:VK}(h:Q (.bl (!decide (a=b))) H):Nu (.bl a) (.bl b) H Q:=⟨rfl,by
 have e:decide (V.bl a=V.bl b)=decide (a=b):=by
  by_cases z:a=b
  ·rw[decide_eq_true z,decide_eq_true (by rw[z])]
  ·rw[decide_eq_false z,decide_eq_false (fun w=>z (by cases w;rfl))]
 rw[e];exact h⟩
theorem ID{tl:TE}{σ:L2.St}{H:Hp}{R:It->Hp->Prop}(h:tl σ H fun x H1=>∃z,x=.str z/\z.cps.all (·<128)=true/\R (Le z) H1):Lf tl σ H R:=h
theorem EN{c:Nat}(h1:48<=c)(h2:c<=57):(!(Builtin.Str.occurrences (Str.ofString "0123456789") (⟨#[c]⟩:Str) 0 (Str.ofString "0123456789":Str).length 1).isEmpty)=true:=by
 rw[StrLaws.found_one];have e:(Str.ofString "0123456789":Str).cps.toList=[48,49,50,51,52,53,54,55,56,57]:=by first|(rfl;done)|kernel_rfl
 rw[e];refine decide_eq_true ?_;simp only[List.mem_cons,List.not_mem_nil,or_false];lia
noncomputable def uz:Sp:=fun vs H Q _=>∃(F:Int)(k:Nat),vs=[.str (S (rj F k)),.int (k:Int)]/\F.natAbs<10^64/\k<=31/\∀H',au H H'->Q (.int F) H'
section
variable {P:Program} {w:World} {K:PySem.W.Frag} {mg:Str->Option Value} {base:Heap}
theorem oI(T:Nm mg)(D:aL K mg "_law_scaled" iG ["_law_text","_law_digits"]):bq P w K mg base 1 "_law_scaled" ["_law_text","_law_digits"] uz:=by
 refine D.ok dm (fun vs H Q E h=>?_) (fun f cD A outer s H vs Q E hr h=>?_)
 ·obtain⟨F,k,rfl,_⟩:=h;rfl
 obtain⟨F,k,rfl,hF,k31,q⟩:=h;have hl:=kr (oh F.natAbs) (k+1);have om:=my 63 F.natAbs hF;have ef:md (oh F.natAbs) (k+1)=bE F k:=rfl;rw[ef] at hl;have P_:=Cu hF k31;have P':=wC F k;have VN:=zL (F:=F) (k:=k);obtain⟨c0,r0,eh,c1,c2⟩:=IC F k;have Xd:((bE F k).take ((bE F k).length-k)).length=(bE F k).length-k:=by rw[List.length_take];lia
 have VO:((bE F k).drop ((bE F k).length-k)).length=k:=by rw[List.length_drop];lia
 have Se:(bE F k).take ((bE F k).length-k)++(bE F k).drop ((bE F k).length-k)=bE F k:=List.take_append_drop _ _;have ed:rj F k=(if F<0 then[45] else[])++((bE F k).take ((bE F k).length-k)++((if 0<k then[46] else[])++(bE F k).drop ((bE F k).length-k))):=by
  unfold rj;rw[List.append_assoc,List.append_assoc]
 have Sf:∀l:List Nat,(∀c∈l,c∈bE F k)->46∉l:=fun l hh z=>by have:=P' _ (hh _ z);lia
 have n1:=Sf ((bE F k).take ((bE F k).length-k)) (fun c hc=>List.mem_of_mem_take hc);have n2:=Sf ((bE F k).drop ((bE F k).length-k)) (fun c hc=>List.mem_of_mem_drop hc);have VP:((bE F k).take ((bE F k).length-k))[0]?=(bE F k)[0]?:=by rw[List.getElem?_take];rw[if_pos (by lia)]
 generalize (bE F k).take ((bE F k).length-k)=hd at*;generalize (bE F k).drop ((bE F k).length-k)=tl at*;generalize bE F k=fg at*;rw[ed];subst eh;have VQ:((if F<0 then[45] else[])++(c0::r0++((if 0<k then[46] else[])++tl)):List Nat).length<=300:=by
  have l1:(if F<0 then[45] else[]:List Nat).length<=1:=by split<;>decide
  have l2:(if 0<k then[46] else[]:List Nat).length<=1:=by split<;>decide
  rw[List.length_append,List.length_append,List.length_append];lia
 have Qa:((if F<0 then[45] else[])++(c0::r0++((if 0<k then[46] else[])++tl)):List Nat).take 1=(if F<0 then[45] else[c0]):=by
  by_cases z:F<0
  ·rw[if_pos z,if_pos z];rfl
  ·rw[if_neg z,if_neg z];rfl
 have L0:((if F<0 then[45] else[])++(c0::r0++((if 0<k then[46] else[])++tl)):List Nat).drop (if F<0 then 1 else 0)=c0::r0++((if 0<k then[46] else[])++tl):=by
  by_cases z:F<0
  ·rw[if_pos z,if_pos z];rfl
  ·rw[if_neg z,if_neg z];rfl
 generalize ((if F<0 then[45] else[])++(c0::r0++((if 0<k then[46] else[])++tl)):List Nat)=tx at*;have Sg:decide (S (if F<0 then[45] else[c0])=S [45])=decide (F<0):=by
  by_cases z:F<0
  ·rw[if_pos z,decide_eq_true z];exact decide_eq_true rfl
  ·rw[if_neg z,decide_eq_false z];refine decide_eq_false fun w=>?_;have:=yf w;have:c0=45:=by simpa using this
   lia
 refine⟨_,(ae (ai (i:=2) dm.nd rfl (Or.inl rfl) (eH nD (pv 0) (fA (da fF rfl T.nN boot_int (aa (eF dN (eH nD (pv 0) fz (fA af)) eU (aE _)) ag))) fz))
  (ae (mH (lA PySem.F.plainAttrs_str PySem.F.slot_str_partition PySem.F.type_str_partition qK (pv 2) (aa eU ag)) (kz rfl (bL (aQ (i:=3) dm.nd rfl (Or.inl rfl)) (bL (aQ (i:=4) dm.nd rfl (Or.inl rfl)) (bL (aQ (i:=5) dm.nd rfl (Or.inl rfl)) jf)))))
  (ae (bO (PW.pt (wZ (aB mI (eF dN (pv 4) eU (aE _)) (eF fO (pv 1) af (aE _)) (aE _)) (wZ (aB mI (aG g7 rfl T.fu boot_len (aa (pv 5) ag)) (pv 1) (aE _)) (wZ (aB dN (pv 3) eU (aE _)) (Al (PW.pt (jy (aB fO (aG g7 rfl T.fu boot_len (aa (pv 3) ag)) af (aE _)) (gX (aB dN (aD GS (pv 3) af (fun _ _=>rfl)) eU (aE _))))))))))
  (ah (ax fv))
  aO)
  (ae (bO (mF (pO (aG (y_ rfl) rfl T.Lh boot_all (aa (g9 rfl rfl (iP (own:=["_law_sign"]) (fr:=[]) (fs:=[]) (by with_unfolding_all rfl) rfl (by decide +kernel) (by decide +kernel) (by exact trivial) (by with_unfolding_all rfl) (by exact trivial)) (Ie (aj fQ (pv 3) (pv 5))) (fun _ _ _ _ _=>(aQ (i:=0) (show List.Nodup (["_law_sign"]:List Str) by decide +kernel) rfl (Or.inl rfl) (Or.inr rfl))) (fun _ _ _ _ _=>(eF yM (pv 0) eU rfl))) ag))))
  (ah (ax fv))
  aO)
  (ae (ai (i:=6) dm.nd rfl (Or.inl rfl) (da qJ rfl T.nN boot_int (aa (aj fQ (pv 3) (pv 5)) ag)))
  (ae (bO (aB dN (eH nD (pv 0) fz (fA af)) eU (aE _))
  (ae (bO (aB dN (pv 6) af (aE _))
  (ah (ax fv))
  aO)
  (ah (ax (aj bJ af (pv 6)))))
  aO)
  (ah (ax (pv 6))))))))),?_⟩;walk_at "sf";have Sh:Txt.slice (S tx) none (some 1)=S (if F<0 then[45] else[c0]):=by
  have:=FZ (l:=tx) (j:=1);rw[Qa] at this;exact this
 have Qb:(S tx).length<=sizeLine:=by rw[cj];exact bZ (by lia)
 refine⟨1,rfl,_,rfl,Qb,?_⟩;rw[Sh];walk_at "sf";refine LZ ?_;rw[Gq,Sg];walk_at "sf";refine .inr ⟨_,rfl,?_⟩;walk_at "sf";have VR:(if decide (F<0)=true then(1:Int) else 0)=(((if F<0 then 1 else 0:Nat)):Int):=by
  by_cases z:F<0
  ·rw[if_pos (decide_eq_true z),if_pos z];rfl
  ·rw[if_neg (by rw[decide_eq_false z];decide),if_neg z];rfl
 rw[VR];refine⟨_,rfl,_,rfl,Qb,?_⟩;rw[yi,L0];walk_at "sf";have L1:Txt.partition (S (c0::r0++((if 0<k then[46] else[])++tl))) (S [46])=(S (c0::r0),S (if 0<k then[46] else[]),S tl):=by
  by_cases z:0<k
  ·rw[if_pos z];exact Ct n1
  ·rw[if_neg z];have:tl=[]:=List.eq_nil_of_length_eq_zero (by lia);subst this;have e:c0::r0++(([]:List Nat)++[])=c0::r0:=by simp
   rw[e];exact EL n1
 have Xe:(c0::r0++((if 0<k then[46] else[])++tl):List Nat).length<=300:=by
  have l2:(if 0<k then[46] else[]:List Nat).length<=1:=by split<;>decide
  rw[List.length_append,List.length_append];lia
 refine LY ?_;refine⟨_,rfl,rfl,?_⟩;walk_at "sf";refine⟨_,_,rfl,rfl,by rw[Cp];rfl,by rw[cj];exact bZ (by lia),fun pp sF=>?_⟩;rw[Cp,L1];have s1:=au.new sF (.tup [.str (S (c0::r0)),.str (S (if 0<k then[46] else[])),.str (S tl)]);have h1:upd H pp (.tup [.str (S (c0::r0)),.str (S (if 0<k then[46] else[])),.str (S tl)]) pp=some (.tup [.str (S (c0::r0)),.str (S (if 0<k then[46] else[])),.str (S tl)]):=ak;generalize upd H pp (.tup [.str (S (c0::r0)),.str (S (if 0<k then[46] else[])),.str (S tl)])=H1 at s1 h1 ⊢;refine kG (cC.of h1) rfl ?_;walk_at "sf";have VS:decide (S (if 0<k then[46] else[])=S [46])=decide ((k:Int)>0):=by
  by_cases z:0<k
  ·rw[if_pos z,decide_eq_true (show(k:Int)>0 by lia)];exact decide_eq_true rfl
  ·rw[if_neg z,decide_eq_false (show ¬(k:Int)>0 by lia)];exact decide_eq_false fun w=>by have:=yf w;cases this
 refine LZ ?_;rw[VS];walk_at "sf";refine VM ?_;rw[decide_eq_true rfl];walk_at "sf";refine kF ?_;walk_at "sf";refine⟨_,rfl,by rw[cj];exact bZ (by lia),?_⟩;rw[cj,VO];walk_at "sf";refine Fq rfl ?_;walk_at "sf";refine LZ ?_;rw[Cq,decide_eq_false (fun w=>by have:=yf w;cases this)];walk_at "sf";refine kF ?_;walk_at "sf";refine⟨_,rfl,by rw[cj];exact bZ (by lia),?_⟩;rw[cj];walk_at "sf";refine uf (fun cc hB=>?_) ?_
 ·have c3:c0≠48:=fun z=>by
   have hlen:1<(c0::r0).length:=by
    have:=of_decide_eq_true cc;lia
   refine VN (by lia) ?_;rw[<-VP,z];rfl
  walk_at "sf";refine⟨S (c0::r0),0,c0,rfl,rfl,by rw[cj];exact bZ (by lia),(show mf (S (c0::r0)).cps.toList ((0:Nat):Int)=some c0 from pU (by simp[S])),?_⟩;walk_at "sf";refine LZ ?_;have e0:(Str.ofString "0":Str)=S [48]:=by first|(rfl;done)|kernel_rfl
  rw[e0,decide_eq_false (fun w=>by
   have w2:S [c0]=S [48]:=w
   have:=yf w2
   exact c3 (by simpa using this))];walk_at "sf";exact hB
 refine kF ?_;walk_at "sf";have asc:(S fg).cps.all (·<128)=true:=by
  rw[Array.all_eq_true];intro i hi;have Ae:i<fg.length:=by rw[<-cj];exact hi
  have e:(S fg).cps[i]=fg[i]:=by simp[S]
  have:=P' _ (List.getElem_mem Ae);rw[e];exact decide_eq_true (by lia)
 have Xf:fg.length<=200:=by lia
 refine ij (H1:=H1) (Le (S fg)) (fun R hR=>?_) (BJ (fun ys=>ys=(List.replicate ys.length true).map V.bl) (by rw[cj];exact bZ (by lia)) rfl ?_ ?_)
 ·refine ID ?_;walk_at "sf";refine⟨_,_,rfl,rfl,by rw[cj,cj];exact bZ (by lia),?_⟩;rw[tF,Se];exact⟨_,rfl,asc,hR⟩
 ·intro i c r ys H2 hc Et om C2 s2 Z hZ;obtain⟨x0,rfl⟩:=sE Et;have uO:fg[i]?=some c:=by
   have e:(S fg).cps[i]?=fg[i]?:=by simp[S]
   rw[<-e];exact hc
  have rG:=P' c (List.mem_of_getElem? uO);walk_at "sf";refine⟨_,_,rfl,rfl,?_⟩;rw[EN rG.1 rG.2];refine hZ _ _ _ (au.refl _) ?_ ⟨[_],rfl,rfl⟩;rw[List.length_append,List.length_singleton,List.replicate_succ',List.map_append,<-C2];rfl
 intro E1 H2 ys Xg dJ Si Rn C2;rw[C2] at Si;have s2:=s1.trans dJ;walk_at "sf";refine⟨E1,_,rfl,aZ.of Si,?_⟩;have Qc:(List.replicate ys.length true).all id=true:=by simp
 rw[Qc];walk_at "sf";refine kF ?_;walk_at "sf";refine⟨_,_,rfl,rfl,by rw[cj,cj];exact bZ (by lia),?_⟩;rw[tF,Se];walk_at "sf";refine⟨_,_,rfl,P_,by rw[cj];lia,?_⟩;walk_at "sf";refine⟨1,rfl,_,rfl,Qb,?_⟩;rw[Sh];walk_at "sf";refine LZ ?_;rw[Sg];walk_at "sf";refine dI (fun c=>?_) (fun c=>?_)
 ·have VT:F<0:=of_decide_eq_true c;walk_at "sf";rw[if_neg (by simp;lia)];walk_at "sf";have e:0-((F.natAbs:Nat):Int)=F:=by lia
  rw[e];exact q H2 s2
 ·have VT:¬F<0:=fun z=>c (decide_eq_true z);walk_at "sf";have e:((F.natAbs:Nat):Int)=F:=by lia
  rw[e];exact q H2 s2
end
end dH
namespace dH
open PySem PyProof.Rows L2 SF SF.Po
theorem L3{m n:Int}(hm:0<m)(hn:0<n)(h:m<=n*n):sq m<=(n:Re):=by
 obtain⟨s0,ss⟩:=ye hm;rcases SF.Re.Aa (sq m) (n:Re) with z|z|z
 ·grind
 ·grind
 ·exfalso;have h1:=dQ hn;have h2:=Re.mul_pos (x:=sq m-(n:Re)) (y:=sq m+(n:Re)) (by grind) (by grind);have h3:((m:Int):Re)<=((n*n:Int):Re):=Re.cy.mpr (Rat.intCast_le_intCast.mpr h);rw[Lean.Grind.Ring.intCast_mul] at h3;grind
theorem Cv{d:Int}(hd:0<d){y:Re}{n:Int}(h1:-(n:Re)<=y)(h2:y<=(n:Re))(hn:0<=n):-(n:Re)<=ov y d/\ov y d<=(n:Re):=by
 have e:=vN hd y;have d1:(1:Re)<=(d:Re):=by
  have:((1:Int):Re)<=((d:Int):Re):=Re.cy.mpr (Rat.intCast_le_intCast.mpr (by lia));rw[c1] at this;exact this
 have n0:(0:Re)<=(n:Re):=by
  have:((0:Int):Re)<=((n:Int):Re):=Re.cy.mpr (Rat.intCast_le_intCast.mpr hn);rw[c0] at this;exact this
 generalize ov y d=z at*;constructor
 ·rcases SF.Re.Aa z (-(n:Re)) with w|w|w
  ·exfalso;have:=Re.mul_pos (x:=-(n:Re)-z) (y:=(d:Re)) (by grind) (by grind);have:=Re.mul_nonneg (x:=(n:Re)) (y:=(d:Re)-1) n0 (by grind);grind
  ·grind
  ·grind
 ·rcases SF.Re.Aa z (n:Re) with w|w|w
  ·grind
  ·grind
  ·exfalso;have:=Re.mul_pos (x:=z-(n:Re)) (y:=(d:Re)) (by grind) (by grind);have:=Re.mul_nonneg (x:=(n:Re)) (y:=(d:Re)-1) n0 (by grind);grind
theorem L4{p σ m d:Int}(h:M_ p σ m d):-((5096:Int):Re)<=xS p σ m d/\xS p σ m d<=((5096:Int):Re):=by
 have d0:0<d:=h.d1;have hp:-((1000:Int):Re)<=(p:Re)/\(p:Re)<=((1000:Int):Re):=by
  constructor
  ·rw[<-e_];exact Re.cy.mpr (Rat.intCast_le_intCast.mpr h.p1)
  ·exact Re.cy.mpr (Rat.intCast_le_intCast.mpr h.p2)
 have k:((1000:Int):Re)+((4096:Int):Re)=((5096:Int):Re):=by rw[<-Lean.Grind.Ring.intCast_add];rfl
 have k2:(0:Re)<((4096:Int):Re):=dQ (by decide);obtain⟨s0,ss⟩:=ye h.hm.1;have s1:=L3 (n:=4096) h.hm.1 (by decide) (by have:=h.bm;have:=h.hm.1;unfold Bd at *;lia);unfold xS;by_cases z:σ=0
 ·rw[if_pos z];have e:Re.q (vl p d)=ov (p:Re) d:=by
   unfold ov;rw[cV,<-Re.fy];congr 1;unfold vl;rw[Rat.div_def,Rat.div_def];grind
  rw[e];exact Cv d0 (by grind) (by grind) (by decide)
 ·rw[if_neg z];by_cases z1:σ=1
  ·rw[if_pos z1];exact Cv d0 (by grind) (by grind) (by decide)
  ·rw[if_neg z1];exact Cv d0 (by grind) (by grind) (by decide)
theorem Cm.bd{x:Re}{sc F n:Int}(h:Cm x sc F)(hs:0<sc)(h1:-(n:Re)<=x)(h2:x<=(n:Re)):-(n*sc)<=F+1/\F<=n*sc:=by
 have e:∀z:Int,(z:Re)=Re.q (vl z 1):=fun z=>by
  rw[cV];congr 1;unfold vl;grind
 obtain⟨f1,f2⟩:=h;constructor
 ·have:Re.q (vl (-n) 1)<Re.q (vl (F+1) sc):=by rw[<-e,e_];grind
  have:=(jx (by decide) hs).mp (Re.dP.mp this);have e2:-n*sc=-(n*sc):=Int.neg_mul ..;lia
 ·have:Re.q (vl F sc)<=Re.q (vl n 1):=by rw[<-e];grind
  have:=(gi hs (by decide)).mp (Re.cy.mp this);lia
theorem Cm.VU{x:Re}{sc F G:Int}(h:Cm x sc F)(g:Cm x (sc*10) G)(hs:0<sc):G.fdiv 10=F:=by
 have CQ:0<sc*10:=by lia
 have a1:Re.q (vl F sc)<Re.q (vl (G+1) (sc*10)):=by have:=h.1;have:=g.2;grind
 have a2:=(jx hs CQ).mp (Re.dP.mp a1);have b1:Re.q (vl G (sc*10))<Re.q (vl (F+1) sc):=by have:=h.2;have:=g.1;grind
 have b2:=(jx CQ hs).mp (Re.dP.mp b1);have e1:F*(sc*10)=F*10*sc:=by grind
 rw[e1] at a2;have a3:=Int.lt_of_mul_lt_mul_right a2 (Int.le_of_lt hs);have e2:(F+1)*(sc*10)=(F+1)*10*sc:=by grind
 rw[e2] at b2;have b3:=Int.lt_of_mul_lt_mul_right b2 (Int.le_of_lt hs);rw[dO (by decide)];lia
theorem L5{n:Int}{k:Nat}(hk:k<=31)(h1:-(5096*10^k)<=n+1)(h2:n<=5096*10^k):n.natAbs<10^64:=by
 have h3:(10:Int)^k<=10^31:=by
  have:((10^k:Nat):Int)<=((10^31:Nat):Int):=Int.ofNat_le.mpr (Nat.pow_le_pow_right (by decide) hk);rw[Int.natCast_pow,Int.natCast_pow] at this;exact this
 generalize (10:Int)^k=s at*;lia
end dH
namespace dH
open PySem PyProof.Rows L2 SF SF.Po
noncomputable def yB(K:PySem.W.Frag):Sp:=fun vs H Q _=>∃(a:Addr)(ns:List Int),vs=[.ref a]/\aZ K H a (ns.map V.int)/\ns.length<=63/\∀H',Q (.bl true) H'
theorem IE{y:Re}(h:0<=y):¬aT y<0:=fun z=>by
 have:=jd.mp z;grind
theorem EO{y:Re}(h:y<0):¬0<=aT y:=fun z=>by
 rw[SF.Re.cG h] at z;exact absurd z (by decide)
theorem uA{F:Int}(h:Cm (Re.q (vl 0 1)) (10^3) F):F=0:=by
 have h1:=(gi (by decide) (by decide)).mp (Re.cy.mp h.1);have h2:=(jx (by decide) (by decide)).mp (Re.dP.mp h.2);lia
theorem pH{F:Int}(h:Cm (Re.q (vl (-1) 3)) (10^0) F):F=-1:=by
 have h1:=(gi (by decide) (by decide)).mp (Re.cy.mp h.1);have h2:=(jx (by decide) (by decide)).mp (Re.dP.mp h.2);lia
theorem Cw:S (rj 0 3)=(Str.ofString "0.000":Str):=by
 have e:oh (0:Int).natAbs=[48]:=d7 (n:=0) (by decide);unfold rj bE;rw[e]
 first|(rfl;done)|kernel_rfl
theorem zM:S (rj (-1) 0)=(Str.ofString "-1":Str):=by
 have e:oh (-1:Int).natAbs=[49]:=d7 (n:=1) (by decide);unfold rj bE;rw[e]
 first|(rfl;done)|kernel_rfl
theorem yC{H:Hp}{Q:VK}{x:V}(hs:GN x x=true)(h:Q (.bl true) H):Ml x x H Q:=⟨hs,by rw[decide_eq_true rfl];exact h⟩
section
variable {P:Program} {w:World} {K:PySem.W.Frag} {mg:Str->Option Value} {base:Heap} {C:Addr}
theorem IF{f:Addr}{fd:FuncData}(T:Nm mg)(F:Dq K "law" "law" lN f fd)(wD:bq P w K mg base 39 "_law_cell" ["_law_script","_law_k"] (BR K))(gv:bq P w K mg base 39 "_law_drawn" ["_law_cell_here","_law_k"] qR)(wF:bq P w K mg base 39 "_law_surd" ["_law_cell_here","_law_k"] Cr)(rm:bq P w K mg base 39 "_law_number" ["_law_surd_here"] (uv C))(jq:bq P w K mg base 39 "decimal" ["number","digits"] (Gp C))(ku:bq P w K mg base 39 "_law_scaled" ["_law_text","_law_digits"] uz)(n8:bq P w K mg base 39 "_law_side" ["_law_surd_here","_law_given"] Cs)(gw:bq P w K mg base 39 "_law_ratio" ["_law_top","_law_under"] wb)(dX:bq P w K mg base 39 "of_ratio" ["given"] (mD C)):iN P w K mg base z_ 40 f fd ["_law_script"] (yB K):=by
 refine F.ok f_ (fun vs H Q E h=>?_) (fun cD A outer s H vs Q E hr h=>?_)
 ·obtain⟨a,ns,rfl,_⟩:=h;rfl
 obtain⟨sa,ns,rfl,hS,hl,q⟩:=h;refine⟨_,(ae (gx PassesOwn.never rfl (oO rfl T.qO (aa (aG (yN rfl) rfl T.F4 boot_max (aa af (aa (aG (kB rfl) rfl T.BK boot_min (aa af (aa (aG aW rfl T.fu boot_len (aa (pv 0) ag)) ag))) ag))) ag)) (aQ (i:=1) f_.nd rfl (Or.inl rfl))
  (ae (ai (i:=2) f_.nd rfl (Or.inl rfl) (av wD hr (aa (pv 0) (aa (pv 1) ag))))
  (ae (ai (i:=3) f_.nd rfl (Or.inl rfl) (av wF hr (aa (pv 2) (aa (pv 1) ag))))
  (ae (ai (i:=4) f_.nd rfl (Or.inl rfl) (av rm hr (aa (pv 3) ag)))
  (ae (ai (i:=5) f_.nd rfl (Or.inl rfl) (aD bI (eV (aa (aj cF (av gv hr (aa (pv 2) (aa (aj bA (pv 1) af) ag))) af) (aa (aj cF (av gv hr (aa (pv 2) (aa (aj bA (pv 1) af) ag))) af) ag))) (aj cF (pv 1) af) (fun _ _=>rfl)))
  (ae (ai (i:=6) f_.nd rfl (Or.inl rfl) (av jq hr (aa (pv 4) (aa (pv 5) ag))))
  (ae (ai (i:=7) f_.nd rfl (Or.inl rfl) af)
  (ae (gx PassesOwn.never rfl (oO rfl T.qO (aa (pv 5) ag)) (aQ (i:=8) f_.nd rfl (Or.inl rfl))
  (ah (ai (i:=7) f_.nd rfl (Or.inl rfl) (aj aw (pv 7) af))))
  (ae (bO (mF (pO (aG r_ rfl T.qP boot_isinstance (aa (pv 6) (aa (J6 rfl T.F5 boot_str) ag)))))
  (ah (ax mE))
  aO)
  (ae (ai (i:=9) f_.nd rfl (Or.inl rfl) (av ku hr (aa (pv 6) (aa (pv 5) ag))))
  (ae (bO (PW.pt (wZ (aB pQ (pv 9) fv (aE _)) (Al (aB iL (av n8 hr (aa (pv 3) (aa (av gw hr (aa (pv 9) (aa (pv 7) ag))) ag))) af (aE _)))))
  (ah (ax mE))
  aO)
  (ae (bO (aB Fi (av n8 hr (aa (pv 3) (aa (av gw hr (aa (aj bA (pv 9) af) (aa (pv 7) ag))) ag))) af (aE _))
  (ah (ax mE))
  aO)
  (ah (bO (PW.pt (jy (aB iL (pv 5) af (aE _)) (gX (aB mI (aj cY (av ku hr (aa (av jq hr (aa (pv 4) (aa (aj bA (pv 5) af) ag))) (aa (aj bA (pv 5) af) ag))) af) (pv 9) (aE _)))))
  (ah (ax mE))
  aO))))))))))))))
  (ah (ax (GH (eF dN (av jq hr (aa (av dX hr (aa (cL (aa af (aa af ag))) ag)) (aa af ag))) eU (aE _)) (GG (eF dN (av jq hr (aa (av dX hr (aa (cL (aa (dn bY af) (aa af ag))) ag)) (aa af ag))) eU (aE _))))))),?_⟩;walk_at "sf";refine⟨sa,_,rfl,.inl hS,?_⟩;generalize Xh:(((ns.map V.int).length:Nat):Int)=ln;have Xi:0<=ln:=by lia
 walk_at "sf";refine⟨_,_,rfl,?_⟩;walk_at "sf";refine⟨_,_,rfl,?_⟩;walk_at "sf";generalize hm:(if(if ln<4 then ln else 4)>1 then(if ln<4 then ln else 4) else 1)=mm;have m2:0<=mm:=by rw[<-hm];split<;>lia
 have Xj:mm<=64:=by rw[<-hm];split<;>(try split)<;>lia
 refine⟨mm,rfl,by lia,by lia,?_⟩;have b10:Bd 4 (10:Int):=Bd.of_two (by decide) (by decide);refine oP (fun k σ H'=>∃(r1 r2 r3 r4 r5 r6 r7 r8 r9:Option V),σ=[some (.ref sa),r1,r2,r3,r4,r5,r6,r7,r8,r9]/\au H H') ⟨_,_,_,_,_,_,_,_,_,rfl,au.refl _⟩ ?_ ?_
 ·rintro k σ H1 hk ⟨r1,r2,r3,r4,r5,r6,r7,r8,r9,rfl,s1⟩;have e0:(0:Int)+(k:Int)=(k:Int):=by lia
  rw[e0];walk_at "sf";refine⟨sa,ns,_,rfl,s1.seq hS,hl,by lia,fun c H2 s2=>?_⟩;walk_at "sf";refine⟨_,_,rfl,fun g p y m d H3 s3 hg sd=>?_⟩;have Qe:=L4 sd;walk_at "sf";refine⟨g,p,y,m,d,rfl,hg,sd,fun v H4 s4 hv pv=>?_⟩;have Q5:=s1.trans (s2.trans (s3.trans s4));have VV:=s4 _ _ hg;generalize hx:xS p y m d=x at pv Qe;walk_at "sf";refine⟨_,_,rfl,fun a1 a10 a11=>?_⟩;walk_at "sf";refine bN (by decide) ?_;obtain⟨b1,b2,b3⟩:=fm (x:=a1) (m:=6) (by decide);rw[b1];walk_at "sf";refine⟨_,_,rfl,fun a2 a20 a21=>?_⟩;walk_at "sf";refine bN (by decide) ?_;obtain⟨c1,c2,c3⟩:=fm (x:=a2) (m:=31) (by decide);rw[c1];walk_at "sf";intro pl rJ;walk_at "sf";refine bN (by decide) ?_;obtain⟨d1,d2,d3⟩:=fm (x:=(k:Int)) (m:=2) (by decide);rw[d1];obtain⟨kd,VW,Xk⟩:∃kd:Nat,mf [V.int (a1%6),V.int (a2%31)] ((k:Int)%2)=some (.int (kd:Int))/\kd<=30:=by
   have:(k:Int)%2=0\/(k:Int)%2=1:=by lia
   obtain⟨z1,VX⟩:=Int.eq_ofNat_of_zero_le b2;obtain⟨z2,VY⟩:=Int.eq_ofNat_of_zero_le c2;rcases this with e|e
   ·exact⟨z1,by rw[e,<-VX];rfl,by lia⟩
   ·exact⟨z2,by rw[e,<-VY];rfl,by lia⟩
  refine dr (aZ.of ak) VW ?_;have s5:=au.new rJ (.lst [V.int (a1%6),V.int (a2%31)]);generalize upd H4 pl (.lst [V.int (a1%6),V.int (a2%31)])=H5 at s5 ⊢;have VZ:=s5 _ _ VV;have Sj:=hv.same s5;have Q6:=Q5.trans s5;have small:∀(j:Nat)(F:Int),j<=31->Cm x (10^j) F->F.natAbs<10^64:=fun j F hj fl=>by
   have:=fl.bd (Int.pow_pos (by decide)) Qe.1 Qe.2;exact L5 hj this.1 this.2
  walk_at "sf";refine⟨v,kd,x,rfl,Sj,pv,by lia,fun F fl=>small kd F (by lia) fl,fun F H6 s6 fl=>?_⟩;have Sk:=small kd F (by lia) fl;have bF:Bd 220 F:=by
   unfold Bd;exact Nat.lt_of_lt_of_le Sk (by decide)
  walk_at "sf";refine⟨_,rfl,by lia,by lia,?_⟩;rw[Int.toNat_natCast];refine oP (fun j σ H'=>(∃r8:Option V,σ=[some (.ref sa),some (.int (k:Int)),some (.int c),some (.ref g),some (.ref v.r),some (.int (kd:Int)),some (.str (S (rj F kd))),some (.int (10^j)),r8,r9])/\H'=H6/\j<=kd) ⟨⟨_,rfl⟩,rfl,Nat.zero_le _⟩ ?_ ?_
  ·rintro j σ H' hj ⟨⟨r8,rfl⟩,rfl,_⟩;walk_at "sf";refine bN (aR (wA j (by lia)) b10 (by decide)) ?_;exact⟨⟨_,by rw[Int.pow_succ];rfl⟩,rfl,by lia⟩
  rintro σ H' ⟨⟨r8,rfl⟩,rfl,_⟩;have Cn:(0:Int)<10^kd:=Int.pow_pos (by decide);have Iz:=wA kd (by lia);have V0:=s6 _ _ VZ;have Lz:=Sj.same s6;have V1:=Q6.trans s6;walk_at "sf";refine⟨_,"str",.type "str",true,rfl,.str _,AH _,?_⟩;walk_at "sf";refine kF ?_;walk_at "sf";refine⟨F,kd,rfl,Sk,by lia,fun H7 s7=>?_⟩;have V2:=s7 _ _ V0;walk_at "sf";refine⟨rfl,?_⟩;walk_at "sf";refine kF ?_;walk_at "sf";refine⟨F,10^kd,220,rfl,bF,Iz.mono (by decide),by decide,Cn,fun p8 t u V3 bt bu hu _ LX=>?_⟩;have s8:=au.new V3 (.tup [.int t,.int u]);have h8:upd H7 p8 (.tup [.int t,.int u]) p8=some (.tup [.int t,.int u]):=ak;generalize upd H7 p8 (.tup [.int t,.int u])=H8 at s8 h8 ⊢;have ev:vl t u=vl F (10^kd):=(ko hu Cn).mpr LX;have Sl:=s8 _ _ V2;walk_at "sf";refine⟨g,p8,p,y,m,d,t,u,rfl,Sl,sd,h8,hu,bt.mono (by decide),bu.mono (by decide),?_⟩;rw[hx,ev];walk_at "sf";rw[decide_eq_false (IE (by have:=fl.1;grind))];refine kF ?_;walk_at "sf";have V4:Bd 222 (F+1):=(bF.add (Bd.mono (m:=1) (by show(1:Int).natAbs<2^1;decide) (by decide))).mono (by decide);refine⟨F+1,10^kd,222,rfl,V4,Iz.mono (by decide),by decide,Cn,fun p9 t1 u1 V5 V6 V7 Sm _ Qf=>?_⟩;have s9:=au.new V5 (.tup [.int t1,.int u1]);have h9:upd H8 p9 (.tup [.int t1,.int u1]) p9=some (.tup [.int t1,.int u1]):=ak;generalize upd H8 p9 (.tup [.int t1,.int u1])=H9 at s9 h9 ⊢;have Oy:vl t1 u1=vl (F+1) (10^kd):=(ko Sm Cn).mpr Qf;walk_at "sf";refine⟨g,p9,p,y,m,d,t1,u1,rfl,s9 _ _ Sl,sd,h9,Sm,V6.mono (by decide),V7.mono (by decide),?_⟩;rw[hx,Oy];walk_at "sf";rw[decide_eq_false (EO (by have:=fl.2;grind))];refine kF ?_;walk_at "sf";have So:=V1.trans (s7.trans (s8.trans s9));have V8:=s7.trans (s8.trans s9);refine dI (fun cc=>?_) (fun cc=>?_)
  ·walk_at "sf";have Sq:(kd:Int)+1=((kd+1:Nat):Int):=by lia
   rw[Sq];refine⟨v,kd+1,x,rfl,Lz.same V8,pv,by lia,fun G fl=>small (kd+1) G (by lia) fl,fun G CU QE Qg=>?_⟩;walk_at "sf";rw[Sq];refine⟨G,kd+1,rfl,small (kd+1) G (by lia) Qg,by lia,fun Ir V9=>?_⟩;walk_at "sf";refine bN (Ig 10 (by decide) (by decide)) ?_;have eG:G.fdiv 10=F:=fl.VU (by rw[Int.pow_succ] at Qg;exact Qg) Cn;rw[eG];walk_at "sf";refine Fq rfl ?_;walk_at "sf";exact⟨_,_,_,_,_,_,_,_,_,rfl,So.trans (QE.trans V9)⟩
  ·walk_at "sf";refine kF ?_;walk_at "sf";exact⟨_,_,_,_,_,_,_,_,_,rfl,So⟩
 rintro σ H1 ⟨r1,r2,r3,r4,r5,r6,r7,r8,r9,rfl,s1⟩;walk_at "sf";intro p1 m5;have h1:upd H1 p1 (.tup [.int 0,.int 1]) p1=some (.tup [.int 0,.int 1]):=ak;generalize upd H1 p1 (.tup [.int 0,.int 1])=H2 at h1 ⊢;walk_at "sf";refine⟨p1,0,1,rfl,⟨h1,by decide,by decide⟩,Bd.mono (m:=1) (by show(0:Int).natAbs<2^1;decide) (by decide),Bd.mono (m:=1) (by show(1:Int).natAbs<2^1;decide) (by decide),fun v H3 s3 hv pv=>?_⟩;walk_at "sf";refine⟨v,3,_,rfl,hv,pv,by decide,fun F fl=>?_,fun F H4 s4 fl=>?_⟩
 ·rw[uA fl];decide
 rw[uA fl,Cw];walk_at "sf";refine yC rfl ?_;walk_at "sf";refine NS ?_;walk_at "sf";intro p2 vx;have h2:upd H4 p2 (.tup [.int (-1),.int 3]) p2=some (.tup [.int (-1),.int 3]):=ak;generalize upd H4 p2 (.tup [.int (-1),.int 3])=H5 at h2 ⊢;walk_at "sf";refine⟨p2,-1,3,rfl,⟨h2,by decide,by decide⟩,Bd.mono (m:=2) (by show(-1:Int).natAbs<2^2;decide) (by decide),Bd.mono (m:=2) (by show(3:Int).natAbs<2^2;decide) (by decide),fun v2 H6 s6 Ri V_=>?_⟩;walk_at "sf";refine⟨v2,0,_,rfl,Ri,V_,by decide,fun F fl=>?_,fun F H7 s7 fl=>?_⟩
 ·rw[pH fl];decide
 rw[pH fl,zM];walk_at "sf";exact yC rfl (q H7)
end
end dH
namespace dH
open PySem PyProof.Rows L2 SF SF.Po
theorem ER{P:Program}{w:World}{K:PySem.W.Frag}{mg:Str->Option Value}{base:Heap}{f C fI:Addr}{fd Sr:FuncData}{uG:Value}(T:Nm mg)(hT:P.given.tree=none)(hG:mg "GREATEST_DEGREE"=some uG/\RelV (.int 12) uG)(RC:Rc K mg C fI Sr)(F:Dq K "law" "law" lN f fd)(lp:aL K mg "common_divisor" fb ["one","other"])(IG:aL K mg "sign" vO ["number"])(ES:aL K mg "power" qL ["number","many"])(ET:aL K mg "ratio" qM ["top","under"])(Cy:aL K mg "middle" nG ["one","other"])(wG:aL K mg "order_of" jD ["one","other"])(zN:aL K mg "trimmed" kQ ["row"])(Cz:aL K mg "degree" nH ["poly"])(rn:aL K mg "derivative" iw ["poly"])(zO:aL K mg "content" kR ["poly"])(uB:aL K mg "primitive" iX ["poly"])(wH:aL K mg "value_at" jF ["poly","point"])(CA:aL K mg "spread" nI ["value","point"])(zP:aL K mg "divided" kS ["poly","divisor"])(zQ:aL K mg "largest" kT ["poly"])(rp:aL K mg "divisor_of" iz ["one","other"])(wI:aL K mg "quotient" jG ["one","other"])(oJ:aL K mg "square_free" gz ["poly"])(uC:aL K mg "height_at" iY ["poly","top","under"])(zR:aL K mg "sign_at" kU ["poly","given"])(rq:aL K mg "changes_in" iA ["row"])(uD:aL K mg "remainder" iZ ["one","other"])(wJ:aL K mg "chain_of" jH ["free"])(rz:aL K mg "changes_at" iB ["chain","given"])(uE:aL K mg "is_within" i4 ["free","reach"])(wK:aL K mg "bound_of" jI ["free"])(kv:aL K mg "pair_around_all" eO ["free"])(CB:aL K mg "marked" nK ["chain","given"])(wL:aL K mg "isolated" jJ ["poly"])(rA:aL K mg "stretch_of" iC ["pair"])(n9:aL K mg "parts_needed" fZ ["stretch","width"])(n_:aL K mg "part_between" f6 ["free","stretch","parts","near","far"])(zS:aL K mg "guessed" kW ["free","stretch","parts"])(CC:aL K mg "halved" nL ["free","stretch"])(wM:aL K mg "narrowed" jK ["free","pair","width"])(wN:aL K mg "of_ratio" jL ["given"])(uF:aL K mg "number_in" i8 ["free","pair","weight"])(EU:aL K mg "roots" qN ["poly"])(zT:aL K mg "against" kY ["number","given"])(oK:aL K mg "floor_times" gB ["number","scale"])(rB:aL K mg "figures_of" iD ["number"])(zU:aL K mg "decimal" kZ ["number","digits"])(wO:aL K mg "_law_cell" jN ["_law_script","_law_k"])(uH:aL K mg "_law_drawn" i9 ["_law_cell_here","_law_k"])(rC:aL K mg "_law_common" iE ["_law_one","_law_other"])(uI:aL K mg "_law_ratio" i_ ["_law_top","_law_under"])(wQ:aL K mg "_law_surd" jO ["_law_cell_here","_law_k"])(rD:aL K mg "_law_number" iF ["_law_surd_here"])(wR:aL K mg "_law_side" jP ["_law_surd_here","_law_given"])(rE:aL K mg "_law_scaled" iG ["_law_text","_law_digits"]):iN P w K mg base z_ 40 f fd ["_law_script"] (yB K):=by
 have CD:=kh (P:=P) (w:=w) (base:=base) T lp;have oa:=Eo (P:=P) (w:=w) (base:=base) IG;have zV:=vZ (P:=P) (w:=w) (base:=base) T zN;have uJ:=zE (P:=P) (w:=w) (base:=base) T Cz;have kx:=oy (P:=P) (w:=w) (base:=base) T rn;have zW:=vT CD zO;have lQ:=qQ hT (zW.mono (by decide)) uB;have EV:=tN (P:=P) (w:=w) (base:=base) T wH;have CF:=zA (P:=P) (w:=w) (base:=base) hT CA;have zX:=vU (P:=P) (w:=w) (base:=base) T zQ;have pI:=vW (P:=P) (w:=w) (base:=base) T hT zP;have zY:=oz T (CD.mono (by decide)) lQ (EV.mono (by decide)) (CF.mono (by decide)) (zX.mono (by decide)) (pI.mono (by decide)) rp;have wU:=tQ lQ (pI.mono (by decide)) wI;have L6:=nP wU zY (kx.mono (by decide)) oJ;have oe:=qU (P:=P) (w:=w) (base:=base) T uC;have lq:=v5 oa oe zR;have yD:=BY (P:=P) (w:=w) (base:=base) T ES;have L7:=qV T oa zV uD;have EW:=tT T hT (kx.mono (by decide)) (yD.mono (by decide)) (L7.mono (by decide)) wJ;have EX:=oA oa rq;have L8:=oB EX lq rz;have ky:=B3 hT (CD.mono (by decide)) ET;have CG:=zC ky Cy;have CH:=qZ (P:=P) (w:=w) (base:=base) T uE;have EY:=tZ CH wK;have CI:=jR T (EY.mono (by decide)) ky kv;have CJ:=zD L8 CB;have L9:=ua T hG (uJ.mono (by decide)) (L6.mono (by decide)) (EW.mono (by decide)) (CI.mono (by decide)) (CJ.mono (by decide)) (CG.mono (by decide)) wL;have L_:=oE (P:=P) (w:=w) (base:=base) rA;have IH:=lZ (P:=P) (w:=w) (base:=base) hT n9;have CK:=l_ oa oe n_;have EZ:=wk T hT (oe.mono (by decide)) (CK.mono (by decide)) zS;have II:=zG (CK.mono (by decide)) CC;have uK:=ud T (L_.mono (by decide)) (IH.mono (by decide)) (EZ.mono (by decide)) (II.mono (by decide)) (ky.mono (by decide)) wM;have CL:=ED (P:=P) (w:=w) (base:=base) RC;have yE:=ue (oa.mono (by decide)) wG;have rF:=uk RC (CL.mono (by decide)) wN;have E2:=rf hT RC (CL.mono (by decide)) uK rF (ky.mono (by decide)) (yE.mono (by decide)) (lq.mono (by decide)) uF;have E3:=Ck T L9 (L6.mono (by decide)) E2 (uJ.mono (by decide)) EU;have zZ:=wu RC (yE.mono (by decide)) (lq.mono (by decide)) zT;have E4:=nZ hT RC uK zZ (ky.mono (by decide)) oK;have L':=oF (P:=P) (w:=w) (base:=base) T rB;have Ma:=wB T E4 (yD.mono (by decide)) (L'.mono (by decide)) zU;have IJ:=tL (P:=P) (w:=w) (base:=base) T wO;have yF:=qS (P:=P) (w:=w) (base:=base) uH;have CM:=oC (P:=P) (w:=w) (base:=base) T rC;have uL:=qX CM uI;have IK:=ur (yF.mono (by decide)) wQ;have CN:=oH T (rF.mono (by decide)) (uL.mono (by decide)) E3 rD;have IM:=uw (P:=P) (w:=w) (base:=base) T wR;have CO:=oI (P:=P) (w:=w) (base:=base) T rE;exact IF T F (IJ.mono (by decide)) (yF.mono (by decide)) (IK.mono (by decide)) CN (Ma.mono (by decide)) (CO.mono (by decide)) (IM.mono (by decide)) (uL.mono (by decide)) (rF.mono (by decide))
theorem Mb{K:PySem.W.Frag}{h:Heap}{mg:Str->Option Value}{C fI:Addr}{od an:Option Addr}{xg:Array (Option Value)}{kV doc pm cD ct:Value}(X:K.In h)(G:h.Ns mainGlobals mg)(e:PySem.W.nsIn K mainGlobals "Root"=some (some (.ref C)))(o2:PySem.W.findIn K (.ref C) "__init__"=some (some (.ref fI)))(lk:K.lookup fI=some ⟨.type "function",od,.func (PySem.W.fnOf "__init__" "Root.__init__" (fB jS) (eI jS) (ao jS) .none kV doc pm an cD ct),xg⟩)(rG:PySem.W.codeIn K cD "Root.__init__"=true)(o1:PySem.W.makesIn K C=true)(o3:PySem.W.isFn K (.ref fI)=true)(o4:PySem.W.keepIn K (.ref C)=true)(cl:Dh K C)(n1:PySem.W.findIn K (.ref C) "poly"=some none)(n2:PySem.W.findIn K (.ref C) "pair"=some none)(n3:PySem.W.findIn K (.ref C) "weight"=some none):∃V' fd,Rc K mg C V' fd:=by
 refine⟨fI,_,PySem.W.mg_of X G e,⟨o1,o2,o3,o4⟩,cl,n1,n2,n3,⟨.type "function",od,.none,kV,doc,pm,an,cD,ct,xg,rfl,lk,rG⟩,fun s us X hl=>?_⟩;have h2:us.length=4:=by simpa using hl
 match us,h2 with
 |[u1,u2,u3,u4],_=>exact BindsTo.of_eq rfl
end dH
namespace dH
open PySem PyProof.Rows L2 SF
theorem walk{l:PySem.W.OpenLaw}{q:Program}{loose:List Str}{XP:(Str->Option Value)->Heap->Prop}{YP:World->Heap->Prop}{d:DefRec}{K:Params->PySem.W.Frag}(hn:l.most=some 63)(J3:d.params.defaults=[])(hY:∀(w:World)(h:Heap),YP w h->(K w.params).In h)(F:∀(w:World)(mg:Str->Option Value)(fa:Addr)(h:Heap),(K w.params).In h->h.Ns mainGlobals mg->mg d.name=some (.ref fa)->
 ∃fd:FuncData,(∀(s:Shared)(u:Value),BindsTo s fd ⟨[u],[]⟩ [("_law_script",u)])/\∀base:Heap,(K w.params).In base->base.Ns mainGlobals mg->iN l.prog w (K w.params) mg base z_ 40 fa fd ["_law_script"] (yB (K w.params)))(hi:importsNone q=true):
 PySem.W.WalkO q loose XP YP l.row.toRowW d [] (fun f vs=>PySem.call f vs):=
 L2.Dp (n:=63) (k:=40) (x:="_law_script") (CX:=fun _=>z_) (sp:=fun w=>yB (K w.params)) hn (by decide) J3 ⟨rfl,by decide,by decide⟩ hY F (fun _ _ a ns hl _ hS=>⟨a,ns,rfl,hS,hl,fun _=>rfl⟩) (fun _ _ _ _ _ z=>z) hi
theorem IP{K:PySem.W.Frag}{h:Heap}{mg:Str->Option Value}{fa f:Addr}{od an:Option Addr}{sl:Array (Option Value)}{oc kV doc pm cd ct:Value}(X:K.In h)(G:h.Ns mainGlobals mg)(Wa:mg "law"=some (.ref fa))(a:PySem.W.nsIn K mainGlobals "law"=some (some (.ref f)))(l:K.lookup f=some ⟨oc,od,.func (PySem.W.fnOf "law" "law" (fB lN) (eI lN) (ao lN) .none kV doc pm an cd ct),sl⟩)(c:PySem.W.codeIn K cd "law"=true)(k:PySem.W.keepIn K (.ref f)=true):∃fd:FuncData,(∀(s:Shared)(v:Value),BindsTo s fd ⟨[v],[]⟩ [("_law_script",v)])/\Dq K "law" "law" lN fa fd:=by
 have e:=Wa.symm.trans (PySem.W.mg_of X G a);cases e;exact⟨_,fun s v=>.of_eq rfl,AG (st:=lN) l c k⟩
end dH
def PySem.W.Fast.tw2600683179404990866:Unit:=()
def PySem.W.Fast.tw12704869811088088267:Unit:=()
def PySem.W.Fast.tw11369433481713319868:Unit:=()
def PySem.W.Fast.tw14966331464236898182:Unit:=()
def PySem.W.Fast.tw16718493271024384140:Unit:=()
def PySem.W.Fast.tw12328958399612158640:Unit:=()
def PySem.W.Fast.tw6507759831980246495:Unit:=()
def PySem.W.Fast.tw13708110749067463758:Unit:=()
def PySem.W.Fast.tw8903435060666922183:Unit:=()
def PySem.W.Fast.tw18351990305153965025:Unit:=()
def PySem.W.Fast.tw4563128860971593590:Unit:=()
def PySem.W.Fast.tw12755095901727887837:Unit:=()
def PySem.W.Fast.tw17242126418374745280:Unit:=()
def PySem.W.Fast.tw13025846511332503059:Unit:=()
open PySem PySem.W PyProof.Rows
set_option maxRecDepth 100000 in
set_option maxHeartbeats 0 in
theorem PySem.Challenge.cw_surefoot_k22_whole_decimals_holds : PySem.Challenge.rw_surefoot_k22_whole_decimals.Holds := by
 w_on;o_law;k_head;(case hw=>w_witness2)
 k_fill
 refine dH.walk (l:=PySem.Challenge.rw_surefoot_k22_whole_decimals) rfl rfl (fun w h Y=>PySem.W.kIn_of Y) ?F ?I
 case I=>decide +kernel
 case F=>
  intro w mg fa h KX G J4;have T:dH.Nm mg:=by
   refine'⟨PySem.W.mg_none_of KX G ?t1,PySem.W.mg_none_of KX G ?t2,PySem.W.mg_none_of KX G ?t3,PySem.W.mg_none_of KX G ?t4,PySem.W.mg_none_of KX G ?t5,PySem.W.mg_none_of KX G ?t6,PySem.W.mg_none_of KX G ?t7,PySem.W.mg_none_of KX G ?t8,PySem.W.mg_none_of KX G ?t9,PySem.W.mg_none_of KX G ?Xl,PySem.W.mg_none_of KX G ?Xm,PySem.W.mg_none_of KX G ?Xn,PySem.W.mg_none_of KX G ?Xo,PySem.W.mg_none_of KX G ?Xp⟩
   all_goals k_is
  have L:=by
   refine' dH.IP KX G J4 ?a ?l ?c ?k
   (case a=>k_is);(case l=>k_is);(case c=>k_is);(case k=>k_is)
  obtain⟨fd,hb,F⟩:=L;have R:=by
   refine' dH.Mb KX G ?e ?o2 ?lk ?cd ?o1 ?o3 ?o4 ⟨?pg,?hd,?po,?sa⟩ ?n1 ?n2 ?n3
   (case e=>k_is);(case o2=>k_is);(case lk=>k_is);(case cd=>k_is)
   all_goals kernel_rfl
  obtain⟨fI,Sr,RC⟩:=R;refine⟨fd,hb,fun base _ _=>?_⟩;refine' dH.ER T (by rfl) ⟨PySem.W.mg_of KX G ?g1,?h1⟩ RC F (L2.aM KX G ?a1 ?l1 ?c1 ?k1 ?b1) (L2.aM KX G ?a2 ?l2 ?c2 ?k2 ?b2) (L2.aM KX G ?a3 ?l3 ?c3 ?k3 ?b3) (L2.aM KX G ?a4 ?l4 ?c4 ?k4 ?b4) (L2.aM KX G ?a5 ?l5 ?c5 ?k5 ?b5) (L2.aM KX G ?a6 ?l6 ?c6 ?k6 ?b6) (L2.aM KX G ?a7 ?l7 ?c7 ?k7 ?b7) (L2.aM KX G ?a8 ?l8 ?c8 ?k8 ?b8) (L2.aM KX G ?a9 ?l9 ?c9 ?k9 ?b9) (L2.aM KX G ?a10 ?l10 ?c10 ?k10 ?b10) (L2.aM KX G ?a11 ?l11 ?c11 ?k11 ?b11) (L2.aM KX G ?a12 ?l12 ?c12 ?k12 ?b12) (L2.aM KX G ?a13 ?l13 ?c13 ?k13 ?b13) (L2.aM KX G ?a14 ?l14 ?c14 ?k14 ?b14) (L2.aM KX G ?a15 ?l15 ?c15 ?k15 ?b15) (L2.aM KX G ?a16 ?l16 ?c16 ?k16 ?b16) (L2.aM KX G ?a17 ?l17 ?c17 ?k17 ?b17) (L2.aM KX G ?a18 ?l18 ?c18 ?k18 ?b18) (L2.aM KX G ?a19 ?l19 ?c19 ?k19 ?b19) (L2.aM KX G ?a20 ?l20 ?c20 ?k20 ?b20) (L2.aM KX G ?a21 ?l21 ?c21 ?k21 ?b21) (L2.aM KX G ?a22 ?l22 ?c22 ?k22 ?b22) (L2.aM KX G ?a23 ?l23 ?c23 ?k23 ?b23) (L2.aM KX G ?a24 ?l24 ?c24 ?k24 ?b24) (L2.aM KX G ?a25 ?l25 ?c25 ?k25 ?b25) (L2.aM KX G ?a26 ?l26 ?c26 ?k26 ?b26) (L2.aM KX G ?a27 ?l27 ?c27 ?k27 ?b27) (L2.aM KX G ?a28 ?l28 ?c28 ?k28 ?b28) (L2.aM KX G ?a29 ?l29 ?c29 ?k29 ?b29) (L2.aM KX G ?a30 ?l30 ?c30 ?k30 ?b30) (L2.aM KX G ?a31 ?l31 ?c31 ?k31 ?b31) (L2.aM KX G ?a32 ?l32 ?c32 ?k32 ?b32) (L2.aM KX G ?a33 ?l33 ?c33 ?k33 ?b33) (L2.aM KX G ?a34 ?l34 ?c34 ?k34 ?b34) (L2.aM KX G ?a35 ?l35 ?c35 ?k35 ?b35) (L2.aM KX G ?a36 ?l36 ?c36 ?k36 ?b36) (L2.aM KX G ?a37 ?l37 ?c37 ?k37 ?b37) (L2.aM KX G ?a38 ?l38 ?c38 ?k38 ?b38) (L2.aM KX G ?a39 ?l39 ?c39 ?k39 ?b39) (L2.aM KX G ?a40 ?l40 ?c40 ?k40 ?b40) (L2.aM KX G ?a41 ?l41 ?c41 ?k41 ?b41) (L2.aM KX G ?a42 ?l42 ?c42 ?k42 ?b42) (L2.aM KX G ?a43 ?l43 ?c43 ?k43 ?b43) (L2.aM KX G ?a44 ?l44 ?c44 ?k44 ?b44) (L2.aM KX G ?a45 ?l45 ?c45 ?k45 ?b45) (L2.aM KX G ?a46 ?l46 ?c46 ?k46 ?b46) (L2.aM KX G ?a47 ?l47 ?c47 ?k47 ?b47) (L2.aM KX G ?a48 ?l48 ?c48 ?k48 ?b48) (L2.aM KX G ?a49 ?l49 ?c49 ?k49 ?b49) (L2.aM KX G ?a50 ?l50 ?c50 ?k50 ?b50)
  (case a1=>k_is);(case l1=>k_is);(case c1=>k_is);(case k1=>k_is);(case b1=>exact fun _ _ _ _ _ _ us hl=>match us,hl with|[_,_],_=>rfl)
  (case a2=>k_is);(case l2=>k_is);(case c2=>k_is);(case k2=>k_is);(case b2=>exact fun _ _ _ _ _ _ us hl=>match us,hl with|[_],_=>rfl)
  (case a3=>k_is);(case l3=>k_is);(case c3=>k_is);(case k3=>k_is);(case b3=>exact fun _ _ _ _ _ _ us hl=>match us,hl with|[_,_],_=>rfl)
  (case a4=>k_is);(case l4=>k_is);(case c4=>k_is);(case k4=>k_is);(case b4=>exact fun _ _ _ _ _ _ us hl=>match us,hl with|[_,_],_=>rfl)
  (case a5=>k_is);(case l5=>k_is);(case c5=>k_is);(case k5=>k_is);(case b5=>exact fun _ _ _ _ _ _ us hl=>match us,hl with|[_,_],_=>rfl)
  (case a6=>k_is);(case l6=>k_is);(case c6=>k_is);(case k6=>k_is);(case b6=>exact fun _ _ _ _ _ _ us hl=>match us,hl with|[_,_],_=>rfl)
  (case a7=>k_is);(case l7=>k_is);(case c7=>k_is);(case k7=>k_is);(case b7=>exact fun _ _ _ _ _ _ us hl=>match us,hl with|[_],_=>rfl)
  (case a8=>k_is);(case l8=>k_is);(case c8=>k_is);(case k8=>k_is);(case b8=>exact fun _ _ _ _ _ _ us hl=>match us,hl with|[_],_=>rfl)
  (case a9=>k_is);(case l9=>k_is);(case c9=>k_is);(case k9=>k_is);(case b9=>exact fun _ _ _ _ _ _ us hl=>match us,hl with|[_],_=>rfl)
  (case a10=>k_is);(case l10=>k_is);(case c10=>k_is);(case k10=>k_is);(case b10=>exact fun _ _ _ _ _ _ us hl=>match us,hl with|[_],_=>rfl)
  (case a11=>k_is);(case l11=>k_is);(case c11=>k_is);(case k11=>k_is);(case b11=>exact fun _ _ _ _ _ _ us hl=>match us,hl with|[_],_=>rfl)
  (case a12=>k_is);(case l12=>k_is);(case c12=>k_is);(case k12=>k_is);(case b12=>exact fun _ _ _ _ _ _ us hl=>match us,hl with|[_,_],_=>rfl)
  (case a13=>k_is);(case l13=>k_is);(case c13=>k_is);(case k13=>k_is);(case b13=>exact fun _ _ _ _ _ _ us hl=>match us,hl with|[_,_],_=>rfl)
  (case a14=>k_is);(case l14=>k_is);(case c14=>k_is);(case k14=>k_is);(case b14=>exact fun _ _ _ _ _ _ us hl=>match us,hl with|[_,_],_=>rfl)
  (case a15=>k_is);(case l15=>k_is);(case c15=>k_is);(case k15=>k_is);(case b15=>exact fun _ _ _ _ _ _ us hl=>match us,hl with|[_],_=>rfl)
  (case a16=>k_is);(case l16=>k_is);(case c16=>k_is);(case k16=>k_is);(case b16=>exact fun _ _ _ _ _ _ us hl=>match us,hl with|[_,_],_=>rfl)
  (case a17=>k_is);(case l17=>k_is);(case c17=>k_is);(case k17=>k_is);(case b17=>exact fun _ _ _ _ _ _ us hl=>match us,hl with|[_,_],_=>rfl)
  (case a18=>k_is);(case l18=>k_is);(case c18=>k_is);(case k18=>k_is);(case b18=>exact fun _ _ _ _ _ _ us hl=>match us,hl with|[_],_=>rfl)
  (case a19=>k_is);(case l19=>k_is);(case c19=>k_is);(case k19=>k_is);(case b19=>exact fun _ _ _ _ _ _ us hl=>match us,hl with|[_,_,_],_=>rfl)
  (case a20=>k_is);(case l20=>k_is);(case c20=>k_is);(case k20=>k_is);(case b20=>exact fun _ _ _ _ _ _ us hl=>match us,hl with|[_,_],_=>rfl)
  (case a21=>k_is);(case l21=>k_is);(case c21=>k_is);(case k21=>k_is);(case b21=>exact fun _ _ _ _ _ _ us hl=>match us,hl with|[_],_=>rfl)
  (case a22=>k_is);(case l22=>k_is);(case c22=>k_is);(case k22=>k_is);(case b22=>exact fun _ _ _ _ _ _ us hl=>match us,hl with|[_,_],_=>rfl)
  (case a23=>k_is);(case l23=>k_is);(case c23=>k_is);(case k23=>k_is);(case b23=>exact fun _ _ _ _ _ _ us hl=>match us,hl with|[_],_=>rfl)
  (case a24=>k_is);(case l24=>k_is);(case c24=>k_is);(case k24=>k_is);(case b24=>exact fun _ _ _ _ _ _ us hl=>match us,hl with|[_,_],_=>rfl)
  (case a25=>k_is);(case l25=>k_is);(case c25=>k_is);(case k25=>k_is);(case b25=>exact fun _ _ _ _ _ _ us hl=>match us,hl with|[_,_],_=>rfl)
  (case a26=>k_is);(case l26=>k_is);(case c26=>k_is);(case k26=>k_is);(case b26=>exact fun _ _ _ _ _ _ us hl=>match us,hl with|[_],_=>rfl)
  (case a27=>k_is);(case l27=>k_is);(case c27=>k_is);(case k27=>k_is);(case b27=>exact fun _ _ _ _ _ _ us hl=>match us,hl with|[_],_=>rfl)
  (case a28=>k_is);(case l28=>k_is);(case c28=>k_is);(case k28=>k_is);(case b28=>exact fun _ _ _ _ _ _ us hl=>match us,hl with|[_,_],_=>rfl)
  (case a29=>k_is);(case l29=>k_is);(case c29=>k_is);(case k29=>k_is);(case b29=>exact fun _ _ _ _ _ _ us hl=>match us,hl with|[_],_=>rfl)
  (case a30=>k_is);(case l30=>k_is);(case c30=>k_is);(case k30=>k_is);(case b30=>exact fun _ _ _ _ _ _ us hl=>match us,hl with|[_],_=>rfl)
  (case a31=>k_is);(case l31=>k_is);(case c31=>k_is);(case k31=>k_is);(case b31=>exact fun _ _ _ _ _ _ us hl=>match us,hl with|[_,_],_=>rfl)
  (case a32=>k_is);(case l32=>k_is);(case c32=>k_is);(case k32=>k_is);(case b32=>exact fun _ _ _ _ _ _ us hl=>match us,hl with|[_,_,_,_,_],_=>rfl)
  (case a33=>k_is);(case l33=>k_is);(case c33=>k_is);(case k33=>k_is);(case b33=>exact fun _ _ _ _ _ _ us hl=>match us,hl with|[_,_,_],_=>rfl)
  (case a34=>k_is);(case l34=>k_is);(case c34=>k_is);(case k34=>k_is);(case b34=>exact fun _ _ _ _ _ _ us hl=>match us,hl with|[_,_],_=>rfl)
  (case a35=>k_is);(case l35=>k_is);(case c35=>k_is);(case k35=>k_is);(case b35=>exact fun _ _ _ _ _ _ us hl=>match us,hl with|[_,_,_],_=>rfl)
  (case a36=>k_is);(case l36=>k_is);(case c36=>k_is);(case k36=>k_is);(case b36=>exact fun _ _ _ _ _ _ us hl=>match us,hl with|[_],_=>rfl)
  (case a37=>k_is);(case l37=>k_is);(case c37=>k_is);(case k37=>k_is);(case b37=>exact fun _ _ _ _ _ _ us hl=>match us,hl with|[_,_,_],_=>rfl)
  (case a38=>k_is);(case l38=>k_is);(case c38=>k_is);(case k38=>k_is);(case b38=>exact fun _ _ _ _ _ _ us hl=>match us,hl with|[_],_=>rfl)
  (case a39=>k_is);(case l39=>k_is);(case c39=>k_is);(case k39=>k_is);(case b39=>exact fun _ _ _ _ _ _ us hl=>match us,hl with|[_,_],_=>rfl)
  (case a40=>k_is);(case l40=>k_is);(case c40=>k_is);(case k40=>k_is);(case b40=>exact fun _ _ _ _ _ _ us hl=>match us,hl with|[_,_],_=>rfl)
  (case a41=>k_is);(case l41=>k_is);(case c41=>k_is);(case k41=>k_is);(case b41=>exact fun _ _ _ _ _ _ us hl=>match us,hl with|[_],_=>rfl)
  (case a42=>k_is);(case l42=>k_is);(case c42=>k_is);(case k42=>k_is);(case b42=>exact fun _ _ _ _ _ _ us hl=>match us,hl with|[_,_],_=>rfl)
  (case a43=>k_is);(case l43=>k_is);(case c43=>k_is);(case k43=>k_is);(case b43=>exact fun _ _ _ _ _ _ us hl=>match us,hl with|[_,_],_=>rfl)
  (case a44=>k_is);(case l44=>k_is);(case c44=>k_is);(case k44=>k_is);(case b44=>exact fun _ _ _ _ _ _ us hl=>match us,hl with|[_,_],_=>rfl)
  (case a45=>k_is);(case l45=>k_is);(case c45=>k_is);(case k45=>k_is);(case b45=>exact fun _ _ _ _ _ _ us hl=>match us,hl with|[_,_],_=>rfl)
  (case a46=>k_is);(case l46=>k_is);(case c46=>k_is);(case k46=>k_is);(case b46=>exact fun _ _ _ _ _ _ us hl=>match us,hl with|[_,_],_=>rfl)
  (case a47=>k_is);(case l47=>k_is);(case c47=>k_is);(case k47=>k_is);(case b47=>exact fun _ _ _ _ _ _ us hl=>match us,hl with|[_,_],_=>rfl)
  (case a48=>k_is);(case l48=>k_is);(case c48=>k_is);(case k48=>k_is);(case b48=>exact fun _ _ _ _ _ _ us hl=>match us,hl with|[_],_=>rfl)
  (case a49=>k_is);(case l49=>k_is);(case c49=>k_is);(case k49=>k_is);(case b49=>exact fun _ _ _ _ _ _ us hl=>match us,hl with|[_,_],_=>rfl)
  (case a50=>k_is);(case l50=>k_is);(case c50=>k_is);(case k50=>k_is);(case b50=>exact fun _ _ _ _ _ _ us hl=>match us,hl with|[_,_],_=>rfl)
  (case g1=>k_is)
  (case h1=>exact⟨_,rfl⟩)
#print axioms PySem.Challenge.cw_surefoot_k22_whole_decimals_holds
