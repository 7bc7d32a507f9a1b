import PyProof.Rows.All
import Wide.All
import OpenK.AllK
import Wide.FinOn
import Lean
import PyProof.EqAt
import PyProof.EqKinds
import PyProof.TupleCall
import KE.KIntText
import KE.KTryMore
import KE.KLam
import PySem.Challenge.RW_surefoot_k17_whole_roots_and_ratios
set_option Elab.async false
set_option linter.all false
set_option maxRecDepth 100000
namespace L2
open PySem PySem.Spec PyProof.Rows
noncomputable abbrev Key:=Sum Int Str
noncomputable def Jb:Key->Value->Bool
 |.inl k,v=>Value.isInt k v
 |.inr x,v=>Value.isStrOf x v
noncomputable def SK(w:World):Key->Int
 |.inl k=>hashInt k
 |.inr x=>hashStr w x
theorem cM:∀{k:Key}{v:Value},Jb k v=true->(∃i t,k=Sum.inl i/\v=Value.int i t)\/(∃x t,k=Sum.inr x/\v=Value.str x t)
 |.inl i,v,h=>by
  obtain⟨t,e⟩:=Value.isInt_shape (k:=i) (v:=v) h;exact .inl ⟨i,t,rfl,e⟩
 |.inr x,v,h=>by
  obtain⟨t,e⟩:=Value.isStrOf_shape (x:=x) (v:=v) h;exact .inr ⟨x,t,rfl,e⟩
theorem KL(a b:Int):decide ((Sum.inl a:Key)=Sum.inl b)=(a==b):=by
 by_cases e:a=b
 ·subst e;simp
 ·have h:¬(Sum.inl a:Key)=Sum.inl b:=fun q=>e (Sum.inl.inj q);rw[decide_eq_false h];exact(beq_eq_false_iff_ne.mpr e).symm
theorem KN(a b:Str):decide ((Sum.inr a:Key)=Sum.inr b)=decide (a=b):=by
 by_cases e:a=b
 ·subst e;simp
 ·have h:¬(Sum.inr a:Key)=Sum.inr b:=fun q=>e (Sum.inr.inj q);rw[decide_eq_false h,decide_eq_false e]
theorem KO(a:Int)(b:Str):decide ((Sum.inl a:Key)=Sum.inr b)=false:=decide_eq_false (fun q=>nomatch q)
theorem KP(a:Str)(b:Int):decide ((Sum.inr a:Key)=Sum.inl b)=false:=decide_eq_false (fun q=>nomatch q)
noncomputable def sE(prog:Program)(w:World):PySem.KeyKind prog w Key where
 is:=Jb
 hash:=SK w
 inj:=fun v a b ha hb=>by
  rcases cM ha with⟨i,t,rfl,rfl⟩|⟨x,t,rfl,rfl⟩
  ·rcases cM hb with⟨j,u,rfl,e⟩|⟨y,u,rfl,e⟩
   ·injection e with e1 _;rw[e1]
   ·exact nomatch e
  ·rcases cM hb with⟨j,u,rfl,e⟩|⟨y,u,rfl,e⟩
   ·exact nomatch e
   ·injection e with e1 _;rw[e1]
 byValue:=fun k v h=>by
  rcases cM h with⟨i,t,rfl,rfl⟩|⟨x,t,rfl,rfl⟩<;>rfl
 pyHash:=fun hv h=>by
  rcases cM hv with⟨i,t,rfl,rfl⟩|⟨x,t,rfl,rfl⟩
  ·exact wpAny_pyHash_int h
  ·exact wpAny_pyHash_str h
 eqBool:=fun hu hv h=>by
  rcases cM hu with⟨i,t,rfl,rfl⟩|⟨x,t,rfl,rfl⟩
  ·rcases cM hv with⟨j,u,rfl,rfl⟩|⟨y,u,rfl,rfl⟩
   ·rw[KL] at h;exact wpAny_eqBool_int h
   ·rw[KO] at h;exact SeqAt.EqAt.int_str i t y u _ _ _ _ h
  ·rcases cM hv with⟨j,u,rfl,rfl⟩|⟨y,u,rfl,rfl⟩
   ·rw[KP] at h;exact SeqAt.EqAt.str_int x t j u _ _ _ _ h
   ·rw[KN] at h;exact wpAny_eqBool_str h
 «strs»:=fun k x t v h=>by
  rcases cM h with⟨i,u,rfl,e⟩|⟨y,u,rfl,e⟩
  ·exact nomatch e
  ·injection e with e1 _;subst e1;cases v<;>rfl
end L2
namespace L2
open PySem PySem.Spec PyProof.Rows
inductive V where
 |dU|bl (b:Bool)|int (i:Int)|str (x:Str)|zP (b:Array UInt8)|KQ (b:UInt64)|ref (a:Addr)|ty (n:String)
 deriving DecidableEq
noncomputable def RelV:V->Value->Prop
 |.dU,u=>u=Value.none
 |.bl b,u=>u=Value.bool b
 |.int i,u=>∃t,u=Value.int i t
 |.str x,u=>∃t,u=Value.str x t
 |.zP b,u=>∃t,u=Value.bytes b t
 |.KQ b,u=>∃t,u=Value.float b t
 |.ref a,u=>u=Value.ref a
 |.ty n,u=>u=Value.type n
noncomputable abbrev Vals:List V->List Value->Prop:=Paired RelV
theorem Vals.length{xs:List V}{us:List Value}(r:Vals xs us):xs.length=us.length:=Paired.length r
theorem Vals.get:∀{xs:List V}{us:List Value}{i:Nat}{x:V},Vals xs us->xs[i]?=some x->∃u,us[i]?=some u/\RelV x u
 |_,_,_,_,.nil,e=>by simp at e
 |_,_,0,_,.cons r _,e=>by simp at e;subst e;exact⟨_,rfl,r⟩
 |_,_,i+1,x,.cons _ t,e=>by
  obtain⟨u,h1,h2⟩:=Vals.get (i:=i) (x:=x) t (by simpa using e);exact⟨u,by simpa using h1,h2⟩
theorem Vals.set{x:V}{u:Value}(r:RelV x u):∀{xs:List V}{us:List Value}(i:Nat),Vals xs us->Vals (xs.set i x) (us.set i u)
 |_,_,_,.nil=>.nil
 |_,_,0,.cons _ t=>.cons r t
 |_,_,i+1,.cons q t=>.cons q (Vals.set r i t)
theorem Vals.append:∀{xs ys:List V}{us ws:List Value},Vals xs us->Vals ys ws->Vals (xs++ys) (us++ws)
 |_,_,_,_,.nil,s=>s
 |_,_,_,_,.cons r t,s=>.cons r (Vals.append t s)
theorem Vals.take:∀{xs:List V}{us:List Value}(n:Nat),Vals xs us->Vals (xs.take n) (us.take n)
 |_,_,0,_=>.nil
 |_,_,_+1,.nil=>.nil
 |_,_,n+1,.cons r t=>.cons r (Vals.take n t)
theorem Vals.drop:∀{xs:List V}{us:List Value}(n:Nat),Vals xs us->Vals (xs.drop n) (us.drop n)
 |_,_,0,r=>r
 |_,_,_+1,.nil=>.nil
 |_,_,n+1,.cons _ t=>Vals.drop n t
noncomputable def xx:Option V->Option Value->Prop
 |some v,some u=>RelV v u
 |none,none=>True
 |_,_=>False
noncomputable def KV{κ:Type}:List (κ×V)->List (κ×Value)->Prop:=Paired fun(p:κ×V)(q:κ×Value)=>p.1=q.1/\RelV p.2 q.2
noncomputable def kV:Key->V
 |.inl i=>.int i
 |.inr x=>.str x
inductive HO where
 |lst (xs:List V)
 |tup (xs:List V)
 |dK (iJ:List (Key×V))|dT (iJ:List (List Key×V))
 |set (S:Int->Bool) (n:Nat)
 |ins (C dx:Addr) (fs:List (Str×V))
 |own (x:Addr)
 |xd (fs:List (Str×V))
 |met (f x:Addr)
 |Ro (lo hi:Int)
 |nA (o:Obj) (u:HO)
 |oj (ps:Array Value)
 |ext (φ:Heap->Prop)
noncomputable abbrev Hp:=Addr->Option HO
noncomputable def upd(H:Hp)(a:Addr)(o:HO):Hp:=fun b=>if b=a then some o else H b
theorem ai{H:Hp}{a:Addr}{o:HO}:upd H a o a=some o:=by unfold upd;rw[if_pos rfl]
theorem aq{H:Hp}{a b:Addr}{o:HO}(h:b≠a):upd H a o b=H b:=by unfold upd;rw[if_neg h]
theorem zQ{H:Hp}{a:Addr}{o u:HO}:upd (upd H a o) a u=upd H a u:=by
 funext b;unfold upd;split<;>rfl
theorem aL{H:Hp}{a b:Addr}{o:HO}(h:H a=some o)(h':H b=none):a≠b:=by
 intro e;subst e;rw[h] at h';cases h'
section
variable (P:Program) (w:World)
noncomputable def cX(H:Hp)(h:Heap)(a:Addr):HO->Prop
 |.lst xs=>xs.length<=sizeLine/\∃(aX:List Value)(n:Nat),Vals xs aX/\h.get? a=some {cls:=.type "list",data:=.seq aX.toArray n}
 |.tup xs=>xs.length<=sizeLine/\∃aX:List Value,Vals xs aX/\IsTup h a aX.toArray
 |.dK iJ=>iJ.length<=sizeLine/\(a==sysModules)=false/\∃vs,KV iJ vs/\h.DictOf (sE P w) a vs
 |.dT iJ=>iJ.length<=sizeLine/\(a==sysModules)=false/\∃xs:List (List Key×Addr×Value),
  Paired (fun(p:List Key×V)(q:List Key×Addr×Value)=>p.1=q.1/\H q.2.1=some (.tup (p.1.map kV))/\RelV p.2 q.2.2) iJ xs/\
  ∃o es ep,h.get? a=some o/\o.ExactDict/\o.data=.dict es ep/\es.toList=xs.map (entryOfKey (tupleKind (sE P w)))/\(xs.map (·.1)).Nodup
 |.set S n=>h.SetOf (intKind P w) a S n
 |.ins C dx fs=>H dx=some (.own a)/\fs.length<=1000/\dx≠a/\h.get? a=some (PySem.W.instObj C dx)/\
  ∃mA,h.Ns1 dx mA/\(∀f,xx (fs.lookup f) (mA f))/\PySem.Within mA (fs.map (·.1))
 |.own _=>∃o,h.get? a=some o
 |.xd fs=>∃mA,h.Ns1 a mA/\∀f,xx (fs.lookup f) (mA f)
 |.Ro lo hi=>∃t u v,h.get? a=some {cls:=.type "range",data:=.fields #[.int lo t,.int hi u,.int 1 v]}
 |.nA o u=>h.get? a=some o/\cX H h a u
 |.oj ps=>h.get? a=some {cls:=.none,data:=.fields ps}
 |.met f x=>h.get? a=some (PySem.W.methodObj (.ref f) (.ref x))
 |.ext φ=>φ h/\(∃o,h.get? a=some o)/\∀h1 h2:Heap,φ h1->(∀o,h1.get? a=some o->h2.get? a=some o)->φ h2
noncomputable def jY(H:Hp)(h:Heap):Prop:=∀a o,H a=some o->cX P w H h a o
end
section
variable {P:Program} {w:World} {H H':Hp} {h h':Heap} {a:Addr} {o:HO}
theorem cX.lt(x:cX P w H h a o):a<h.objs.size:=by
 cases o with
 |lst xs=>obtain⟨_,_,_,_,e⟩:=x;exact Heap.lt_size e
 |tup xs=>obtain⟨_,_,_,p⟩:=x;exact p.lt
 |dK iJ=>obtain⟨_,_,_,_,o,_,_,e,_⟩:=x;exact Heap.lt_size e
 |dT iJ=>obtain⟨_,_,_,_,o,_,_,e,_⟩:=x;exact Heap.lt_size e
 |set S n=>obtain⟨o,_,_,_,e,_⟩:=x;exact Heap.lt_size e
 |ins C dx fs=>obtain⟨_,_,_,e,_⟩:=x;exact Heap.lt_size e
 |own y=>obtain⟨_,e⟩:=x;exact Heap.lt_size e
 |xd fs=>obtain⟨_,⟨_,_,_,e,_⟩,_⟩:=x;exact Heap.lt_size e
 |Ro lo hi=>obtain⟨_,_,_,e⟩:=x;exact Heap.lt_size e
 |nA ob u=>obtain⟨e,_⟩:=x;exact Heap.lt_size e
 |oj ps=>exact Heap.lt_size (show h.get? a=some _ from x)
 |met f y=>exact Heap.lt_size (show h.get? a=some _ from x)
 |ext φ=>obtain⟨_,⟨_,e⟩,_⟩:=x;exact Heap.lt_size e
theorem Paired.N4{α β:Type}{F G:α->β->Prop}:∀{l₁:List α}{N5:List β},Paired F l₁ N5->(∀a b,F a b->G a b)->Paired G l₁ N5
 |_,_,.nil,_=>.nil
 |_,_,.cons r t,f=>.cons (f _ _ r) (Paired.N4 t f)
theorem cX.qH(x:cX P w H h a o)(k:∀b u,(b=a\/H b=some (.own a))->h.get? b=some u->h'.get? b=some u)(ho:∀b,H b=some (.own a)->H' b=some (.own a))(ht:∀b xs,H b=some (.tup xs)->H' b=some (.tup xs)):cX P w H' h' a o:=by
 induction o with
 |lst xs=>obtain⟨z,aX,n,r,e⟩:=x;exact⟨z,aX,n,r,k _ _ (.inl rfl) e⟩
 |tup xs=>obtain⟨z,aX,r,ob,e,c⟩:=x;exact⟨z,aX,r,ob,k _ _ (.inl rfl) e,c⟩
 |dK iJ=>obtain⟨z,y,vs,r,ob,es,ep,e,c⟩:=x;exact⟨z,y,vs,r,ob,es,ep,k _ _ (.inl rfl) e,c⟩
 |dT iJ=>
  obtain⟨z,y,xs,r,ob,es,ep,e,c⟩:=x;exact⟨z,y,xs,Paired.N4 r fun p q z=>⟨z.1,ht _ _ z.2.1,z.2.2⟩,ob,es,ep,k _ _ (.inl rfl) e,c⟩
 |set S n=>obtain⟨ob,es,ep,t,e,c⟩:=x;exact⟨ob,es,ep,t,k _ _ (.inl rfl) e,c⟩
 |ins C dx fs=>
  obtain⟨d,z,ne,e,mA,⟨od,es,ep,e2,c⟩,r⟩:=x;exact⟨ho _ d,z,ne,k _ _ (.inl rfl) e,mA,⟨od,es,ep,k _ _ (.inr d) e2,c⟩,r⟩
 |own y=>obtain⟨ob,e⟩:=x;exact⟨ob,k _ _ (.inl rfl) e⟩
 |xd fs=>obtain⟨mA,⟨od,es,ep,e,c⟩,r⟩:=x;exact⟨mA,⟨od,es,ep,k _ _ (.inl rfl) e,c⟩,r⟩
 |Ro lo hi=>obtain⟨t,u,v,e⟩:=x;exact⟨t,u,v,k _ _ (.inl rfl) e⟩
 |nA ob u ih=>obtain⟨e,q⟩:=x;exact⟨k _ _ (.inl rfl) e,ih q⟩
 |oj ps=>
  have e:h.get? a=some {cls:=.none,data:=.fields ps}:=x;show h'.get? a=some {cls:=.none,data:=.fields ps};exact k a _ (.inl rfl) e
 |met f y=>
  have e:h.get? a=some (PySem.W.methodObj (.ref f) (.ref y)):=x;show h'.get? a=some (PySem.W.methodObj (.ref f) (.ref y));exact k a _ (.inl rfl) e
 |ext φ=>obtain⟨p,⟨o,e⟩,st⟩:=x;exact⟨st _ _ p fun o q=>k _ _ (.inl rfl) q,⟨o,k _ _ (.inl rfl) e⟩,st⟩
theorem jY.lt(x:jY P w H h)(e:H a=some o):a<h.objs.size:=(x a o e).lt
theorem jY.fresh(x:jY P w H h)(e:h.objs.size<=a):H a=none:=by
 cases q:H a with
 |none=>rfl
 |some u=>exact absurd (Nat.lt_of_lt_of_le (x.lt q) e) (Nat.lt_irrefl _)
theorem jY.kept(x:jY P w H h)(k:∀b u,h.get? b=some u->h'.get? b=some u):jY P w H h':=fun a o e=>
 (x a o e).qH (fun b u _ q=>k b u q) (fun _ q=>q) fun _ _ q=>q
theorem jY.laid(x:jY P w H h)(k:∀b u,h.get? b=some u->h'.get? b=some u)(hp:h.objs.size<=a)(new:cX P w (upd H a o) h' a o):jY P w (upd H a o) h':=fun b u e=>by
 have hn:=x.fresh hp;by_cases hb:b=a
 ·subst hb;rw[ai] at e;cases e;exact new
 ·rw[aq hb] at e;exact(x b u e).qH (fun c v _ q=>k c v q) (fun c q=>by rw[aq (aL q hn)];exact q) fun c xs q=>by rw[aq (aL q hn)];exact q
end
noncomputable def Rd(H:Hp)(a:Addr)(u:HO):Prop:=H a=some u\/∃o,H a=some (.nA o u)
theorem Rd.ok{P:Program}{w:World}{H:Hp}{h:Heap}{a:Addr}{u:HO}(r:Rd H a u)(x:jY P w H h):cX P w H h a u:=by
 rcases r with r|⟨o,r⟩
 ·exact x a u r
 ·obtain⟨_,q⟩:=x a _ r;exact q
noncomputable def Nr:Option HO->Prop
 |some (.lst _)=>True
 |some (.dK _)=>True
 |some (.dT _)=>True
 |some (.set _ _)=>True
 |some (.ins _ _ _)=>True
 |some (.ext _)=>True
 |_=>False
section
variable {P:Program} {w:World} {H:Hp} {h h':Heap} {x e:Addr} {o':HO}
theorem jY.write(ok:jY P w H h)(mu:Nr (H x))(he:e=x\/H e=some (.own x))(k:∀b u,b≠e->h.get? b=some u->h'.get? b=some u)(Nt:∃u,h'.get? e=some u)(new:cX P w (upd H x o') h' x o'):jY P w (upd H x o') h':=fun b u q=>by
 have N6:∀c y,H c=some (.own y)->c≠x:=fun c y r z=>by subst z;rw[r] at mu;exact mu
 have SM:∀c xs,H c=some (.tup xs)->c≠x:=fun c xs r z=>by subst z;rw[r] at mu;exact mu
 by_cases hb:b=x
 ·subst hb;rw[ai] at q;cases q;exact new
 ·rw[aq hb] at q;by_cases uT:b=e
  ·have q':H b=some (.own x):=by
    rcases he with z|z
    ·exact absurd (uT.trans z) hb
    ·rw[uT];exact z
   rw[q] at q';cases q';obtain⟨v,hv⟩:=Nt;exact⟨v,by rw[uT];exact hv⟩
  ·refine(ok b u q).qH (fun c v hc r=>k c v ?_ r) (fun c r=>by rw[aq (N6 c b r)];exact r) fun c xs r=>by rw[aq (SM c xs r)];exact r
   rcases hc with rfl|hc
   ·exact uT
   ·rintro rfl;rcases he with z|z
    ·exact N6 c b hc z
    ·rw[hc] at z;cases z;exact hb rfl
end
structure Un(fs ex:List Addr)(H H':Hp)(h h':Heap):Prop where
 keep:∀b o,h.get? b=some o->H b=none->b∉fs->b∉ex->h'.get? b=some o
 slot:∀b o,h.get? b=some o->H b=none->b∈fs->b∉ex->∃sl,h'.get? b=some {o with slots:=sl}
 free:∀b o,h.get? b=some o->H b=none->b∉ex->H' b=none
 there:∀b o,h.get? b=some o->b∉ex->∃o',h'.get? b=some o'
 qI:∀b xs,H b=some (.tup xs)->H' b=some (.tup xs)
 oF:∀b o u,H b=some (.nA o u)->H' b=some (.nA o u)
 oG:∀b ps,H b=some (.oj ps)->∃more,H' b=some (.oj (ps++more))
section
variable {fs Yu ex ex':List Addr} {H H1 H2:Hp} {h h1 h2 h':Heap} {a x e:Addr} {o:HO}
theorem Un.any(u:Un fs ex H H1 h h1){b:Addr}{ob:Obj}(q:h.get? b=some ob)(n:H b=none)(hx:b∉ex):∃sl,h1.get? b=some {ob with slots:=sl}:=by
 by_cases hb:b∈fs
 ·exact u.slot b ob q n hb hx
 ·exact⟨ob.slots,u.keep b ob q n hb hx⟩
theorem Un.kept(k:∀b u,h.get? b=some u->h'.get? b=some u):Un fs ex H H h h':=
 ⟨fun b ob q _ _ _=>k b ob q,fun b ob q _ _ _=>⟨ob.slots,k b ob q⟩,fun _ _ _ n _=>n,fun b ob q _=>⟨ob,k b ob q⟩,fun _ _ q=>q,fun _ _ _ q=>q,fun _ ps q=>⟨#[],by rw[q];simp⟩⟩
theorem Un.refl:Un fs ex H H h h:=Un.kept fun _ _ q=>q
theorem Un.laid(k:∀b u,h.get? b=some u->h'.get? b=some u)(hp:h.objs.size<=a)(hn:H a=none):Un fs ex H (upd H a o) h h' where
 keep:=fun b u q _ _ _=>k b u q
 slot:=fun b u q _ _ _=>⟨u.slots,k b u q⟩
 free:=fun b u q n _=>by rw[aq (Nat.ne_of_lt (Nat.lt_of_lt_of_le (Heap.lt_size q) hp))];exact n
 there:=fun b u q _=>⟨u,k b u q⟩
 qI:=fun b xs q=>by rw[aq (aL q hn)];exact q
 oF:=fun b u xs q=>by rw[aq (aL q hn)];exact q
 oG:=fun b ps q=>⟨#[],by rw[aq (aL q hn),q];simp⟩
theorem Un.write(mu:Nr (H x))(he:e=x\/H e=some (.own x))(k:∀b u,b≠e->h.get? b=some u->h'.get? b=some u)(Nt:∃u,h'.get? e=some u):Un fs ex H (upd H x o) h h':=by
 have hx:∀b,H b=none->b≠x:=fun b n z=>by subst z;rw[n] at mu;exact mu
 have hb:∀b,H b=none->b≠e:=fun b n z=>by
  subst z;rcases he with r|r
  ·exact hx b n r
  ·rw[n] at r;cases r
 have hm:∀b u,H b=some u->¬Nr (some u)->b≠x:=fun b u q nm z=>by subst z;rw[q] at mu;exact nm mu
 refine⟨fun b u q n _ _=>k b u (hb b n) q,fun b u q n _ _=>⟨u.slots,k b u (hb b n) q⟩,fun b u q n _=>by rw[aq (hx b n)];exact n,fun b u q _=>?_,
  fun b xs q=>by rw[aq (hm b _ q fun z=>z)];exact q,fun b u xs q=>by rw[aq (hm b _ q fun z=>z)];exact q,fun b ps q=>⟨#[],by rw[aq (hm b _ q fun z=>z),q];simp⟩⟩;by_cases uT:b=e
 ·subst uT;exact Nt
 ·exact⟨u,k b u uT q⟩
end
noncomputable def uU(h:Heap)(H:Hp):List Addr:=(List.range h.objs.size).filter fun a=>(H a).isSome
noncomputable def oH(h:Heap)(H:Hp):Heap:=PySem.W.hideAll h (uU h H)
theorem By(h:Heap)(H:Hp):(oH h H).objs.size=h.objs.size:=PySem.W.hideAll_size _ _
theorem lA{h:Heap}{H:Hp}{b:Addr}{o:Obj}(e:h.get? b=some o)(n:H b=none):(oH h H).get? b=some o:=
 PySem.W.hideAll_get _ e fun hm=>by
  have q:(H b).isSome=true:=(List.mem_filter.mp hm).2;rw[n] at q;simp at q
theorem GH{h:Heap}{H:Hp}{b:Addr}{o:Obj}(e:(oH h H).get? b=some o):h.get? b=some o/\H b=none:=by
 have e':h.get? b=some o:=PySem.W.of_hideAll (uU h H) e;refine⟨e',?_⟩;cases q:H b with
 |none=>rfl
 |some x=>
  have hm:b∈uU h H:=List.mem_filter.mpr ⟨List.mem_range.mpr (Heap.lt_size e'),by simp[q]⟩;have z:(oH h H).get? b=none:=PySem.W.hideAll_none (uU h H) hm;rw[z] at e;cases e
noncomputable def GI(g h:Heap)(L:Addr):List (Addr×Obj):=(List.range h.objs.size).filterMap fun a=>if a=L\/(g.get? a).isSome=true then none else(h.get? a).map fun o=>(a,o)
noncomputable def rest(g h:Heap)(L d:Addr):List (Addr×Obj):=(GI g h L).filter fun p=>decide (p.1≠d)
end L2
namespace L2
open PySem PySem.Spec PyProof.Rows
structure Mod(K:PySem.W.Frag)(mg:Str->Option Value)(base:Heap):Prop where
 Jc:K.In base
 glob:base.Ns mainGlobals mg
 blt:∃mb,base.Ns builtinsNs mb/\∀x:Str,x≠"__name__"->mb x=bootBuiltins x
 nolimit:base.NoLimit
 seer:base.NoSeer
structure Cx where
 prog:Program
 w:World
 K:PySem.W.Frag
 mg:Str->Option Value
 base:Heap
 A:Around
 N:List Str
 fY:Shared
 BA:Hp
 env:Env
 outer:List Env
 stack:List Env
 ex:List Addr
 fn:Str->Bool
 calm:Bool
 pn:List (Addr×Obj)
 xe:Value->Shared->Prop
noncomputable def uN(l:List Env):List Addr:=l.filterMap (·.frame)
noncomputable abbrev Cx.fs(X:Cx):List Addr:=uN X.outer
noncomputable def N7(sc:Scope)(x:Str):Prop:=sc.names.lookup x=some .local\/sc.names.lookup x=some .cell\/sc.names.lookup x=some .free
noncomputable def Loc(sc:Scope)(x:Str):Prop:=sc.names.lookup x=some .local\/sc.names.lookup x=some .cell
noncomputable def Look(env:Env)(h:Heap)(m:Str->Option Value)(x:Str)(u:Value):Prop:=
 (env.kindOf x=some .local/\m x=some u)\/((env.kindOf x=some .cell\/env.kindOf x=some .free)/\∃c,env.cells.lookup x=some c/\h.IsCell c (some u))
structure Cx.Ok(X:Cx):Prop where
 mod:Mod X.K X.mg X.base
 kind:X.env.scope.kind=.function
 glob:X.env.globals=mainGlobals
 blt:X.env.builtins=builtinsNs
 above:X.fY.heap.objs.size<=X.env.locals
 inj:∀x y c,X.env.cells.lookup x=some c->X.env.cells.lookup y=some c->x=y
 has:∀x,(X.env.kindOf x=some .cell\/X.env.kindOf x=some .free)->∃c,X.env.cells.lookup x=some c
 Jd:∀x c,X.fn x=true->X.env.cells.lookup x=some c->X.fY.heap.objs.size<=c
 hd:X.calm=true->X.A.handled=none
 frames:X.A.frames=some X.stack
 KR:X.stack=X.outer\/(X.stack=X.env::X.outer/\X.env.frame=some X.env.locals)
 N8:∀b∈X.ex,b≠X.env.locals/\∀x c,X.env.cells.lookup x=some c->c≠b
 bs:∀b o,X.base.get? b=some o->X.fY.heap.get? b=some o/\X.BA b=none
 zR:X.base.objs.size<=X.fY.heap.objs.size
 uV:∀b o,X.base.get? b=some o->b∉X.ex
 xy:∀b∈X.ex,b∉X.fs
 jk:X.fY.heap.FunFrames X.base X.outer
 C5:∀b∈X.fs,X.BA b=none
structure Inv(X:Cx)(pins:List (Addr×Obj))(σ:List (Option V))(H:Hp)(s:Shared):Prop where
 ok:X.Ok
 os:s.os=X.fY.os
 bare:AllBare s.gens
 base:Un X.fs X.ex X.BA H X.fY.heap s.heap
 loc:∃m,s.heap.Ns X.env.locals m/\∀(i:Nat)(x:Str)(v:V),X.N[i]?=some x->σ[i]?=some (some v)->N7 X.env.scope x->∃u,RelV v u/\Look X.env s.heap m x u
 cell:∀x c,X.env.cells.lookup x=some c->∃v,s.heap.IsCell c v
 free:H X.env.locals=none
 fO:∀x c,X.env.cells.lookup x=some c->H c=none
 pin:∀p∈X.pn++pins,s.heap.get? p.1=some p.2/\H p.1=none/\p.1≠X.env.locals/\p.1∉X.fs/\∀v,p.2.data≠.cell v
 bT:jY X.prog X.w H s.heap
 len:σ.length=X.N.length
section
variable {X:Cx} {pins:List (Addr×Obj)} {σ:List (Option V)} {H H':Hp} {s:Shared} {h':Heap}
theorem Cx.Ok.SN(ok:X.Ok){b:Addr}{o:Obj}(e:X.base.get? b=some o):b∉X.fs:=fun hb=>by
 have:=(ok.jk.mem hb).1;rw[e] at this;cases this
theorem Inv.bs(I:Inv X pins σ H s):∀b o,X.base.get? b=some o->s.heap.get? b=some o/\H b=none:=fun b o e=>
 ⟨I.base.keep b o (I.ok.bs b o e).1 (I.ok.bs b o e).2 (I.ok.SN e) (I.ok.uV b o e),I.base.free b o (I.ok.bs b o e).1 (I.ok.bs b o e).2 (I.ok.uV b o e)⟩
theorem Inv.bk(I:Inv X pins σ H s):∀b o,X.base.get? b=some o->s.heap.get? b=some o:=fun b o e=>(I.bs b o e).1
theorem Inv.mod(I:Inv X pins σ H s):Mod X.K X.mg X.base:=I.ok.mod
theorem Inv.mH(I:Inv X pins σ H s):X.K.In s.heap:=I.ok.mod.Jc.keeps I.bk
theorem Inv.nolimit(I:Inv X pins σ H s):s.heap.NoLimit:=I.ok.mod.nolimit.keeps I.bk
theorem Inv.lt(I:Inv X pins σ H s):X.env.locals<s.heap.objs.size:=let⟨_,hn,_⟩:=I.loc;hn.lt
theorem Inv.sz(I:Inv X pins σ H s):X.fY.heap.objs.size<=s.heap.objs.size:=Nat.le_trans I.ok.above (Nat.le_of_lt I.lt)
theorem Inv.SO(I:Inv X pins σ H s){a:Addr}(h:s.heap.objs.size<=a):a∉X.fs:=fun hb=>by
 obtain⟨_,o,ho,_⟩:=I.ok.jk.mem hb;exact absurd (Nat.lt_of_lt_of_le (Heap.lt_size ho) (Nat.le_trans I.sz h)) (Nat.lt_irrefl _)
theorem Inv.GJ(I:Inv X pins σ H s):∀x c,X.env.cells.lookup x=some c->c≠X.env.locals:=fun x c e z=>by
 obtain⟨v,o,ho,hd⟩:=I.cell x c e;obtain⟨m,⟨o',es,ep,Df,Dg,_⟩,_⟩:=I.loc;rw[z,Df] at ho;cases ho;rw[Dg] at hd;cases hd
theorem Inv.jk(I:Inv X pins σ H s):s.heap.FunFrames X.base X.outer:=by
 have all:∀(l:List Env),(∀b∈uN l,b∈X.fs)->X.fY.heap.FunFrames X.base l->s.heap.FunFrames X.base l:=by
  intro l
  induction l with
  |nil=>intro _ _;trivial
  |cons env r ih=>
   intro hs hl;obtain⟨hk,⟨L,o,hf,hn,ho,hd⟩,hr⟩:=hl;have hL:L∈X.fs:=hs L (by unfold uN;rw[List.filterMap_cons,hf];exact List.mem_cons_self);obtain⟨sl,e⟩:=I.base.slot L o ho (I.ok.C5 L hL) hL fun z=>I.ok.xy L z hL;exact⟨hk,⟨L,_,hf,hn,e,hd⟩,ih (fun b hb=>hs b (by unfold uN;rw[List.filterMap_cons,hf];exact List.mem_cons_of_mem _ hb)) hr⟩
 exact all X.outer (fun _ hb=>hb) I.ok.jk
theorem Inv.stack(I:Inv X pins σ H s):s.heap.FunFrames X.base X.stack:=by
 rcases I.ok.KR with e|⟨e,hf⟩
 ·rw[e];exact I.jk
 ·rw[e];obtain⟨m,hn,_⟩:=I.loc;refine .cons (by rw[I.ok.kind];decide) hf hn ?_ I.jk;exact Heap.get?_none_of_le (Nat.le_trans I.ok.zR I.ok.above)
theorem Inv.sF(I:Inv X pins σ H s):∀b∈uN X.stack,b∈X.env.locals::X.fs:=fun b hb=>by
 rcases I.ok.KR with e|⟨e,hf⟩
 ·rw[e] at hb;exact List.mem_cons_of_mem _ hb
 ·rw[e] at hb;unfold uN at hb;rw[List.filterMap_cons,hf] at hb;exact hb
theorem Inv.sG(I:Inv X pins σ H s):∀b∈uN X.stack,H b=none:=fun b hb=>by
 rcases List.mem_cons.mp (I.sF b hb) with e|hb
 ·rw[e];exact I.free
 ·obtain⟨_,o,ho,_⟩:=I.ok.jk.mem hb;exact I.base.free b o ho (I.ok.C5 b hb) fun z=>I.ok.xy b z hb
theorem Inv.step{g':Array GenState}{t':Nat}{d':Drawn}{ch:List Addr}(I:Inv X pins σ H s)(xA:∀b∈ch,(b∈X.ex\/X.fY.heap.objs.size<=b)/\b≠X.env.locals/\(∀x c,X.env.cells.lookup x=some c->c≠b)/\∀p∈X.pn++pins,p.1≠b)(keep:∀b o,b≠X.env.locals->b∉X.fs->b∉ch->s.heap.get? b=some o->H b=none->h'.get? b=some o)(slot:∀b o,b≠X.env.locals->b∈X.fs->b∉ch->s.heap.get? b=some o->H b=none->∃sl,h'.get? b=some {o with slots:=sl})(free:∀b o,b∉ch->s.heap.get? b=some o->H b=none->H' b=none)(there:∀b o,b∉ch->s.heap.get? b=some o->∃o',h'.get? b=some o')(qI:∀b xs,H b=some (.tup xs)->H' b=some (.tup xs))(oF:∀b o u,H b=some (.nA o u)->H' b=some (.nA o u))(oG:∀b ps,H b=some (.oj ps)->∃more,H' b=some (.oj (ps++more)))(ns:∀m,s.heap.Ns X.env.locals m->h'.Ns X.env.locals m)(bT:jY X.prog X.w H' h')(hg:AllBare g'):
 Inv X pins σ H' {s with heap:=h',gens:=g',drawn:=d',toks:=t'}:=by
 have Wl:∀b o,X.fY.heap.get? b=some o->b≠X.env.locals:=fun b o e=>Nat.ne_of_lt (Nat.lt_of_lt_of_le (Heap.lt_size e) I.ok.above);have N9:∀b o,X.fY.heap.get? b=some o->b∉X.ex->b∉ch:=fun b o e hx hb=>by
  rcases(xA b hb).1 with z|z
  ·exact hx z
  ·exact absurd (Nat.lt_of_lt_of_le (Heap.lt_size e) z) (Nat.lt_irrefl _)
 have cellK:∀x c,X.env.cells.lookup x=some c->∀v,s.heap.IsCell c v->h'.IsCell c v:=fun x c e v⟨o,ho,hd⟩=>by
  have N_:c∉ch:=fun z=>(xA c z).2.2.1 x c e rfl;by_cases hc:c∈X.fs
  ·obtain⟨sl,q⟩:=slot c o (I.GJ x c e) hc N_ ho (I.fO x c e);exact⟨_,q,hd⟩
  ·exact⟨o,keep c o (I.GJ x c e) hc N_ ho (I.fO x c e),hd⟩
 refine⟨I.ok,I.os,hg,⟨fun b o e n hb hx=>?_,fun b o e n hb hx=>?_,fun b o e n hx=>?_,fun b o e hx=>?_,fun b xs e=>qI b xs (I.base.qI b xs e),fun b o xs e=>oF b o xs (I.base.oF b o xs e),fun b ps e=>?_⟩,?_,fun x c e=>?_,?_,fun x c e=>?_,fun p hp=>?_,bT,I.len⟩
 ·exact keep b o (Wl b o e) hb (N9 b o e hx) (I.base.keep b o e n hb hx) (I.base.free b o e n hx)
 ·obtain⟨sl,e1⟩:=I.base.slot b o e n hb hx;obtain⟨SQ,e2⟩:=slot b _ (Wl b o e) hb (N9 b o e hx) e1 (I.base.free b o e n hx);exact⟨SQ,e2⟩
 ·obtain⟨o',e1⟩:=I.base.there b o e hx;exact free b o' (N9 b o e hx) e1 (I.base.free b o e n hx)
 ·obtain⟨o',e1⟩:=I.base.there b o e hx;exact there b o' (N9 b o e hx) e1
 ·obtain⟨m1,e1⟩:=I.base.oG b ps e;obtain⟨m2,e2⟩:=oG b _ e1;exact⟨m1++m2,by rw[e2,Array.append_assoc]⟩
 ·obtain⟨m,hn,hl⟩:=I.loc;refine⟨m,ns m hn,fun i x v e1 e2 e3=>?_⟩;obtain⟨u,r,l⟩:=hl i x v e1 e2 e3;refine⟨u,r,?_⟩;rcases l with l|⟨k,c,e,z⟩
  ·exact .inl l
  ·exact .inr ⟨k,c,e,cellK x c e _ z⟩
 ·obtain⟨v,z⟩:=I.cell x c e;exact⟨v,cellK x c e v z⟩
 ·obtain⟨m,⟨o,_,_,ho,_⟩,_⟩:=I.loc;exact free _ o (fun z=>(xA _ z).2.1 rfl) ho I.free
 ·obtain⟨v,o,ho,hd⟩:=I.cell x c e;exact free c o (fun z=>(xA c z).2.2.1 x c e rfl) ho (I.fO x c e)
 ·obtain⟨e,n,ne,nf,d⟩:=I.pin p hp;have N_:p.1∉ch:=fun z=>(xA p.1 z).2.2.2 p hp rfl;exact⟨keep p.1 p.2 ne nf N_ e n,free p.1 p.2 N_ e n,ne,nf,d⟩
theorem Inv.un{t':Nat}(I:Inv X pins σ H s)(u:Un X.fs [] H H' s.heap h')(bT:jY X.prog X.w H' h'):Inv X pins σ H' {s with heap:=h',toks:=t'}:=by
 obtain⟨m,⟨o,es,ep,ho,r⟩,_⟩:=id I.loc;obtain⟨sl,hL⟩:=u.any ho I.free (by simp);exact I.step (g':=s.gens) (d':=s.drawn) (ch:=[]) (fun _ z=>nomatch z) (fun b o _ hb _ e n=>u.keep b o e n hb (by simp)) (fun b o _ hb _ e n=>u.slot b o e n hb (by simp)) (fun b o _ e n=>u.free b o e n (by simp)) (fun b o _ e=>u.there b o e (by simp)) u.qI u.oF u.oG (fun m' hm=>by
  obtain⟨o',SR,SS,Df,r'⟩:=hm
  rw[ho] at Df;cases Df
  exact⟨_,SR,SS,hL,r'⟩) bT I.bare
theorem Inv.call{g':Array GenState}{t':Nat}{d':Drawn}{ch:List Addr}(I:Inv X pins σ H s)(u:Un (uN X.stack) ch H H' s.heap h')(bT:jY X.prog X.w H' h')(hg:AllBare g')(xA:∀b∈ch,(b∈X.ex\/X.fY.heap.objs.size<=b)/\b≠X.env.locals/\(∀x c,X.env.cells.lookup x=some c->c≠b)/\∀p∈X.pn++pins,p.1≠b):
 Inv X pins σ H' {s with heap:=h',gens:=g',drawn:=d',toks:=t'}:=by
 obtain⟨m,⟨o,es,ep,ho,r⟩,_⟩:=id I.loc;obtain⟨sl,hL⟩:=u.any ho I.free fun z=>(xA _ z).2.1 rfl;exact I.step (ch:=ch) xA (fun b o hL hb hc e n=>u.keep b o e n (fun z=>(List.mem_cons.mp (I.sF b z)).elim hL hb) hc) (fun b o _ _ hc e n=>u.any e n hc) (fun b o hc e n=>u.free b o e n hc) (fun b o hc e=>u.there b o e hc) u.qI u.oF u.oG (fun m' hm=>by
  obtain⟨o',SR,SS,Df,r'⟩:=hm
  rw[ho] at Df;cases Df
  exact⟨_,SR,SS,hL,r'⟩) bT hg
theorem Inv.turned{t':Nat}{it:Addr}(I:Inv X pins σ H s)(k:∀b o,b≠it->s.heap.get? b=some o->h'.get? b=some o)(hn:H it=none)(hL:it≠X.env.locals)(h1:it∈X.ex\/X.fY.heap.objs.size<=it)(h2:∀x c,X.env.cells.lookup x=some c->c≠it)(h3:∀p∈X.pn++pins,p.1≠it):Inv X pins σ H {s with heap:=h',toks:=t'}:=by
 have Wm:∀b u,H b=some u->b≠it:=fun b u e z=>by rw[z,hn] at e;cases e
 refine I.step (g':=s.gens) (d':=s.drawn) (ch:=[it]) (fun b hb=>?_) (fun b o _ _ hc e _=>k b o (fun z=>hc (by simp[z])) e) (fun b o _ _ hc e _=>⟨o.slots,k b o (fun z=>hc (by simp[z])) e⟩) (fun _ _ _ _ n=>n)
  (fun b o hc e=>⟨o,k b o (fun z=>hc (by simp[z])) e⟩) (fun _ _ e=>e) (fun _ _ _ e=>e) (fun b ps e=>⟨#[],by rw[e];simp⟩) (fun m hm=>?_) (fun b u e=>?_) I.bare
 ·have e:b=it:=by simpa using hb
  subst e;exact⟨h1,hL,h2,h3⟩
 ·obtain⟨o,es,ep,ho,r⟩:=hm;exact⟨o,es,ep,k _ o (Ne.symm hL) ho,r⟩
 ·refine(I.bT b u e).qH (fun c v hc q=>k c v ?_ q) (fun _ q=>q) fun _ _ q=>q;rcases hc with z|z
  ·rw[z];exact Wm b u e
  ·exact Wm c _ z
theorem Inv.tok(I:Inv X pins σ H s)(t:Nat):Inv X pins σ H {s with toks:=t}:=I.un (h':=s.heap) (t':=t) Un.refl I.bT
theorem Inv.kept{t':Nat}(I:Inv X pins σ H s)(k:∀b u,s.heap.get? b=some u->h'.get? b=some u):Inv X pins σ H {s with heap:=h',toks:=t'}:=I.un (Un.kept k) (I.bT.kept k)
theorem Inv.laid{a:Addr}{o:HO}{t':Nat}(I:Inv X pins σ H s)(k:∀b u,s.heap.get? b=some u->h'.get? b=some u)(hp:s.heap.objs.size<=a)(new:cX X.prog X.w (upd H a o) h' a o):
 Inv X pins σ (upd H a o) {s with heap:=h',toks:=t'}:=I.un (Un.laid k hp (I.bT.fresh hp)) (I.bT.laid k hp new)
theorem Inv.write{x e:Addr}{o:HO}{t':Nat}(I:Inv X pins σ H s)(mu:Nr (H x))(he:e=x\/H e=some (.own x))(k:∀b u,b≠e->s.heap.get? b=some u->h'.get? b=some u)(Nt:∃u,h'.get? e=some u)(new:cX X.prog X.w (upd H x o) h' x o):Inv X pins σ (upd H x o) {s with heap:=h',toks:=t'}:=I.un (Un.write mu he k Nt) (I.bT.write mu he k Nt new)
theorem Inv.zS{oI:List (Addr×Obj)}(I:Inv X pins σ H s)(h:∀p∈oI,s.heap.get? p.1=some p.2/\H p.1=none/\p.1≠X.env.locals/\p.1∉X.fs/\∀v,p.2.data≠.cell v):Inv X oI σ H s:=
 ⟨I.ok,I.os,I.bare,I.base,I.loc,I.cell,I.free,I.fO,fun p hp=>(List.mem_append.mp hp).elim (fun z=>I.pin p (List.mem_append_left _ z)) (h p),I.bT,I.len⟩
theorem oJ{N:List Str}(hN:N.Nodup){i j:Nat}{x:Str}(a:N[i]?=some x)(b:N[j]?=some x):i=j:=by
 obtain⟨h1,e1⟩:=List.getElem?_eq_some_iff.mp a;obtain⟨h2,e2⟩:=List.getElem?_eq_some_iff.mp b;exact(List.getElem_inj hN).mp (e1.trans e2.symm)
theorem rj{M:Model}{A:Around}{E:Value->Shared->Prop}{i:Nat}{x:Str}{v:V}{u:Value}{Q:Unit->Shared->Prop}(I:Inv X pins σ H s)(hN:X.N.Nodup)(hi:X.N[i]?=some x)(hx:Loc X.env.scope x)(r:RelV v u)(h:∀s',Inv X pins (σ.set i (some v)) H s'->(∃a,Heap.SameBut a s.heap s'.heap/\(a=X.env.locals\/X.env.cells.lookup x=some a))->Q () s')(hf:X.fn x=true\/X.env.scope.names.lookup x=some .local:=by first|exact .inl rfl|exact .inr rfl|assumption):wpAny M A (storeName X.env x u) Q E s:=by
 obtain⟨m,hn,hl⟩:=id I.loc;have KS:(X.env.scope.kind==.class||(X.env.scope.kind==.module&&X.env.locals !=X.env.globals))=false:=by rw[I.ok.kind];rfl
 have GK:i<σ.length:=by rw[I.len];exact(List.getElem?_eq_some_iff.mp hi).1
 have GJ:=I.GJ;have tracked:∀{a:Addr}{h':Heap},(∃o,s.heap.get? a=some o/\H a=none)->Heap.SameBut a s.heap h'->jY X.prog X.w H h':=fun{a h'} ha hs b ob e=>by
  obtain⟨_,_,Je⟩:=ha;refine(I.bT b ob e).qH (fun c w' hc q=>(hs.2 c ?_).trans q) (fun _ q=>q) fun _ _ q=>q;rintro rfl;rcases hc with rfl|hc
  ·rw[Je] at e;cases e
  ·rw[Je] at hc;cases hc
 rcases hx with hk|hk
 ·refine wpAny_storeName_local hk hn (fun h' N' hs=>?_) KS;obtain⟨oL,_,_,Yv,_⟩:=id hn;refine h _ ⟨I.ok,I.os,I.bare,⟨fun b o e n hb hx=>?_,fun b o e n hb hx=>?_,I.base.free,fun b o e hx=>?_,I.base.qI,I.base.oF,I.base.oG⟩,⟨_,N',fun j y v' e1 e2 e3=>?_⟩,fun y c e=>?_,I.free,I.fO,fun p hp=>?_,tracked ⟨oL,Yv,I.free⟩ hs,by simpa using I.len⟩ ⟨_,hs,.inl rfl⟩
  ·exact(hs.2 b (Nat.ne_of_lt (Nat.lt_of_lt_of_le (Heap.lt_size e) I.ok.above))).trans (I.base.keep b o e n hb hx)
  ·obtain⟨sl,e1⟩:=I.base.slot b o e n hb hx;exact⟨sl,(hs.2 b (Nat.ne_of_lt (Nat.lt_of_lt_of_le (Heap.lt_size e) I.ok.above))).trans e1⟩
  ·obtain⟨o',e1⟩:=I.base.there b o e hx;exact⟨o',(hs.2 b (Nat.ne_of_lt (Nat.lt_of_lt_of_le (Heap.lt_size e) I.ok.above))).trans e1⟩
  ·by_cases hj:j=i
   ·subst hj;rw[hi] at e1;cases e1;rw[List.getElem?_set_self GK] at e2;cases e2;exact⟨u,r,.inl ⟨hk,by simp⟩⟩
   ·rw[List.getElem?_set_ne (Ne.symm hj)] at e2;obtain⟨u',r',q⟩:=hl j y v' e1 e2 e3;refine⟨u',r',?_⟩;rcases q with⟨k,e⟩|⟨k,c,e,z⟩
    ·refine .inl ⟨k,?_⟩;have:y≠x:=fun e=>hj (oJ hN e1 (e▸hi));simp[this,e]
    ·exact .inr ⟨k,c,e,z.sameBut hs (GJ y c e)⟩
  ·obtain⟨w',z⟩:=I.cell y c e;exact⟨w',z.sameBut hs (GJ y c e)⟩
  ·obtain⟨e,n,ne,nf,d⟩:=I.pin p hp;exact⟨(hs.2 p.1 ne).trans e,n,ne,nf,d⟩
 ·have Dh:X.fn x=true:=by
   rcases hf with z|z
   ·exact z
   ·rw[z] at hk;cases hk
  obtain⟨c,hc⟩:=I.ok.has x (.inl hk);obtain⟨w',z⟩:=I.cell x c hc;refine wpAny_storeName_cell I.ok.kind hk hc z (fun h' GL hs=>?_);obtain⟨oc,Nu,SU⟩:=id z;refine h {s with heap:=h'} ⟨I.ok,I.os,I.bare,⟨fun b o e n hb hx=>?_,fun b o e n hb hx=>?_,I.base.free,fun b o e hx=>?_,I.base.qI,I.base.oF,I.base.oG⟩,⟨m,hn.sameBut hs (Ne.symm (GJ x c hc)),fun j y v' e1 e2 e3=>?_⟩,fun y c' e=>?_,I.free,I.fO,fun p hp=>?_,tracked ⟨oc,Nu,I.fO x c hc⟩ hs,by simpa using I.len⟩ ⟨c,hs,.inr hc⟩
  ·exact(hs.2 b (Nat.ne_of_lt (Nat.lt_of_lt_of_le (Heap.lt_size e) (I.ok.Jd x c Dh hc)))).trans (I.base.keep b o e n hb hx)
  ·obtain⟨sl,e1⟩:=I.base.slot b o e n hb hx;exact⟨sl,(hs.2 b (Nat.ne_of_lt (Nat.lt_of_lt_of_le (Heap.lt_size e) (I.ok.Jd x c Dh hc)))).trans e1⟩
  ·obtain⟨o',e1⟩:=I.base.there b o e hx;exact⟨o',(hs.2 b (Nat.ne_of_lt (Nat.lt_of_lt_of_le (Heap.lt_size e) (I.ok.Jd x c Dh hc)))).trans e1⟩
  ·by_cases hj:j=i
   ·subst hj;rw[hi] at e1;cases e1;rw[List.getElem?_set_self GK] at e2;cases e2;exact⟨u,r,.inr ⟨.inl hk,c,hc,GL⟩⟩
   ·rw[List.getElem?_set_ne (Ne.symm hj)] at e2;obtain⟨u',r',q⟩:=hl j y v' e1 e2 e3;refine⟨u',r',?_⟩;rcases q with q|⟨k,c',e,z'⟩
    ·exact .inl q
    ·refine .inr ⟨k,c',e,z'.sameBut hs ?_⟩;rintro rfl;exact hj (oJ hN e1 (I.ok.inj _ _ _ e hc▸hi))
  ·by_cases SV:c'=c
   ·subst SV;exact⟨_,GL⟩
   ·obtain⟨w2,z2⟩:=I.cell y c' e;exact⟨w2,z2.sameBut hs SV⟩
  ·obtain⟨e,n,ne,nf,d⟩:=I.pin p hp;refine⟨(hs.2 p.1 ?_).trans e,n,ne,nf,d⟩;intro q;rw[q,Nu] at e;have q':oc=p.2:=Option.some.inj e;exact d w' (by rw[<-q'];exact SU)
theorem oK{M:Model}{A:Around}{E:Value->Shared->Prop}{i:Nat}{x:Str}{v:V}{u:Value}{Q:Unit->Shared->Prop}(I:Inv X pins σ H s)(hN:X.N.Nodup)(hi:X.N[i]?=some x)(hx:Loc X.env.scope x)(r:RelV v u)(h:∀s',Inv X pins (σ.set i (some v)) H s'->Q () s')(hf:X.fn x=true\/X.env.scope.names.lookup x=some .local:=by first|exact .inl rfl|exact .inr rfl|assumption):wpAny M A (storeName X.env x u) Q E s:=
 rj I hN hi hx r (fun s' I' _=>h s' I') hf
theorem Inv.Jf{s':Shared}{ch:List Addr}(I:Inv X pins σ H s)(ho:s'.os=s.os)(u:Un (uN X.stack) ch H H' s.heap s'.heap)(bT:jY X.prog X.w H' s'.heap)(hg:AllBare s'.gens)(xA:∀b∈ch,(b∈X.ex\/X.fY.heap.objs.size<=b)/\b≠X.env.locals/\(∀x c,X.env.cells.lookup x=some c->c≠b)/\∀p∈X.pn++pins,p.1≠b):Inv X pins σ H' s':=by
 obtain⟨h',g',d',t',o'⟩:=s';have e:o'=s.os:=ho;subst e;exact I.call (g':=g') (t':=t') (d':=d') u bT hg xA
end
noncomputable abbrev XK:=Value->Option Addr->Hp->Prop
noncomputable abbrev St:=List (Option V)
noncomputable abbrev VK:=V->Hp->Prop
noncomputable abbrev TE:=St->Hp->VK->Prop
noncomputable abbrev TT:=St->Hp->(Bool->Hp->Prop)->Prop
noncomputable abbrev TA:=St->Hp->(List V->Hp->Prop)->Prop
structure Ends where
 nx:St->Hp->Prop
 rt:VK
 bk:St->Hp->Prop:=fun _ _=>False
 ct:St->Hp->Prop:=fun _ _=>False
noncomputable abbrev TS:=Ends->St->Hp->Prop
noncomputable def EP(X:Cx)(pins:List (Addr×Obj))(σ:St)(Q:VK)(u:Value)(s':Shared):Prop:=∃v H',Inv X pins σ H' s'/\RelV v u/\Q v H'
noncomputable def TP(X:Cx)(pins:List (Addr×Obj))(σ:St)(Q:Bool->Hp->Prop)(b:Bool)(s':Shared):Prop:=∃H',Inv X pins σ H' s'/\Q b H'
noncomputable def AP(X:Cx)(pins:List (Addr×Obj))(σ:St)(Q:List V->Hp->Prop)(us:List Value)(s':Shared):Prop:=∃vs H',Inv X pins σ H' s'/\Vals vs us/\Q vs H'
noncomputable def SP(X:Cx)(pins:List (Addr×Obj))(D:Ends)(f:Flow)(s':Shared):Prop:=
 match f with
 |.next=>∃bJ H',Inv X pins bJ H' s'/\D.nx bJ H'
 |.brk=>∃bJ H',Inv X pins bJ H' s'/\D.bk bJ H'
 |.cont=>∃bJ H',Inv X pins bJ H' s'/\D.ct bJ H'
 |.ret u=>∃v bJ H',Inv X pins bJ H' s'/\RelV v u/\D.rt v H'
noncomputable def PE(X:Cx)(e:Expr)(t:TE):Prop:=
 ∀(pins:List (Addr×Obj))(s:Shared)(σ:St)(H:Hp)(Q:VK),Inv X pins σ H s->t σ H Q->wpAny (model X.prog X.w) X.A (eval e X.env) (EP X pins σ Q) X.xe s
noncomputable def PT(X:Cx)(e:Expr)(t:TT):Prop:=
 ∀(pins:List (Addr×Obj))(s:Shared)(σ:St)(H:Hp)(Q:Bool->Hp->Prop),Inv X pins σ H s->t σ H Q->wpAny (model X.prog X.w) X.A (isTrue e X.env (eval e X.env)) (TP X pins σ Q) X.xe s
noncomputable def PW(X:Cx)(e:Expr)(t:TT):Prop:=
 ∀(whole:Sem Value)(pins:List (Addr×Obj))(s:Shared)(σ:St)(H:Hp)(Q:Bool->Hp->Prop),Inv X pins σ H s->t σ H Q->wpAny (model X.prog X.w) X.A (isTrue e X.env whole) (TP X pins σ Q) X.xe s
theorem PW.pt{X:Cx}{e:Expr}{t:TT}(h:PW X e t):PT X e t:=h _
noncomputable def PA(X:Cx)(es:List Expr)(t:TA):Prop:=
 ∀(pos:Pos)(pins:List (Addr×Obj))(s:Shared)(σ:St)(H:Hp)(Q:List V->Hp->Prop),Inv X pins σ H s->t σ H Q->wpAny (model X.prog X.w) X.A (spliced (backTo pos (starEach es X.env))) (AP X pins σ Q) X.xe s
noncomputable def PS(X:Cx)(st:Stmt)(t:TS):Prop:=
 ∀(pins:List (Addr×Obj))(s:Shared)(σ:St)(H:Hp)(D:Ends),Inv X pins σ H s->t D σ H->wpAny (model X.prog X.w) X.A (exec st X.env) (SP X pins D) X.xe s
noncomputable def qJ(X:Cx)(st:List Stmt)(t:TS):Prop:=
 ∀(pins:List (Addr×Obj))(s:Shared)(σ:St)(H:Hp)(D:Ends),Inv X pins σ H s->t D σ H->wpAny (model X.prog X.w) X.A (execs st X.env) (SP X pins D) X.xe s
theorem dr{α:Type}{t:Sem α}{Q Q':α->Shared->Prop}{M:Model}{A:Around}{E:Value->Shared->Prop}{s:Shared}(h:wpAny M A t Q E s)(hQ:∀a s,Q a s->Q' a s):wpAny M A t Q' E s:=wpAny_mono h hQ fun _ _ x=>x
end L2
namespace L2
open PySem PySem.Spec PyProof.Rows
section
variable {X:Cx}
noncomputable def GN(i:Nat):TE:=fun σ H Q=>∃v,σ[i]?=some (some v)/\Q v H
noncomputable def tC(v:V):TE:=fun _ H Q=>Q v H
theorem Di{i:Nat}{x:Str}{pos:Pos}(hN:X.N[i]?=some x)(hv:N7 X.env.scope x)(hd:(x==("__debug__":Str))=false:=by decide)(ko:(x==("__classdict__":Str))=false:=by decide):PE X (.Name x pos) (GN i):=by
 intro pins s σ H Q I h;obtain⟨v,e,h⟩:=h;obtain⟨m,hn,hl⟩:=I.loc;obtain⟨u,r,l⟩:=hl i x v hN e hv;have fin:EP X pins σ Q u s:=⟨v,H,I,r,h⟩;rcases l with⟨hk,hm⟩|⟨hk,c,hc,Jg⟩
 ·exact wpAny_Name (wpAny_loadName_local I.ok.kind hk hn hm fin) hd
 ·rcases hk with hk|hk
  ·exact wpAny_Name (wpAny_loadName_cell I.ok.kind hk hc Jg fin) hd
  ·exact wpAny_Name (wpAny_loadName_free I.ok.kind hk hc Jg fin ko) hd
theorem af{i j pos}:PE X (.Constant (.int i) j pos) (tC (.int i)):=fun _ _ _ H _ I h=>wpAny_Constant_int ⟨.int i,H,I.tok _,⟨_,rfl⟩,h⟩
theorem fk{b j pos}:PE X (.Constant (.bool b) j pos) (tC (.bl b)):=fun _ _ _ H _ I h=>Constant_bool ⟨.bl b,H,I,rfl,h⟩
theorem fZ{j pos}:PE X (.Constant .none j pos) (tC .dU):=fun _ _ _ H _ I h=>Constant_none ⟨.dU,H,I,rfl,h⟩
theorem jl{x j pos}:PE X (.Constant (.str x) j pos) (tC (.str x)):=fun _ _ _ H _ I h=>Calls.Constant_str ⟨.str x,H,I.tok _,⟨_,rfl⟩,h⟩
noncomputable def Gl(X:Cx)(x:Str):Prop:=X.env.kindOf x=some .globalImplicit
theorem iL{E:Value->Shared->Prop}{pins:List (Addr×Obj)}{s:Shared}{σ:St}{H:Hp}{x:Str}{u:Value}{pos:Pos}{Q:Value->Shared->Prop}(I:Inv X pins σ H s)(hg:Gl X x)(hm:X.mg x=some u)(h:Q u s)(hd:(x==("__debug__":Str))=false:=by decide):wpAny (model X.prog X.w) X.A (eval (.Name x pos) X.env) Q E s:=
 Calls.Name_function_global I.ok.kind hg (Calls.loadGlobal_global (by rw[I.ok.glob];exact I.mod.glob.keeps I.bk) hm h) hd
theorem iM{E:Value->Shared->Prop}{pins:List (Addr×Obj)}{s:Shared}{σ:St}{H:Hp}{x:Str}{u:Value}{pos:Pos}{Q:Value->Shared->Prop}(I:Inv X pins σ H s)(hg:Gl X x)(hm:X.mg x=none)(hv:bootBuiltins x=some u)(h:Q u s)(hn:x≠"__name__":=by decide)(hd:(x==("__debug__":Str))=false:=by decide):wpAny (model X.prog X.w) X.A (eval (.Name x pos) X.env) Q E s:=by
 obtain⟨mb,h1,h2⟩:=I.mod.blt;exact Calls.Name_function_global I.ok.kind hg (Calls.loadGlobal_builtin (by rw[I.ok.glob];exact I.mod.glob.keeps I.bk) hm (by rw[I.ok.blt];exact h1.keeps I.bk) ((h2 x hn).trans hv) h) hd
theorem zT{x:Str}{v:V}{u:Value}{pos:Pos}(hg:Gl X x)(hm:X.mg x=some u)(r:RelV v u)(hd:(x==("__debug__":Str))=false:=by decide):PE X (.Name x pos) (tC v):=
 fun _ _ _ H _ I h=>iL I hg hm ⟨v,H,I,r,h⟩ hd
theorem GO{x:Str}{v:V}{u:Value}{pos:Pos}(hg:Gl X x)(hm:X.mg x=none)(hv:bootBuiltins x=some u)(r:RelV v u)(hn:x≠"__name__":=by decide)(hd:(x==("__debug__":Str))=false:=by decide):PE X (.Name x pos) (tC v):=
 fun _ _ _ H _ I h=>iM I hg hm hv ⟨v,H,I,r,h⟩ hn hd
variable {a b:Expr} {ta tb:TE} {pos:Pos}
noncomputable def tB(t:TE):TT:=fun σ H Q=>t σ H fun x H1=>∃c,x=.bl c/\Q c H1
theorem ky{e:Expr}{t:TE}(h:PE X e t)(he:∀whole,isTrue e X.env whole=(do let v<-whole;standAt e.pos;holding [v] (truthy v)):=by intro _;rfl):PT X e (tB t):=by
 intro pins s σ H Q I hw;refine isTrue_plain (dr (h pins s σ H _ I hw) fun v s1⟨x,H1,I1,r1,q1⟩=>?_) (he _);obtain⟨d,rfl,q⟩:=q1;cases r1;exact wpAny_truthy_bool ⟨H1,I1,q⟩
variable {tA Rp:TT} {rest:List Expr}
noncomputable def Oa(t u:TT):TT:=fun σ H Q=>t σ H fun c H1=>if c=true then u σ H1 Q else Q false H1
noncomputable def Wn(t u:TT):TT:=fun σ H Q=>t σ H fun c H1=>if c=true then Q true H1 else u σ H1 Q
noncomputable def Ob(t:TT):TT:=fun σ H Q=>t σ H fun c H1=>Q (!c) H1
theorem iN(ha:PT X a tA):PW X (.BoolOp .And [a] pos) tA:=by
 intro wh pins s σ H Q I h;refine isTrue_and (dr (ha pins s σ H Q I h) fun c s1 e=>?_);cases c with
 |true=>exact isTrue_and_nil e
 |false=>exact e
theorem jm(ha:PT X a tA):PW X (.BoolOp .Or [a] pos) tA:=by
 intro wh pins s σ H Q I h;refine isTrue_or (dr (ha pins s σ H Q I h) fun c s1 e=>?_);cases c with
 |false=>exact isTrue_or_nil e
 |true=>exact e
theorem kz(ha:PT X a tA)(hb:PW X (.BoolOp .And (b::rest) pos) Rp):PW X (.BoolOp .And (a::b::rest) pos) (Oa tA Rp):=by
 intro wh pins s σ H Q I h;refine isTrue_and (dr (ha pins s σ H _ I h) fun c s1⟨H1,I1,q1⟩=>?_);cases c with
 |true=>exact hb wh pins s1 σ H1 Q I1 q1
 |false=>exact⟨H1,I1,q1⟩
theorem jn(ha:PT X a tA)(hb:PW X (.BoolOp .Or (b::rest) pos) Rp):PW X (.BoolOp .Or (a::b::rest) pos) (Wn tA Rp):=by
 intro wh pins s σ H Q I h;refine isTrue_or (dr (ha pins s σ H _ I h) fun c s1⟨H1,I1,q1⟩=>?_);cases c with
 |true=>exact⟨H1,I1,q1⟩
 |false=>exact hb wh pins s1 σ H1 Q I1 q1
theorem kA(ha:PT X a tA):PT X (.UnaryOp .Not a pos) (Ob tA):=by
 intro pins s σ H Q I h;exact isTrue_not (ha pins s σ H (fun c H1=>Q (!c) H1) I h)
noncomputable def Oc(ta tb:TE):TE:=fun σ H Q=>ta σ H fun x H1=>∃c,x=.bl c/\if c=true then tb σ H1 Q else Q (.bl false) H1
noncomputable def SW(ta tb:TE):TE:=fun σ H Q=>ta σ H fun x H1=>∃c,x=.bl c/\if c=true then Q (.bl true) H1 else tb σ H1 Q
noncomputable def Od(ta:TE):TE:=fun σ H Q=>ta σ H fun x H1=>∃c,x=.bl c/\Q (.bl (!c)) H1
noncomputable def Wo(t:TT)(ta tb:TE):TE:=fun σ H Q=>t σ H fun c H1=>if c=true then ta σ H1 Q else tb σ H1 Q
theorem dJ{c:Expr}(hc:PT X c tA)(ha:PE X a ta)(hb:PE X b tb):PE X (.IfExp c a b pos) (Wo tA ta tb):=by
 intro pins s σ H Q I h;refine wpAny_IfExp (dr (hc pins s σ H _ I h) fun d s1⟨H1,I1,q1⟩=>?_);cases d with
 |true=>exact ha pins s1 σ H1 Q I1 q1
 |false=>exact hb pins s1 σ H1 Q I1 q1
end
end L2
namespace L2
open PySem PySem.Spec PyProof.Rows
noncomputable def aW(K:PySem.W.Frag)(H:Hp)(a:Addr)(xs:List V):Prop:=
 Rd H a (.lst xs)\/
  ∃(o:Obj)(aX:Array Value)(n:Nat),K.lookup a=some o/\o.cls=.type "list"/\o.dict=none/\o.data=.seq aX n/\aX.size<=sizeLine/\Vals xs aX.toList
noncomputable def bL(K:PySem.W.Frag)(H:Hp)(a:Addr)(xs:List V):Prop:=
 Rd H a (.tup xs)\/
  ∃(o:Obj)(aX:Array Value)(n:Nat),K.lookup a=some o/\o.cls=.type "tuple"/\o.data=.seq aX n/\aX.size<=sizeLine/\Vals xs aX.toList
noncomputable def SX:Value->Option V
 |.none=>some .dU
 |.bool b=>some (.bl b)
 |.int i _=>some (.int i)
 |.str x _=>some (.str x)
 |.bytes b _=>some (.zP b)
 |.float b _=>some (.KQ b)
 |.ref a=>some (.ref a)
 |.type n=>some (.ty n)
 |_=>none
theorem RelV.abs{x:V}{u:Value}(r:RelV x u):SX u=some x:=by
 cases x with
 |dU=>cases r;rfl
 |bl _=>cases r;rfl
 |int _=>obtain⟨t,rfl⟩:=r;rfl
 |str _=>obtain⟨t,rfl⟩:=r;rfl
 |zP _=>obtain⟨t,rfl⟩:=r;rfl
 |KQ _=>obtain⟨t,rfl⟩:=r;rfl
 |ref _=>cases r;rfl
 |ty _=>cases r;rfl
theorem RelV.inj{x y:V}{u:Value}(r:RelV x u)(q:RelV y u):x=y:=Option.some.inj (r.abs.symm.trans q.abs)
theorem Vals.inj:∀{xs ys:List V}{us:List Value},Vals xs us->Vals ys us->xs=ys
 |_,_,_,.nil,.nil=>rfl
 |_,_,_,.cons r t,.cons r' t'=>by rw[r.inj r',Vals.inj t t']
section
variable {X:Cx} {pins:List (Addr×Obj)} {σ:St} {H:Hp} {s:Shared} {a:Addr} {xs ys:List V}
theorem aW.of{K:PySem.W.Frag}(h:H a=some (.lst xs)):aW K H a xs:=.inl (.inl h)
theorem bL.of{K:PySem.W.Frag}(h:H a=some (.tup xs)):bL K H a xs:=.inl (.inl h)
theorem Inv.list(I:Inv X pins σ H s)(h:aW X.K H a xs):∃aX:List Value,Vals xs aX/\PlainL s.heap a aX.toArray/\xs.length<=sizeLine:=by
 rcases h with h|⟨o,aX,n,hk,hc,hd,hs,hz,r⟩
 ·obtain⟨z,aX,n,r,e⟩:=h.ok I.bT;exact⟨aX,r,⟨_,n,e,rfl,rfl,rfl⟩,z⟩
 ·refine⟨aX.toList,r,⟨o,n,I.mH a o hk,hc,hd,by simpa using hs⟩,?_⟩;have e:=r.length;simp only[Array.length_toList] at e;lia
theorem Inv.tuple(I:Inv X pins σ H s)(h:bL X.K H a xs):∃aX:List Value,Vals xs aX/\IsTup s.heap a aX.toArray/\xs.length<=sizeLine:=by
 rcases h with h|⟨o,aX,n,hk,hc,hs,hz,r⟩
 ·obtain⟨z,aX,r,p⟩:=h.ok I.bT;exact⟨aX,r,p,z⟩
 ·refine⟨aX.toList,r,⟨o,I.mH a o hk,hc,n,by simpa using hs⟩,?_⟩;have e:=r.length;simp only[Array.length_toList] at e;lia
theorem Inv.oM(I:Inv X pins σ H s)(h:aW X.K H a xs)(h':aW X.K H a ys):xs=ys:=by
 obtain⟨aX,r,⟨o,n,e,_,_,d⟩,_⟩:=I.list h;obtain⟨its',r',⟨o',n',e',_,_,d'⟩,_⟩:=I.list h';rw[e] at e';cases e';rw[d] at d';injection d' with d1 _;have:aX=its':=by simpa using congrArg Array.toList d1
 subst this;exact r.inj r'
end
noncomputable abbrev Cx.qK(X:Cx)(E:Value->Shared->Prop):Cx:={X with xe:=E}
noncomputable abbrev Cx.Jh(X:Cx):Cx:=X.qK fun _ _=>False
theorem Cx.Ok.qK{X:Cx}(ok:X.Ok)(E:Value->Shared->Prop):(X.qK E).Ok:=
 ⟨ok.mod,ok.kind,ok.glob,ok.blt,ok.above,ok.inj,ok.has,ok.Jd,ok.hd,ok.frames,ok.KR,ok.N8,ok.bs,ok.zR,ok.uV,ok.xy,ok.jk,ok.C5⟩
theorem Cx.Ok.jo{X:Cx}{E:Value->Shared->Prop}(ok:(X.qK E).Ok):X.Ok:=
 ⟨ok.mod,ok.kind,ok.glob,ok.blt,ok.above,ok.inj,ok.has,ok.Jd,ok.hd,ok.frames,ok.KR,ok.N8,ok.bs,ok.zR,ok.uV,ok.xy,ok.jk,ok.C5⟩
section
variable {X:Cx} {pins:List (Addr×Obj)} {σ:St} {H:Hp} {s:Shared} {E:Value->Shared->Prop}
theorem Inv.qK(I:Inv X pins σ H s)(E:Value->Shared->Prop):Inv (X.qK E) pins σ H s:=⟨I.ok.qK E,I.os,I.bare,I.base,I.loc,I.cell,I.free,I.fO,I.pin,I.bT,I.len⟩
theorem Inv.jo(I:Inv (X.qK E) pins σ H s):Inv X pins σ H s:=⟨I.ok.jo,I.os,I.bare,I.base,I.loc,I.cell,I.free,I.fO,I.pin,I.bT,I.len⟩
theorem SP.jo{D:Ends}{f:Flow}{s':Shared}(h:SP (X.qK E) pins D f s'):SP X pins D f s':=by
 cases f with
 |next=>obtain⟨bJ,H',I,q⟩:=h;exact⟨bJ,H',I.jo,q⟩
 |brk=>obtain⟨bJ,H',I,q⟩:=h;exact⟨bJ,H',I.jo,q⟩
 |cont=>obtain⟨bJ,H',I,q⟩:=h;exact⟨bJ,H',I.jo,q⟩
 |ret u=>obtain⟨v,bJ,H',I,r,q⟩:=h;exact⟨v,bJ,H',I.jo,r,q⟩
theorem qJ.Jh{st:List Stmt}{t:TS}(h:qJ X.Jh st t):qJ X st t:=fun pins s σ H D I hw=>
 wpAny_mono (h pins s σ H D (I.qK _) hw) (fun _ _ q=>q.jo) fun _ _ z=>False.elim z
end
section
variable {X:Cx} {st:Stmt} {rest:List Stmt} {t u:TS} {e:Expr} {te:TE} {pos:Pos}
noncomputable def Ji:TS:=fun D σ H=>D.nx σ H
noncomputable def Oe(t u:TS):TS:=fun D σ H=>t {D with nx:=u D} σ H
theorem aM:qJ X [] Ji:=fun _ _ σ H _ I h=>wpAny_execs_nil ⟨σ,H,I,h⟩
theorem ae(h1:PS X st t)(h2:qJ X rest u):qJ X (st::rest) (Oe t u):=by
 intro pins s σ H D I h;refine wpAny_execs_cons (dr (h1 pins s σ H {D with nx:=u D} I h) fun f s1 q=>?_);cases f with
 |next=>
  obtain⟨bJ,H',I',q⟩:=q;exact h2 pins s1 bJ H' D I' q
 |ret v=>exact q
 |brk=>exact q
 |cont=>exact q
theorem ah(h1:PS X st t):qJ X [st] t:=by
 intro pins s σ H D I h;refine wpAny_execs_cons (dr (h1 pins s σ H D I h) fun f s1 q=>?_);cases f with
 |next=>exact wpAny_execs_nil q
 |ret v=>exact q
 |brk=>exact q
 |cont=>exact q
theorem Inv.quiet{pins:List (Addr×Obj)}{σ:St}{H:Hp}{s:Shared}(I:Inv X pins σ H s):interactive X.env=false:=by simp[interactive,I.ok.kind]
noncomputable def Jj(te:TE):TS:=fun D σ H=>te σ H fun _ H1=>D.nx σ H1
theorem jZ(he:PE X e te)(hs:swapsWith e none pos.line X.env=pure false:=by rfl):PS X (.Expr e pos) (Jj te):=by
 intro pins s σ H D I h;exact wpAny_Expr_any (dr (he pins s σ H _ I h) fun v s1⟨x,H1,I1,r1,q1⟩=>⟨σ,H1,I1,q1⟩) I.quiet hs
noncomputable def Of(te:TE):TS:=fun D σ H=>te σ H D.rt
theorem ax(he:PE X e te):PS X (.Return (some e) pos) (Of te):=by
 intro pins s σ H D I h;exact wpAny_Return_some (dr (he pins s σ H _ I h) fun v s1⟨x,H1,I1,r1,q1⟩=>⟨x,σ,H1,I1,r1,q1⟩)
noncomputable def Og(c:TT)(t u:TS):TS:=fun D σ H=>c σ H fun b H1=>if b=true then t D σ H1 else u D σ H1
theorem bB{c:Expr}{a b:List Stmt}{tc:TT}(hc:PT X c tc)(ha:qJ X a t)(hb:qJ X b u):PS X (.If c a b pos) (Og tc t u):=by
 intro pins s σ H D I h;refine wpAny_If (dr (hc pins s σ H _ I h) fun d s1⟨H1,I1,q1⟩=>?_);cases d with
 |true=>exact ha pins s1 σ H1 D I1 q1
 |false=>exact hb pins s1 σ H1 D I1 q1
noncomputable def KU:TS:=fun _ _ _=>False
theorem uW:PS X st KU:=fun _ _ _ _ _ _ h=>h.elim
end
noncomputable abbrev TG:=V->St->Hp->(St->Hp->Prop)->Prop
noncomputable abbrev Gn:=List V->St->Hp->(St->Hp->Prop)->Prop
noncomputable def PG(X:Cx)(target:Expr)(t:TG):Prop:=
 ∀(pins:List (Addr×Obj))(s:Shared)(σ:St)(H:Hp)(v:V)(u:Value)(Q:St->Hp->Prop),Inv X pins σ H s->RelV v u->t v σ H Q->
  wpAny (model X.prog X.w) X.A (assign target X.env u) (fun _ s'=>∃bJ H',Inv X pins bJ H' s'/\Q bJ H') X.xe s
noncomputable def Oh(X:Cx)(ts:List Expr)(t:Gn):Prop:=
 ∀(pins:List (Addr×Obj))(s:Shared)(σ:St)(H:Hp)(vs:List V)(us:List Value)(Q:St->Hp->Prop),Inv X pins σ H s->Vals vs us->t vs σ H Q->
  wpAny (model X.prog X.w) X.A (assignInOrder ((assignEach ts X.env).map (·.2)) us) (fun _ s'=>∃bJ H',Inv X pins bJ H' s'/\Q bJ H') X.xe s
noncomputable abbrev GP:=V->V->V->Hp->(Hp->Prop)->Prop
noncomputable def Oi(X:Cx)(t:GP):Prop:=
 ∀(pins:List (Addr×Obj))(s:Shared)(σ:St)(H:Hp)(o i v:V)(ov iv u:Value)(Q:Hp->Prop),Inv X pins σ H s->RelV o ov->RelV i iv->RelV v u->t o i v H Q->
  wpAny (model X.prog X.w) X.A (setItem ov iv u) (fun _ s'=>∃H',Inv X pins σ H' s'/\Q H') X.xe s
section
variable {X:Cx} {pos:Pos}
noncomputable def rk(i:Nat):TG:=fun v σ H Q=>Q (σ.set i (some v)) H
theorem aO{i:Nat}{x:Str}(hN:X.N.Nodup)(hi:X.N[i]?=some x)(hx:Loc X.env.scope x)(hf:X.fn x=true\/X.env.scope.names.lookup x=some .local:=by first|exact .inl rfl|exact .inr rfl|assumption):PG X (.Name x pos) (rk i):=by
 intro pins s σ H v u Q I r h;exact wpAny_assign_Name (oK I hN hi hx r (fun s' I'=>⟨_,H,I',h⟩) hf)
noncomputable def Oj:Gn:=fun vs σ H Q=>vs=[]/\Q σ H
noncomputable def Jk(t:TG)(u:Gn):Gn:=fun vs σ H Q=>∃v r,vs=v::r/\t v σ H fun bJ H'=>u r bJ H' Q
theorem gR:Oh X [] Oj:=by
 intro pins s σ H vs us Q I r h;obtain⟨e,h⟩:=h;subst e;cases r;exact assignInOrder_nil ⟨σ,H,I,h⟩
theorem bc{e:Expr}{es:List Expr}{t:TG}{u:Gn}(h1:PG X e t)(h2:Oh X es u)(hs:(assignEach (e::es) X.env).map (·.2)=assign e X.env::(assignEach es X.env).map (·.2):=by rfl):Oh X (e::es) (Jk t u):=by
 intro pins s σ H vs us Q I r h;obtain⟨v,vr,e1,h⟩:=h;subst e1;cases r with
 |cons r rr=>
  rw[hs];refine assignInOrder_cons (dr (h1 pins s σ H _ _ _ I r h) fun _ s1 ⟨Gp,H1,I1,q1⟩=>?_);exact h2 pins s1 Gp H1 _ _ Q I1 rr q1
noncomputable def KW(K:PySem.W.Frag)(n:Nat)(t:Gn):TG:=fun v σ H Q=>∃a xs,v=.ref a/\bL K H a xs/\xs.length=n/\t xs σ H Q
theorem jq{es:List Expr}{k:Nat}{t:Gn}{n:Nat}(hc:X.calm=true)(h:Oh X es t)(hn:(assignEach es X.env).length=n:=by rfl)(uX:(assignEach es X.env).findIdx? (·.1)=none:=by rfl):PG X (.Tuple es k pos) (KW X.K n t):=by
 intro pins s σ H v u Q I r hw;obtain⟨a,xs,e1,hq,hl,hw⟩:=hw;subst e1;cases r;obtain⟨aX,rv,ht,hz⟩:=I.tuple hq;refine assign_Tuple_tuple (I.ok.hd hc) ht (by simp[hn,<-hl,rv.length]) uX fun h' hx=>?_;have I1:Inv X pins σ H {s with heap:=h'}:=I.kept (t':=s.toks) fun b o e=>hx b o (Nat.ne_of_lt (Heap.lt_size e)) e;exact h pins _ σ H xs _ Q I1 (by simpa using rv) hw
noncomputable def Ol(to ti:TE)(t:GP):TG:=fun v σ H Q=>to σ H fun o H1=>ti σ H1 fun i H2=>t o i v H2 fun H3=>Q σ H3
theorem Dj{o i:Expr}{to ti:TE}{t:GP}(ho:PE X o to)(hi:PE X i ti)(hs:Oi X t)(ha:∀v,assign (.Subscript o i pos) X.env v=(do
 let ov<-holding [v] (eval o X.env)
 let iv<-holding [v,ov] (eval i X.env)
 standAt pos
 holding [v,ov,iv] (setItem ov iv v)
 release [v,ov,iv] []):=by intro _;rfl):PG X (.Subscript o i pos) (Ol to ti t):=by
 intro pins s σ H v u Q I r h;rw[ha];refine wpAny_bind (wpAny_holding (dr (ho pins s σ H _ I h) fun ov s1⟨x,H1,I1,r1,q1⟩=>?_));refine wpAny_bind (wpAny_holding (dr (hi pins s1 σ H1 _ I1 q1) fun iv s2⟨y,H2,I2,r2,q2⟩=>?_));refine wpAny_bind (wpAny_standAt (wpAny_bind (wpAny_holding (dr (hs pins s2 σ H2 x y v ov iv u _ I2 r1 r2 r q2) fun _ s3 ⟨H3,I3,q3⟩=>?_))));exact wpAny_release ⟨σ,H3,I3,q3⟩
noncomputable def Dk(te:TE)(g:TG):TS:=fun D σ H=>te σ H fun x H1=>g x σ H1 D.nx
theorem kB{tg e:Expr}{te:TE}{g:TG}(he:PE X e te)(hg:PG X tg g)(hs:swapsWithSole [tg] e pos.line X.env=pure false:=by rfl)(hw:swappedStores [tg] e X.env=pure none:=by rfl)(h1:(assignEach [tg] X.env).map (·.2)=[assign tg X.env]:=by rfl):PS X (.Assign [tg] e pos) (Dk te g):=by
 intro pins s σ H D I h;refine wpAny_Assign_stores (dr (he pins s σ H _ I h) fun v s1⟨x,H1,I1,r1,q1⟩=>?_) hs hw;rw[h1];exact dr (hg pins s1 σ H1 x v _ I1 r1 q1) fun _ s2 q=>q
theorem aj{i:Nat}{x:Str}{e:Expr}{te:TE}{pos':Pos}(hN:X.N.Nodup)(hi:X.N[i]?=some x)(hx:Loc X.env.scope x)(he:PE X e te)(hs:swapsWith e (some (.Name x pos')) pos.line X.env=pure false:=by rfl)(hf:X.fn x=true\/X.env.scope.names.lookup x=some .local:=by first|exact .inl rfl|exact .inr rfl|assumption):
 PS X (.Assign [.Name x pos'] e pos) (Dk te (rk i)):=by
 intro pins s σ H D I h;refine wpAny_Assign_Name (dr (he pins s σ H _ I h) fun v s1⟨y,H1,I1,r1,q1⟩=>?_) hs;exact oK I1 hN hi hx r1 (fun s2 I2=>⟨_,H1,I2,q1⟩) hf
end
section
variable {X:Cx} {pos:Pos}
noncomputable def Dl(c:TT)(tb:TS):TS:=fun D σ H=>∃W:Nat->St->Hp->Prop,(∃m,W m σ H)/\∀m σ H,W m σ H->
 c σ H fun b H1=>if b=true then ∃N:St->Hp->Prop,(∀bJ H',N bJ H'->∃m',m'<m/\W m' bJ H')/\tb {D with nx:=N,ct:=N,bk:=D.nx} σ H1 else D.nx σ H1
theorem cN{c:Expr}{body:List Stmt}{tc:TT}{tb:TS}(hp:PassesOwn (model X.prog X.w) X.A X.env X.xe)(hc:PT X c tc)(hb:qJ X body tb):PS X (.While c body [] pos) (Dl tc tb):=by
 intro pins s σ H D I h;obtain⟨W,⟨m0,w0⟩,turn⟩:=h;refine wpAny_While (codeAny_whileLoop (fun n s'=>∃bJ H',Inv X pins bJ H' s'/\W n bJ H') ?_ m0 ⟨σ,H,I,w0⟩);rintro n s1 ⟨Gp,H1,I1,w1⟩;refine wpAny_passesOwn hp (dr (hc pins s1 Gp H1 _ I1 (turn n Gp H1 w1)) fun b s2⟨H2,I2,q2⟩=>?_);cases b with
 |true=>
  obtain⟨N,hN,q2⟩:=q2;rw[if_pos rfl];refine wpAny_passesOwn hp (dr (hb pins s2 Gp H2 _ I2 q2) fun f s3 q3=>?_);cases f with
  |next=>
   obtain⟨Dm,H3,I3,n3⟩:=q3;obtain⟨m',hm,w3⟩:=hN Dm H3 n3;exact⟨m',hm,Dm,H3,I3,w3⟩
  |cont=>
   obtain⟨Dm,H3,I3,n3⟩:=q3;obtain⟨m',hm,w3⟩:=hN Dm H3 n3;exact⟨m',hm,Dm,H3,I3,w3⟩
  |brk=>exact q3
  |ret v=>exact q3
 |false=>
  rw[if_neg Bool.false_ne_true];exact wpAny_execs_nil ⟨Gp,H2,I2,q2⟩
end
structure It where
 go:Nat->Hp->Prop
 xB:Nat->Hp->V->Hp->Prop
 stop:Nat->Hp->Prop
noncomputable def mI(X:Cx)(pins:List (Addr×Obj))(H:Hp)(b:Addr):Prop:=
 H b=none/\b≠X.env.locals/\b∉X.fs/\(b∈X.ex\/X.fY.heap.objs.size<=b)/\(∀x c,X.env.cells.lookup x=some c->c≠b)/\∀p∈X.pn++pins,p.1≠b
theorem Inv.xC{X:Cx}{pins:List (Addr×Obj)}{σ:St}{H H':Hp}{s:Shared}{b:Addr}(I:Inv X pins σ H s)(hb:s.heap.objs.size<=b)(hn:H' b=none):mI X pins H' b:=by
 refine⟨hn,Nat.ne_of_gt (Nat.lt_of_lt_of_le I.lt hb),I.SO hb,.inr (Nat.le_trans I.sz hb),fun x c e z=>?_,fun p hp z=>?_⟩
 ·obtain⟨v,q⟩:=I.cell x c e;exact absurd (Nat.lt_of_lt_of_le q.lt (by rw[z];exact hb)) (Nat.lt_irrefl _)
 ·exact absurd (Nat.lt_of_lt_of_le (Heap.lt_size (I.pin p hp).1) (by rw[z];exact hb)) (Nat.lt_irrefl _)
structure Turn(P:Program)(w:World)(K:PySem.W.Frag)(tg:Expr)(J:It)(fp:List Addr)(it:Addr)(tn:Nat->Heap->Prop):Prop where
 mem:it∈fp
 obj:∀i h,tn i h->∀b∈fp,∃o,h.get? b=some o/\∀v,o.data≠.cell v
 keep:∀i h h',tn i h->(∀b∈fp,∀o,h.get? b=some o->h'.get? b=some o)->tn i h'
 item:∀(X:Cx),X.prog=P->X.w=w->X.K=K->X.calm=true->∀(i:Nat)(pins:List (Addr×Obj))(s:Shared)(σ:St)(H:Hp)(E:Value->Shared->Prop),Inv X pins σ H s->(∀b∈fp,mI X pins H b)->tn i s.heap->J.go i H->
  wpAny (model P w) X.A (pyNext (.ref it)) (fun r s1=>∃u,r=some u/\
   wpAny (model P w) X.A (letOwnedTupleGo tg (.ref it) u) (fun _ s2=>∃x H',Inv X pins σ H' s2/\RelV x u/\J.xB i H x H'/\tn (i+1) s2.heap/\∀b∈fp,H' b=none) E s1) E s
 done:∀(X:Cx),X.prog=P->X.w=w->X.K=K->X.calm=true->∀(i:Nat)(pins:List (Addr×Obj))(s:Shared)(σ:St)(H:Hp)(E:Value->Shared->Prop),Inv X pins σ H s->(∀b∈fp,mI X pins H b)->tn i s.heap->J.stop i H->
  wpAny (model P w) X.A (pyNext (.ref it)) (fun r s1=>r=none/\Inv X pins σ H s1) E s
 self:∀(A:Around)(i:Nat)(s:Shared)(Q:Value->Shared->Prop)(E:Value->Shared->Prop),tn i s.heap->Q (.ref it) s->wpAny (model P w) A (pyIter (.ref it)) Q E s
noncomputable abbrev TI:=St->Hp->(It->Hp->Prop)->Prop
noncomputable def Wq(X:Cx)(pins:List (Addr×Obj))(σ:St)(tg:Expr)(R:It->Hp->Prop)(Rq:Value)(s2:Shared):Prop:=
 ∃(it:Addr)(fp:List Addr)(tn:Nat->Heap->Prop)(J:It)(H':Hp),Rq=.ref it/\Inv X pins σ H' s2/\Turn X.prog X.w X.K tg J fp it tn/\tn 0 s2.heap/\(∀b∈fp,mI X pins H' b)/\R J H'
noncomputable def PI(X:Cx)(tg iter:Expr)(wi:TI):Prop:=
 ∀(pins:List (Addr×Obj))(s:Shared)(σ:St)(H:Hp)(R:It->Hp->Prop),Inv X pins σ H s->wi σ H R->
  wpAny (model X.prog X.w) X.A (eval iter X.env) (fun v s1=>wpAny (model X.prog X.w) X.A (pyIter v) (Wq X pins σ tg R) X.xe s1) X.xe s
theorem zU{M:Model}{A:Around}{E:Value->Shared->Prop}{s:Shared}{tg:Expr}{it:Addr}{u:Value}{o:Obj}{n:String}{vs:Array Value}{Q:Unit->Shared->Prop}(ho:s.heap.get? it=some o)(hc:o.cls=.type n)(hd:o.data=.fields vs)(hn:["enumerate","zip","dict_itemiterator","dict_reverseitemiterator","odict_iterator","itertools.zip_longest","itertools.pairwise"].contains n=false)(hQ:Q () s):wpAny M A (letOwnedTupleGo tg (.ref it) u) Q E s:=by
 unfold letOwnedTupleGo;cases tg<;>first
  |exact wpAny_pure hQ
  |(cases u<;>first
     |exact wpAny_pure hQ
     |(refine wpAny_bind (wpAny_load ho ?_)
       rw[hc,hd]
       show wpAny M A (if(["enumerate","zip","dict_itemiterator","dict_reverseitemiterator","odict_iterator","itertools.zip_longest","itertools.pairwise"].contains n&&vs[0]?==some (rawInt _))=true then _ else _) Q E s
       rw[if_neg (by intro h;rw[hn,Bool.false_and] at h;cases h)]
       exact wpAny_pure hQ))
noncomputable def uO(K:PySem.W.Frag)(a:Addr):It:=
 ⟨fun i H=>∃xs x,aW K H a xs/\xs[i]?=some x,fun i H x H'=>H'=H/\∀xs,aW K H a xs->xs[i]?=some x,fun i H=>∃xs,aW K H a xs/\xs.length<=i⟩
noncomputable def GQ(lo:Int)(n:Nat):It:=⟨fun i _=>i<n,fun i H x H'=>H'=H/\x=.int (lo+i),fun i _=>n<=i⟩
theorem BB{P:Program}{w:World}{K:PySem.W.Frag}{tg:Expr}(a it:Addr):Turn P w K tg (uO K a) [it] it (fun i h=>h.IsListIter it a i) where
 mem:=by simp
 obj:=fun i h st b hb=>by
  have e:b=it:=by simpa using hb
  subst e;obtain⟨o,e,c,d⟩:=st;exact⟨o,e,fun v z=>by rw[d] at z;cases z⟩
 keep:=fun i h h' st k=>st.at fun o e=>k it (by simp) o e
 item:=by
  intro X hP hw hK hc i pins s σ H E I hf st hg;subst hP hw hK;obtain⟨xs,x,hq,hx⟩:=hg;obtain⟨aX,rv,p,hz⟩:=I.list hq;obtain⟨u,hu,ru⟩:=rv.get hx;obtain⟨f0,f1,f2,f3,f4,f5⟩:=hf it (by simp);refine wpAny_pyNext_list_item st p.isList (x:=u) (by simpa using hu) fun h' Om sb=>?_;have I1:Inv X pins σ H {s with heap:=h'}:=I.turned (t':=s.toks) (fun b o hb e=>(sb.2 b hb).trans e) f0 f1 f3 f4 f5;obtain⟨o,e,c,d⟩:=id Om;exact⟨u,rfl,zU (s:={s with heap:=h'}) e c d (by decide) ⟨x,H,I1,ru,⟨rfl,fun ys hy=>by rw[I.oM hy hq];exact hx⟩,Om,fun b hb=>(hf b hb).1⟩⟩
 done:=by
  intro X hP hw hK hc i pins s σ H E I hf st hg;subst hP hw hK;obtain⟨xs,hq,hx⟩:=hg;obtain⟨aX,rv,p,hz⟩:=I.list hq;obtain⟨f0,f1,f2,f3,f4,f5⟩:=hf it (by simp);have hl:=rv.length;exact wpAny_pyNext_list_end (I.ok.hd hc) st p.isList (by simp;lia) fun h' eb=>⟨rfl,I.turned (t':=s.toks) (fun b o hb e=>eb b o hb e) f0 f1 f3 f4 f5⟩
 self:=fun _ _ _ _ _ st h=>wpAny_pyIter_listiter st h
theorem xD{P:Program}{w:World}{K:PySem.W.Frag}{tg:Expr}(it:Addr)(lo:Int)(n:Nat):Turn P w K tg (GQ lo n) [it] it (fun i h=>IsRangeIter h it (lo+(i:Nat)*1) ((n:Int)-(i:Nat)) 1) where
 mem:=by simp
 obj:=fun i h st b hb=>by
  have e:b=it:=by simpa using hb
  subst e;exact⟨_,st,fun v z=>by
   have z':Data.fields _=Data.cell v:=z
   cases z'⟩
 keep:=fun i h h' st k=>k it (by simp) _ st
 item:=by
  intro X hP hw hK hc i pins s σ H E I hf st hg;subst hP hw hK;obtain⟨f0,f1,f2,f3,f4,f5⟩:=hf it (by simp);have W:=Walks.range (prog:=X.prog) (w:=X.w) (I.ok.hd hc) it lo 1 n;refine W.item i s _ _ hg st fun v h' tk hv Om kk=>?_;obtain⟨t,rfl⟩:=hv;have I1:Inv X pins σ H {s with heap:=h',toks:=tk}:=I.turned (fun b o hb e=>kk b o (by simpa using hb) e) f0 f1 f3 f4 f5;refine⟨_,rfl,zU (s:={s with heap:=h',toks:=tk}) (n:="range_iterator") Om rfl rfl (by decide) ⟨.int (lo+i),H,I1,⟨t,?_⟩,⟨rfl,rfl⟩,Om,fun b hb=>(hf b hb).1⟩⟩;rw[Int.mul_one]
 done:=by
  intro X hP hw hK hc i pins s σ H E I hf st hg;subst hP hw hK;obtain⟨f0,f1,f2,f3,f4,f5⟩:=hf it (by simp);exact wpAny_pyNext_range_end (I.ok.hd hc) st (by have:n<=i:=hg;lia) fun h' eb=>⟨rfl,I.turned (t':=s.toks) (fun b o hb e=>eb b o hb e) f0 f1 f3 f4 f5⟩
 self:=fun _ _ _ _ _ st h=>wpAny_pyIter_rangeiter st h
end L2
namespace L2
open PySem PySem.Spec PyProof.Rows
section
variable {X:Cx} {tg:Expr}
noncomputable def Jl(K:PySem.W.Frag)(tl:TE):TI:=fun σ H R=>tl σ H fun x H1=>∃a,x=.ref a/\(∃xs,aW K H1 a xs)/\R (uO K a) H1
theorem eZ{l:Expr}{tl:TE}(hl:PE X l tl):PI X tg l (Jl X.K tl):=by
 intro pins s σ H R I h;refine dr (hl pins s σ H _ I h) fun v s1⟨x,H1,I1,r1,q1⟩=>?_;obtain⟨a,e,⟨xs,hq⟩,q⟩:=q1;subst e;cases r1;obtain⟨aX,rv,p,hz⟩:=I1.list hq;refine wpAny_pyIter_list p.isList ?_;refine⟨s1.heap.objs.size,[s1.heap.objs.size],_,_,H1,rfl,I1.kept (t':=s1.toks) fun b o e=>Heap.get?_push_of_some _ e,BB a _,⟨_,Heap.get?_push_size _ rfl,rfl,rfl⟩,fun b hb=>?_,q⟩;have e:b=s1.heap.objs.size:=by simpa using hb
 subst e;exact I1.xC (Nat.le_refl _) (I1.bT.fresh (Nat.le_refl _))
theorem Dn{pins:List (Addr×Obj)}{σ:St}{H:Hp}{s:Shared}{R:It->Hp->Prop}{E:Value->Shared->Prop}{lo hi:Int}{t u v:Tok}{tk:Nat}(I:Inv X pins σ H s)(h1:-(2^62)<=lo)(h2:lo<2^62)(h3:-(2^62)<=hi)(h4:hi<2^62)(q:R (GQ lo (hi-lo).toNat) H):wpAny (model X.prog X.w) X.A (pyIter (.ref s.heap.objs.size)) (Wq X pins σ tg R) E {s with heap:=s.heap.push {cls:=.type "range",data:=.fields #[.int lo t,.int hi u,.int 1 v]},toks:=tk}:=by
 refine wpAny_pyIter_range (IsRange.new ..) (small_one h1 h2 h3 h4) ?_;have I1:Inv X pins σ H {s with heap:=s.heap.push {cls:=.type "range",data:=.fields #[.int lo t,.int hi u,.int 1 v]},toks:=tk}:=I.kept fun b o e=>Heap.get?_push_of_some _ e;refine⟨(s.heap.push {cls:=.type "range",data:=.fields #[.int lo t,.int hi u,.int 1 v]}).objs.size,[(s.heap.push {cls:=.type "range",data:=.fields #[.int lo t,.int hi u,.int 1 v]}).objs.size],_,_,H,rfl,
  I1.kept (t':=tk) fun b o e=>Heap.get?_push_of_some _ e,xD _ lo (hi-lo).toNat,?_,fun b hb=>?_,q⟩
 ·have e1:lo+((0:Nat):Int)*1=lo:=by simp
  have e2:(((hi-lo).toNat:Nat):Int)-((0:Nat):Int)=Builtin.Range.rangeSize lo hi 1:=by rw[rangeSize_one];split<;>lia
  show IsRangeIter _ _ (lo+((0:Nat):Int)*1) ((((hi-lo).toNat:Nat):Int)-((0:Nat):Int)) 1;rw[e1,e2];exact Heap.get?_push_size _ rfl
 ·have e:b=(s.heap.push {cls:=.type "range",data:=.fields #[.int lo t,.int hi u,.int 1 v]}).objs.size:=by simpa using hb
  subst e;exact I1.xC (Nat.le_refl _) (I1.bT.fresh (Nat.le_refl _))
noncomputable def Jm(ta:TA):TI:=fun σ H R=>ta σ H fun vs H1=>∃j:Int,vs=[.int j]/\-(2^62)<=j/\j<2^62/\R (GQ 0 j.toNat) H1
noncomputable def Oo(ta:TA):TI:=fun σ H R=>ta σ H fun vs H1=>∃i j:Int,vs=[.int i,.int j]/\(-(2^62)<=i/\i<2^62/\-(2^62)<=j/\j<2^62)/\R (GQ i (j-i).toNat) H1
theorem BC{a:Expr}{ta:TA}{p pos:Pos}(hg:Gl X "range")(hm:X.mg "range"=none)(ha:PA X [a] ta)(hs:starEach [a] X.env=[(false,eval a X.env)]:=by rfl):PI X tg (.Call (.Name "range" p) [a] [] pos) (Jm ta):=by
 intro pins s σ H R I h;refine Call_ (iM I hg hm boot_range (PyProof.Rows.callWith_type1 (dr (ha pos pins s σ H _ I h) fun us s1⟨vs,H1,I1,r1,q1⟩=>?_) hs rfl));obtain⟨j,e,q1,q2,q⟩:=q1;subst e;cases r1 with
 |cons r rr=>
  cases rr;obtain⟨t,rfl⟩:=r;exact call_range_1 (Dn I1 (by lia) (by lia) q1 q2 (by simpa using q))
noncomputable def Oq(wi:TI)(g:TG)(tb:TS):TS:=fun D σ H=>wi σ H fun J H1=>∃W:Nat->Nat->St->Hp->Prop,(∃m,W 0 m σ H1)/\∀i m σ H,W i m σ H->
 (J.stop i H/\D.nx σ H)\/(J.go i H/\∃N:St->Hp->Prop,(∀bJ H',N bJ H'->∃m',m'<m/\W (i+1) m' bJ H')/\∀x H',J.xB i H x H'->g x σ H' fun fP H2=>tb {D with nx:=N,ct:=N,bk:=D.nx} fP H2)
noncomputable def sI(fp:List Addr)(h:Heap):List (Addr×Obj):=fp.filterMap fun b=>(h.get? b).map fun o=>(b,o)
theorem iO{fp:List Addr}{h:Heap}{b:Addr}{o:Obj}(hb:b∈fp)(e:h.get? b=some o):(b,o)∈sI fp h:=List.mem_filterMap.mpr ⟨b,hb,by rw[e];rfl⟩
theorem BD{fp:List Addr}{h:Heap}{p:Addr×Obj}(hp:p∈sI fp h):p.1∈fp/\h.get? p.1=some p.2:=by
 obtain⟨b,hb,e⟩:=List.mem_filterMap.mp hp;cases q:h.get? b with
 |none=>rw[q] at e;cases e
 |some o=>
  rw[q] at e;have e':(b,o)=p:=Option.some.inj e;subst e';exact⟨hb,q⟩
theorem Inv.pinned{pins:List (Addr×Obj)}{σ:St}{H:Hp}{s:Shared}{fp:List Addr}(I:Inv X pins σ H s)(hf:∀b∈fp,mI X pins H b)(ho:∀b∈fp,∃o,s.heap.get? b=some o/\∀v,o.data≠.cell v):Inv X (pins++sI fp s.heap) σ H s:=
 I.zS fun p hp=>(List.mem_append.mp hp).elim (fun z=>I.pin p (List.mem_append_right _ z)) fun z=>by
  obtain⟨hb,e⟩:=BD z;obtain⟨f0,f1,f2,_⟩:=hf p.1 hb;obtain⟨o,e',d⟩:=ho p.1 hb;rw[e] at e';cases e';exact⟨e,f0,f1,f2,d⟩
theorem Inv.lB{pins pl:List (Addr×Obj)}{σ:St}{H:Hp}{s:Shared}(I:Inv X (pins++pl) σ H s):Inv X pins σ H s:=I.zS fun p hp=>I.pin p (List.mem_append_right _ (List.mem_append_left _ hp))
theorem f6{iter:Expr}{body:List Stmt}{wi:TI}{g:TG}{tb:TS}{pos:Pos}(hp:PassesOwn (model X.prog X.w) X.A X.env X.xe)(hc:X.calm=true)(hi:PI X tg iter wi)(hg:PG X tg g)(hb:qJ X body tb)(hs:∀x,foldedSetIterable iter X.env x=pure x:=by intro _;rfl):PS X (.For tg iter body [] pos) (Oq wi g tb):=by
 intro pins s σ H D I h;refine wpAny_For (dr (hi pins s σ H _ I h) fun v s1 h1=>dr h1 fun Rq s2 h2=>?_) hs;obtain⟨it,fp,tn,J,H2,e,I2,T,KY,f2,W,⟨m0,w0⟩,turn⟩:=h2;subst e;have xE:∀{H':Hp},(∀b∈fp,H' b=none)->∀b∈fp,mI X pins H' b:=fun hn b hb=>⟨hn b hb,(f2 b hb).2⟩;refine codeAny_forLoop_any (fun n s'=>∃i bJ H',Inv X pins bJ H' s'/\tn i s'.heap/\(∀b∈fp,H' b=none)/\W i n bJ H') ?_ m0 ⟨0,σ,H2,I2,KY,fun b hb=>(f2 b hb).1,w0⟩;rintro n s3 ⟨i,Dm,H3,I3,Nx,Wr,w3⟩;rcases turn i n Dm H3 w3 with⟨stop,qn⟩|⟨go,N,hN,step⟩
 ·refine wpAny_passesOwn hp (dr (T.done X rfl rfl rfl hc i pins s3 Dm H3 X.xe I3 (xE Wr) Nx stop) fun r s4⟨hr,I4⟩=>?_);subst hr;exact wpAny_execs_nil ⟨Dm,H3,I4,qn⟩
 ·refine wpAny_passesOwn hp (dr (T.item X rfl rfl rfl hc i pins s3 Dm H3 X.xe I3 (xE Wr) Nx go) fun r s4⟨u,hr,h4⟩=>?_);subst hr;refine wpAny_passesOwn hp (dr h4 fun _ s5 ⟨x,H5,I5,r5,y5,Ny,Rr⟩=>?_);have Yw:=I5.pinned (xE Rr) (T.obj _ _ Ny);refine wpAny_passesOwn hp (dr (hg _ s5 Dm H5 x u _ Yw r5 (step x H5 y5)) fun _ s6 ⟨Ot,H6,I6,q6⟩=>?_);refine wpAny_passesOwn hp (dr (hb _ s6 Ot H6 _ I6 q6) fun f s7 q7=>?_);have again:∀{Dp:St}{H7:Hp},Inv X (pins++sI fp s5.heap) Dp H7 s7->N Dp H7->∃m,m<n/\∃i bJ H',Inv X pins bJ H' s7/\tn i s7.heap/\(∀b∈fp,H' b=none)/\W i m bJ H':=fun{Dp H7} I7 n7=>by
   obtain⟨m',hm,w7⟩:=hN Dp H7 n7;refine⟨m',hm,i+1,Dp,H7,I7.lB,T.keep _ _ _ Ny fun b hb o e=>(I7.pin (b,o) (List.mem_append_right _ (List.mem_append_right _ (iO hb e)))).1,fun b hb=>?_,w7⟩;obtain⟨o,e,d⟩:=T.obj _ _ Ny b hb;exact(I7.pin (b,o) (List.mem_append_right _ (List.mem_append_right _ (iO hb e)))).2.1
  cases f with
  |next=>obtain⟨Dp,H7,I7,n7⟩:=q7;exact again I7 n7
  |cont=>obtain⟨Dp,H7,I7,n7⟩:=q7;exact again I7 n7
  |brk=>obtain⟨Dp,H7,I7,q7⟩:=q7;exact⟨Dp,H7,I7.lB,q7⟩
  |ret v=>obtain⟨x7,Dp,H7,I7,r7,q7⟩:=q7;exact⟨x7,Dp,H7,I7.lB,r7,q7⟩
end
theorem jr{K:PySem.W.Frag}{a:Addr}{xs:List V}{g:TG}{tb:TS}{D:Ends}{σ:St}{H:Hp}(Pv:Nat->St->Hp->Prop)(h0:Pv 0 σ H)(hl:∀i σ H,i<=xs.length->Pv i σ H->aW K H a xs)(hs:∀i x σ H,xs[i]?=some x->Pv i σ H->g x σ H fun fP H2=>tb {D with nx:=Pv (i+1),ct:=Pv (i+1),bk:=D.nx} fP H2)(hd:∀σ H,Pv xs.length σ H->D.nx σ H):
 ∃W:Nat->Nat->St->Hp->Prop,(∃m,W 0 m σ H)/\∀i m σ H,W i m σ H->
  ((uO K a).stop i H/\D.nx σ H)\/((uO K a).go i H/\∃N:St->Hp->Prop,(∀bJ H',N bJ H'->∃m',m'<m/\W (i+1) m' bJ H')/\∀x H',(uO K a).xB i H x H'->g x σ H' fun fP H2=>tb {D with nx:=N,ct:=N,bk:=D.nx} fP H2):=by
 refine⟨fun i m σ H=>m=xs.length-i/\i<=xs.length/\Pv i σ H,⟨xs.length,by simp,Nat.zero_le _,h0⟩,?_⟩;rintro i m σ H ⟨rfl,hi,p⟩;have q:=hl i σ H hi p;by_cases eM:i<xs.length
 ·refine .inr ⟨⟨xs,xs[i],q,by simp[eM]⟩,Pv (i+1),fun bJ H' p'=>⟨xs.length-(i+1),by lia,rfl,eM,p'⟩,fun x H' y=>?_⟩;obtain⟨e,y⟩:=y;subst e;exact hs i x σ _ (y xs q) p
 ·have e:i=xs.length:=by lia
  subst e;exact .inl ⟨⟨xs,q,Nat.le_refl _⟩,hd σ H p⟩
theorem BE{lo:Int}{n:Nat}{g:TG}{tb:TS}{D:Ends}{σ:St}{H:Hp}(Pv:Nat->St->Hp->Prop)(h0:Pv 0 σ H)(hs:∀i σ H,i<n->Pv i σ H->g (.int (lo+i)) σ H fun fP H2=>tb {D with nx:=Pv (i+1),ct:=Pv (i+1),bk:=D.nx} fP H2)(hd:∀σ H,Pv n σ H->D.nx σ H):
 ∃W:Nat->Nat->St->Hp->Prop,(∃m,W 0 m σ H)/\∀i m σ H,W i m σ H->
  ((GQ lo n).stop i H/\D.nx σ H)\/((GQ lo n).go i H/\∃N:St->Hp->Prop,(∀bJ H',N bJ H'->∃m',m'<m/\W (i+1) m' bJ H')/\∀x H',(GQ lo n).xB i H x H'->g x σ H' fun fP H2=>tb {D with nx:=N,ct:=N,bk:=D.nx} fP H2):=by
 refine⟨fun i m σ H=>m=n-i/\i<=n/\Pv i σ H,⟨n,by simp,Nat.zero_le _,h0⟩,?_⟩;rintro i m σ H ⟨rfl,hi,p⟩;by_cases eM:i<n
 ·refine .inr ⟨eM,Pv (i+1),fun bJ H' p'=>⟨n-(i+1),by lia,rfl,eM,p'⟩,fun x H' y=>?_⟩;obtain⟨e,y⟩:=y;subst e y;exact hs i σ _ eM p
 ·have e:i=n:=by lia
  subst e;exact .inl ⟨Nat.le_refl _,hd σ H p⟩
end L2
namespace L2
open PySem PySem.Spec PyProof.Rows
noncomputable abbrev R2:=V->V->Hp->VK->Prop
noncomputable def nB(X:Cx)(f:Value->Value->Sem Value)(r:R2):Prop:=
 ∀(pins:List (Addr×Obj))(s:Shared)(σ:St)(H:Hp)(x y:V)(v u:Value)(Q:VK),Inv X pins σ H s->RelV x v->RelV y u->r x y H Q->
  wpAny (model X.prog X.w) X.A (f v u) (EP X pins σ Q) X.xe s
noncomputable def SY(X:Cx)(f:Value->Sem Value)(r:V->Hp->VK->Prop):Prop:=
 ∀(pins:List (Addr×Obj))(s:Shared)(σ:St)(H:Hp)(x:V)(v:Value)(Q:VK),Inv X pins σ H s->RelV x v->r x H Q->
  wpAny (model X.prog X.w) X.A (f v) (EP X pins σ Q) X.xe s
noncomputable def jf(X:Cx)(f:Value)(r:List V->Hp->VK->Prop):Prop:=
 ∀(pins:List (Addr×Obj))(s:Shared)(σ:St)(H:Hp)(xs:List V)(us:List Value)(Q:VK),Inv X pins σ H s->Vals xs us->r xs H Q->
  wpAny (model X.prog X.w) X.A (call f us) (EP X pins σ Q) X.xe s
noncomputable def S0(X:Cx)(r:V->Hp->(Bool->Hp->Prop)->Prop):Prop:=
 ∀(pins:List (Addr×Obj))(s:Shared)(σ:St)(H:Hp)(x:V)(v:Value)(Q:Bool->Hp->Prop),Inv X pins σ H s->RelV x v->r x H Q->
  wpAny (model X.prog X.w) X.A (truthy v) (TP X pins σ Q) X.xe s
noncomputable def Ou(r:R2)(ta tb:TE):TE:=fun σ H Q=>ta σ H fun x H1=>tb σ H1 fun y H2=>r x y H2 Q
noncomputable def Ws(r:V->Hp->VK->Prop)(ta:TE):TE:=fun σ H Q=>ta σ H fun x H1=>r x H1 Q
noncomputable def rI(C:Int->Int->Prop)(g:Int->Int->V):R2:=fun x y H Q=>∃i j,x=.int i/\y=.int j/\C i j/\Q (g i j) H
noncomputable def GR(g:Int->Int->V):R2:=fun x y H Q=>∃i j,x=.int i/\y=.int j/\Q (g i j) H
noncomputable def rU(g:Int->V):V->Hp->VK->Prop:=fun x H Q=>∃i,x=.int i/\Q (g i) H
section
variable {X:Cx} {a b c:Expr} {ta tb tc:TE} {pos:Pos}
theorem KZ(ha:PE X a ta)(hb:PE X b tb){pins:List (Addr×Obj)}{s:Shared}{σ:St}{H:Hp}{R:V->V->Hp->Prop}(I:Inv X pins σ H s)(h:ta σ H fun x H1=>tb σ H1 fun y H2=>R x y H2){Q:Value->Shared->Prop}{f:Value->Value->Sem Value}(hf:∀v u s2 x y H2,Inv X pins σ H2 s2->RelV x v->RelV y u->R x y H2->wpAny (model X.prog X.w) X.A (f v u) Q X.xe s2):
 wpAny (model X.prog X.w) X.A (eval a X.env) (fun v bW=>wpAny (model X.prog X.w) X.A (eval b X.env) (fun u xF=>wpAny (model X.prog X.w) X.A (f v u) Q X.xe xF) X.xe bW) X.xe s:=by
 refine dr (ha pins s σ H _ I h) fun v s1⟨x,H1,I1,r1,q1⟩=>?_;refine dr (hb pins s1 σ H1 _ I1 q1) fun u s2⟨y,H2,I2,r2,q2⟩=>?_;exact hf v u s2 x y H2 I2 r1 r2 q2
theorem ao{op:Operator}{r:R2}(ho:nB X (binaryOp op) r)(ha:PE X a ta)(hb:PE X b tb):PE X (.BinOp a op b pos) (Ou r ta tb):=by
 intro pins s σ H Q I h;exact wpAny_BinOp (KZ ha hb I h fun v u s2 x y H2 I2 rx ry q=>ho pins s2 σ H2 x y v u Q I2 rx ry q)
theorem cU{op:UnaryOp}{r:V->Hp->VK->Prop}(ho:SY X (unaryOp op) r)(ha:PE X a ta):PE X (.UnaryOp op a pos) (Ws r ta):=by
 intro pins s σ H Q I h;exact UnaryOp_ (dr (ha pins s σ H _ I h) fun v s1⟨x,H1,I1,r1,q1⟩=>ho pins s1 σ H1 x v Q I1 r1 q1)
theorem Ru{f:Value->Value->Sem Value}{C:Int->Int->Prop}{g:Int->Int->Int}(rule:∀(i j:Int)(t u:Tok)(s:Shared)(Q:Value->Shared->Prop)(E:Value->Shared->Prop),C i j->Q (.int (g i j) s.toks) {s with toks:=s.toks+1}->wpAny (model X.prog X.w) X.A (f (.int i t) (.int j u)) Q E s):
 nB X f (rI C fun i j=>.int (g i j)):=by
 intro pins s σ H x y v u Q I rx ry h;obtain⟨i,j,rfl,rfl,hc,q⟩:=h;obtain⟨t,rfl⟩:=rx;obtain⟨t',rfl⟩:=ry;exact rule i j t t' s _ _ hc ⟨.int (g i j),H,I.tok _,⟨_,rfl⟩,q⟩
theorem Ov{f:Value->Value->Sem Value}{g:Int->Int->Int}(rule:∀(i j:Int)(t u:Tok)(s:Shared)(Q:Value->Shared->Prop)(E:Value->Shared->Prop),Q (.int (g i j) s.toks) {s with toks:=s.toks+1}->wpAny (model X.prog X.w) X.A (f (.int i t) (.int j u)) Q E s):
 nB X f (GR fun i j=>.int (g i j)):=by
 intro pins s σ H x y v u Q I rx ry h;obtain⟨i,j,rfl,rfl,q⟩:=h;obtain⟨t,rfl⟩:=rx;obtain⟨t',rfl⟩:=ry;exact rule i j t t' s _ _ ⟨.int (g i j),H,I.tok _,⟨_,rfl⟩,q⟩
theorem GS{f:Value->Value->Sem Value}{g:Int->Int->Bool}(rule:∀(i j:Int)(t u:Tok)(s:Shared)(Q:Value->Shared->Prop)(E:Value->Shared->Prop),Q (.bool (g i j)) s->wpAny (model X.prog X.w) X.A (f (.int i t) (.int j u)) Q E s):
 nB X f (GR fun i j=>.bl (g i j)):=by
 intro pins s σ H x y v u Q I rx ry h;obtain⟨i,j,rfl,rfl,q⟩:=h;obtain⟨t,rfl⟩:=rx;obtain⟨t',rfl⟩:=ry;exact rule i j t t' s _ _ ⟨.bl (g i j),H,I,rfl,q⟩
noncomputable def S1(i j:Int):Prop:=0<=j/\j<=1000000/\i.natAbs<2^64
theorem bH:nB X (binaryOp .Add) (GR fun i j=>.int (i+j)):=Ov fun _ _ _ _ _ _ _ q=>add_int q
theorem bq:nB X (binaryOp .Sub) (GR fun i j=>.int (i-j)):=Ov fun _ _ _ _ _ _ _ q=>sub_int q
theorem cH:nB X (binaryOp .Mod) (rI (fun _ j=>j≠0) fun i j=>.int (i.fmod j)):=Ru fun _ _ _ _ _ _ _ hc q=>mod_int' hc q
theorem K0:nB X (binaryOp .Pow) (rI S1 fun i j=>.int (i^j.toNat)):=Ru fun _ _ _ _ _ _ _ hc q=>pow_int_small hc.1 hc.2.1 hc.2.2 q
theorem Yx{f:Value->Sem Value}{g:Int->Int}(rule:∀(i:Int)(t:Tok)(s:Shared)(Q:Value->Shared->Prop)(E:Value->Shared->Prop),Q (.int (g i) s.toks) {s with toks:=s.toks+1}->wpAny (model X.prog X.w) X.A (f (.int i t)) Q E s):
 SY X f (rU fun i=>.int (g i)):=by
 intro pins s σ H x v Q I rx h;obtain⟨i,rfl,q⟩:=h;obtain⟨t,rfl⟩:=rx;exact rule i t s _ _ ⟨.int (g i),H,I.tok _,⟨_,rfl⟩,q⟩
theorem bR:SY X (unaryOp .USub) (rU fun i=>.int (-i)):=Yx fun _ _ _ _ _ q=>neg_int q
end
noncomputable def Ow:V->V->Bool
 |.dU,.dU=>true|.dU,.int _=>true|.int _,.dU=>true|.dU,.bl _=>true|.bl _,.dU=>true|.dU,.str _=>true|.str _,.dU=>true
 |.int _,.int _=>true|.bl _,.bl _=>true|.str _,.str _=>true|.zP _,.zP _=>true
 |.int _,.str _=>true|.str _,.int _=>true|.bl _,.str _=>true|.str _,.bl _=>true
 |_,_=>false
noncomputable def Wt:R2:=fun x y H Q=>Ow x y=true/\Q (.bl (decide (x=y))) H
noncomputable def Wu:R2:=fun x y H Q=>Ow x y=true/\Q (.bl (!decide (x=y))) H
theorem zV{i j:Int}:decide (V.int i=V.int j)=(i==j):=by
 rw[Bool.eq_iff_iff];simp
theorem Dq{i j:Bool}:decide (V.bl i=V.bl j)=(i==j):=by
 rw[Bool.eq_iff_iff];simp
theorem zW{i j:Str}:decide (V.str i=V.str j)=(i==j):=by
 rw[Bool.eq_iff_iff];simp
theorem zX{i j:Array UInt8}:decide (V.zP i=V.zP j)=(i.toList==j.toList):=by
 rw[Bool.eq_iff_iff];cases i;cases j;simp
section
variable {X:Cx} {a b c:Expr} {ta tb tc:TE} {pos:Pos}
theorem bI{pins:List (Addr×Obj)}{σ:St}{H:Hp}{s:Shared}{Q:VK}{k k':Bool}(I:Inv X pins σ H s)(q:Q (.bl k) H)(e:k=k'):EP X pins σ Q (.bool k') s:=by
 subst e;exact⟨.bl k,H,I,rfl,q⟩
theorem f_:nB X (compareOp .Eq) Wt:=by
 intro pins s σ H x y v u Q I rx ry h;obtain⟨hs,q⟩:=h;cases x with
 |dU=>
  cases rx
  cases y with
  |dU=>cases ry;exact PySem.EqNone.eq_none_none (bI I q (by simp))
  |bl j=>cases ry;exact PySem.EqNone.eq_none_bool (bI I q (by simp))
  |int j=>obtain⟨t',rfl⟩:=ry;exact PySem.EqNone.eq_none_int (bI I q (by simp))
  |str j=>obtain⟨t',rfl⟩:=ry;exact PySem.EqNone.eq_none_str (bI I q (by simp))
  |_=>exact absurd (show false=true from hs) Bool.false_ne_true
 |bl i=>
  cases rx
  cases y with
  |dU=>cases ry;exact PySem.EqNone.eq_bool_none (bI I q (by simp))
  |bl j=>cases ry;exact eq_bool (bI I q Dq)
  |str j=>obtain⟨t',rfl⟩:=ry;exact PySem.EqMixed.eq_bool_str (bI I q (by simp))
  |_=>exact absurd (show false=true from hs) Bool.false_ne_true
 |int i=>
  obtain⟨t,rfl⟩:=rx;cases y with
  |dU=>cases ry;exact PySem.EqNone.eq_int_none (bI I q (by simp))
  |int j=>obtain⟨t',rfl⟩:=ry;exact eq_int (bI I q zV)
  |str j=>obtain⟨t',rfl⟩:=ry;exact PySem.EqMixed.eq_int_str (bI I q (by simp))
  |_=>exact absurd (show false=true from hs) Bool.false_ne_true
 |str i=>
  obtain⟨t,rfl⟩:=rx;cases y with
  |dU=>cases ry;exact PySem.EqNone.eq_str_none (bI I q (by simp))
  |bl j=>cases ry;exact PySem.EqMixed.eq_str_bool (bI I q (by simp))
  |int j=>obtain⟨t',rfl⟩:=ry;exact PySem.EqMixed.eq_str_int (bI I q (by simp))
  |str j=>obtain⟨t',rfl⟩:=ry;exact eq_str (bI I q zW)
  |_=>exact absurd (show false=true from hs) Bool.false_ne_true
 |zP i=>
  obtain⟨t,rfl⟩:=rx;cases y with
  |zP j=>obtain⟨t',rfl⟩:=ry;exact PySem.W.eq_bytes (bI I q zX)
  |_=>exact absurd (show false=true from hs) Bool.false_ne_true
 |_=>cases y<;>exact absurd (show false=true from hs) Bool.false_ne_true
theorem gb:nB X (compareOp .NotEq) Wu:=by
 intro pins s σ H x y v u Q I rx ry h;obtain⟨hs,q⟩:=h;cases x with
 |dU=>
  cases rx
  cases y with
  |dU=>cases ry;exact PySem.EqNone.ne_none_none (bI I q (by simp))
  |bl j=>cases ry;exact PySem.EqNone.ne_none_bool (bI I q (by simp))
  |int j=>obtain⟨t',rfl⟩:=ry;exact PySem.EqNone.ne_none_int (bI I q (by simp))
  |str j=>obtain⟨t',rfl⟩:=ry;exact PySem.EqNone.ne_none_str (bI I q (by simp))
  |_=>exact absurd (show false=true from hs) Bool.false_ne_true
 |bl i=>
  cases rx
  cases y with
  |dU=>cases ry;exact PySem.EqNone.ne_bool_none (bI I q (by simp))
  |bl j=>cases ry;exact ne_bool (bI I q (congrArg not Dq))
  |str j=>obtain⟨t',rfl⟩:=ry;exact PySem.EqMixed.ne_bool_str (bI I q (by simp))
  |_=>exact absurd (show false=true from hs) Bool.false_ne_true
 |int i=>
  obtain⟨t,rfl⟩:=rx;cases y with
  |dU=>cases ry;exact PySem.EqNone.ne_int_none (bI I q (by simp))
  |int j=>obtain⟨t',rfl⟩:=ry;exact ne_int (bI I q (congrArg not zV))
  |str j=>obtain⟨t',rfl⟩:=ry;exact PySem.EqMixed.ne_int_str (bI I q (by simp))
  |_=>exact absurd (show false=true from hs) Bool.false_ne_true
 |str i=>
  obtain⟨t,rfl⟩:=rx;cases y with
  |dU=>cases ry;exact PySem.EqNone.ne_str_none (bI I q (by simp))
  |bl j=>cases ry;exact PySem.EqMixed.ne_str_bool (bI I q (by simp))
  |int j=>obtain⟨t',rfl⟩:=ry;exact PySem.EqMixed.ne_str_int (bI I q (by simp))
  |str j=>obtain⟨t',rfl⟩:=ry;exact ne_str (bI I q (congrArg not zW))
  |_=>exact absurd (show false=true from hs) Bool.false_ne_true
 |zP i=>
  obtain⟨t,rfl⟩:=rx;cases y with
  |zP j=>obtain⟨t',rfl⟩:=ry;exact PySem.W.ne_bytes (bI I q (congrArg not zX))
  |_=>exact absurd (show false=true from hs) Bool.false_ne_true
 |_=>cases y<;>exact absurd (show false=true from hs) Bool.false_ne_true
theorem gS:nB X (compareOp .Lt) (GR fun i j=>.bl (decide (i<j))):=GS fun _ _ _ _ _ _ _ q=>lt_int q
theorem Jn:nB X (compareOp .LtE) (GR fun i j=>.bl (decide (i<=j))):=GS fun _ _ _ _ _ _ _ q=>le_int q
theorem fo:nB X (compareOp .Gt) (GR fun i j=>.bl (decide (j<i))):=GS fun _ _ _ _ _ _ _ q=>gt_int q
theorem Dr:nB X (compareOp .GtE) (GR fun i j=>.bl (decide (j<=i))):=GS fun _ _ _ _ _ _ _ q=>ge_int q
theorem xG:nB X (compareOp .Is) (fun x y H Q=>y=.dU/\Q (.bl (decide (x=.dU))) H):=by
 intro pins s σ H x y v u Q I rx ry h;obtain⟨rfl,q⟩:=h;cases ry;refine is_none_gen (bI I q ?_);cases x<;>first
  |(cases rx;rfl)
  |(obtain⟨t,rfl⟩:=rx;rfl)
theorem lC:nB X (compareOp .IsNot) (fun x y H Q=>y=.dU/\Q (.bl (!decide (x=.dU))) H):=by
 intro pins s σ H x y v u Q I rx ry h;obtain⟨rfl,q⟩:=h;cases ry;refine isnot_none_gen (bI I q ?_);cases x<;>first
  |(cases rx;rfl)
  |(obtain⟨t,rfl⟩:=rx;rfl)
theorem aE(b:Expr){op:CmpOp}(h:op≠.In:=by decide)(h2:op≠.NotIn:=by decide):behindInMarks op b=false:=by
 have e1:(op==CmpOp.In)=false:=by cases op<;>first|rfl|exact absurd rfl h
 have e2:(op==CmpOp.NotIn)=false:=by cases op<;>first|rfl|exact absurd rfl h2
 cases b<;>simp[behindInMarks,e1,e2]
theorem gp{op:CmpOp}{r:R2}(ho:nB X (compareOp op) r)(ha:PE X a ta)(hb:PE X b tb)(hm:behindInMarks op b=false):PE X (.Compare a [op] [b] pos) (Ou r ta tb):=by
 intro pins s σ H Q I h;exact wpAny_Compare1 (KZ ha hb I h fun v u s2 x y H2 I2 rx ry q=>ho pins s2 σ H2 x y v u Q I2 rx ry q) hm
noncomputable def Jo(t:TE):TT:=fun σ H Q=>t σ H fun x H'=>∃k,x=.bl k/\Q k H'
theorem ay{op:CmpOp}{r:R2}(ho:nB X (compareOp op) r)(ha:PE X a ta)(hb:PE X b tb)(hm:behindInMarks op b=false):PT X (.Compare a [op] [b] pos) (Jo (Ou r ta tb)):=by
 intro pins s σ H Q I h;refine wpAny_isTrue_Compare1 (dr (ha pins s σ H _ I h) fun v s1⟨x,H1,I1,r1,q1⟩=>dr (hb pins s1 σ H1 _ I1 q1) fun u s2⟨y,H2,I2,r2,q2⟩=>
  dr (ho pins s2 σ H2 x y v u _ I2 r1 r2 q2) fun c s3⟨z,H3,I3,r3,k,e,q3⟩=>?_) hm;subst e;cases r3;exact wpAny_truthy_bool ⟨H3,I3,q3⟩
noncomputable def GU(K:PySem.W.Frag)(x:V)(H:Hp)(k:Bool):Prop:=
 match x with
 |.dU=>k=false
 |.bl b=>k=b
 |.int i=>k=(i !=0)
 |.str y=>y.length<=sizeLine/\k=((y.length:Int)!=0)
 |.zP y=>y.size<=sizeLine/\k=((y.size:Int)!=0)
 |.ref p=>(∃xs,aW K H p xs/\k=!xs.isEmpty)\/(∃xs,bL K H p xs/\k=!xs.isEmpty)\/∃iJ,H p=some (.dK iJ)/\k=!iJ.isEmpty
 |_=>False
theorem xH{κ:Type}{iJ:List (κ×V)}{vs:List (κ×Value)}(r:KV iJ vs):(!vs.isEmpty)=!iJ.isEmpty:=by
 cases r<;>rfl
theorem oN{xs:List V}{aX:List Value}(r:Vals xs aX):(!aX.toArray.isEmpty)=!xs.isEmpty:=by
 cases r<;>simp
theorem oO:(sizeLine:Nat)<2^63:=by rw[sizeLine_eq];decide
theorem K1:S0 X (fun x H Q=>∃k,GU X.K x H k/\Q k H):=by
 intro pins s σ H x v Q I rx h;obtain⟨k,e,q⟩:=h;have hl:=oO;have hs:sizeLine=16777216:=sizeLine_eq;cases x with
 |dU=>
  cases rx;have e':k=false:=e;subst e';exact truthy_none ⟨H,I,q⟩
 |bl b=>
  cases rx;have e':k=b:=e;subst e';exact wpAny_truthy_bool ⟨H,I,q⟩
 |int i=>
  obtain⟨t,rfl⟩:=rx;have e':k=(i !=0):=e;subst e';exact PySem.P.truthy_int ⟨H,I,q⟩
 |str y=>
  obtain⟨t,rfl⟩:=rx;obtain⟨hy,e'⟩:y.length<=sizeLine/\k=((y.length:Int)!=0):=e;subst e';exact PySem.P.truthy_str (by lia) ⟨H,I.tok _,q⟩
 |zP y=>
  obtain⟨t,rfl⟩:=rx;obtain⟨hy,e'⟩:y.size<=sizeLine/\k=((y.size:Int)!=0):=e;subst e';exact PySem.W.truthy_bytes (by lia) ⟨H,I.tok _,q⟩
 |ref p=>
  cases rx;have e':(∃xs,aW X.K H p xs/\k=!xs.isEmpty)\/(∃xs,bL X.K H p xs/\k=!xs.isEmpty)\/∃iJ,H p=some (.dK iJ)/\k=!iJ.isEmpty:=e;rcases e' with⟨xs,hx,e'⟩|⟨xs,hx,e'⟩|⟨iJ,hx,e'⟩
  ·subst e';obtain⟨aX,r,pl,hz⟩:=I.list hx;have hlen:=r.length;exact wpAny_truthy_list pl.isList (by simp only[List.size_toArray];lia) ⟨H,I.tok _,by rw[oN r];exact q⟩
  ·subst e';obtain⟨aX,r,pl,hz⟩:=I.tuple hx;have hlen:=r.length;exact truthy_tuple pl (by simp only[List.size_toArray];lia) ⟨H,I.tok _,by rw[oN r];exact q⟩
  ·subst e';obtain⟨hz,hS,vs,r,m⟩:iJ.length<=sizeLine/\(p==sysModules)=false/\∃vs,KV iJ vs/\s.heap.DictOf (sE X.prog X.w) p vs:=I.bT p _ hx;have hlen:iJ.length=vs.length:=Paired.length r;exact wpAny_truthy_dict hS m (by lia) ⟨H,I.tok _,by rw[xH r];exact q⟩
 |_=>exact(show False from e).elim
theorem fQ(ha:PE X a ta)(he:∀whole,isTrue a X.env whole=(do let v<-whole;standAt a.pos;holding [v] (truthy v))):
 PT X a (fun σ H Q=>ta σ H fun x H'=>∃k,GU X.K x H' k/\Q k H'):=by
 intro pins s σ H Q I h;exact isTrue_plain (dr (ha pins s σ H _ I h) fun v s1⟨x,H1,I1,r1,q1⟩=>K1 pins s1 σ H1 x v Q I1 r1 q1) (he _)
theorem vals1{x:V}{us:List Value}(r:Vals [x] us):∃u,us=[u]/\RelV x u:=by
 cases r with
 |cons r1 r2=>cases r2;exact⟨_,rfl,r1⟩
theorem vals2{x y:V}{us:List Value}(r:Vals [x,y] us):∃u w',us=[u,w']/\RelV x u/\RelV y w':=by
 cases r with
 |cons r1 r2=>
  cases r2 with
  |cons r3 r4=>cases r4;exact⟨_,_,rfl,r1,r3⟩
theorem dw:jf X (.builtin "abs") (fun xs H Q=>∃i,xs=[.int i]/\Q (.int (if i<0 then -i else i)) H):=by
 intro pins s σ H xs us Q I r h;obtain⟨i,rfl,q⟩:=h;obtain⟨u,rfl,t,rfl⟩:=vals1 r;exact call_abs_int fun u tk=>⟨.int (if i<0 then -i else i),H,I.tok _,⟨_,rfl⟩,q⟩
theorem BF(hc:X.calm=true):jf X (.builtin "max") (fun xs H Q=>∃i j,xs=[.int i,.int j]/\Q (.int (if j>i then j else i)) H):=by
 intro pins s σ H xs us Q I r h;obtain⟨i,j,rfl,q⟩:=h;obtain⟨u,w',rfl,⟨t,rfl⟩,⟨t',rfl⟩⟩:=vals2 r;refine max_two_ints (I.ok.hd hc) fun h' tk k=>⟨_,H,I.kept k,?_,q⟩;by_cases hj:j>i
 ·rw[if_pos hj,if_pos hj];exact⟨_,rfl⟩
 ·rw[if_neg hj,if_neg hj];exact⟨_,rfl⟩
theorem mJ(hc:X.calm=true):jf X (.builtin "min") (fun xs H Q=>∃i j,xs=[.int i,.int j]/\Q (.int (if j<i then j else i)) H):=by
 intro pins s σ H xs us Q I r h;obtain⟨i,j,rfl,q⟩:=h;obtain⟨u,w',rfl,⟨t,rfl⟩,⟨t',rfl⟩⟩:=vals2 r;refine min_two_ints (I.ok.hd hc) fun h' tk k=>⟨_,H,I.kept k,?_,q⟩;by_cases hj:j<i
 ·rw[if_pos hj,if_pos hj];exact⟨_,rfl⟩
 ·rw[if_neg hj,if_neg hj];exact⟨_,rfl⟩
theorem fu:jf X (.type "int") (fun xs H Q=>(∃i,xs=[.int i]/\Q (.int i) H)\/∃k,xs=[.bl k]/\Q (.int (if k then 1 else 0)) H):=by
 intro pins s σ H xs us Q I r h;rcases h with⟨i,rfl,q⟩|⟨k,rfl,q⟩
 ·obtain⟨u,rfl,t,rfl⟩:=vals1 r;exact call_int_int ⟨.int i,H,I,⟨_,rfl⟩,q⟩
 ·obtain⟨u,rfl,r1⟩:=vals1 r;cases r1;exact call_int_bool ⟨.int (if k then 1 else 0),H,I.tok _,⟨_,rfl⟩,q⟩
end
end L2
namespace L2
open PySem PySem.Spec PyProof.Rows
structure BG(h:Heap)(x dx C:Addr)(mA:Str->Option Value):Prop where
 obj:h.get? x=some (PySem.W.instObj C dx)
 ns:h.Ns1 dx mA
 ne:dx≠x
theorem BH{h:Heap}{dx:Addr}{mA:Str->Option Value}(n:h.Ns1 dx mA):∃od,h.get? dx=some od/\∀name,PySem.W.lookIn name od=some (mA name):=by
 obtain⟨o,es,ep,ho,hd,hk,_,hm⟩:=n;refine⟨o,ho,fun name=>?_⟩;have e:=hm name;unfold nsFind findBy at e;rw[<-Array.find?_toList] at e;unfold PySem.W.lookIn;rw[hd]
 dsimp only
 split
 ·rename_i y q;rw[q] at e;exact congrArg some e
 ·rename_i q;rw[q] at e;have a:es.toList.any (·.refKey)=false:=by
   rw[List.any_eq_false];intro y hy;obtain⟨z,t,S2⟩:=hk y (Array.mem_toList_iff.mp hy);simp[DictEntry.refKey,S2]
  have a':¬es.toList.any (·.refKey)=true:=by rw[a];exact Bool.false_ne_true
  rw[if_neg a'];exact congrArg some e
theorem BG.look{h:Heap}{x dx C:Addr}{mA:Str->Option Value}(I:BG h x dx C mA):∃od,PySem.W.InstAt h x (PySem.W.instObj C dx) C (some od)/\∀name,PySem.W.lookIn name od=some (mA name):=
 let⟨od,ho,hl⟩:=BH I.ns
 ⟨od,⟨I.obj,rfl,rfl,ho⟩,hl⟩
section
variable {prog:Program} {w:World} {A:Around} {E:Value->Shared->Prop} {s:Shared} {K:PySem.W.Frag} {x dx C f:Addr} {mA:Str->Option Value} {name:Str} {v:Value}
theorem get_map{expr:Bool}{Q:Value->Shared->Prop}(X:K.In s.heap)(I:BG s.heap x dx C mA)(hg:PySem.W.plainGet K C name=true)(hh:PySem.W.hasDictIn K C=true)(ha:PySem.W.findIn K (.ref C) name=some none)(hv:mA name=some v)(jg:PySem.W.handedIn v=true)(h:Q v {s with toks:=s.toks+1}):
 wpAny (model prog w) A (getAttr (.ref x) name expr) Q E s:=by
 obtain⟨od,J,hl⟩:=I.look;exact PySem.W.get_value X J (PySem.W.plainGet_of hg).1 (PySem.W.findObj_own hh ha rfl (by rw[hl,hv])) jg h
theorem GV{ns:List Str}{Q:Unit->Shared->Prop}(X:K.In s.heap)(I:BG s.heap x dx C mA)(hs:PySem.W.findIn K (.ref C) "__setattr__"=some (some (.builtin "object.__setattr__")))(hp:PySem.W.plainOver K C=true)(ht:PySem.W.takerIn K C name=some none)(hh:PySem.W.hasDictIn K C=true)(hw:PySem.Within mA ns)(lr:ns.length<=sizeLine)(h:∀h',BG h' x dx C (fun y=>if y=name then some v else mA y)->Heap.SameBut dx s.heap h'->Q () {s with heap:=h',toks:=s.toks+2}):
 wpAny (model prog w) A (setAttr (.ref x) name v) Q E s:=by
 obtain⟨od,J,hl⟩:=I.look;refine PySem.W.set_plain X J hs (PySem.W.osa_open (s:={s with toks:=s.toks+1}) (r:=none) X J hp ht fun b=>?_);obtain⟨cd,hc,Dg⟩:=PySem.W.any_some hh;have hx:s.heap.get? x=some ⟨.ref C,some dx,.plain,#[]⟩:=I.obj;refine wpAny_bind (wpAny_pure (wpAny_bind (wpAny_bind (wpAny_loadPart hx (wpAny_bind (PySem.W.Looks.here (s:={s with toks:=s.toks+1}) (PySem.W.looks_clsIn X hc) ?_))))));rw[Dg];refine wpAny_pure (a:=some dx) (wpAny_bind (wpAny_pure (wpAny_bind ?_)));refine wpAny_nsSet1 (s:={s with toks:=s.toks+1}) I.ns fun h' K2 Ds=>?_;obtain⟨oD,esD,epD,Yy,Yz,GW⟩:=K2.count (PySem.Within.cons name v hw);refine wpAny_bind (wpAny_lookBehind Yy (by rw[Yz];exact pastItsLine_dict (Nat.le_trans GW (by rw[List.length_cons];lia))) ?_);exact wpAny_pure (h _ ⟨(Ds.2 _ (Ne.symm I.ne)).trans I.obj,K2,I.ne⟩ Ds)
theorem Dt{R:Result->Shared->Prop}{vs:List Value}{kw:List (Str×Value)}(X:K.In s.heap)(hm:PySem.W.makesIn K C=true)(hi:PySem.W.findIn K (.ref C) "__init__"=some (some (.ref f)))(hf:PySem.W.typeIn K (.ref f)=some (.type "function"))(h:codeAny (model prog w) (A.under (.builtin "type.__call__" ⟨.ref C::vs,kw⟩)) (.call (.ref f) ⟨.ref (s.heap.objs.size+1)::vs,kw⟩) (PySem.W.InitBack (s.heap.objs.size+1) R)
 {s with heap:=(s.heap.push PySem.W.emptyDict).push (PySem.W.instObj C s.heap.objs.size)}):
 codeAny (model prog w) A (.call (.ref C) ⟨vs,kw⟩) R s:=by
 obtain⟨hh,g,d,t,os⟩:=s;exact PySem.W.make_core (PySem.W.makes_of X hm) (PySem.W.looks_findIn X hi) (fun self=>PySem.W.bind_fn X self hf) (.inl rfl) h
end
noncomputable def ki(f:Str)(v:V):List (Str×V)->List (Str×V)
 |[]=>[(f,v)]
 |(g,x)::r=>if g=f then(g,v)::r else(g,x)::ki f v r
theorem nC(f g:Str)(v:V):∀fs:List (Str×V),(ki f v fs).lookup g=if g=f then some v else fs.lookup g
 |[]=>by
  show List.lookup g [(f,v)]=_;by_cases h:g=f
  ·have hb:(g==f)=true:=beq_iff_eq.mpr h;simp only[List.lookup,hb,if_pos h]
  ·have hb:(g==f)=false:=beq_eq_false_iff_ne.mpr h;simp only[List.lookup,hb,if_neg h]
 |(k,x)::r=>by
  have ih:=nC f g v r;rw[show ki f v ((k,x)::r)=(if k=f then(k,v)::r else(k,x)::ki f v r) from rfl];by_cases hk:k=f
  ·rw[if_pos hk];by_cases h:g=k
   ·have hb:(g==k)=true:=beq_iff_eq.mpr h;simp only[List.lookup,hb,if_pos (h.trans hk)]
   ·have hb:(g==k)=false:=beq_eq_false_iff_ne.mpr h;simp only[List.lookup,hb,if_neg (fun e:g=f=>h (e.trans hk.symm))]
  ·rw[if_neg hk];by_cases h:g=k
   ·have hb:(g==k)=true:=beq_iff_eq.mpr h;simp only[List.lookup,hb,if_neg (fun e:g=f=>hk (h.symm.trans e))]
   ·have hb:(g==k)=false:=beq_eq_false_iff_ne.mpr h;simp only[List.lookup,hb];exact ih
theorem mK(f:Str)(v:V):∀fs:List (Str×V),f∈(ki f v fs).map (·.1)/\∀g,g∈fs.map (·.1)->g∈(ki f v fs).map (·.1)
 |[]=>⟨by simp[ki],fun g h=>by simp at h⟩
 |(k,x)::r=>by
  obtain⟨i1,i2⟩:=mK f v r;rw[show ki f v ((k,x)::r)=(if k=f then(k,v)::r else(k,x)::ki f v r) from rfl];by_cases hk:k=f
  ·rw[if_pos hk];subst hk;exact⟨by simp,fun g h=>by simpa using h⟩
  ·rw[if_neg hk];refine⟨?_,fun g h=>?_⟩
   ·rw[List.map_cons];exact List.mem_cons_of_mem _ i1
   ·rw[List.map_cons] at h ⊢;rcases List.mem_cons.mp h with e|e
    ·exact List.mem_cons.mpr (.inl e)
    ·exact List.mem_cons_of_mem _ (i2 g e)
theorem fR(f:Str)(v:V):∀fs:List (Str×V),(ki f v fs).length<=fs.length+1
 |[]=>by simp[ki]
 |(k,x)::r=>by
  have ih:=fR f v r;rw[show ki f v ((k,x)::r)=(if k=f then(k,v)::r else(k,x)::ki f v r) from rfl];by_cases hk:k=f
  ·rw[if_pos hk,List.length_cons,List.length_cons];lia
  ·rw[if_neg hk,List.length_cons,List.length_cons];lia
theorem xx.some_of{v:V}{o:Option Value}(r:xx (some v) o):∃u,o=some u/\RelV v u:=by
 cases o with
 |none=>exact(show False from r).elim
 |some u=>exact⟨u,rfl,r⟩
theorem BI{v:V}{u:Value}(r:RelV v u):PySem.W.handedIn u=true:=by
 cases v with
 |dU=>cases (show u=Value.none from r);rfl
 |bl b=>cases (show u=Value.bool b from r);rfl
 |int i=>obtain⟨t,e⟩:=(show ∃t,u=Value.int i t from r);cases e;rfl
 |str x=>obtain⟨t,e⟩:=(show ∃t,u=Value.str x t from r);cases e;rfl
 |zP b=>obtain⟨t,e⟩:=(show ∃t,u=Value.bytes b t from r);cases e;rfl
 |KQ b=>obtain⟨t,e⟩:=(show ∃t,u=Value.float b t from r);cases e;rfl
 |ref a=>cases (show u=Value.ref a from r);rfl
 |ty n=>cases (show u=Value.type n from r);rfl
section
variable {P:Program} {w:World} {H H':Hp} {h h':Heap} {a C dx:Addr} {fs Yu:List (Str×V)}
theorem sJ(bT:jY P w H h)(e:H a=some (.ins C dx fs)):∃mA,BG h a dx C mA/\(∀f,xx (fs.lookup f) (mA f))/\PySem.Within mA (fs.map (·.1))/\fs.length<=1000/\H dx=some (.own a):=by
 obtain⟨d,z,ne,ob,mA,n,r,q⟩:=(show cX P w H h a (.ins C dx fs) from bT a _ e);exact⟨mA,⟨ob,n,ne⟩,r,q,z,d⟩
end
structure GX(K:PySem.W.Frag)(C:Addr):Prop where
 pg:PySem.W.plainGet K C Str.empty=true
 hd:PySem.W.hasDictIn K C=true
 po:PySem.W.plainOver K C=true
 sa:PySem.W.findIn K (.ref C) "__setattr__"=some (some (.builtin "object.__setattr__"))
theorem GX.get{K:PySem.W.Frag}{C:Addr}(c:GX K C)(f:Str):PySem.W.plainGet K C f=true:=c.pg
noncomputable def iP(K:PySem.W.Frag)(C:Addr)(f:Str):Prop:=PySem.W.findIn K (.ref C) f=some none
theorem iP.Ox{K:PySem.W.Frag}{C:Addr}{f:Str}(n:iP K C f):PySem.W.takerIn K C f=some none:=by
 unfold PySem.W.takerIn;rw[show PySem.W.findIn K (.ref C) f=some none from n];rfl
structure Con(K:PySem.W.Frag)(C:Addr)(f:Str)(v:V)(u:Value):Prop where
 at_:PySem.W.findIn K (.ref C) f=some (some u)
 rel:RelV v u
 get:PySem.W.specialIn K u "__get__"=some none
 cp:PySem.W.copiedNames.contains f=false
structure Meth(K:PySem.W.Frag)(C:Addr)(m:Str)(f:Addr):Prop where
 at_:PySem.W.findIn K (.ref C) m=some (some (.ref f))
 fn:PySem.W.isFn K (.ref f)=true
 kp:PySem.W.keepIn K (.ref f)=true
section
variable {X:Cx} {pins:List (Addr×Obj)} {σ:St} {H:Hp} {s:Shared} {a C dx:Addr} {fs:List (Str×V)} {f:Str} {v:V} {A:Around} {E:Value->Shared->Prop}
theorem xI{b:Bool}{Q:Value->Shared->Prop}(I:Inv X pins σ H s)(e:H a=some (.ins C dx fs))(c:GX X.K C)(n:iP X.K C f)(l:fs.lookup f=some v)(h:∀u s',Inv X pins σ H s'->RelV v u->Q u s'):wpAny (model X.prog X.w) A (getAttr (.ref a) f b) Q E s:=by
 obtain⟨mA,O,r,_,_,_⟩:=sJ I.bT e;obtain⟨u,hu,ru⟩:=xx.some_of (v:=v) (o:=mA f) (by rw[<-l];exact r f);exact get_map I.mH O (c.get f) c.hd n hu (BI ru) (h u _ (I.tok _) ru)
theorem xJ{y:V}{u:Value}{Q:Unit->Shared->Prop}(I:Inv X pins σ H s)(e:H a=some (.ins C dx fs))(c:GX X.K C)(n:iP X.K C f)(hl:fs.length<1000)(ry:RelV y u)(h:∀s',Inv X pins σ (upd H a (.ins C dx (ki f y fs))) s'->Q () s'):wpAny (model X.prog X.w) A (setAttr (.ref a) f u) Q E s:=by
 obtain⟨mA,O,r,wi,_,ho⟩:=sJ I.bT e;have hz:(fs.map (·.1)).length<=sizeLine:=by rw[List.length_map,sizeLine_eq];lia
 refine GV I.mH O c.sa c.po n.Ox c.hd wi hz fun h' O' sb=>h _ ?_;have hd:∃o,h'.get? dx=some o:=let⟨o,_,_,e',_⟩:=O'.ns;⟨o,e'⟩;refine I.write (x:=a) (e:=dx) (by rw[e];exact True.intro) (.inr ho) (fun b q hb z=>(sb.2 b hb).trans z) hd ?_;refine⟨by rw[aq O.ne];exact ho,?_,O.ne,O'.obj,_,O'.ns,fun g=>?_,fun g hg=>?_⟩
 ·have:=fR f y fs;lia
 ·show xx ((ki f y fs).lookup g) (if g=f then some u else mA g);rw[nC];by_cases q:g=f
  ·rw[if_pos q,if_pos q];exact ry
  ·rw[if_neg q,if_neg q];exact r g
 ·by_cases q:g=f
  ·rw[q];exact(mK f y fs).1
  ·refine(mK f y fs).2 g (wi g fun z=>hg ?_);show(if g=f then some u else mA g)=none;rw[if_neg q];exact z
theorem Inv.made(I:Inv X pins σ H s):Inv X pins σ (upd (upd H s.heap.objs.size (.own (s.heap.objs.size+1))) (s.heap.objs.size+1) (.ins C s.heap.objs.size []))
 {s with heap:=(s.heap.push PySem.W.emptyDict).push (PySem.W.instObj C s.heap.objs.size)}:=by
 have e1:(s.heap.push PySem.W.emptyDict).get? s.heap.objs.size=some PySem.W.emptyDict:=Heap.get?_push_size s.heap rfl;have e2:((s.heap.push PySem.W.emptyDict).push (PySem.W.instObj C s.heap.objs.size)).get? (s.heap.objs.size+1)=some (PySem.W.instObj C s.heap.objs.size):=by
  have:=Heap.get?_push_size (s.heap.push PySem.W.emptyDict) (o:=PySem.W.instObj C s.heap.objs.size) rfl
  rwa [Heap.size_push] at this
 have e3:(s.heap.push PySem.W.emptyDict).Ns s.heap.objs.size (fun _=>none):=⟨PySem.W.emptyDict,#[],_,e1,rfl,(fun e he=>absurd he (by simp)),fun _=>rfl⟩;have I1:=I.laid (a:=s.heap.objs.size) (o:=.own (s.heap.objs.size+1)) (h':=s.heap.push PySem.W.emptyDict) (t':=s.toks) (fun b u q=>Heap.get?_push_of_some _ q) (Nat.le_refl _) ⟨_,e1⟩;refine I1.laid (a:=s.heap.objs.size+1) (o:=.ins C s.heap.objs.size []) (t':=s.toks) (fun b u q=>Heap.get?_push_of_some _ q) (Nat.le_of_eq (Heap.size_push _ _)) ?_;have ne:s.heap.objs.size≠s.heap.objs.size+1:=Nat.ne_of_lt (Nat.lt_succ_self _);refine⟨by rw[aq ne,ai],Nat.zero_le _,ne,e2,fun _=>none,(Heap.Ns1.of_empty e3).at fun o q=>Heap.get?_push_of_some _ q,fun _=>True.intro,fun y hy=>absurd rfl hy⟩
theorem GY{prog:Program}{w:World}{env:Env}{e:Expr}{f:Str}{pos:Pos}{s:Shared}{Q:Value->Shared->Prop}(hb:attributeBase e f env (eval e env)=eval e env)(h:wpAny (model prog w) A (eval e env) (fun o bW=>wpAny (model prog w) A (getAttr o f true) Q E bW) E s):wpAny (model prog w) A (eval (.Attribute e f pos) env) Q E s:=
 Attribute_any_ h (by rw[arm_eval_Attribute,hb])
end
noncomputable def Oy(K:PySem.W.Frag)(ta:TE)(f:Str):TE:=fun σ H Q=>ta σ H fun x H1=>∃a C dx fs v,x=.ref a/\H1 a=some (.ins C dx fs)/\GX K C/\iP K C f/\fs.lookup f=some v/\Q v H1
noncomputable def S3(K:PySem.W.Frag)(ta tv:TE)(f:Str):TS:=fun D σ H=>tv σ H fun y H1=>ta σ H1 fun x H2=>∃a C dx fs,x=.ref a/\H2 a=some (.ins C dx fs)/\GX K C/\iP K C f/\fs.length<1000/\
 D.nx σ (upd H2 a (.ins C dx (ki f y fs)))
section
variable {X:Cx} {o e value:Expr} {f:Str} {pos pos' YA:Pos} {ta tv:TE}
theorem cx(he:PE X e ta)(hb:attributeBase e f X.env (eval e X.env)=eval e X.env):PE X (.Attribute e f pos) (Oy X.K ta f):=by
 intro pins s σ H Q I h;refine GY hb (dr (he pins s σ H _ I h) fun u s1⟨x,H1,I1,rx,a,C,dx,fs,v,ex,ea,c,n,l,q⟩=>?_);subst ex;obtain rfl:u=Value.ref a:=rx;exact xI I1 ea c n l fun u' s2 I2 ru=>⟨v,H1,I2,ru,q⟩
theorem xK(ha:PE X o ta)(hv:PE X value tv)(hs:swapsWith value (some (.Attribute o f pos')) pos.line X.env=pure false):PS X (.Assign [.Attribute o f pos'] value pos) (S3 X.K ta tv f):=by
 intro pins s σ H D I h;refine plainObj_wpAny_Assign_Attribute (dr (hv pins s σ H _ I h) fun u s1⟨y,H1,I1,ry,q⟩=>dr (ha pins s1 σ H1 _ I1 q) fun ov s2⟨x,H2,I2,rx,a,C,dx,fs,ex,ea,c,n,l,q2⟩=>?_) hs;subst ex;obtain rfl:ov=Value.ref a:=rx;exact xJ I2 ea c n l ry fun s3 I3=>⟨σ,_,I3,q2⟩
end
section
variable {X:Cx} {pins:List (Addr×Obj)} {σ:St} {H:Hp} {s:Shared} {A:Around} {E:Value->Shared->Prop} {Q:Value->Shared->Prop} {c:Value} {b:Bool}
inductive mL(K:PySem.W.Frag)(H:Hp):V->Value->Prop where
 |dU:mL K H .dU (.type "NoneType")
 |bl (x:Bool):mL K H (.bl x) (.type "bool")
 |int (i:Int):mL K H (.int i) (.type "int")
 |str (x:Str):mL K H (.str x) (.type "str")
 |KQ (x:UInt64):mL K H (.KQ x) (.type "float")
 |lst {a:Addr} {xs:List V} (e:H a=some (.lst xs)):mL K H (.ref a) (.type "list")
 |nA {a:Addr} {o:Obj} {xs:List V} (e:H a=some (.nA o (.lst xs))):mL K H (.ref a) (.type "list")
 |tup {a:Addr} {xs:List V} (e:H a=some (.tup xs)):mL K H (.ref a) (.type "tuple")
 |dK {a:Addr} {iJ:List (Key×V)} (e:H a=some (.dK iJ)):mL K H (.ref a) (.type "dict")
 |dT {a:Addr} {iJ:List (List Key×V)} (e:H a=some (.dT iJ)):mL K H (.ref a) (.type "dict")
 |ins {a C dx:Addr} {fs:List (Str×V)} (e:H a=some (.ins C dx fs)) (cl:GX K C) (ha:PySem.W.findIn K (.ref C) "__class__"=some (some (.builtin "object.__class__")))
  (hn:PySem.W.specialIn K (.builtin "object.__class__") "__get__"=some (some (.builtin "getset_descriptor.__get__"))) (Rv:PySem.W.takesIn K (.builtin "object.__class__")=some true)
  (hm:PySem.W.mroIn K C (.type "object")=some true):mL K H (.ref a) (.ref C)
theorem BJ{x:V}{u t:Value}(I:Inv X pins σ H s)(rx:RelV x u)(ty:mL X.K H x t)(e:PySem.W.kitOne X.K t c=some b)(h:∀tk,Q (.bool b) {s with toks:=tk}):
 wpAny (model X.prog X.w) A (call (.builtin "isinstance") [u,c]) Q E s:=by
 cases ty with
 |dU=>cases (show u=Value.none from rx);exact PySem.W.kia_one PySem.W.kitx_none I.mH True.intro e (fun z=>nomatch z) h
 |bl y=>cases (show u=Value.bool y from rx);exact PySem.W.kia_one PySem.W.kitx_bool I.mH True.intro e (fun z=>nomatch z) h
 |int i=>obtain⟨t,q⟩:=(show ∃t,u=Value.int i t from rx);cases q;exact PySem.W.kia_one PySem.W.kitx_int I.mH True.intro e (fun z=>nomatch z) h
 |str y=>obtain⟨t,q⟩:=(show ∃t,u=Value.str y t from rx);cases q;exact PySem.W.kia_one PySem.W.kitx_str I.mH True.intro e (fun z=>nomatch z) h
 |KQ y=>obtain⟨t,q⟩:=(show ∃t,u=Value.float y t from rx);cases q;exact PySem.W.kia_one PySem.W.kitx_float I.mH True.intro e (fun z=>nomatch z) h
 |@lst a xs ea=>
  cases (show u=Value.ref a from rx);obtain⟨_,_,n,_,h1⟩:=(show cX X.prog X.w H s.heap a (.lst xs) from I.bT a _ ea);exact PySem.W.kia_one PySem.W.kitx_list I.mH ⟨_,h1,rfl⟩ e (fun z=>nomatch z) h
 |@nA a ob xs ea=>
  cases (show u=Value.ref a from rx);obtain⟨_,_,_,n,_,h1⟩:=(show cX X.prog X.w H s.heap a (.nA ob (.lst xs)) from I.bT a _ ea);exact PySem.W.kia_one PySem.W.kitx_list I.mH ⟨_,h1,rfl⟩ e (fun z=>nomatch z) h
 |@tup a xs ea=>
  cases (show u=Value.ref a from rx);obtain⟨_,_,_,p⟩:=(show cX X.prog X.w H s.heap a (.tup xs) from I.bT a _ ea);obtain⟨o,h1,h2,_⟩:=p;exact PySem.W.kia_one PySem.W.kitx_tuple I.mH ⟨o,h1,h2⟩ e (fun z=>nomatch z) h
 |@dK a iJ ea=>
  cases (show u=Value.ref a from rx);obtain⟨_,_,vs,_,p⟩:=(show cX X.prog X.w H s.heap a (.dK iJ) from I.bT a _ ea);obtain⟨o,es,ep,h1,h2,_⟩:=p;exact PySem.W.kia_one PySem.W.kitx_dict I.mH ⟨o,h1,h2.1⟩ e (fun z=>nomatch z) h
 |@dT a iJ ea=>
  cases (show u=Value.ref a from rx);obtain⟨_,_,xs,_,o,es,ep,h1,h2,_⟩:=(show cX X.prog X.w H s.heap a (.dT iJ) from I.bT a _ ea);exact PySem.W.kia_one PySem.W.kitx_dict I.mH ⟨o,h1,h2.1⟩ e (fun z=>nomatch z) h
 |@ins a C dx fs ea cl ha hn Rv hm=>
  cases (show u=Value.ref a from rx);obtain⟨mA,O,_⟩:=sJ I.bT ea;obtain⟨od,J,_⟩:=O.look;exact PySem.W.kia_one (PySem.W.kitx_own (cl.get _) cl.hd ha hn Rv hm) I.mH J e (fun z=>nomatch z) h
end
end L2
namespace L2
open PySem PySem.Spec PyProof.Rows
structure fj(k:Nat)(A:Around):Prop where
 hd:A.handled=none
 dp:A.depth+3*k+5<recursionLimit
 un:A.units+16*k+200<cLine
theorem fj.mono{j k:Nat}{A:Around}(r:fj k A)(h:j<=k):fj j A:=⟨r.hd,by have:=r.dp;lia,by have:=r.un;lia⟩
theorem fj.deeper{k:Nat}{A:Around}(r:fj (k+1) A)(env:Env):fj k (A.deeper env):=
 ⟨r.hd,by have:=r.dp;show A.depth+1+3*k+5<_;lia,by have:=r.un;show A.units+3+16*k+200<_;lia⟩
theorem xM{A:Around}{C:Addr}{us:List Value}{kw:List (Str×Value)}:(A.under (.builtin "type.__call__" ⟨.ref C::us,kw⟩)).depth=A.depth+1:=by
 first|rfl|simp[Around.under,Code.weight,Code.isCreation,Code.isGuard,Code.isCaller,Code.frames,Code.isFrame,guardIds]
theorem xO{A:Around}{C:Addr}{us:List Value}{kw:List (Str×Value)}:(A.under (.builtin "type.__call__" ⟨.ref C::us,kw⟩)).units=A.units+1:=by
 first|rfl|simp[Around.under,Code.cUnits,Code.frames,Code.isFrame]
theorem fj.make{k:Nat}{A:Around}(r:fj (k+1) A)(C:Addr)(us:List Value)(kw:List (Str×Value)):fj k (A.under (.builtin "type.__call__" ⟨.ref C::us,kw⟩)):=
 ⟨r.hd,by have:=r.dp;rw[xM];lia,by have:=r.un;rw[xO];lia⟩
theorem fj.depth{k:Nat}{A:Around}(r:fj k A):A.depth<recursionLimit:=by have:=r.dp;lia
theorem fj.sL{k:Nat}{A:Around}(r:fj k A):A.units<cLine:=by have:=r.un;lia
noncomputable def Oz:TA:=fun _ H Q=>Q [] H
noncomputable def Jp(ta:TE)(tr:TA):TA:=fun σ H Q=>ta σ H fun x H1=>tr σ H1 fun xs H2=>Q (x::xs) H2
section
variable {X:Cx} {e:Expr} {es:List Expr} {te:TE} {t:TA} {pos:Pos}
theorem ag:PA X [] Oz:=fun _ _ _ _ H Q I h=>Calls.spliced_nil ⟨[],H,I,.nil,h⟩
theorem aa(ha:PE X e te)(hr:PA X es t)(hs:starEach (e::es) X.env=(false,eval e X.env)::starEach es X.env:=by rfl):PA X (e::es) (Jp te t):=by
 intro pos pins s σ H Q I h;rw[hs];show wpAny _ _ (spliced ((false,eval e X.env)::backTo pos (starEach es X.env))) _ _ s;refine Calls.spliced_cons (dr (ha pins s σ H _ I h) fun u s1⟨x,H1,I1,r1,q1⟩=>?_);exact dr (hr pos pins s1 σ H1 _ I1 q1) fun us s2⟨xs,H2,I2,r2,q2⟩=>⟨x::xs,H2,I2,.cons r1 r2,q2⟩
noncomputable def OA(t:TA):TE:=fun σ H Q=>t σ H fun xs H1=>xs.length<=sizeLine/\∀p,H1 p=none->Q (.ref p) (upd H1 p (.tup xs))
noncomputable def OB(t:TA):TE:=fun σ H Q=>t σ H fun xs H1=>xs.length<=sizeLine/\∀p,H1 p=none->Q (.ref p) (upd H1 p (.lst xs))
theorem cy{x1}(h:PA X es t):PE X (.Tuple es x1 pos) (OA t):=by
 intro pins s σ H Q I hq;refine wpAny_Tuple_spliced (dr (h pos pins s σ H _ I hq) fun us s1⟨xs,H1,I1,r,z,q⟩=>⟨by rw[<-r.length];exact z,?_⟩);have hf:H1 s1.heap.objs.size=none:=I1.bT.fresh (Nat.le_refl _);refine⟨.ref s1.heap.objs.size,upd H1 s1.heap.objs.size (.tup xs),I1.laid (t':=s1.toks) (fun b u e=>Heap.get?_push_of_some _ e) (Nat.le_refl _) ?_,rfl,q _ hf⟩;exact⟨z,us,r,⟨_,Heap.get?_push_size _ rfl,rfl,_,rfl⟩⟩
theorem cQ(h:PA X es t):PE X (.List es pos) (OB t):=by
 intro pins s σ H Q I hq;refine wpAny_List_spliced (dr (h pos pins s σ H _ I hq) fun us s1⟨xs,H1,I1,r,z,q⟩=>⟨by rw[<-r.length];exact z,?_⟩);have hf:H1 s1.heap.objs.size=none:=I1.bT.fresh (Nat.le_refl _);refine⟨.ref s1.heap.objs.size,upd H1 s1.heap.objs.size (.lst xs),I1.laid (t':=s1.toks) (fun b u e=>Heap.get?_push_of_some _ e) (Nat.le_refl _) ?_,rfl,q _ hf⟩;exact⟨z,us,0,r,Heap.get?_push_size _ rfl⟩
end
noncomputable abbrev Sp:=List V->Hp->VK->XK->Prop
noncomputable abbrev oP:=List Env->Hp->Shared->XK->Value->Shared->Prop
structure oQ(P:Program)(w:World)(K:PySem.W.Frag)(mg:Str->Option Value)(base:Heap)(A:Around)(outer:List Env)(s:Shared)(H:Hp):Prop where
 frames:A.frames=some outer
 mod:Mod K mg base
 bs:∀b o,base.get? b=some o->s.heap.get? b=some o/\H b=none
 zR:base.objs.size<=s.heap.objs.size
 jk:s.heap.FunFrames base outer
 C5:∀b∈uN outer,H b=none
 bT:jY P w H s.heap
 bare:AllBare s.gens
noncomputable def CE(outer:List Env)(P:Program)(w:World)(H:Hp)(s:Shared)(Q:VK)(u:Value)(s':Shared):Prop:=
 ∃v H',s'.os=s.os/\AllBare s'.gens/\Un (uN outer) [] H H' s.heap s'.heap/\jY P w H' s'.heap/\RelV v u/\Q v H'
noncomputable def CR(CX:oP)(outer:List Env)(P:Program)(w:World)(H:Hp)(s:Shared)(Q:VK)(E:XK)(r:Result)(s':Shared):Prop:=
 match r with
 |.ok (.ret u)=>CE outer P w H s Q u s'
 |.ok _=>False
 |.error e=>CX outer H s E e s'
structure kj(P:Program)(w:World)(K:PySem.W.Frag)(mg:Str->Option Value)(base:Heap)(CX:oP)(k:Nat)(f:Addr)(fd:FuncData)(ps:List Str)(sp:Sp):Prop where
 len:∀vs H Q E,sp vs H Q E->vs.length=ps.length
 run:∀(A:Around)(outer:List Env)(s:Shared)(H:Hp)(args:Args)(us:List Value)(vs:List V)(Q:VK)(E:XK),fj k A->oQ P w K mg base A outer s H->BindsTo s fd args (ps.zip us)->Vals vs us->sp vs H Q E->
  codeAny (model P w) A (.call (.ref f) args) (CR CX outer P w H s Q E) s
theorem kj.mono{P:Program}{w:World}{K:PySem.W.Frag}{mg:Str->Option Value}{base:Heap}{CX:oP}{j k:Nat}{f:Addr}{fd:FuncData}{ps:List Str}{sp:Sp}(F:kj P w K mg base CX j f fd ps sp)(h:j<=k):
 kj P w K mg base CX k f fd ps sp:=⟨F.len,fun A outer s H args us vs Q E hr=>F.run A outer s H args us vs Q E (hr.mono h)⟩
theorem kj.imp{P:Program}{w:World}{K:PySem.W.Frag}{mg:Str->Option Value}{base:Heap}{CX:oP}{k:Nat}{f:Addr}{fd:FuncData}{ps:List Str}{sp OC:Sp}(F:kj P w K mg base CX k f fd ps sp)(h:∀vs H Q E,OC vs H Q E->sp vs H Q E):kj P w K mg base CX k f fd ps OC:=
 ⟨fun vs H Q E q=>F.len vs H Q E (h _ _ _ _ q),fun A outer s H args us vs Q E hr he hb hv hs=>F.run A outer s H args us vs Q E hr he hb hv (h _ _ _ _ hs)⟩
theorem oQ.make{P:Program}{w:World}{K:PySem.W.Frag}{mg:Str->Option Value}{base:Heap}{A:Around}{outer:List Env}{s:Shared}{H:Hp}(e:oQ P w K mg base A outer s H)(C:Addr)(us:List Value)(kw:List (Str×Value)):
 oQ P w K mg base (A.under (.builtin "type.__call__" ⟨.ref C::us,kw⟩)) outer s H:=⟨by first|exact e.frames|(simpa[Around.under,Code.envs,Code.isFrame,pushEnvs] using e.frames),e.mod,e.bs,e.zR,e.jk,e.C5,e.bT,e.bare⟩
section
variable {X:Cx} {pins:List (Addr×Obj)} {σ:St} {H:Hp} {s s':Shared}
theorem Inv.GZ(I:Inv X pins σ H s):oQ X.prog X.w X.K X.mg X.base X.A X.stack s H:=
 ⟨I.ok.frames,I.ok.mod,I.bs,Nat.le_trans I.ok.zR I.sz,I.stack,I.sG,I.bT,I.bare⟩
theorem Inv.after{Q:VK}{u:Value}(I:Inv X pins σ H s)(h:CE X.stack X.prog X.w H s Q u s'):EP X pins σ Q u s':=by
 obtain⟨v,H',os,bare,un,bT,r,q⟩:=h;obtain⟨hh,g,d,t,YB⟩:=s';obtain rfl:YB=s.os:=os;exact⟨v,H',I.call (h':=hh) (g':=g) (d':=d) (t':=t) (ch:=[]) un bT bare (fun b z=>absurd z (by simp)),r,q⟩
end
noncomputable def zY(sp:Sp)(dvs:List V)(E:XK)(t:TA):TE:=fun σ H Q=>t σ H fun vs H1=>sp (vs++dvs) H1 Q E
noncomputable def Jq(C:Addr)(sp:Sp)(dvs:List V)(E:XK)(t:TA):TE:=fun σ H Q=>t σ H fun vs H1=>∀x dx,H1 x=none->H1 dx=none->dx≠x->
 sp (.ref x::(vs++dvs)) (upd (upd H1 dx (.own x)) x (.ins C dx [])) (fun v H2=>v=.dU/\Q (.ref x) H2) E
noncomputable def Binds(K:PySem.W.Frag)(fd:FuncData)(ps:List Str)(ds:List Value):Prop:=
 ∀(s:Shared)(us:List Value),K.In s.heap->(us++ds).length=ps.length->BindsTo s fd ⟨us,[]⟩ (ps.zip (us++ds))
theorem Binds.all{K:PySem.W.Frag}{fd:FuncData}{ps:List Str}(h:∀us:List Value,us.length=ps.length->bindArgs fd ⟨us,[]⟩=pure (ps.zip us)):Binds K fd ps []:=fun s us _ hl=>by
 rw[List.append_nil] at hl ⊢;exact .of_eq (h us hl)
noncomputable def Passes(CX:oP)(X:Cx)(E:XK):Prop:=∀(pins:List (Addr×Obj))(σ:St)(H:Hp)(s:Shared)(e:Value)(s':Shared),Inv X pins σ H s->CX X.stack H s E e s'->X.xe e s'
section
variable {X:Cx} {CX:oP} {k:Nat} {f C:Addr} {fd:FuncData} {ps:List Str} {sp:Sp} {dvs:List V} {ds:List Value} {E:XK} {x m:Str} {p pos apos:Pos} {e o:Expr} {es:List Expr} {ta:TE} {t:TA}
theorem K8{pins:List (Addr×Obj)}{σ:St}{H:Hp}{s:Shared}{Q:VK}{us:List Value}{vs:List V}(F:kj X.prog X.w X.K X.mg X.base CX k f fd ps sp)(hr:fj k X.A)(hb:Binds X.K fd ps ds)(hd:Vals dvs ds)(hx:Passes CX X E)(I:Inv X pins σ H s)(r:Vals vs us)(h:sp (vs++dvs) H Q E):wpAny (model X.prog X.w) X.A (call (.ref f) us) (EP X pins σ Q) X.xe s:=by
 have r2:Vals (vs++dvs) (us++ds):=r.append hd;have hl:(us++ds).length=ps.length:=by rw[<-r2.length];exact F.len _ _ _ _ h
 refine wpAny_call (codeAny_mono (F.run X.A X.stack s H ⟨us,[]⟩ (us++ds) (vs++dvs) Q E hr I.GZ (hb s us I.mH hl) r2 h) fun r s' hq=>?_);cases r with
 |error e=>exact hx pins σ H s e s' I hq
 |ok fl=>
  cases fl with
  |ret u=>exact I.after hq
  |next=>exact False.elim hq
  |brk=>exact False.elim hq
  |cont=>exact False.elim hq
theorem G0(F:kj X.prog X.w X.K X.mg X.base CX k f fd ps sp)(hr:fj k X.A)(hg:Gl X x)(hm:X.mg x=some (.ref f))(hk:PySem.W.keepIn X.K (.ref f)=true)(hb:Binds X.K fd ps ds)(hd:Vals dvs ds)(hx:Passes CX X E)(ha:PA X (e::es) t)(uY:(x==("__debug__":Str))=false:=by decide)(he:starEach (e::es) X.env=(false,eval e X.env)::starEach es X.env:=by rfl)(mG:(backTo pos (starEach es X.env)).any (·.1)=false:=by rfl):
 PE X (.Call (.Name x p) (e::es) [] pos) (zY sp dvs E t):=by
 intro pins s σ H Q I h;refine wpAny_Call_Name_kw (iL I hg hm ?_ uY);refine PySem.W.callWith_K (h₀:=X.base) I.ok.mod.Jc hk (dr (ha pos pins s σ H _ I h) fun us s1⟨vs,H1,I1,r,q⟩=>⟨I1.mH,?_⟩) he mG;exact K8 F hr hb hd hx I1 r q
structure Mk(K:PySem.W.Frag)(C f:Addr):Prop where
 makes:PySem.W.makesIn K C=true
 init:PySem.W.findIn K (.ref C) "__init__"=some (some (.ref f))
 fn:PySem.W.isFn K (.ref f)=true
 kp:PySem.W.keepIn K (.ref C)=true
theorem Du{pins:List (Addr×Obj)}{σ:St}{H:Hp}{s:Shared}{Q:VK}{us:List Value}{vs:List V}(M:Mk X.K C f)(F:kj X.prog X.w X.K X.mg X.base CX k f fd ps sp)(hr:fj (k+1) X.A)(hb:Binds X.K fd ps ds)(hd:Vals dvs ds)(hx:Passes CX X E)(I:Inv X pins σ H s)(r:Vals vs us)(h:∀x dx,H x=none->H dx=none->dx≠x->sp (.ref x::(vs++dvs)) (upd (upd H dx (.own x)) x (.ins C dx [])) (fun v H2=>v=.dU/\Q (.ref x) H2) E):
 wpAny (model X.prog X.w) X.A (call (.ref C) us) (EP X pins σ Q) X.xe s:=by
 have hq:=h (s.heap.objs.size+1) s.heap.objs.size (I.bT.fresh (Nat.le_succ _)) (I.bT.fresh (Nat.le_refl _)) (Nat.ne_of_lt (Nat.lt_succ_self _));have I2:=Inv.made (C:=C) I;have r2:Vals (V.ref (s.heap.objs.size+1)::(vs++dvs)) (Value.ref (s.heap.objs.size+1)::(us++ds)):=.cons rfl (r.append hd);have hl:(Value.ref (s.heap.objs.size+1)::us++ds).length=ps.length:=by
  have e:=r2.length;rw[F.len _ _ _ _ hq] at e;exact e.symm
 refine wpAny_call (Dt (f:=f) I.mH M.makes M.init (beq_iff_eq.mp M.fn) (codeAny_mono (F.run _ X.stack _ _ ⟨Value.ref (s.heap.objs.size+1)::us,[]⟩ (Value.ref (s.heap.objs.size+1)::(us++ds)) _ _ E (hr.make C us [])
  (I2.GZ.make C us []) (hb _ (Value.ref (s.heap.objs.size+1)::us) I2.mH hl) r2 hq) fun r s' OD=>?_));cases r with
 |error e=>exact hx pins σ _ _ e s' I2 OD
 |ok fl=>
  cases fl with
  |ret u=>
   obtain⟨v,H',I3,rv,ev,q3⟩:=I2.after OD;subst ev;exact⟨rv,⟨V.ref (s.heap.objs.size+1),H',I3,rfl,q3⟩⟩
  |next=>exact False.elim OD
  |brk=>exact False.elim OD
  |cont=>exact False.elim OD
theorem zZ(M:Mk X.K C f)(F:kj X.prog X.w X.K X.mg X.base CX k f fd ps sp)(hr:fj (k+1) X.A)(hg:Gl X x)(hm:X.mg x=some (.ref C))(hb:Binds X.K fd ps ds)(hd:Vals dvs ds)(hx:Passes CX X E)(ha:PA X (e::es) t)(uY:(x==("__debug__":Str))=false:=by decide)(he:starEach (e::es) X.env=(false,eval e X.env)::starEach es X.env:=by rfl)(mG:(backTo pos (starEach es X.env)).any (·.1)=false:=by rfl):
 PE X (.Call (.Name x p) (e::es) [] pos) (Jq C sp dvs E t):=by
 intro pins s σ H Q I h;refine wpAny_Call_Name_kw (iL I hg hm ?_ uY);refine PySem.W.callWith_K (h₀:=X.base) I.ok.mod.Jc M.kp (dr (ha pos pins s σ H _ I h) fun us s1⟨vs,H1,I1,r,q⟩=>⟨I1.mH,?_⟩) he mG;exact Du M F hr hb hd hx I1 r q
end
section
variable {X:Cx} {CX:oP} {k:Nat} {f C:Addr} {fd:FuncData} {ps ks:List Str} {sp:Sp} {E:XK} {x m:Str} {p pos apos YC:Pos} {e o:Expr} {es:List Expr} {kws:List Keyword} {te ta:TE} {t tk:TA} {nm:Option Str}
structure S4(K:PySem.W.Frag)(fd:FuncData)(ps ks:List Str)(g:List Value->List Value->List Value)(gV:List V->List V->List V):Prop where
 to:∀(s:Shared)(us ws:List Value),K.In s.heap->(g us ws).length=ps.length->BindsTo s fd ⟨us,ks.zip ws⟩ (ps.zip (g us ws))
 rel:∀{vs:List V}{us:List Value}{zs:List V}{ws:List Value},Vals vs us->Vals zs ws->Vals (gV vs zs) (g us ws)
variable {g:List Value->List Value->List Value} {gV:List V->List V->List V}
end
structure aB(N P:List Str)(sc:Scope):Prop where
 kind:sc.kind=.function
 co:sc.isCoroutine=false
 gen:sc.isGenerator=false
 nd:N.Nodup
 pre:N.take P.length=P
 par:∀x∈P,sc.names.lookup x=some .local\/sc.names.lookup x=some .cell
 K9:∀y∈sc.names,y.2≠.free
theorem rn{kindOf:Str->Option NameKind}{x:Str}:∀{binds:List (Str×Value)}{m:Str->Option Value},(∀v,(x,v)∉binds)->bindL kindOf binds m x=m x
 |[],_,_=>rfl
 |(n,v)::r,m,h=>by
  unfold bindL;rw[rn fun w hw=>h w (List.mem_cons_of_mem _ hw)];split
  ·have:x≠n:=by rintro rfl;exact h v List.mem_cons_self
   simp[this]
  ·rfl
theorem rq{kindOf:Str->Option NameKind}{x:Str}:∀{binds:List (Str×Value)}{m:Str->Option Value},(∀v,(x,v)∉binds)->bindC kindOf binds m x=m x
 |[],_,_=>rfl
 |(n,v)::r,m,h=>by
  unfold bindC;rw[rq fun w hw=>h w (List.mem_cons_of_mem _ hw)];split
  ·rfl
  ·have:x≠n:=by rintro rfl;exact h v List.mem_cons_self
   simp[this]
theorem rz{kindOf:Str->Option NameKind}{x:Str}{v:Value}:∀{P:List Str}{vs:List Value}{i:Nat}{m:Str->Option Value},P.Nodup->P[i]?=some x->vs[i]?=some v->kindOf x=some .local->
 bindL kindOf (P.zip vs) m x=some v
 |[],_,_,_,_,h,_,_=>by simp at h
 |_::_,[],_,_,_,_,h,_=>by simp at h
 |p::P,w::vs,0,m,nd,h1,h2,hk=>by
  simp at h1 h2;subst h1;subst h2;show bindL kindOf ((p,w)::P.zip vs) m p=_;unfold bindL;rw[rn fun v hv=>(List.nodup_cons.mp nd).1 (List.of_mem_zip hv).1,if_pos hk];simp
 |p::P,w::vs,i+1,m,nd,h1,h2,hk=>by
  show bindL kindOf ((p,w)::P.zip vs) m x=_;unfold bindL;exact rz (i:=i) (List.nodup_cons.mp nd).2 (by simpa using h1) (by simpa using h2) hk
theorem rA{kindOf:Str->Option NameKind}{x:Str}{v:Value}:∀{P:List Str}{vs:List Value}{i:Nat}{m:Str->Option Value},P.Nodup->P[i]?=some x->vs[i]?=some v->kindOf x≠some .local->
 bindC kindOf (P.zip vs) m x=some v
 |[],_,_,_,_,h,_,_=>by simp at h
 |_::_,[],_,_,_,_,h,_=>by simp at h
 |p::P,w::vs,0,m,nd,h1,h2,hk=>by
  simp at h1 h2;subst h1;subst h2;show bindC kindOf ((p,w)::P.zip vs) m p=_;unfold bindC;rw[rq fun v hv=>(List.nodup_cons.mp nd).1 (List.of_mem_zip hv).1,if_neg hk];simp
 |p::P,w::vs,i+1,m,nd,h1,h2,hk=>by
  show bindC kindOf ((p,w)::P.zip vs) m x=_;unfold bindC;exact rA (i:=i) (List.nodup_cons.mp nd).2 (by simpa using h1) (by simpa using h2) hk
noncomputable def start(N:List Str)(vs:List V):St:=vs.map some++List.replicate (N.length-vs.length) none
noncomputable def qL(CX:oP)(P:Program)(w:World)(K:PySem.W.Frag)(mg:Str->Option Value)(base:Heap)(N:List Str)(qual:Str)(scope:Scope)(f:Addr)(cd:Value)(A:Around)(outer:List Env)(s:Shared)(H:Hp)(E:XK):Cx where
 prog:=P
 w:=w
 K:=K
 mg:=mg
 base:=base
 A:=A.deeper (envOfC qual scope s.heap.objs.size f cd)
 N:=N
 fY:=s
 BA:=H
 env:=envOfC qual scope s.heap.objs.size f cd
 outer:=outer
 stack:=envOfC qual scope s.heap.objs.size f cd::outer
 ex:=[]
 calm:=true
 fn:=fun _=>true
 pn:=[]
 xe:=fun e s'=>wpAny (model P w) (A.deeper (envOfC qual scope s.heap.objs.size f cd)) (leaving (envOfC qual scope s.heap.objs.size f cd) e) (fun _ K_=>CX outer H s E e K_) (fun e' K_=>CX outer H s E e' K_) s'
theorem uZ{sc:Scope}{n:Nat}{x:Str}(h:sc.names.lookup x=some .cell):∃c,(cellsFrom n sc.names []).lookup x=some c:=by
 have q:=PySem.W.cellsFrom_some sc.names n [] (.inl h);exact Option.isSome_iff_exists.mp q
theorem rB{CX:oP}{P:Program}{w:World}{K:PySem.W.Frag}{mg:Str->Option Value}{base:Heap}{N ps:List Str}{qual:Str}{scope:Scope}{f:Addr}{cd:Value}{A:Around}{outer:List Env}{s s1:Shared}{H:Hp}{E:XK}{us:List Value}{vs:List V}(S:aB N ps scope)(hd:A.handled=none)(e0:oQ P w K mg base A outer s H)(hl:vs.length=ps.length)(r:Vals vs us)(x:InCallC s s.heap.objs.size (bindL (envOfC qual scope s.heap.objs.size f cd).kindOf (ps.zip us) fun _=>none) (cellsFrom (s.heap.objs.size+1) scope.names []) (bindC (envOfC qual scope s.heap.objs.size f cd).kindOf (ps.zip us) fun _=>none) s1):
 Inv (qL CX P w K mg base N qual scope f cd A outer s H E) [] (start N vs) H s1:=by
 have mG:ps.length<=N.length:=by have:=congrArg List.length S.pre;rw[List.length_take] at this;lia
 obtain⟨h1,tk,rfl,hk⟩:=x.done;have Dw:∀b:Addr,b∉(qL CX P w K mg base N qual scope f cd A outer s H E).ex:=fun b z=>absurd (show b∈([]:List Addr) from z) (by simp);refine⟨⟨e0.mod,S.kind,rfl,rfl,Nat.le_refl _,fun y z c h1 h2=>?_,fun y hy=>?_,fun y c _ h=>?_,fun _=>hd,Around.frames_deeper e0.frames,.inr ⟨rfl,rfl⟩,fun b z=>absurd z (Dw b),e0.bs,e0.zR,fun b _ _=>Dw b,fun b z=>absurd z (Dw b),e0.jk,e0.C5⟩,
  rfl,e0.bare,Un.kept hk,⟨_,x.toInCall.ns,fun i y v h1 h2 h3=>?_⟩,fun y c h=>⟨_,x.cell y c h⟩,e0.bT.fresh (Nat.le_refl _),fun y c h=>?_,fun p hp=>absurd (show p∈([]:List (Addr×Obj)) from hp) (by simp),e0.bT.kept hk,?_⟩
 ·exact name_of_addr x.apart (PySem.mem_of_lookup h1) (PySem.mem_of_lookup h2)
 ·have hy:scope.names.lookup y=some .cell\/scope.names.lookup y=some .free:=hy;rcases hy with hy|hy
  ·exact uZ hy
  ·exact absurd rfl (S.K9 _ (PySem.mem_of_lookup hy))
 ·exact Nat.le_of_lt (x.above y c (PySem.mem_of_lookup h))
 ·have hi:i<vs.length:=by
   unfold start at h2;by_cases hi:i<vs.length
   ·exact hi
   ·rw[List.getElem?_append_right (by simpa using hi)] at h2;rw[List.getElem?_replicate] at h2;split at h2<;>cases h2
  have ha:vs[i]?=some v:=by
   unfold start at h2;rw[List.getElem?_append_left (by simpa using hi),List.getElem?_map] at h2;cases e:vs[i]? with
   |none=>rw[e] at h2;cases h2
   |some a=>rw[e] at h2;cases h2;rfl
  obtain⟨u,hu,rv⟩:=r.get ha;have hp:ps[i]?=some y:=by
   rw[<-S.pre,List.getElem?_take_of_lt (by lia)];exact h1
  have Wv:ps.Nodup:=by rw[<-S.pre];exact S.nd.sublist (List.take_sublist _ _)
  refine⟨u,rv,?_⟩;rcases S.par y (List.mem_of_getElem? hp) with k|k
  ·exact .inl ⟨k,rz Wv hp hu k⟩
  ·obtain⟨c,e⟩:=uZ (n:=s.heap.objs.size+1) k;refine .inr ⟨.inl k,c,e,?_⟩;have q:=x.cell y c e;rw[rA Wv hp hu (by show scope.names.lookup y≠_;rw[k];decide)] at q;exact q
 ·exact e0.bT.fresh (Nat.le_of_lt (x.above y c (PySem.mem_of_lookup h)))
 ·unfold start;show _=N.length;rw[List.length_append,List.length_map,List.length_replicate];lia
theorem Jr{CX:oP}{P:Program}{w:World}{K:PySem.W.Frag}{mg:Str->Option Value}{base:Heap}{k:Nat}{f:Addr}{name qual:Str}{params:Arguments}{body:List Stmt}{scope:Scope}{dV kV doc pm bM ct oc:Value}{an od:Option Addr}{xP:Array (Option Value)}{N ps:List Str}{sp:Sp}(lk:K.lookup f=some ⟨oc,od,.func (PySem.W.fnOf name qual params body scope dV kV doc pm an bM ct),xP⟩)(ko:PySem.W.codeIn K bM qual=true)(S:aB N ps scope)(len:∀vs H Q E,sp vs H Q E->vs.length=ps.length)(js:∀(A:Around)(outer:List Env)(s:Shared)(H:Hp)(vs:List V)(Q:VK)(E:XK),fj k (A.deeper (envOfC qual scope s.heap.objs.size f bM))->sp vs H Q E->
 ∃t,qJ (qL CX P w K mg base N qual scope f bM A outer s H E) body t/\t {nx:=fun _ H'=>Q .dU H',rt:=Q} (start N vs) H):
 kj P w K mg base CX (k+1) f (PySem.W.fnOf name qual params body scope dV kV doc pm an bM ct) ps sp:=by
 refine⟨len,fun A outer s H args us vs Q E hr e0 hb r u5=>?_⟩;have hl:=len _ _ _ _ u5;have KX:K.In s.heap:=e0.mod.Jc.keeps fun b o e=>(e0.bs b o e).1;have lim:s.heap.NoLimit:=e0.mod.nolimit.keeps fun b o e=>(e0.bs b o e).1;have OE:∀y∈ps.zip us,scope.names.lookup y.1=some .local\/(scope.names.lookup y.1=some .cell/\((cellsFrom (s.heap.objs.size+1) scope.names []).lookup y.1).isSome=true):=fun⟨n,v⟩ hy=>by
  rcases S.par n (List.of_mem_zip hy).1 with q|q
  ·exact .inl q
  ·exact .inr ⟨q,PySem.W.cellsFrom_some _ _ _ (.inl q)⟩
 refine codeAny_call_function hr.depth (KX _ _ lk) rfl S.co S.gen rfl (PySem.W.codeRec_of KX ko) (hb _ _ _ _ ?_);refine wpAny_newFunctionEnv_cells S.kind OE fun env he s1 x=>?_;subst he;refine⟨lim.keeps x.toInCall.keep,codeAny_func ?_⟩;obtain⟨t,ht,hq⟩:=js A outer s H vs Q E (hr.deeper _) u5;have I:Inv (qL CX P w K mg base N qual scope f bM A outer s H E) [] (start N vs) H s1:=rB S hr.hd e0 hl r x;refine wpAny_mono (ht [] s1 (start N vs) H _ I hq) (fun fl s' hs=>?_) fun e s' hs=>hs;have fin:∀{bJ:St}{H':Hp}{v:V}{u:Value},Inv (qL CX P w K mg base N qual scope f bM A outer s H E) [] bJ H' s'->RelV v u->Q v H'->CE outer P w H s Q u s':=
  fun{bJ H' v u} J rv q=>⟨v,H',J.os,J.bare,J.base,J.bT,rv,q⟩
 cases fl with
 |ret u=>
  obtain⟨v,bJ,H',J,rv,q⟩:=hs;exact fin J rv q
 |next=>
  obtain⟨bJ,H',J,q⟩:=hs;exact fin (v:=V.dU) (u:=Value.none) J rfl q
 |brk=>
  obtain⟨_,_,_,q⟩:=hs;exact False.elim q
 |cont=>
  obtain⟨_,_,_,q⟩:=hs;exact False.elim q
end L2
namespace L2
open PySem PySem.Spec PyProof.Rows
section
variable {X:Cx} {x:Str} {p pos:Pos} {e:Expr} {es:List Expr} {t:TA} {id T:String} {r:List V->Hp->VK->Prop}
noncomputable def S5(r:List V->Hp->VK->Prop)(t:TA):TE:=fun σ H Q=>t σ H fun vs H1=>r vs H1 Q
theorem aI(hc:jf X (.builtin id) r)(hg:Gl X x)(hm:X.mg x=none)(hv:bootBuiltins x=some (.builtin id))(ha:PA X (e::es) t)(hn:x≠"__name__":=by decide)(uY:(x==("__debug__":Str))=false:=by decide)(he:starEach (e::es) X.env=(false,eval e X.env)::starEach es X.env:=by rfl)(mG:(backTo pos (starEach es X.env)).any (·.1)=false:=by rfl):PE X (.Call (.Name x p) (e::es) [] pos) (S5 r t):=by
 intro pins s σ H Q I h;refine wpAny_Call_Name_kw (iM I hg hm hv ?_ hn uY);exact PyProof.Rows.callWith_builtin1 (dr (ha pos pins s σ H _ I h) fun us s1⟨vs,H1,I1,r1,q1⟩=>hc pins s1 σ H1 vs us Q I1 r1 q1) he mG
theorem dW(hc:jf X (.type T) r)(hg:Gl X x)(hm:X.mg x=none)(hv:bootBuiltins x=some (.type T))(ha:PA X (e::es) t)(hn:x≠"__name__":=by decide)(uY:(x==("__debug__":Str))=false:=by decide)(he:starEach (e::es) X.env=(false,eval e X.env)::starEach es X.env:=by rfl)(mG:(backTo pos (starEach es X.env)).any (·.1)=false:=by rfl):PE X (.Call (.Name x p) (e::es) [] pos) (S5 r t):=by
 intro pins s σ H Q I h;refine wpAny_Call_Name_kw (iM I hg hm hv ?_ hn uY);exact PyProof.Rows.callWith_type1 (dr (ha pos pins s σ H _ I h) fun us s1⟨vs,H1,I1,r1,q1⟩=>hc pins s1 σ H1 vs us Q I1 r1 q1) he mG
end
end L2
namespace HT
open PySem PyProof.Rows
section
open PySem.SeqAt
open PySem.AutoSeq1 (wpAny_loadPart')
open PySem.MeetsSeq PySem.MeetsSeq2 PySem.MeetsSeq3
end
section
variable {prog:Program} {w:World} {A:Around} {E:Value->Shared->Prop} {s:Shared}
noncomputable def uP(n d:Nat):Option Int->Nat
 |none=>d
 |some v=>if v<0 then(v+(n:Int)).toNat else min v.toNat n
theorem oR(n d:Nat):uP n d none=d:=rfl
theorem z_(n d k:Nat):uP n d (some (k:Int))=min k n:=by
 show(if(k:Int)<0 then((k:Int)+(n:Int)).toNat else min (k:Int).toNat n)=min k n;rw[if_neg (by lia),Int.toNat_natCast]
end
end HT
namespace L2
open PySem PySem.Spec PyProof.Rows
noncomputable abbrev TO:=St->Hp->(Option Int->Hp->Prop)->Prop
noncomputable def PO(X:Cx)(e:Option Expr)(t:TO):Prop:=
 ∀(pins:List (Addr×Obj))(s:Shared)(σ:St)(H:Hp)(Q:Option Int->Hp->Prop),Inv X pins σ H s->t σ H Q->
  wpAny (model X.prog X.w) X.A (evalPart e X.env) (fun u s'=>∃o H',Inv X pins σ H' s'/\IsPart u o/\Q o H') X.xe s
noncomputable def Aa:TO:=fun _ H Q=>Q none H
noncomputable def Js(t:TE):TO:=fun σ H Q=>t σ H fun x H1=>∃i,x=.int i/\Q (some i) H1
theorem intsAre_of{ns:List Int}:∀{us:List Value},Vals (ns.map V.int) us->IntsAre us ns:=by
 induction ns with
 |nil=>intro us r;rw[List.map_nil] at r;cases r;exact .nil
 |cons n ns ih=>
  intro us r;rw[List.map_cons] at r;cases r with
  |cons r1 r2=>
   obtain⟨t,e⟩:=r1;subst e;exact .cons n t (ih r2)
section
variable {X:Cx} {e:Expr} {te:TE} {lo hi:Option Expr} {tl th:TO} {pos p2:Pos}
theorem om:PO X none Aa:=by
 intro pins s σ H Q I h;rw[evalPart_none];exact wpAny_pure ⟨none,H,I,.none,h⟩
theorem oo(h:PE X e te):PO X (some e) (Js te):=by
 intro pins s σ H Q I hw;rw[evalPart_some];refine dr (h pins s σ H _ I hw) fun u s1⟨x,H1,I1,r1,q1⟩=>?_;obtain⟨i,rfl,q⟩:=q1;obtain⟨t,rfl⟩:=r1;exact⟨some i,H1,I1,.int i t,q⟩
noncomputable def Ww(X:Cx)(r:V->Option Int->Option Int->Hp->VK->Prop):Prop:=
 ∀(pins:List (Addr×Obj))(s:Shared)(σ:St)(H:Hp)(x:V)(v vl vu:Value)(lo hi:Option Int)(sl:Addr)(Q:VK),Inv X pins σ H s->RelV x v->s.heap.IsSliceOf sl vl vu .none->IsPart vl lo->IsPart vu hi->r x lo hi H Q->
  ∃T id,typeLookup (.type T) "__getitem__"=pure (some (.builtin id))/\s.TypeIs v T/\wpAny (model X.prog X.w) X.A (getItem v (.ref sl)) (EP X pins σ Q) X.xe s
noncomputable def Wx(r:V->Option Int->Option Int->Hp->VK->Prop)(te:TE)(tl th:TO):TE:=fun σ H Q=>te σ H fun x H1=>tl σ H1 fun l H2=>th σ H2 fun u H3=>r x l u H3 Q
theorem lD{r:V->Option Int->Option Int->Hp->VK->Prop}(hr:Ww X r)(he:PE X e te)(hl:PO X lo tl)(hu:PO X hi th):PE X (.Subscript e (.Slice lo hi none p2) pos) (Wx r te tl th):=by
 intro pins s σ H Q I h;refine Subscript_ (dr (he pins s σ H _ I h) fun v s1⟨x,H1,I1,r1,q1⟩=>?_);refine wpAny_Slice (dr (hl pins s1 σ H1 _ I1 q1) fun vl s2⟨l,H2,I2,pl,q2⟩=>dr (hu pins s2 σ H2 _ I2 q2) fun vu s3⟨u,H3,I3,pu,q3⟩=>?_);rw[evalPart_none];refine wpAny_pure ?_;have I4:Inv X pins σ H3 {s3 with heap:=s3.heap.push {cls:=.type "slice",data:=.fields #[vl,vu,.none]}}:=I3.kept (t':=s3.toks) fun b ob q=>Heap.get?_push_of_some _ q;obtain⟨T,id,hT,ht,hg⟩:=hr pins {s3 with heap:=s3.heap.push {cls:=.type "slice",data:=.fields #[vl,vu,.none]}} σ H3 x v vl vu l u s3.heap.objs.size Q I4 r1 (Heap.IsSliceOf.new ..) pl pu q3;show wpAny (model X.prog X.w) X.A (subscriptTail e (.Slice lo hi none p2) v (.ref s3.heap.objs.size)) (EP X pins σ Q) X.xe {s3 with heap:=s3.heap.push {cls:=.type "slice",data:=.fields #[vl,vu,.none]}};exact tail_any (ops:=[.ref s3.heap.objs.size,v]) ht hT hg (by with_unfolding_all rfl)
noncomputable def ie(xs:List V)(lo hi:Option Int):List V:=(xs.drop (HT.uP xs.length 0 lo)).take (HT.uP xs.length xs.length hi-HT.uP xs.length 0 lo)
theorem u6(xs:List V)(lo hi:Option Int):(ie xs lo hi).length<=xs.length:=by
 unfold ie;rw[List.length_take,List.length_drop];lia
end
end L2
namespace L2
open PySem PySem.Spec PyProof.Rows
noncomputable def xQ(n:Nat)(i:Int):Option Nat:=if 0<=i then(if i<n then some i.toNat else none) else if -(n:Int)<=i then some (i+n).toNat else none
noncomputable def nD{α:Type}(xs:List α)(i:Int):Option α:=(xQ xs.length i).bind fun j=>xs[j]?
theorem Ac{n:Nat}{i:Int}{j:Nat}(h:xQ n i=some j):seqIndex? i n=some j/\j<n/\-(n:Int)<=i/\i<n:=by
 unfold xQ at h;by_cases h0:0<=i
 ·rw[if_pos h0] at h;by_cases h1:i<n
  ·rw[if_pos h1] at h;have e:i.toNat=j:=Option.some.inj h;exact⟨by rw[seqIndex_of h0 h1,e],by lia,by lia,h1⟩
  ·rw[if_neg h1] at h;cases h
 ·rw[if_neg h0] at h;by_cases h1:-(n:Int)<=i
  ·rw[if_pos h1] at h;have e:(i+n).toNat=j:=Option.some.inj h;exact⟨by rw[seqIndex_neg (by lia) h1,e],by lia,h1,by lia⟩
  ·rw[if_neg h1] at h;cases h
theorem Ae{α:Type}{xs:List α}{i:Int}{v:α}(h:nD xs i=some v):∃j,seqIndex? i xs.length=some j/\xs[j]?=some v/\j<xs.length/\-(xs.length:Int)<=i/\i<xs.length:=by
 unfold nD at h;cases e:xQ xs.length i with
 |none=>rw[e] at h;cases h
 |some j=>
  rw[e] at h;obtain⟨h1,h2,h3,h4⟩:=Ac e;exact⟨j,h1,h,h2,h3,h4⟩
theorem iQ{α:Type}{xs:List α}{j:Nat}{v:α}(h:xs[j]?=some v):nD xs (j:Int)=some v:=by
 have hj:j<xs.length:=(List.getElem?_eq_some_iff.mp h).1;have e:xQ xs.length (j:Int)=some j:=by
  unfold xQ;rw[if_pos (by lia),if_pos (by lia)];simp
 unfold nD;rw[e];exact h
noncomputable def G1(b:Expr):Prop:=∀o i,subscripted b false o i=operate [o,i] (getItem o i)
noncomputable def S6(X:Cx)(r:R2):Prop:=
 ∀(value slice:Expr)(pins:List (Addr×Obj))(s:Shared)(σ:St)(H:Hp)(x y:V)(v u:Value)(Q:VK),Inv X pins σ H s->RelV x v->RelV y u->r x y H Q->
  subscripted slice false v u=operate [v,u] (getItem v u)->wpAny (model X.prog X.w) X.A (subscriptTail value slice v u) (EP X pins σ Q) X.xe s
noncomputable def Wy(X:Cx)(id:String)(r:V->List V->Hp->VK->Prop):Prop:=
 ∀(pins:List (Addr×Obj))(s:Shared)(σ:St)(H:Hp)(x:V)(xs:List V)(v:Value)(us:List Value)(Q:VK),Inv X pins σ H s->RelV x v->Vals xs us->r x xs H Q->
  wpAny (model X.prog X.w) X.A (call (.builtin id) (v::us)) (EP X pins σ Q) X.xe s
section
variable {X:Cx} {a b:Expr} {ta tb:TE} {pos:Pos}
theorem aD{r:R2}(hr:S6 X r)(ha:PE X a ta)(hb:PE X b tb)(hs:G1 b):PE X (.Subscript a b pos) (Ou r ta tb):=by
 intro pins s σ H Q I h;exact Subscript_ (KZ ha hb I h fun v u s2 x y H2 I2 rx ry q=>hr a b pins s2 σ H2 x y v u Q I2 rx ry q (hs _ _))
noncomputable def OF(K:PySem.W.Frag):R2:=fun x y H Q=>∃p xs i v,x=.ref p/\y=.int i/\aW K H p xs/\nD xs i=some v/\Q v H
noncomputable def OG(K:PySem.W.Frag):R2:=fun x y H Q=>∃p xs i v,x=.ref p/\y=.int i/\bL K H p xs/\nD xs i=some v/\Q v H
theorem bE:S6 X (OF X.K):=by
 intro value slice pins s σ H x y v u Q I rx ry h hs;obtain⟨p,xs,i,z,rfl,rfl,hq,he,q⟩:=h;cases rx;obtain⟨t,rfl⟩:=ry;obtain⟨aX,r,pl,hz⟩:=I.list hq;obtain⟨j,h1,h2,h3,h4,h5⟩:=Ae he;obtain⟨w,ew,S7⟩:=r.get h2;have hl:=r.length;have hn:=oO;have fin:EP X pins σ Q w s:=⟨z,H,I,S7,q⟩;by_cases h0:0<=i
 ·have hj:i.toNat=j:=by
   rw[seqIndex_of h0 h5] at h1;exact Option.some.inj h1
  exact item_listR pl.isList h0 (by lia) (by rw[hj];simpa using ew) fin hs
 ·have hj:(i+(aX.toArray.size:Int)).toNat=j:=by
   rw[seqIndex_neg (by lia) h4] at h1;rw[List.size_toArray,<-hl];exact Option.some.inj h1
  exact subscriptTail_builtinR (x:=w) pl.isList.typeIs slot_list_getitem.lookup
   (wpAny_getItem_list_neg (Q:=fun r s'=>r=w/\EP X pins σ Q r s') pl.isList (by lia) (by rw[List.size_toArray]<;>lia) (by lia) (by rw[hj];simpa using ew) ⟨rfl,fin⟩) hs
theorem aA:S6 X (OG X.K):=by
 intro value slice pins s σ H x y v u Q I rx ry h hs;obtain⟨p,xs,i,z,rfl,rfl,hq,he,q⟩:=h;cases rx;obtain⟨t,rfl⟩:=ry;obtain⟨aX,r,pl,hz⟩:=I.tuple hq;obtain⟨j,h1,h2,h3,h4,h5⟩:=Ae he;obtain⟨w,ew,S7⟩:=r.get h2;have hl:=r.length;have hn:=oO;have fin:EP X pins σ Q w s:=⟨z,H,I,S7,q⟩;exact subscriptTail_builtinR (x:=w) pl.typeIs slot_tuple_getitem.lookup
  (getItem_tuple (j:=j) (Q:=fun r s'=>r=w/\EP X pins σ Q r s') pl (by lia) (by lia) (by rw[List.size_toArray,<-hl];exact h1) (by simpa using ew) ⟨rfl,fin⟩) hs
theorem xR(aX:List Value)(n j:Nat)(u:Value):Obj.mapSeq (·.setIfInBounds j u) {cls:=.type "list",data:=.seq aX.toArray n}={cls:=.type "list",data:=.seq (aX.set j u).toArray n}:=by
 simp[Obj.mapSeq]
theorem Inv.lst{pins:List (Addr×Obj)}{σ:St}{H:Hp}{s:Shared}{p:Addr}{xs:List V}(I:Inv X pins σ H s)(h:H p=some (.lst xs)):
 ∃(aX:List Value)(n:Nat),Vals xs aX/\s.heap.get? p=some {cls:=.type "list",data:=.seq aX.toArray n}/\xs.length<=sizeLine:=by
 obtain⟨z,aX,n,r,e⟩:=I.bT p _ h;exact⟨aX,n,r,e,z⟩
theorem Inv.K'{pins:List (Addr×Obj)}{σ:St}{H:Hp}{s:Shared}{p:Addr}{xs ys:List V}{aX its':List Value}{n n':Nat}{f:Obj->Obj}(I:Inv X pins σ H s)(h:H p=some (.lst xs))(ho:s.heap.get? p=some {cls:=.type "list",data:=.seq aX.toArray n})(hf:f {cls:=.type "list",data:=.seq aX.toArray n}={cls:=.type "list",data:=.seq its'.toArray n'})(r:Vals ys its')(hz:ys.length<=sizeLine)(t:Nat):
 Inv X pins σ (upd H p (.lst ys)) {s with heap:=s.heap.update p f,toks:=t}:=by
 have e:(s.heap.update p f).get? p=some {cls:=.type "list",data:=.seq its'.toArray n'}:=by
  rw[Heap.get?_update_self f ho (by rw[hf]<;>rfl),hf]
 refine I.write (x:=p) (e:=p) (by rw[h];trivial) (.inl rfl) (fun b u hb q=>(Heap.get?_update_other _ _ (Ne.symm hb)).trans q) ⟨_,e⟩ ?_;exact⟨hz,its',n',r,e⟩
noncomputable def OH:V->V->V->Hp->(Hp->Prop)->Prop:=fun o i v H Q=>∃p xs k j,o=.ref p/\i=.int k/\H p=some (.lst xs)/\xQ xs.length k=some j/\Q (upd H p (.lst (xs.set j v)))
theorem set_list:Oi X OH:=by
 intro pins s σ H o i v ov iv u Q I ro ri rv h;obtain⟨p,xs,k,j,rfl,rfl,hp,hj,q⟩:=h;cases ro;obtain⟨t,rfl⟩:=ri;obtain⟨aX,n,r,ho,hz⟩:=I.lst hp;obtain⟨h1,h2,h3,h4⟩:=Ac hj;have hl:=r.length;have hn:=oO;have I':Inv X pins σ (upd H p (.lst (xs.set j v))) {s with heap:=s.heap.update p (Obj.mapSeq (·.setIfInBounds j u))}:=
  I.K' hp ho (xR aX n j u) (r.set rv j) (by rw[List.length_set];exact hz) s.toks
 by_cases h0:0<=k
 ·have hk:k.toNat=j:=by
   rw[seqIndex_of h0 h4] at h1;exact Option.some.inj h1
  exact PySem.W.ki_setAt ho h0 (by lia) (by rw[List.size_toArray,<-hl];exact h4) (by rw[hk];exact⟨_,I',q⟩)
 ·have hk:(k+(aX.toArray.size:Int)).toNat=j:=by
   rw[seqIndex_neg (by lia) h3] at h1;rw[List.size_toArray,<-hl];exact Option.some.inj h1
  exact PySem.W.ki_setBack ho (by lia) (by rw[List.size_toArray,<-hl];exact h3) (by lia) (by rw[hk];exact⟨_,I',q⟩)
theorem sM(lo hi:Option Int)(n:Nat):(sliceBounds lo hi none n).1=((HT.uP n 0 lo:Nat):Int)/\(sliceBounds lo hi none n).2.1=((HT.uP n n hi:Nat):Int)/\(sliceBounds lo hi none n).2.2=1:=by
 refine⟨?_,?_,rfl⟩
 ·cases lo with
  |none=>simp[sliceBounds,HT.uP]
  |some i=>
   simp only[sliceBounds,HT.uP,Option.getD_none,show(1:Int)>0 by decide,if_true];by_cases h:i<0
   ·simp only[h,if_true]<;>lia
   ·simp only[h,if_false]<;>lia
 ·cases hi with
  |none=>simp[sliceBounds,HT.uP]
  |some i=>
   simp only[sliceBounds,HT.uP,Option.getD_none,show(1:Int)>0 by decide,if_true];by_cases h:i<0
   ·simp only[h,if_true]<;>lia
   ·simp only[h,if_false]<;>lia
theorem qM(aX:List Value)(lo hi:Option Int):slicePick aX.toArray lo hi none=((aX.drop (HT.uP aX.length 0 lo)).take (HT.uP aX.length aX.length hi-HT.uP aX.length 0 lo)).toArray:=by
 obtain⟨h1,h2,h3⟩:=sM lo hi aX.toArray.size;unfold slicePick;rw[h1,h2,h3];simp only[sliceRange_one,pick_run,List.size_toArray]<;>rfl
noncomputable def S8(K:PySem.W.Frag):V->Option Int->Option Int->Hp->VK->Prop:=fun x lo hi H Q=>∃a xs,x=.ref a/\aW K H a xs/\∀p,H p=none->Q (.ref p) (upd H p (.lst (ie xs lo hi)))
theorem oq:Ww X (S8 X.K):=by
 intro pins s σ H x v vl vu lo hi sl Q I rx hs pl pu h;obtain⟨a,xs,rfl,hx,q⟩:=h;cases rx;obtain⟨aX,r,ht,hz⟩:=I.list hx;have hlen:=r.length;refine⟨"list",_,slot_list_getitem.lookup,ht.isList.typeIs,?_⟩;refine wpAny_getItem_list_slice ht.isList hs pl pu .none (by simp) ?_ (by rw[List.size_toArray]<;>lia);rw[qM,<-hlen];refine⟨.ref s.heap.objs.size,_,I.laid (t':=s.toks) (o:=.lst (ie xs lo hi)) (fun b ob q=>Heap.get?_push_of_some _ q) (Nat.le_refl _) ?_,rfl,q _ (I.bT.fresh (Nat.le_refl _))⟩;exact⟨Nat.le_trans (u6 xs lo hi) hz,_,0,(r.drop (HT.uP xs.length 0 lo)).take (HT.uP xs.length xs.length hi-HT.uP xs.length 0 lo),Heap.get?_push_size _ rfl⟩
noncomputable def nE:V->Bool
 |.dU=>true
 |.bl _=>true
 |.int _=>true
 |.str _=>true
 |_=>false
noncomputable def Jt:V->V->Bool
 |.dU,.dU=>true
 |.bl a,.bl b=>a==b
 |.bl a,.int b=>(if a then 1 else 0)==b
 |.int a,.bl b=>a==(if b then 1 else 0)
 |.int a,.int b=>a==b
 |.str a,.str b=>a==b
 |_,_=>false
theorem La{A:Around}{s:Shared}{y x:V}{u v:Value}(ry:RelV y u)(rx:RelV x v)(fy:nE y=true)(fx:nE x=true):SeqAt.EqAt A s u v (Jt y x):=by
 cases y with
 |dU=>
  cases ry
  cases x with
  |dU=>cases rx;exact SeqAt.EqAt.same _
  |bl b=>cases rx;exact SeqAt.EqAt.none_bool b
  |int b=>obtain⟨t,rfl⟩:=rx;exact SeqAt.EqAt.none_int b t
  |str b=>obtain⟨t,rfl⟩:=rx;exact SeqAt.EqAt.none_str b t
  |_=>exact absurd (show false=true from fx) Bool.false_ne_true
 |bl a=>
  cases ry
  cases x with
  |dU=>cases rx;exact SeqAt.EqAt.bool_none a
  |bl b=>cases rx;exact SeqAt.EqAt.bool_bool a b
  |int b=>obtain⟨t,rfl⟩:=rx;exact SeqAt.EqAt.bool_int a b t
  |str b=>obtain⟨t,rfl⟩:=rx;exact SeqAt.EqAt.bool_str a b t
  |_=>exact absurd (show false=true from fx) Bool.false_ne_true
 |int a=>
  obtain⟨t',rfl⟩:=ry;cases x with
  |dU=>cases rx;exact SeqAt.EqAt.int_none a t'
  |bl b=>cases rx;exact SeqAt.EqAt.int_bool a t' b
  |int b=>obtain⟨t,rfl⟩:=rx;exact SeqAt.EqAt.int_int a t' b t
  |str b=>obtain⟨t,rfl⟩:=rx;exact SeqAt.EqAt.int_str a t' b t
  |_=>exact absurd (show false=true from fx) Bool.false_ne_true
 |str a=>
  obtain⟨t',rfl⟩:=ry;cases x with
  |dU=>cases rx;exact SeqAt.EqAt.str_none a t'
  |bl b=>cases rx;exact SeqAt.EqAt.str_bool a t' b
  |int b=>obtain⟨t,rfl⟩:=rx;exact SeqAt.EqAt.str_int a t' b t
  |str b=>obtain⟨t,rfl⟩:=rx;exact SeqAt.EqAt.str_str a t' b t
  |_=>exact absurd (show false=true from fx) Bool.false_ne_true
 |_=>exact absurd (show false=true from fy) Bool.false_ne_true
noncomputable def G2(x:V)(u:Value):Bool:=match u with
 |.none=>Jt .dU x
 |.bool b=>Jt (.bl b) x
 |.int i _=>Jt (.int i) x
 |.str z _=>Jt (.str z) x
 |_=>false
theorem Dx{x y:V}{u:Value}(r:RelV y u)(f:nE y=true):G2 x u=Jt y x:=by
 cases y with
 |dU=>cases r;rfl
 |bl b=>cases r;rfl
 |int i=>obtain⟨t,rfl⟩:=r;rfl
 |str z=>obtain⟨t,rfl⟩:=r;rfl
 |_=>exact absurd (show false=true from f) Bool.false_ne_true
theorem sN{x:V}:∀{xs:List V}{us:List Value},Vals xs us->xs.all nE=true->us.any (G2 x)=xs.any fun y=>Jt y x
 |_,_,.nil,_=>rfl
 |y::xs,u::us,.cons r t,f=>by
  rw[List.all_cons,Bool.and_eq_true] at f;rw[List.any_cons,List.any_cons,Dx r f.1,sN t f.2]
theorem oS{A:Around}{s:Shared}{x:V}{v:Value}(rx:RelV x v)(fx:nE x=true):∀{xs:List V}{us:List Value},Vals xs us->xs.all nE=true->∀u∈us,SeqAt.EqAt A s u v (G2 x u)
 |_,_,.nil,_=>fun u hu=>by cases hu
 |y::xs,u::us,.cons r t,f=>fun u' hu=>by
  rw[List.all_cons,Bool.and_eq_true] at f;rcases List.mem_cons.mp hu with rfl|hu
  ·rw[Dx r f.1];exact La r rx f.1 fx
  ·exact oS rx fx t f.2 u' hu
noncomputable def Nz(x:V)(xs:List V):Bool:=xs.any fun y=>Jt y x
noncomputable def YD(K:PySem.W.Frag)(neg:Bool):R2:=fun x y H Q=>∃p xs,y=.ref p/\(aW K H p xs\/bL K H p xs)/\nE x=true/\xs.all nE=true/\Q (.bl (if neg then !Nz x xs else Nz x xs)) H
theorem rC:nB X (compareOp .In) (YD X.K false):=by
 intro pins s σ H x y v u Q I rx ry h;obtain⟨p,xs,rfl,hq,fx,fs,q⟩:=h;cases ry
 rcases hq with hq|hq
 ·obtain⟨aX,r,pl,hz⟩:=I.list hq;refine SeqAt.in_listAt (G2 x) pl.isList (fun w hw=>oS rx fx r fs w (by simpa using hw)) ⟨.bl _,H,I,rfl,?_⟩;rw[show aX.toArray.any (G2 x)=aX.any (G2 x) by simp,sN r fs];exact q
 ·obtain⟨aX,r,pl,hz⟩:=I.tuple hq;refine SeqAt.in_tupleAt (G2 x) pl (fun w hw=>oS rx fx r fs w (by simpa using hw)) ⟨.bl _,H,I,rfl,?_⟩;rw[show aX.toArray.any (G2 x)=aX.any (G2 x) by simp,sN r fs];exact q
theorem aV:jf X (.builtin "len") (fun xs H Q=>∃p ys,xs=[.ref p]/\(aW X.K H p ys\/bL X.K H p ys)/\Q (.int ys.length) H):=by
 intro pins s σ H xs us Q I r h;obtain⟨p,ys,rfl,hq,q⟩:=h;obtain⟨u,rfl,rx⟩:=vals1 r;cases rx
 have hn:=oO;rcases hq with hq|hq
 ·obtain⟨aX,r',pl,hz⟩:=I.list hq;have hlen:=r'.length;exact Calls.call_len_list pl.isList (by simp only[List.size_toArray]<;>lia) ⟨.int ys.length,H,I.tok _,⟨s.toks+1,by rw[List.size_toArray,hlen]⟩,q⟩
 ·obtain⟨aX,r',pl,hz⟩:=I.tuple hq;have hlen:=r'.length;exact len_tuple pl (by simp only[List.size_toArray]<;>lia) ⟨.int ys.length,H,I.tok _,⟨s.toks+1,by rw[List.size_toArray,hlen]⟩,q⟩
theorem lE:jf X (.type "list") (fun xs H Q=>∃p ys,xs=[.ref p]/\(aW X.K H p ys\/bL X.K H p ys)/\∀l,H l=none->Q (.ref l) (upd H l (.lst ys))):=by
 intro pins s σ H xs us Q I r h;obtain⟨p,ys,rfl,hq,q⟩:=h;obtain⟨u,rfl,rx⟩:=vals1 r;cases rx;have fin:∀(aX:List Value),Vals ys aX->ys.length<=sizeLine->∀(h':Heap)(c':Nat),(∀b o',s.heap.get? b=some o'->h'.get? b=some o')->
  h'.get? s.heap.objs.size=some {cls:=.type "list",dict:=none,data:=.seq aX.toArray c',slots:=#[]}->EP X pins σ Q (.ref s.heap.objs.size) {s with heap:=h'}:=fun aX r' hz h' c' kp e=>
  ⟨.ref s.heap.objs.size,_,I.laid (t':=s.toks) kp (Nat.le_refl _) (show cX X.prog X.w _ h' _ (.lst ys) from⟨hz,aX,c',r',e⟩),rfl,q _ (I.bT.fresh (Nat.le_refl _))⟩
 rcases hq with hq|hq
 ·obtain⟨aX,r',pl,hz⟩:=I.list hq;have hlen:=r'.length;obtain⟨o,ho,hc,n,hd⟩:=pl.isList;exact call_list_seq p (.inl rfl) ho hc hd (fun h' c' kp e=>fin aX r' hz h' c' kp e) (by simp only[List.size_toArray]<;>lia)
 ·obtain⟨aX,r',pl,hz⟩:=I.tuple hq;have hlen:=r'.length;obtain⟨o,ho,hc,n,hd⟩:=pl;exact call_list_seq p (.inr rfl) ho hc hd (fun h' c' kp e=>fin aX r' hz h' c' kp e) (by simp only[List.size_toArray]<;>lia)
noncomputable def S9(K:PySem.W.Frag)(T:String)(x:V)(H:Hp):Prop:=match x with
 |.str _=>T="str"
 |.int _=>T="int"
 |.ref p=>(T="list"/\∃xs,aW K H p xs)\/(T="tuple"/\∃o,K.lookup p=some o/\o.cls=.type "tuple"/\o.dict=none)\/
  (T="dict"/\((∃iJ,H p=some (.dK iJ))\/∃iJ,H p=some (.dT iJ)))\/(T="set"/\∃S n,H p=some (.set S n))
 |_=>False
theorem Dy{pins:List (Addr×Obj)}{σ:St}{H:Hp}{s:Shared}{T:String}{x:V}{v:Value}(I:Inv X pins σ H s)(r:RelV x v)(ty:S9 X.K T x H):
 s.TypeIs v T/\∀a,v=.ref a->∃ob,s.heap.get? a=some ob/\ob.dict=none:=by
 cases x with
 |str z=>
  obtain⟨t,rfl⟩:=r;cases (show T="str" from ty);exact⟨typeIs_str s z t,fun _ e=>nomatch e⟩
 |int i=>
  obtain⟨t,rfl⟩:=r;cases (show T="int" from ty);exact⟨typeIs_int s i t,fun _ e=>nomatch e⟩
 |ref p=>
  cases r
  rcases ty with⟨rfl,xs,hq⟩|⟨rfl,o,hk,hc,hd⟩|⟨rfl,hk⟩|⟨rfl,S,n,hk⟩
  ·obtain⟨aX,_,pl,_⟩:=I.list hq;refine⟨pl.isList.typeIs,fun a e=>?_⟩;cases e;obtain⟨o,n,e,c,hd,_⟩:=pl;exact⟨o,e,hd⟩
  ·refine⟨⟨o,I.mH p o hk,hc⟩,fun a e=>?_⟩;cases e;exact⟨o,I.mH _ o hk,hd⟩
  ·have z:∃o,s.heap.get? p=some o/\o.ExactDict:=by
    rcases hk with⟨iJ,hk⟩|⟨iJ,hk⟩
    ·obtain⟨_,_,_,_,o,_,_,e,ex,_⟩:=I.bT p _ hk;exact⟨o,e,ex⟩
    ·obtain⟨_,_,_,_,o,_,_,e,ex,_⟩:=I.bT p _ hk;exact⟨o,e,ex⟩
   obtain⟨o,e,ex⟩:=z;refine⟨⟨o,e,ex.1⟩,fun a e2=>?_⟩;cases e2;exact⟨o,e,ex.2.1⟩
  ·obtain⟨o,_,_,_,e,ex,_⟩:=I.bT p _ hk;refine⟨⟨o,e,ex.1⟩,fun a e2=>?_⟩;cases e2;exact⟨o,e,ex.2.1⟩
 |_=>exact False.elim ty
noncomputable def S_(K:PySem.W.Frag)(T:String)(r:V->List V->Hp->VK->Prop)(to:TE):TE:=fun σ H Q=>to σ H fun x H1=>S9 K T x H1/\r x [] H1 Q
noncomputable def YE(K:PySem.W.Frag)(T:String)(r:V->List V->Hp->VK->Prop)(to:TE)(t:TA):TE:=fun σ H Q=>to σ H fun x H1=>S9 K T x H1/\t σ H1 fun xs H2=>r x xs H2 Q
variable {o e:Expr} {es:List Expr} {to:TE} {t:TA} {name:Str} {apos mM:Pos} {T id:String} {r:V->List V->Hp->VK->Prop}
theorem xT(pa:PlainAttrs T)(slot:Slot T name id)(S':typeOf (.builtin id)=pure (.type "method_descriptor"))(hm:Wy X id r)(ho:PE X o to)(Dz:attributeBase o name X.env (eval o X.env)=eval o X.env:=by rfl)(DA:(apos.endLine==mM.line)=true:=by rfl):PE X (.Call (.Attribute o name apos) [] [] mM) (S_ X.K T r to):=by
 intro pins s σ H Q I h;refine wpAny_Call_method0_late Dz DA (dr (ho pins s σ H _ I h) fun v s1⟨x,H1,I1,r1,ty,q1⟩=>?_);obtain⟨h1,h2⟩:=Dy I1 r1 ty;exact⟨T,id,pa,slot,S',h1,h2,Calls.callWith_builtin rfl (PySem.evalArgs_none (hm pins s1 σ H1 x [] v [] Q I1 r1 .nil q1))⟩
theorem nF(pa:PlainAttrs T)(slot:Slot T name id)(S':typeOf (.builtin id)=pure (.type "method_descriptor"))(hm:Wy X id r)(ho:PE X o to)(ha:PA X (e::es) t)(Dz:attributeBase o name X.env (eval o X.env)=eval o X.env:=by rfl)(Ta:((backTo mM (starEach (e::es) X.env)).all (fun x=>!x.1)&&(backToKw mM (keywordEach [] X.env)).all (fun x=>x.1.isSome)
 &&decide ((e::es).length+([]:List Keyword).length+(if([]:List Keyword).isEmpty then 0 else 1)<30))=true:=by rfl)(DA:(apos.endLine==mM.line)=true:=by rfl)(hs:starEach (e::es) X.env=(false,eval e X.env)::starEach es X.env:=by rfl)(Lb:(backTo mM (starEach es X.env)).any (·.1)=false:=by rfl):
 PE X (.Call (.Attribute o name apos) (e::es) [] mM) (YE X.K T r to t):=by
 intro pins s σ H Q I h;refine wpAny_Call_method_late Dz Ta DA rfl (dr (ho pins s σ H _ I h) fun v s1⟨x,H1,I1,r1,ty,q1⟩=>?_);obtain⟨h1,h2⟩:=Dy I1 r1 ty;refine⟨T,id,pa,slot,S',h1,h2,?_⟩;have hA:=ha mM pins s1 σ H1 _ I1 q1;rw[hs] at hA ⊢;refine Calls.callWith_builtin (by show(false||(backTo mM (starEach es X.env)).any (·.1))=false;rw[Lb]<;>rfl) (Calls.evalArgs_plain ?_);exact dr hA fun us s2⟨vs,H2,I2,r2,q2⟩=>hm pins s2 σ H2 x vs v us Q I2 r1 r2 q2
end
end L2
namespace L2
open PySem PySem.Spec PyProof.Rows
noncomputable def Rw(X:Cx)(id:String)(r:V->List V->Hp->VK->Prop):Prop:=
 ∀(pins:List (Addr×Obj))(s:Shared)(σ:St)(H:Hp)(x:V)(xs:List V)(v:Value)(us:List Value)(Q:VK),Inv X pins σ H s->RelV x v->Vals xs us->r x xs H Q->
  wpAny (model X.prog X.w) X.A (call (.builtin id) (v::us)) (EP X pins σ Q) X.xe s
theorem Vals.one:∀{x:V}{us:List Value},Vals [x] us->∃u,us=[u]/\RelV x u
 |_,_,.cons r .nil=>⟨_,rfl,r⟩
theorem Vals.two:∀{x y:V}{us:List Value},Vals [x,y] us->∃u v,us=[u,v]/\RelV x u/\RelV y v
 |_,_,_,.cons r (.cons q .nil)=>⟨_,_,rfl,r,q⟩
theorem Vals.zero:∀{us:List Value},Vals [] us->us=[]
 |_,.nil=>rfl
theorem Vals.dropLast{xs:List V}{us:List Value}(h:Vals xs us):Vals xs.dropLast us.dropLast:=by
 induction h with
 |nil=>exact .nil
 |cons r t ih=>
  cases t with
  |nil=>exact .nil
  |cons q t'=>exact .cons r ih
theorem xU{α:Type}(l:List α):l.eraseIdx (l.length-1)=l.dropLast:=by
 induction l with
 |nil=>rfl
 |cons a r ih=>
  cases r with
  |nil=>rfl
  |cons b r=>
   have e:(a::b::r).length-1=((b::r).length-1)+1:=by
    have h1:(a::b::r).length=r.length+2:=rfl;have h2:(b::r).length=r.length+1:=rfl;lia
   rw[e,List.eraseIdx_cons_succ,ih]
   all_goals rfl
section
variable {X:Cx} {pins:List (Addr×Obj)} {σ:St} {H:Hp} {s:Shared} {l b:Addr} {xs ys zs:List V}
theorem Inv.OI{aX its':List Value}{n:Nat}{f:Array Value->Array Value}{t':Nat}(I:Inv X pins σ H s)(hH:H l=some (.lst xs))(e:s.heap.get? l=some {cls:=.type "list",data:=.seq aX.toArray n})(hf:f aX.toArray=its'.toArray)(hv:Vals ys its')(hz:ys.length<=sizeLine):
 Inv X pins σ (upd H l (.lst ys)) {s with heap:=s.heap.update l (Obj.mapSeq f),toks:=t'}:=by
 have q:=PySem.IsL.update e f;rw[hf] at q;refine I.write (x:=l) (e:=l) (by rw[hH];exact trivial) (.inl rfl) (fun b' u hb hu=>(Heap.get?_update_other s.heap (Obj.mapSeq f) (Ne.symm hb)).trans hu) ⟨_,q⟩ ?_;exact⟨hz,its',_,hv,q⟩
theorem Inv.Lc{aX:List Value}{t':Nat}(I:Inv X pins σ H s)(hv:Vals ys aX)(hz:ys.length<=sizeLine):
 Inv X pins σ (upd H s.heap.objs.size (.lst ys)) {s with heap:=s.heap.push {cls:=.type "list",data:=.seq aX.toArray},toks:=t'}:=
 I.laid (fun _ _ q=>Heap.get?_push_of_some _ q) (Nat.le_refl _) ⟨hz,aX,0,hv,Heap.get?_push_size _ rfl⟩
theorem Inv.fresh(I:Inv X pins σ H s):H s.heap.objs.size=none:=I.bT.fresh (Nat.le_refl _)
theorem Inv.G3(I:Inv X pins σ H s)(hH:H l=some (.lst xs)):xs.length<=sizeLine/\∃(aX:List Value)(n:Nat),Vals xs aX/\xs.length=aX.length/\s.heap.get? l=some {cls:=.type "list",data:=.seq aX.toArray n}:=by
 obtain⟨z,aX,n,r,e⟩:=I.bT l _ hH;exact⟨z,aX,n,r,r.length,e⟩
end
section
variable {X:Cx}
noncomputable def G4:V->List V->Hp->VK->Prop:=fun x vs H Q=>∃l xs y,x=.ref l/\vs=[y]/\H l=some (.lst xs)/\xs.length<sizeLine/\Q .dU (upd H l (.lst (xs++[y])))
theorem fv:Rw X "list.append" G4:=by
 intro pins s σ H x vs v us Q I rx rv h;obtain⟨l,xs,y,rfl,rfl,hH,hz,q⟩:=h;cases rx;obtain⟨u,rfl,ru⟩:=rv.one;obtain⟨z,aX,n,r,hl,e⟩:=I.G3 hH;refine call_meets F.slot_list_append ⟨_,e,rfl⟩ F.entry_list_append (F.args_list_append_2 _ _) (PySem.list_append l aX.toArray n u (by rw[List.size_toArray];lia)) ⟨e,?_⟩;refine⟨.dU,_,I.OI (its':=aX++[u]) hH e (by simp) (r.append (.cons ru .nil)) ?_,rfl,q⟩;rw[List.length_append,List.length_singleton];lia
noncomputable def Tb:V->List V->Hp->VK->Prop:=fun x vs H Q=>∃l xs y,x=.ref l/\vs=[]/\H l=some (.lst xs)/\xs[xs.length-1]?=some y/\Q y (upd H l (.lst xs.dropLast))
theorem xV:Rw X "list.pop" Tb:=by
 intro pins s σ H x vs v us Q I rx rv h;obtain⟨l,xs,y,rfl,rfl,hH,hy,q⟩:=h;cases rx;have YF:=rv.zero;subst YF;obtain⟨z,aX,n,r,hl,e⟩:=I.G3 hH;obtain⟨u,hu,ru⟩:=r.get hy;have YG:aX.toArray[aX.toArray.size-1]?=some u:=by
  show aX.toArray[aX.length-1]?=some u;rw[<-Array.getElem?_toList,<-hl];exact hu
 refine call_meets F.slot_list_pop ⟨_,e,rfl⟩ F.entry_list_pop (F.args_list_pop_1 _) (MeetsSeq.list_pop_last l aX.toArray n u YG (by rw[List.size_toArray];lia)) ⟨e,?_⟩;refine⟨y,_,I.OI (its':=aX.dropLast) hH e ?_ r.dropLast ?_,ru,q⟩
 ·show aX.toArray.eraseIdxIfInBounds (aX.toArray.size-1)=aX.dropLast.toArray;rw[List.size_toArray,List.eraseIdxIfInBounds_toArray,xU]
 ·rw[List.length_dropLast];lia
noncomputable def Tc:R2:=fun x y H Q=>∃l b xs zs,x=.ref l/\y=.ref b/\H l=some (.lst xs)/\H b=some (.lst zs)/\xs.length+zs.length<=sizeLine/\∀p,H p=none->Q (.ref p) (upd H p (.lst (xs++zs)))
theorem Ld:nB X (binaryOp .Add) Tc:=by
 intro pins s σ H x y v u Q I rx ry h;obtain⟨l,b,xs,zs,rfl,rfl,hH,hB,hz,q⟩:=h;cases rx;cases ry;obtain⟨z,aX,n,r,hl,e⟩:=I.G3 hH;obtain⟨z2,BK,n2,r2,sO,e2⟩:=I.G3 hB;refine PySem.P.add_list e e2 ?_ (by rw[List.size_toArray,List.size_toArray];lia);have ea:aX.toArray++BK.toArray=(aX++BK).toArray:=by simp
 rw[ea];exact⟨.ref _,_,I.Lc (t':=s.toks) (r.append r2) (by rw[List.length_append];lia),rfl,q _ I.fresh⟩
end
section
variable {prog:Program} {w:World} {A:Around} {E:Value->Shared->Prop} {s:Shared}
end
section
variable {X:Cx}
end
end L2
namespace Wz
open PySem PySem.W PySem.Calls PyProof.Rows
theorem n9{P:Params}{h:Heap}:∀(ns:List Int)(vs:List Value),WellAll P h vs (ns.map WData.int)->IntsAre vs ns:=by
 intro ns
 induction ns with
 |nil=>
  intro vs w;rw[List.map_nil] at w;cases w;exact .nil
 |cons n ns ih=>
  intro vs w;rw[List.map_cons] at w;cases w with
  |cons a b=>
   cases a;exact .cons _ _ (ih _ b)
theorem BL{l:OpenLaw}{n:Nat}(hn:l.most=some n){P:Params}{h:Heap}{args:List WData}{vals:List Value}(BN:l.row.toRowW.claim.pre args=true)(Td:WellAll P h vals args):
 ∃a vs ns,vals=[Value.ref a]/\args=[WData.list (ns.map WData.int)]/\h.get? a=some {cls:=.type "list",data:=.seq vs.toArray}/\IntsAre vs ns/\ns.length<=n:=by
 have Rx:WShape.hasAll [] args [.list .int]=true:=(pre_splitW BN).1;have hc:l.pre.holds [] {args:=args}=true:=(pre_splitW BN).2;obtain⟨d,r,rfl,h1,h2⟩:=hasAllW_cons Rx;obtain rfl:=hasAllW_nil h2;obtain⟨xs,rfl,h3⟩:=hasW_list h1;obtain⟨ns,rfl⟩:=items_int h3;have hlen:ns.length<=n:=by
  unfold OpenLaw.pre at hc;have h4:(WTm.not (.lt (.lit (.int (n:Int))) (.len (.arg 0)))).holds [] {args:=[.list (ns.map .int)]}=true:=by
   have h4:=(holds_andW hc).1;rw[hn] at h4;exact h4
  have h5:=condW_of h4 (w_not (w_lt w_lit (w_len_list (w_arg rfl))));rw[List.length_map] at h5;refine Nat.le_of_not_lt fun q=>?_;have q':(n:Int)<((ns.length:Nat):Int):=by lia
  first
   |(rw[decide_eq_true q'] at h5;exact absurd h5 (by decide))
   |(simp at h5;lia)
 cases Td with
 |cons w1 w2=>
  cases w2
  cases w1 with
  |list ho oU=>exact⟨_,_,ns,rfl,rfl,ho,n9 ns _ oU,hlen⟩
theorem BO(l:OpenLaw)(args:List WData):l.row.toRowW.claim.post args (.bool true) args=true:=
 postW_of (r:=l.row.toRowW) (X:=(true==true))
  (show WShape.has [] (.bool true) .bool=true by first|rfl|decide|simp[WShape.has,WShape.arms,WShape.armsAll])
  (show(WTm.eq .res (.lit (.bool true))).value [] {args:=args,res:=some (.bool true),after:=args}=some (.bool (true==true)) from w_eq_bool (w_res rfl) w_lit) rfl
theorem u7{l:OpenLaw}{n:Nat}{q:Program}{loose:List Str}{XP:(Str->Option Value)->Heap->Prop}{YP:World->Heap->Prop}{d:DefRec}(hn:l.most=some n)(OJ:d.params.defaults=[])(call:∀(w:World)(fY bW:Shared)(mg mb:Str->Option Value)(fa:Addr)(o:Obj)(pm cd doc:Value)(a:Addr)(vs:List Value)(ns:List Int),
 Ground q loose [] XP w fY mg mb bW.heap->YP w bW.heap->
 bW.heap.get? fa=some o->o.data=.func (docDef d.name d.params d.body d.scope pm cd doc)->bW.heap.CodeRec cd d.name->mg d.name=some (.ref fa)->
 bW.heap.get? a=some {cls:=.type "list",data:=.seq vs.toArray}->IntsAre vs ns->ns.length<=n->bW.gens=#[]->
 codeAny (model l.prog w) callerA (.call (.ref fa) ⟨[.ref a],[]⟩) (fun r s'=>r=.ok (.ret (.bool true))/\OldK bW.heap s'.heap/\s'.os=bW.os/\AllBare s'.gens) bW):
 WalkO q loose XP YP l.row.toRowW d [] (fun f vs=>PySem.call f vs):=by
 intro w fY bW mg mb G Y fa o pm cd doc dV kV ho hd ko hD NA hg args vals as BN YH hrd Td Af;obtain rfl:dV=.none:=Dflts.none hD OJ;obtain rfl:kV=.none:=Dflts.noKw hD;obtain⟨a,vs,ns,rfl,rfl,Le,hints,hlen⟩:=BL hn BN Td;refine enter_call (codeAny_mono (call w fY bW mg mb fa o pm cd doc a vs ns G Y ho (fd_plain hd) ko NA Le hints hlen hg) fun r s' hq=>?_);obtain⟨rfl,h2,h3,h4⟩:=hq;exact⟨.inl ⟨.bool true,.bool true,[],rfl,fun _=>rfl,.bool true,BO l _,fun _=>⟨List.Pairwise.nil,fun _ hm=>(nomatch hm)⟩⟩,h2,h3,h4⟩
section
variable {prog:Program} {w:World} {A:Around} {E:Value->Shared->Prop} {s:Shared} {K:Frag}
end
end Wz
namespace L2
open PySem PySem.Spec PyProof.Rows
theorem rD:∀{vs:List Value}{ns:List Int},IntsAre vs ns->Vals (ns.map V.int) vs
 |_,_,.nil=>.nil
 |_,_,.cons n t h=>.cons ⟨t,rfl⟩ (rD h)
end L2
namespace L2
open PySem PySem.Spec PyProof.Rows
noncomputable abbrev KOf{K:PySem.W.Frag}{h:Heap}(_:K.In h):PySem.W.Frag:=K
end L2
namespace L2
open PySem PySem.Spec PyProof.Rows
noncomputable def inClass(s:Stmt)(j:Nat):Stmt:=match s with
 |.ClassDef _ _ _ body _ _ _ _ _ _ _=>body.getD j (.Pass ⟨0,0,0,0⟩)
 |_=>.Pass ⟨0,0,0,0⟩
noncomputable def gq(s:Stmt):Arguments:=match s with
 |.FunctionDef _ a _ _ _ _ _ _ _ _=>a
 |_=>{posonlyargs:=[],args:=[],vararg:=none,kwonlyargs:=[],kw_defaults:=[],kwarg:=none,defaults:=[]}
noncomputable def dG(s:Stmt):List Stmt:=match s with
 |.FunctionDef _ _ b _ _ _ _ _ _ _=>b
 |_=>[]
noncomputable def ak(s:Stmt):Scope:=match s with
 |.FunctionDef _ _ _ _ _ _ sc _ _ _=>sc
 |_=>{kind:=.function,names:=[],isGenerator:=false,isCoroutine:=false}
noncomputable abbrev uQ:oP:=fun _ _ _ _ _ _=>False
noncomputable abbrev E0:XK:=fun _ _ _=>False
theorem u9{X:Cx}:Passes uQ X E0:=fun _ _ _ _ _ _ _ h=>h.elim
structure DB(K:PySem.W.Frag)(x qual:Str)(st:Stmt)(f:Addr)(fd:FuncData):Prop where
 ex:∃(oc:Value)(od:Option Addr)(kV doc pm:Value)(an:Option Addr)(bM ct:Value)(xP:Array (Option Value)),
  fd=PySem.W.fnOf x qual (gq st) (dG st) (ak st) .none kV doc pm an bM ct/\K.lookup f=some ⟨oc,od,.func fd,xP⟩/\PySem.W.codeIn K bM qual=true
 kp:PySem.W.keepIn K (.ref f)=true
section
variable {P:Program} {w:World} {K:PySem.W.Frag} {mg:Str->Option Value} {base:Heap}
theorem DB.ok{x qual:Str}{st:Stmt}{f:Addr}{fd:FuncData}{N ps:List Str}{k:Nat}{sp:Sp}(F:DB K x qual st f fd)(S:aB N ps (ak st))(len:∀vs H Q E,sp vs H Q E->vs.length=ps.length)(js:∀(bM:Value)(A:Around)(outer:List Env)(s:Shared)(H:Hp)(vs:List V)(Q:VK)(E:XK),fj k (A.deeper (envOfC qual (ak st) s.heap.objs.size f bM))->sp vs H Q E->
 ∃t,qJ (qL uQ P w K mg base N qual (ak st) f bM A outer s H E).Jh (dG st) t/\t {nx:=fun _ H'=>Q .dU H',rt:=Q} (start N vs) H):kj P w K mg base uQ (k+1) f fd ps sp:=by
 obtain⟨oc,od,kV,doc,pm,an,bM,ct,xP,rfl,lk,ko⟩:=F.ex;refine Jr lk ko S len fun A outer s H vs Q E hr u5=>?_;obtain⟨t,h,q⟩:=js bM A outer s H vs Q E hr u5;exact⟨t,h.Jh,q⟩
theorem DB.binds{x qual:Str}{st:Stmt}{f:Addr}{fd:FuncData}{ps:List Str}(F:DB K x qual st f fd)(h:∀(kV doc pm:Value)(an:Option Addr)(bM ct:Value)(us:List Value),us.length=ps.length->bindArgs (PySem.W.fnOf x qual (gq st) (dG st) (ak st) .none kV doc pm an bM ct) ⟨us,[]⟩=pure (ps.zip us)):Binds K fd ps []:=by
 obtain⟨oc,od,kV,doc,pm,an,bM,ct,xP,rfl,lk,ko⟩:=F.ex;exact .all (h kV doc pm an bM ct)
theorem DC{x qual:Str}{st:Stmt}{f:Addr}{oc:Value}{od an:Option Addr}{xP:Array (Option Value)}{kV doc pm bM ct:Value}(l:K.lookup f=some ⟨oc,od,.func (PySem.W.fnOf x qual (gq st) (dG st) (ak st) .none kV doc pm an bM ct),xP⟩)(c:PySem.W.codeIn K bM qual=true)(k:PySem.W.keepIn K (.ref f)=true):DB K x qual st f (PySem.W.fnOf x qual (gq st) (dG st) (ak st) .none kV doc pm an bM ct):=⟨⟨oc,od,kV,doc,pm,an,bM,ct,xP,rfl,l,c⟩,k⟩
end
theorem BP{n:Nat}(h:n<=1000):n<sizeLine:=Nat.lt_of_le_of_lt h (by decide)
section
variable {X:Cx}
theorem pv(i:Nat){x:Str}{pos:Pos}(hN:X.N[i]?=some x:=by rfl)(hv:N7 X.env.scope x:=by first|exact Or.inl rfl|exact Or.inr (Or.inl rfl)|exact Or.inr (Or.inr rfl))(hd:(x==("__debug__":Str))=false:=by decide)(ko:(x==("__classdict__":Str))=false:=by decide):PE X (.Name x pos) (GN i):=Di hN hv hd ko
end
theorem fS{A B:Prop}(h:B):if false=true then A else B:=by
 rw[if_neg Bool.false_ne_true];exact h
theorem u_{A B:Prop}(h:A):if true=true then A else B:=by
 rw[if_pos rfl];exact h
theorem dI{c A B:Prop}[Decidable c](h1:c->A)(h2:¬c->B):if c then A else B:=by
 by_cases h:c
 ·rw[if_pos h];exact h1 h
 ·rw[if_neg h];exact h2 h
theorem kq{c A B:Prop}[Decidable c](hc:c)(h:B):if(!decide c)=true then A else B:=by
 rw[decide_eq_true hc];exact fS h
noncomputable def av(H H':Hp):Prop:=∀b o,H b=some o->H' b=some o
theorem av.refl(H:Hp):av H H:=fun _ _ h=>h
theorem av.trans{H H1 H2:Hp}(a:av H H1)(b:av H1 H2):av H H2:=fun c o h=>b c o (a c o h)
theorem av.free{H H':Hp}(e:av H H'){l:Addr}(h:H' l=Option.none):H l=Option.none:=by
 cases q:H l with
 |none=>rfl
 |some o=>
  rw[e l o q] at h;cases h
theorem av.seq{K:PySem.W.Frag}{H H':Hp}{a:Addr}{xs:List V}(e:av H H')(h:aW K H a xs):aW K H' a xs:=by
 rcases h with(h|⟨o,h⟩)|h
 ·exact .inl (.inl (e _ _ h))
 ·exact .inl (.inr ⟨o,e _ _ h⟩)
 ·exact .inr h
end L2
set_option maxHeartbeats 4000000
namespace L2
open PySem PySem.Spec PyProof.Rows
section
variable {X:Cx} {a b c:Expr} {ta tb tc:TE} {pos:Pos}
theorem aC:nB X (binaryOp .Mult) (rI (fun i j=>IntMulOk i j) fun i j=>.int (i*j)):=
 Ru fun _ _ _ _ _ _ _ hc q=>mul_int q hc
theorem cq:nB X (binaryOp .FloorDiv) (rI (fun _ j=>j≠0/\j.natAbs.log2<9000) fun i j=>.int (i.fdiv j)):=
 Ru fun _ _ _ _ _ _ _ hc q=>floordiv_int hc.1 q (.inl (PyProof.noPylong_of_log2 hc.2))
theorem OK{x:Str}{T:String}{pos:Pos}(hg:Gl X x)(hm:X.mg x=none)(hv:bootBuiltins x=some (.type T))(hn:x≠"__name__":=by decide)(hd:(x==("__debug__":Str))=false:=by decide):PE X (.Name x pos) (tC (.ty T)):=
 GO (v:=V.ty T) hg hm hv rfl hn hd
noncomputable def Te(K:PySem.W.Frag):R2:=fun x y H Q=>∃(p q:Addr)(xs ys:List Int),x=.ref p/\y=.ref q/\aW K H p (xs.map V.int)/\aW K H q (ys.map V.int)/\Q (.bl (decide (xs=ys))) H
theorem int_at{xs:List Int}{aX:List Value}(r:Vals (xs.map V.int) aX){j:Nat}(h:j<xs.length)(h':j<aX.length):∃t,aX[j]=Value.int xs[j] t:=by
 have e:(xs.map V.int)[j]?=some (V.int xs[j]):=by rw[List.getElem?_map,List.getElem?_eq_getElem h]<;>rfl
 obtain⟨u,hu,t,rfl⟩:=r.get e;rw[List.getElem?_eq_getElem h'] at hu;exact⟨t,Option.some.inj hu⟩
theorem Lf(xs ys:List Int)(hl:xs.length=ys.length):((List.range xs.length).all fun j=>xs.getD j 0==ys.getD j 0)=decide (xs=ys):=by
 rw[Bool.eq_iff_iff,List.all_eq_true,decide_eq_true_eq];constructor
 ·intro h;refine List.ext_getElem hl fun j h1 h2=>?_;have:=h j (List.mem_range.mpr h1);rw[beq_iff_eq,List.getD_eq_getElem?_getD,List.getD_eq_getElem?_getD,List.getElem?_eq_getElem h1,List.getElem?_eq_getElem h2] at this;exact this
 ·rintro rfl j _;exact beq_self_eq_true _
theorem Lg(hu:X.A.units<cLine):nB X (compareOp .Eq) (Te X.K):=by
 intro pins s σ H x y v u Q I rx ry h;obtain⟨p,q,xs,ys,rfl,rfl,hp,hq,h⟩:=h;cases rx;cases ry;obtain⟨aX,r,pl,hz⟩:=I.list hp;obtain⟨BK,r2,DE,Ry⟩:=I.list hq;have l1:=r.length;have l2:=r2.length;rw[List.length_map] at l1 l2;by_cases hl:xs.length=ys.length
 ·refine SeqAt.eq_listAt (e:=fun j=>xs.getD j 0==ys.getD j 0) pl.isList DE.isList (by simp only[List.size_toArray];lia) hu (fun j h1 h2=>?_) ?_
  ·simp only[List.size_toArray] at h1 h2;obtain⟨t,e⟩:=int_at r (j:=j) (by lia) h1;obtain⟨t',e'⟩:=int_at r2 (j:=j) (by lia) h2;have z:SeqAt.EqAt X.A.in1 s aX[j] BK[j] (xs[j]==ys[j]):=by
    rw[e,e'];exact SeqAt.EqAt.int_int _ _ _ _
   rw[List.getD_eq_getElem?_getD,List.getD_eq_getElem?_getD,List.getElem?_eq_getElem (show j<xs.length by lia),List.getElem?_eq_getElem (show j<ys.length by lia)];simpa using z
  ·have e:(List.range aX.toArray.size).all (fun j=>xs.getD j 0==ys.getD j 0)=decide (xs=ys):=by
    rw[<-Lf xs ys hl,l1,List.size_toArray]
   rw[e];exact⟨.bl _,H,I,rfl,h⟩
 ·have e:decide (xs=ys)=false:=decide_eq_false fun z=>hl (by rw[z]);rw[e] at h;exact SeqAt.eq_list_lengthsAt pl.isList DE.isList (by simp only[List.size_toArray,bne_iff_ne,ne_eq];lia) hu ⟨.bl false,H,I,rfl,h⟩
end
noncomputable def BQ(lo st:Int)(n:Nat):It:=⟨fun i _=>i<n,fun i H x H'=>H'=H/\x=.int (lo+i*st),fun i _=>n<=i⟩
theorem va{P:Program}{w:World}{K:PySem.W.Frag}{tg:Expr}(it:Addr)(lo st:Int)(n:Nat):
 Turn P w K tg (BQ lo st n) [it] it (fun i h=>IsRangeIter h it (lo+(i:Nat)*st) ((n:Int)-(i:Nat)) st) where
 mem:=List.mem_singleton.mpr rfl
 obj:=fun i h q b hb=>by
  obtain rfl:=List.mem_singleton.mp hb;exact⟨_,q,fun v z=>by cases (show Data.fields _=Data.cell v from z)⟩
 keep:=fun i h h' q k=>k it (List.mem_singleton.mpr rfl) _ q
 item:=by
  intro X e1 e2 e3 hc i pins s σ H E I hf q hg;subst e1 e2 e3;obtain⟨f0,f1,f2,f3,f4,f5⟩:=hf it (List.mem_singleton.mpr rfl);refine(Walks.range (prog:=X.prog) (w:=X.w) (I.ok.hd hc) it lo st n).item i s _ _ hg q fun v h' tk hv q' kk=>?_;obtain⟨t,rfl⟩:=hv;have I1:Inv X pins σ H {s with heap:=h',toks:=tk}:=I.turned (fun b o hb e=>kk b o (fun z=>hb (List.mem_singleton.mp z)) e) f0 f1 f3 f4 f5;exact⟨_,rfl,zU (s:={s with heap:=h',toks:=tk}) (n:="range_iterator") q' rfl rfl (by decide) ⟨.int (lo+i*st),H,I1,⟨t,rfl⟩,⟨rfl,rfl⟩,q',fun b hb=>(hf b hb).1⟩⟩
 done:=by
  intro X e1 e2 e3 hc i pins s σ H E I hf q hg;subst e1 e2 e3;obtain⟨f0,f1,f2,f3,f4,f5⟩:=hf it (List.mem_singleton.mpr rfl);exact wpAny_pyNext_range_end (I.ok.hd hc) q (by have:n<=i:=hg;lia) fun h' eb=>⟨rfl,I.turned (t':=s.toks) (fun b o hb e=>eb b o hb e) f0 f1 f3 f4 f5⟩
 self:=fun _ _ _ _ _ q h=>wpAny_pyIter_rangeiter q h
noncomputable def Ju(ta:TA):TI:=fun σ H R=>ta σ H fun vs H1=>∃(i j k:Int)(n:Nat),vs=[.int i,.int j,.int k]/\k≠0/\k.natAbs<1073741824/\Builtin.Range.small i j k=true/\Builtin.Range.rangeSize i j k=n/\R (BQ i k n) H1
theorem BR{X:Cx}{tg a b c:Expr}{ta:TA}{p pos:Pos}(hg:Gl X "range")(hm:X.mg "range"=none)(ha:PA X [a,b,c] ta)(hs:starEach [a,b,c] X.env=[(false,eval a X.env),(false,eval b X.env),(false,eval c X.env)]:=by rfl)(Ds:starEach [b,c] X.env=[(false,eval b X.env),(false,eval c X.env)]:=by rfl):PI X tg (.Call (.Name "range" p) [a,b,c] [] pos) (Ju ta):=by
 intro pins s σ H R I h;refine Call_ (iM I hg hm boot_range (PyProof.Rows.callWith_type1 (dr (ha pos pins s σ H _ I h) fun us s1 q1=>?_) (by rw[hs,Ds]) (by rw[Ds];rfl)));obtain⟨vs,H1,I1,r1,i,j,k,n,rfl,hk,YI,YJ,hn,q⟩:=q1;cases r1 with
 |cons ra rr=>
  cases rr with
  |cons rb rr=>
   cases rr with
   |cons rc rr=>
    cases rr;obtain⟨t,rfl⟩:=ra;obtain⟨u,rfl⟩:=rb;obtain⟨v,rfl⟩:=rc;refine call_range_3 hk ?_ (.inl (PyProof.noPylong_small YI));refine wpAny_pyIter_range (IsRange.new ..) YJ ?_;have I2:Inv X pins σ H1 {s1 with heap:=s1.heap.push {cls:=.type "range",data:=.fields #[.int i t,.int j u,.int k v]}}:=I1.kept (t':=s1.toks) fun b o e=>Heap.get?_push_of_some _ e;refine⟨_,[_],_,_,H1,rfl,I2.kept (t':=s1.toks) fun b o e=>Heap.get?_push_of_some _ e,va _ i k n,?_,fun b hb=>?_,q⟩
    ·have e1:i+((0:Nat):Int)*k=i:=by simp
     have e2:((n:Nat):Int)-((0:Nat):Int)=Builtin.Range.rangeSize i j k:=by rw[hn];simp
     show IsRangeIter _ _ (i+((0:Nat):Int)*k) (((n:Nat):Int)-((0:Nat):Int)) k;rw[e1,e2];exact Heap.get?_push_size _ rfl
    ·obtain rfl:=List.mem_singleton.mp hb;exact I2.xC (Nat.le_refl _) (I2.bT.fresh (Nat.le_refl _))
theorem xW{lo st:Int}{n:Nat}{g:TG}{tb:TS}{D:Ends}{σ:St}{H:Hp}(Pv:Nat->St->Hp->Prop)(h0:Pv 0 σ H)(hs:∀i σ H,i<n->Pv i σ H->g (.int (lo+i*st)) σ H fun fP H2=>tb {D with nx:=Pv (i+1),ct:=Pv (i+1),bk:=D.nx} fP H2)(hd:∀σ H,Pv n σ H->D.nx σ H):
 ∃W:Nat->Nat->St->Hp->Prop,(∃m,W 0 m σ H)/\∀i m σ H,W i m σ H->
  ((BQ lo st n).stop i H/\D.nx σ H)\/((BQ lo st n).go i H/\∃N:St->Hp->Prop,(∀bJ H',N bJ H'->∃m',m'<m/\W (i+1) m' bJ H')/\∀x H',(BQ lo st n).xB i H x H'->g x σ H' fun fP H2=>tb {D with nx:=N,ct:=N,bk:=D.nx} fP H2):=by
 refine⟨fun i m σ H=>m=n-i/\i<=n/\Pv i σ H,⟨n,rfl,Nat.zero_le _,h0⟩,fun i m σ H q=>?_⟩;obtain⟨rfl,hi,p⟩:=q;by_cases eM:i<n
 ·refine .inr ⟨eM,Pv (i+1),fun bJ H' p'=>⟨n-(i+1),by lia,rfl,eM,p'⟩,fun x H' y=>?_⟩;obtain⟨rfl,rfl⟩:=y;exact hs i σ _ eM p
 ·obtain rfl:i=n:=by lia
  exact .inl ⟨Nat.le_refl _,hd σ H p⟩
structure aT(P:Program)(w:World)(K:PySem.W.Frag)(mg:Str->Option Value)(base:Heap)(k:Nat)(x:Str)(ps:List Str)(sp:Sp):Prop where
 ex:∃f fd,kj P w K mg base uQ k f fd ps sp/\mg x=some (.ref f)/\PySem.W.keepIn K (.ref f)=true/\Binds K fd ps []
structure aH(K:PySem.W.Frag)(mg:Str->Option Value)(x:Str)(st:Stmt)(ps:List Str):Prop where
 ex:∃f fd,DB K x x st f fd/\mg x=some (.ref f)/\Binds K fd ps []
section
variable {P:Program} {w:World} {K:PySem.W.Frag} {mg:Str->Option Value} {base:Heap} {x:Str} {st:Stmt} {N ps:List Str} {j k:Nat} {sp OC:Sp}
theorem aT.mono(F:aT P w K mg base j x ps sp)(h:j<=k):aT P w K mg base k x ps sp:=
 let⟨f,fd,a,b,c,d⟩:=F.ex
 ⟨f,fd,a.mono h,b,c,d⟩
theorem aT.imp(F:aT P w K mg base k x ps sp)(h:∀vs H Q E,OC vs H Q E->sp vs H Q E):aT P w K mg base k x ps OC:=
 let⟨f,fd,a,b,c,d⟩:=F.ex
 ⟨f,fd,a.imp h,b,c,d⟩
theorem aH.ok(D:aH K mg x st ps)(S:aB N ps (ak st))(len:∀vs H Q E,sp vs H Q E->vs.length=ps.length)(js:∀(f:Addr)(bM:Value)(A:Around)(outer:List Env)(s:Shared)(H:Hp)(vs:List V)(Q:VK)(E:XK),fj k (A.deeper (envOfC x (ak st) s.heap.objs.size f bM))->sp vs H Q E->
 ∃t,qJ (qL uQ P w K mg base N x (ak st) f bM A outer s H E).Jh (dG st) t/\t {nx:=fun _ H'=>Q .dU H',rt:=Q} (start N vs) H):aT P w K mg base (k+1) x ps sp:=
 let⟨f,fd,a,b,c⟩:=D.ex
 ⟨f,fd,a.ok S len fun bM A outer s H vs Q E=>js f bM A outer s H vs Q E,b,a.kp,c⟩
end
theorem aJ{K:PySem.W.Frag}{h:Heap}{mg:Str->Option Value}{x:Str}{st:Stmt}{ps:List Str}{f:Addr}{od an:Option Addr}{sl:Array (Option Value)}{oc kV doc pm cd ct:Value}(X:K.In h)(G:h.Ns mainGlobals mg)(a:PySem.W.nsIn K mainGlobals x=some (some (.ref f)))(l:K.lookup f=some ⟨oc,od,.func (PySem.W.fnOf x x (gq st) (dG st) (ak st) .none kV doc pm an cd ct),sl⟩)(c:PySem.W.codeIn K cd x=true)(k:PySem.W.keepIn K (.ref f)=true)(b:∀(kV doc pm:Value)(an:Option Addr)(bM ct:Value)(us:List Value),us.length=ps.length->bindArgs (PySem.W.fnOf x x (gq st) (dG st) (ak st) .none kV doc pm an bM ct) ⟨us,[]⟩=pure (ps.zip us)):aH K mg x st ps:=
 have F:=DC (st:=st) l c k
 ⟨_,_,F,PySem.W.mg_of X G a,F.binds b⟩
theorem ar{X:Cx}{k:Nat}{x:Str}{ps:List Str}{sp:Sp}{p pos:Pos}{e:Expr}{es:List Expr}{t:TA}(F:aT X.prog X.w X.K X.mg X.base k x ps sp)(hr:fj k X.A)(ha:PA X (e::es) t)(hg:Gl X x:=by rfl)(uY:(x==("__debug__":Str))=false:=by decide)(he:starEach (e::es) X.env=(false,eval e X.env)::starEach es X.env:=by rfl)(mG:(backTo pos (starEach es X.env)).any (·.1)=false:=by rfl):PE X (.Call (.Name x p) (e::es) [] pos) (zY sp [] E0 t):=
 let⟨_,_,a,b,c,d⟩:=F.ex
 G0 a hr hg b c d .nil u9 ha uY he mG
section
variable {σ:St} {H:Hp} {Q:VK} {D:Ends} {te ta tb:TE} {tr:TA} {ts us:TS} {tt uu:TT} {QB:Bool->Hp->Prop} {QA:List V->Hp->Prop}
theorem OL(h:ts {D with nx:=us D} σ H):Oe ts us D σ H:=h
theorem OM{i:Nat}(h:te σ H fun x H1=>D.nx (σ.set i (some x)) H1):Dk te (rk i) D σ H:=h
theorem ON{g:TG}(h:te σ H fun x H1=>g x σ H1 D.nx):Dk te g D σ H:=h
theorem OO(h:te σ H D.rt):Of te D σ H:=h
theorem Lh(h:te σ H fun _ H1=>D.nx σ H1):Jj te D σ H:=h
theorem Li(h:D.nx σ H):Ji D σ H:=h
theorem OP{i:Nat}{v:V}(e:σ[i]?=some (some v))(h:Q v H):GN i σ H Q:=⟨v,e,h⟩
theorem OQ{wi:TI}{g:TG}(h:wi σ H fun J H1=>∃W:Nat->Nat->St->Hp->Prop,(∃m,W 0 m σ H1)/\∀i m σ H,W i m σ H->
 (J.stop i H/\D.nx σ H)\/(J.go i H/\∃N:St->Hp->Prop,(∀bJ H',N bJ H'->∃m',m'<m/\W (i+1) m' bJ H')/\∀x H',J.xB i H x H'->g x σ H' fun fP H2=>ts {D with nx:=N,ct:=N,bk:=D.nx} fP H2)):Oq wi g ts D σ H:=h
theorem Lj{R:It->Hp->Prop}(h:tr σ H fun vs H1=>∃(i j k:Int)(n:Nat),vs=[.int i,.int j,.int k]/\k≠0/\k.natAbs<1073741824/\Builtin.Range.small i j k=true/\Builtin.Range.rangeSize i j k=n/\R (BQ i k n) H1):Ju tr σ H R:=h
theorem G5{i:Nat}{v:V}{R:St->Hp->Prop}(h:R (σ.set i (some v)) H):rk i v σ H R:=h
theorem jt{K:PySem.W.Frag}{n:Nat}{t:Gn}{a:Addr}{xs:List V}{R:St->Hp->Prop}(hs:bL K H a xs)(hl:xs.length=n)(h:t xs σ H R):KW K n t (.ref a) σ H R:=⟨a,xs,rfl,hs,hl,h⟩
theorem G6{t:TG}{u:Gn}{v:V}{r:List V}{R:St->Hp->Prop}(h:t v σ H fun bJ H'=>u r bJ H' R):Jk t u (v::r) σ H R:=⟨v,r,rfl,h⟩
theorem Lk{R:St->Hp->Prop}(h:R σ H):Oj [] σ H R:=⟨rfl,h⟩
theorem YK{v:V}(h:Q v H):tC v σ H Q:=h
theorem Tf{r:R2}(h:ta σ H fun x H1=>tb σ H1 fun y H2=>r x y H2 Q):Ou r ta tb σ H Q:=h
theorem Tg{r:V->Hp->VK->Prop}(h:ta σ H fun x H1=>r x H1 Q):Ws r ta σ H Q:=h
theorem Th{g:Int->Int->V}{i j:Int}(h:Q (g i j) H):GR g (.int i) (.int j) H Q:=⟨i,j,rfl,rfl,h⟩
theorem bN{C:Int->Int->Prop}{g:Int->Int->V}{i j:Int}(c:C i j)(h:Q (g i j) H):rI C g (.int i) (.int j) H Q:=⟨i,j,rfl,rfl,c,h⟩
theorem YL{g:Int->V}{i:Int}(h:Q (g i) H):rU g (.int i) H Q:=⟨i,rfl,h⟩
theorem Ll(h:te σ H fun x H'=>∃k,x=.bl k/\QB k H'):Jo te σ H QB:=h
theorem Ti(h:te σ H fun x H'=>∃k,x=.bl k/\QB k H'):tB te σ H QB:=h
theorem Tj{k:Bool}{R:Bool->Prop}(h:R k):∃k',V.bl k=.bl k'/\R k':=⟨k,rfl,h⟩
theorem OR{i j:Int}(h:Q (.bl (decide (i=j))) H):Wt (.int i) (.int j) H Q:=⟨rfl,by rw[show decide (V.int i=V.int j)=decide (i=j) by rw[Bool.eq_iff_iff];simp];exact h⟩
theorem OS{i j:Int}(h:Q (.bl (!decide (i=j))) H):Wu (.int i) (.int j) H Q:=⟨rfl,by rw[show decide (V.int i=V.int j)=decide (i=j) by rw[Bool.eq_iff_iff];simp];exact h⟩
theorem OT(h:tt σ H fun b H1=>if b=true then ts D σ H1 else us D σ H1):Og tt ts us D σ H:=h
theorem OU(h:tt σ H fun c H1=>if c=true then ta σ H1 Q else tb σ H1 Q):Wo tt ta tb σ H Q:=h
theorem OV(h:tt σ H fun c H1=>if c=true then uu σ H1 QB else QB false H1):Oa tt uu σ H QB:=h
theorem Tn(h:tt σ H fun c H1=>if c=true then QB true H1 else uu σ H1 QB):Wn tt uu σ H QB:=h
theorem OW(h:tt σ H fun c H1=>QB (!c) H1):Ob tt σ H QB:=h
theorem Lm(h:ta σ H fun x H1=>∃c,x=.bl c/\if c=true then tb σ H1 Q else Q (.bl false) H1):Oc ta tb σ H Q:=h
theorem OX(h:ta σ H fun x H1=>∃c,x=.bl c/\if c=true then Q (.bl true) H1 else tb σ H1 Q):SW ta tb σ H Q:=h
theorem Ln(h:ta σ H fun x H1=>∃c,x=.bl c/\Q (.bl (!c)) H1):Od ta σ H Q:=h
theorem OY(h:QA [] H):Oz σ H QA:=h
theorem Lo(h:te σ H fun x H1=>tr σ H1 fun xs H2=>QA (x::xs) H2):Jp te tr σ H QA:=h
theorem Lp{sp:Sp}{E:XK}(h:tr σ H fun vs H1=>sp (vs++[]) H1 Q E):zY sp [] E tr σ H Q:=h
theorem To{r:List V->Hp->VK->Prop}(h:tr σ H fun vs H1=>r vs H1 Q):S5 r tr σ H Q:=h
theorem OZ(h:tr σ H fun xs H1=>xs.length<=sizeLine/\∀p,H1 p=none->Q (.ref p) (upd H1 p (.tup xs))):OA tr σ H Q:=h
theorem O0(h:tr σ H fun xs H1=>xs.length<=sizeLine/\∀p,H1 p=none->Q (.ref p) (upd H1 p (.lst xs))):OB tr σ H Q:=h
theorem O1{K:PySem.W.Frag}{i:Int}{R:Bool->Prop}(h:R (i !=0)):∃k,GU K (.int i) H k/\R k:=⟨_,rfl,h⟩
theorem aG{K:PySem.W.Frag}{p:Addr}{xs:List V}{i:Int}{v:V}(hs:bL K H p xs)(he:nD xs i=some v)(h:Q v H):OG K (.ref p) (.int i) H Q:=⟨p,xs,i,v,rfl,rfl,hs,he,h⟩
theorem cV{K:PySem.W.Frag}{p:Addr}{xs:List V}{i:Int}{v:V}(hs:aW K H p xs)(he:nD xs i=some v)(h:Q v H):OF K (.ref p) (.int i) H Q:=⟨p,xs,i,v,rfl,rfl,hs,he,h⟩
theorem fw{n:Nat}(h:n<=1000):n<=sizeLine:=Nat.le_of_lt (BP h)
theorem av.new{H:Hp}{p:Addr}(h:H p=none)(o:HO):av H (upd H p o):=fun b u q=>by rw[aq (aL q h)];exact q
end
end L2
namespace L2
open PySem PySem.Spec PyProof.Rows
noncomputable def DF(K:PySem.W.Frag)(a:Addr):It:=
 ⟨fun i H=>∃xs x,aW K H a xs/\xs[i]?=some x,fun i H x H'=>∃p y,H p=none/\x=.ref p/\H'=upd H p (.tup [.int (i:Int),y])/\∀xs,aW K H a xs->xs[i]?=some y,fun i H=>∃xs,aW K H a xs/\xs.length<=i⟩
noncomputable def NC(K:PySem.W.Frag)(a:Addr)(n:Nat):It:=
 ⟨fun i H=>i<n/\∃xs x,aW K H a xs/\xs[n-1-i]?=some x,fun i H x H'=>H'=H/\∀xs,aW K H a xs->xs[n-1-i]?=some x,fun i _=>i=n⟩
theorem ot{b e it:Addr}(h:b∈[e,it]):b=e\/b=it:=by
 rcases List.mem_cons.mp h with z|z
 ·exact .inl z
 ·exact .inr (List.mem_singleton.mp z)
theorem BS{P:Program}{w:World}{K:PySem.W.Frag}{es:List Expr}{k:Nat}{tp:Pos}(a e it:Addr)(eE:e≠it):
 Turn P w K (.Tuple es k tp) (DF K a) [e,it] e (fun i h=>∃old,IsEnum h e it ((i:Nat):Int) old/\h.IsListIter it a i) where
 mem:=List.mem_cons_self
 obj:=fun i h q b hb=>by
  obtain⟨old,q1,o,q2,c2,d2⟩:=q;rcases ot hb with rfl|rfl
  ·exact⟨_,q1,fun v z=>by cases (show Data.fields _=Data.cell v from z)⟩
  ·exact⟨o,q2,fun v z=>by rw[d2] at z;cases z⟩
 keep:=fun i h h' q kk=>by
  obtain⟨old,q1,q2⟩:=q;exact⟨old,kk e List.mem_cons_self _ q1,q2.at fun o z=>kk it (List.mem_cons_of_mem _ (List.mem_singleton.mpr rfl)) o z⟩
 item:=by
  intro X e1 e2 e3 hc i pins s σ H E I hf q hg;subst e1 e2 e3;obtain⟨old,q1,q2⟩:=q;obtain⟨xs,x,hq,hx⟩:=hg;obtain⟨aX,rv,pl,hz⟩:=I.list hq;obtain⟨u,hu,ru⟩:=rv.get hx;obtain⟨f0,f1,f2,f3,f4,f5⟩:=hf e List.mem_cons_self;obtain⟨g0,g1,g2,g3,g4,g5⟩:=hf it (List.mem_cons_of_mem _ (List.mem_singleton.mpr rfl));refine wpAny_pyNext_enum_item q1 q2 pl.isList (x:=u) (by simpa using hu) eE fun h1 eo YM tu lr hk=>?_;refine⟨_,rfl,wpAny_letOwnedTupleGo_enum eo fun h2 Tp sb=>?_⟩;have Tq:Heap.SameBut e h1 h2:=sb;have vb:H s.heap.objs.size=none:=I.fresh;have hp:e≠s.heap.objs.size:=Nat.ne_of_lt (Heap.lt_size q1);have kp:∀b o,b≠e->b≠it->s.heap.get? b=some o->h2.get? b=some o:=fun b o h3 h4 z=>Tq.extBut b o h3 (hk b o h3 h4 z);have RA:∀b o,H b=some o->b≠e/\b≠it:=fun b o z=>⟨aL z f0,aL z g0⟩;have Ts:IsTup h2 s.heap.objs.size [Value.int (i:Int) s.toks,u].toArray:=⟨_,(Tq.2 _ (Ne.symm hp)).trans tu,rfl,_,rfl⟩;have rt:Vals [V.int (i:Int),x] [Value.int (i:Int) s.toks,u]:=.cons ⟨_,rfl⟩ (.cons ru .nil);have bT:jY X.prog X.w (upd H s.heap.objs.size (.tup [.int (i:Int),x])) h2:=fun b o z=>by
   by_cases hb:b=s.heap.objs.size
   ·subst hb;rw[ai] at z;cases z;exact⟨by show 2<=sizeLine;decide,_,rt,Ts⟩
   ·rw[aq hb] at z;refine(I.bT b o z).qH (fun c v GL r=>?_) (fun c r=>by rw[aq (aL r vb)];exact r) fun c ys r=>by rw[aq (aL r vb)];exact r
    rcases GL with rfl|GL
    ·exact kp _ _ (RA _ _ z).1 (RA _ _ z).2 r
    ·exact kp _ _ (RA _ _ GL).1 (RA _ _ GL).2 r
  have ND:∀{b:Addr},b∉[e,it]->b≠e/\b≠it:=fun h3=>⟨fun z=>h3 (by rw[z];exact List.mem_cons_self),fun z=>h3 (by rw[z];exact List.mem_cons_of_mem _ (List.mem_singleton.mpr rfl))⟩;have un:Un (uN X.stack) [e,it] H (upd H s.heap.objs.size (.tup [.int (i:Int),x])) s.heap h2:=
   ⟨fun b o z _ _ h4=>kp b o (ND h4).1 (ND h4).2 z,fun b o z _ _ h4=>⟨o.slots,kp b o (ND h4).1 (ND h4).2 z⟩,
    fun b o z n _=>by rw[aq (Nat.ne_of_lt (Heap.lt_size z))];exact n,fun b o z h4=>⟨o,kp b o (ND h4).1 (ND h4).2 z⟩,
    fun b ys z=>by rw[aq (aL z vb)];exact z,fun b o u z=>by rw[aq (aL z vb)];exact z,fun b ps z=>⟨#[],by rw[aq (aL z vb),z];simp⟩⟩
  have I2:Inv X pins σ (upd H s.heap.objs.size (.tup [.int (i:Int),x])) {s with heap:=h2,toks:=s.toks+1}:=
   I.call (g':=s.gens) (d':=s.drawn) (t':=s.toks+1) (ch:=[e,it]) un bT I.bare fun b hb=>by
    rcases ot hb with rfl|rfl
    ·exact⟨f3,f1,f4,f5⟩
    ·exact⟨g3,g1,g4,g5⟩
  have i2:h2.IsListIter it a (i+1):=YM.at fun o z=>Tq.extBut it o (Ne.symm eE) z;refine⟨.ref s.heap.objs.size,_,I2,rfl,⟨_,x,vb,rfl,rfl,fun ys hy=>by rw[I.oM hy hq];exact hx⟩,⟨u,Tp,i2⟩,fun b hb=>?_⟩;rcases ot hb with rfl|rfl
  ·rw[aq hp];exact f0
  ·obtain⟨o,z,_⟩:=q2;rw[aq (Nat.ne_of_lt (Heap.lt_size z))];exact g0
 done:=by
  intro X e1 e2 e3 hc i pins s σ H E I hf q hg;subst e1 e2 e3;obtain⟨old,q1,q2⟩:=q;obtain⟨xs,hq,hx⟩:=hg;obtain⟨aX,rv,pl,hz⟩:=I.list hq;have hl:=rv.length;obtain⟨g0,g1,g2,g3,g4,g5⟩:=hf it (List.mem_cons_of_mem _ (List.mem_singleton.mpr rfl));exact wpAny_pyNext_enum_end (I.ok.hd hc) q1 q2 pl.isList (by simp;lia) fun h' eb=>⟨rfl,I.turned (t':=s.toks) (fun b o hb z=>eb b o hb z) g0 g1 g3 g4 g5⟩
 self:=fun _ _ _ _ _ q h=>let⟨_,q1,_⟩:=q;wpAny_pyIter_enum q1 h
noncomputable def Jv(K:PySem.W.Frag)(ta:TA):TI:=fun σ H R=>ta σ H fun vs H1=>∃a,vs=[.ref a]/\(∃xs,aW K H1 a xs)/\R (DF K a) H1
theorem sP{X:Cx}{es:List Expr}{k:Nat}{tp:Pos}{a:Expr}{ta:TA}{p pos:Pos}(hg:Gl X "enumerate")(hm:X.mg "enumerate"=none)(ha:PA X [a] ta)(hs:starEach [a] X.env=[(false,eval a X.env)]:=by rfl):
 PI X (.Tuple es k tp) (.Call (.Name "enumerate" p) [a] [] pos) (Jv X.K ta):=by
 intro pins s σ H R I h;refine Call_ (iM I hg hm boot_enumerate (PyProof.Rows.callWith_type1 (dr (ha pos pins s σ H _ I h) fun us s1 q1=>?_) hs rfl));obtain⟨vs,H1,I1,r1,l,rfl,⟨xs,hq⟩,q⟩:=q1;obtain⟨u,rfl,rx⟩:=vals1 r1;cases rx;obtain⟨aX,rv,pl,hz⟩:=I1.list hq;refine call_enumerate_list pl.isList fun h' he hit lr hk=>?_;have I2:Inv X pins σ H1 {s1 with heap:=h'}:=I1.kept (t':=s1.toks) hk;refine wpAny_pyIter_enum he ?_;have old:∀b,s1.heap.objs.size<=b->mI X pins H1 b:=fun b hb=>I1.xC hb (I1.bT.fresh hb);refine⟨_,[_,_],_,_,H1,rfl,I2,BS l _ _ (Nat.succ_ne_self _),⟨_,he,hit⟩,fun b hb=>?_,q⟩;rcases ot hb with rfl|rfl
 ·exact old _ (Nat.le_succ _)
 ·exact old _ (Nat.le_refl _)
theorem DG{P:Program}{w:World}{K:PySem.W.Frag}{tg:Expr}(a it:Addr)(n:Nat):Turn P w K tg (NC K a n) [it] it (fun i h=>i<=n/\h.IsRevIter it a ((n:Int)-1-(i:Nat))) where
 mem:=List.mem_singleton.mpr rfl
 obj:=fun i h q b hb=>by
  obtain rfl:=List.mem_singleton.mp hb;obtain⟨_,o,e,c,d⟩:=q;exact⟨o,e,fun v z=>by rw[d] at z;cases z⟩
 keep:=fun i h h' q kk=>⟨q.1,q.2.at fun o z=>kk it (List.mem_singleton.mpr rfl) o z⟩
 item:=by
  intro X e1 e2 e3 hc i pins s σ H E I hf q hg;subst e1 e2 e3;obtain⟨RB,q⟩:=q;obtain⟨hi,xs,x,hq,hx⟩:=hg;obtain⟨aX,rv,pl,hz⟩:=I.list hq;obtain⟨u,hu,ru⟩:=rv.get hx;obtain⟨f0,f1,f2,f3,f4,f5⟩:=hf it (List.mem_singleton.mpr rfl);have ei:(n:Int)-1-(i:Nat)=((n-1-i:Nat):Int):=by lia
  rw[ei] at q;refine wpAny_pyNext_rev_item q pl.isList (x:=u) (by simpa using hu) fun h' q' sb=>?_;have I1:Inv X pins σ H {s with heap:=h'}:=I.turned (t':=s.toks) (fun b o hb z=>sb.extBut b o hb z) f0 f1 f3 f4 f5;obtain⟨o,eo,co,YN⟩:=id q';refine⟨u,rfl,zU (s:={s with heap:=h'}) eo co YN (by decide) ⟨x,H,I1,ru,⟨rfl,fun ys hy=>by rw[I.oM hy hq];exact hx⟩,⟨by lia,?_⟩,fun b hb=>(hf b hb).1⟩⟩;have e2:(n:Int)-1-((i+1:Nat):Int)=((n-1-i:Nat):Int)-1:=by lia
  show h'.IsRevIter it a ((n:Int)-1-((i+1:Nat):Int));rw[e2];exact q'
 done:=by
  intro X e1 e2 e3 hc i pins s σ H E I hf q hg;subst e1 e2 e3;obtain⟨RB,q⟩:=q;have O2:i=n:=hg;subst O2;obtain⟨f0,f1,f2,f3,f4,f5⟩:=hf it (List.mem_singleton.mpr rfl);have ei:(i:Int)-1-(i:Nat)=-1:=by lia
  rw[ei] at q;exact wpAny_pyNext_rev_end (I.ok.hd hc) q fun h' eb=>⟨rfl,I.turned (t':=s.toks) (fun b o hb z=>eb b o hb z) f0 f1 f3 f4 f5⟩
 self:=fun _ _ _ _ _ q h=>wpAny_pyIter_revIter q.2 h
noncomputable def O3(K:PySem.W.Frag)(ta:TA):TI:=fun σ H R=>ta σ H fun vs H1=>∃a xs,vs=[.ref a]/\aW K H1 a xs/\R (NC K a xs.length) H1
theorem xX{X:Cx}{tg a:Expr}{ta:TA}{p pos:Pos}(hg:Gl X "reversed")(hm:X.mg "reversed"=none)(ha:PA X [a] ta)(hs:starEach [a] X.env=[(false,eval a X.env)]:=by rfl):
 PI X tg (.Call (.Name "reversed" p) [a] [] pos) (O3 X.K ta):=by
 intro pins s σ H R I h;refine Call_ (iM I hg hm boot_reversed (PyProof.Rows.callWith_type1 (dr (ha pos pins s σ H _ I h) fun us s1 q1=>?_) hs rfl));obtain⟨vs,H1,I1,r1,l,xs,rfl,hq,q⟩:=q1;obtain⟨u,rfl,rx⟩:=vals1 r1;cases rx;obtain⟨aX,rv,pl,hz⟩:=I1.list hq;refine call_reversed_list pl.isList ?_;have e0:(aX.toArray.size:Int)-1=(xs.length:Int)-1-((0:Nat):Int):=by rw[List.size_toArray,<-rv.length];simp
 rw[e0];have I2:Inv X pins σ H1 {s1 with heap:=s1.heap.push (revObj l ((xs.length:Int)-1-((0:Nat):Int)))}:=I1.kept (t':=s1.toks) fun b o e=>Heap.get?_push_of_some _ e;have q0:(s1.heap.push (revObj l ((xs.length:Int)-1-((0:Nat):Int)))).IsRevIter s1.heap.objs.size l ((xs.length:Int)-1-((0:Nat):Int)):=⟨_,Heap.get?_push_size _ rfl,rfl,rfl⟩;refine wpAny_pyIter_revIter q0 ?_;refine⟨_,[_],_,_,H1,rfl,I2,DG l _ xs.length,⟨Nat.zero_le _,q0⟩,fun b hb=>?_,q⟩;obtain rfl:=List.mem_singleton.mp hb;exact I1.xC (Nat.le_refl _) (I1.bT.fresh (Nat.le_refl _))
end L2
namespace L2
open PySem PySem.Spec PyProof.Rows
section
variable {prog:Program} {w:World} {A:Around} {R:Result->Shared->Prop} {s:Shared}
theorem BU{elt tg WA:Expr}{sc:Scope}{ps:Pos}{it acc:Value}{en:Env}(J:Nat->Shared->Prop)(turn:∀n s,J n s->wpAny (model prog w) A (pyNext it) (fun r s1=>match r with
 |none=>R (.ok .next) s1
 |some v=>wpAny (model prog w) A (letOwnedTupleGo tg it v) (fun _ s2=>wpAny (model prog w) A (assign tg en v) (fun _ s3=>wpAny (model prog w) A (eval elt en) (fun x s4=>
  wpAny (model prog w) A (call (.builtin "list.append") [acc,x]) (fun _ s5=>∃m,m<n/\J m s5) (fun _ _=>False) s4) (fun _ _=>False) s3) (fun _ _=>False) s2) (fun _ _=>False) s1) (fun _ _=>False) s)(n:Nat)(h:J n s):codeAny (model prog w) A (.compLoop (.ListComp elt [⟨tg,WA,[],0⟩] sc ps) 0 it acc en) R s:=by
 refine codeAny_loop rfl J (fun n s hJ=>?_) n h;show wpAny (model prog w) A ((compTurn (.ListComp elt [⟨tg,WA,[],0⟩] sc ps) 0 it acc en).onRaise (fun x=>do noteFrame x en;theTreesLotGoes x)) _ _ s;refine wpAny_noted ?_;rw[compTurn_list1];have no:∀{α:Type}{t:Sem α}{Q:α->Shared->Prop}{E:Value->Shared->Prop}{s:Shared},wpAny (model prog w) A t Q (fun _ _=>False) s->wpAny (model prog w) A t Q E s:=
  fun h=>wpAny_mono h (fun _ _ q=>q) fun _ _ z=>z.elim
 refine wpAny_bind (wpAny_standAt (wpAny_bind (dr (no (turn n s hJ)) fun r s1 h1=>?_)));cases r with
 |none=>exact wpAny_pure h1
 |some v=>
  refine wpAny_bind (dr (no h1) fun _ s2 h2=>?_);refine wpAny_bind (dr (no h2) fun _ s3 h3=>?_);refine wpAny_bind (wpAny_bind (dr (no h3) fun x s4 h4=>?_));refine wpAny_bind (dr (no h4) fun _ s5 h5=>?_);exact wpAny_pure (wpAny_pure ⟨rfl,h5⟩)
end
noncomputable def fz(X:Cx)(scope:Scope)(cl:List (Str×Addr))(C:Addr)(s:Shared)(H:Hp)(M:List Str)(ex:List Addr)(pins:List (Addr×Obj)):Cx:=
 {X with N:=M,fY:=s,BA:=H,env:=compEnvC scope cl C X.env,outer:=X.stack,ex:=ex,fn:=fun _=>false,pn:=X.pn++pins,xe:=fun _ _=>False}
structure oV(X:Cx)(scope:Scope)(cl:List (Str×Addr))(own:List Str)(fr:List Nat)(M:List Str):Prop where
 DH:closureFor scope X.env=pure cl
 kind:scope.kind=.function
 names:∀x∈scope.names,x.2=.local->scope.names.lookup x.1=some .local
 ju:∀x∈scope.names,x.2≠.cell
 cls:∀x c,cl.lookup x=some c->X.env.cells.lookup x=some c
 has:∀x,((relabel scope X.env).names.lookup x=some .cell\/(relabel scope X.env).names.lookup x=some .free)->∃c,cl.lookup x=some c
 len:M.length=own.length+fr.length
 Tt:∀(i:Nat) x,own[i]?=some x->M[i]?=some x
 Jw:∀(j i:Nat) x,fr[j]?=some i->M[own.length+j]?=some x->X.N[i]?=some x/\X.env.scope.names.lookup x=some .cell/\(∃c,cl.lookup x=some c)/\((relabel scope X.env).names.lookup x=some .cell\/(relabel scope X.env).names.lookup x=some .free)
noncomputable def iR(own:List Str)(fr:List Nat)(σ:St):St:=List.replicate own.length none++fr.map fun i=>(σ[i]?).join
section
variable {X:Cx} {pins:List (Addr×Obj)} {σ:St} {H:Hp} {s:Shared} {scope:Scope} {cl:List (Str×Addr)} {own:List Str} {fr:List Nat} {M:List Str}
theorem Inv.comp(I:Inv X pins σ H s)(K:oV X scope cl own fr M){fp:List Addr}(hf:∀b∈fp,mI X pins H b)(ho:∀b∈fp,∃o,s.heap.get? b=some o/\∀v,o.data≠.cell v){h':Heap}{m:Str->Option Value}{tk:Nat}(hn:h'.Ns s.heap.objs.size m)(hk:∀b u,s.heap.get? b=some u->h'.get? b=some u):
 Inv (fz X scope cl s.heap.objs.size s H M fp pins) [] (iR own fr σ) H {s with heap:=h',toks:=tk}:=by
 have hC:H s.heap.objs.size=none:=I.bT.fresh (Nat.le_refl _);have Tu:∀{b o},s.heap.get? b=some o->b≠s.heap.objs.size:=fun e=>Nat.ne_of_lt (Heap.lt_size e);have N9:∀x c,X.env.cells.lookup x=some c->c≠s.heap.objs.size:=fun x c e=>by
  obtain⟨v,o,q,_⟩:=I.cell x c e;exact Tu q
 have WB:∀b,b≠X.env.locals->b∉X.fs->b∉uN X.stack:=fun b h1 h2 z=>(List.mem_cons.mp (I.sF b z)).elim h1 h2;refine⟨⟨I.ok.mod,K.kind,I.ok.glob,I.ok.blt,Nat.le_refl _,fun x y c h1 h2=>I.ok.inj x y c (K.cls x c h1) (K.cls y c h2),fun x hx=>K.has x hx,(fun x c h _=>Bool.noConfusion h),I.ok.hd,I.ok.frames,.inl rfl,fun b hb=>?_,I.bs,Nat.le_trans I.ok.zR I.sz,fun b o e hb=>?_,fun b hb=>?_,I.stack,I.sG⟩,
  rfl,I.bare,Un.kept hk,⟨m,hn,fun i x v h1 h2 h3=>?_⟩,fun x c h=>?_,hC,fun x c h=>I.fO x c (K.cls x c h),fun p hp=>?_,I.bT.kept hk,?_⟩
 ·obtain⟨o,e,_⟩:=ho b hb;exact⟨Tu e,fun x c h z=>(hf b hb).2.2.2.2.1 x c (K.cls x c h) z⟩
 ·have:=(hf b hb);rcases this.2.2.2.1 with z|z
  ·exact I.ok.uV b o e z
  ·exact absurd (Nat.lt_of_lt_of_le (Heap.lt_size e) (Nat.le_trans I.ok.zR z)) (Nat.lt_irrefl _)
 ·exact WB b (hf b hb).2.1 (hf b hb).2.2.1
 ·unfold iR at h2;by_cases hi:i<own.length
  ·rw[List.getElem?_append_left (by simpa using hi),List.getElem?_replicate,if_pos hi] at h2;cases h2
  ·obtain⟨j,rfl⟩:∃j,i=own.length+j:=⟨i-own.length,by lia⟩;rw[List.getElem?_append_right (by simp),List.length_replicate,Nat.add_sub_cancel_left,List.getElem?_map] at h2;cases e:fr[j]? with
   |none=>rw[e] at h2;cases h2
   |some k=>
    rw[e] at h2;have RD:(σ[k]?).join=some v:=Option.some.inj h2;obtain⟨q1,q2,⟨c,q3⟩,q4⟩:=K.Jw j k x e h1;have h5:σ[k]?=some (some v):=by
     cases z:σ[k]? with
     |none=>rw[z] at RD;cases RD
     |some y=>
      rw[z] at RD;exact congrArg some RD
    obtain⟨m0,_,hl⟩:=I.loc;obtain⟨u,r,l⟩:=hl k x v q1 h5 (.inr (.inl q2));refine⟨u,r,.inr ⟨q4,c,q3,?_⟩⟩;rcases l with⟨k1,_⟩|⟨_,c',e1,z⟩
    ·have WC:X.env.scope.names.lookup x=some .local:=k1;rw[q2] at WC;cases WC
    ·have e2:=K.cls x c q3;rw[e1] at e2;cases e2;obtain⟨o,eo,ed⟩:=z;exact⟨o,hk _ _ eo,ed⟩
 ·obtain⟨v,o,eo,ed⟩:=I.cell x c (K.cls x c h);exact⟨v,o,hk _ _ eo,ed⟩
 ·have YO:p∈X.pn++pins:=by
   rcases List.mem_append.mp hp with z|z
   ·exact z
   ·cases z
  obtain⟨e,n,ne,nf,d⟩:=I.pin p YO;exact⟨hk _ _ e,n,Tu e,WB _ ne nf,d⟩
 ·unfold iR;rw[List.length_append,List.length_replicate,List.length_map];exact K.len.symm
theorem Inv.Lq{h:Heap}{s':Shared}{H':Hp}{bJ:St}{C:Addr}{fp:List Addr}(I:Inv X pins σ H s)(hf:∀b∈fp,mI X pins H b)(I':Inv (fz X scope cl C s H M fp pins) [] bJ H' s'):Inv X pins σ H' s':=
 I.Jf I'.os I'.base I'.bT I'.bare fun b hb=>⟨(hf b hb).2.2.2.1,(hf b hb).2.1,(hf b hb).2.2.2.2.1,(hf b hb).2.2.2.2.2⟩
noncomputable def Ag(own:List Str)(fr:List Nat)(wi:TI)(g:TG)(te:TE):TE:=fun σ H Q=>wi σ H fun J H1=>∀D,H1 D=none->∃W:Nat->Nat->St->Hp->Prop,(∃m,W 0 m (iR own fr σ) (upd H1 D (.lst [])))/\∀i m fP H2,W i m fP H2->
 (J.stop i H2/\Q (.ref D) H2)\/(J.go i H2/\∀x H3,J.xB i H2 x H3->g x fP H3 fun d_ H4=>te d_ H4 fun y H5=>∃ys,H5 D=some (.lst ys)/\ys.length<sizeLine/\∃m',m'<m/\W (i+1) m' d_ (upd H5 D (.lst (ys++[y]))))
theorem oW{elt tg iter:Expr}{ps:Pos}{g:TG}{te:TE}{it D:Addr}{fp:List Addr}{tn:Nat->Heap->Prop}{J:It}{H1:Hp}{s3:Shared}{W:Nat->Nat->St->Hp->Prop}{Qz:Hp->Prop}{Rz:Result->Shared->Prop}{C:Addr}(hc:X.calm=true)(K:oV X scope cl own fr M)(I3:Inv X pins σ H1 s3)(T:Turn X.prog X.w X.K tg J fp it tn)(st:tn 0 s3.heap)(hf:∀b∈fp,mI X pins H1 b)(hg:PG (fz X scope cl C s3 H1 M fp pins) tg g)(he:PE (fz X scope cl C s3 H1 M fp pins) elt te)(w0:∃m,W 0 m (iR own fr σ) H1)(turn:∀i m fP H2,W i m fP H2->(J.stop i H2/\Qz H2)\/(J.go i H2/\∀x H3,J.xB i H2 x H3->g x fP H3 fun d_ H4=>te d_ H4 fun y H5=>∃ys,H5 D=some (.lst ys)/\ys.length<sizeLine/\∃m',m'<m/\W (i+1) m' d_ (upd H5 D (.lst (ys++[y]))))){h':Heap}{m0:Str->Option Value}{tk:Nat}(hC:C=s3.heap.objs.size)(hn:h'.Ns C m0)(hk:∀b u,s3.heap.get? b=some u->h'.get? b=some u)(fin:∀s' H' m',Inv X pins σ H' s'->H' C=none->s'.heap.Ns C m'->Qz H'->Rz (.ok .next) s'):
 codeAny (model X.prog X.w) X.A (.compStart (.ListComp elt [⟨tg,iter,[],0⟩] scope ps) 0 (.ref it) (.ref D) (compEnvC scope cl C X.env)) Rz {s3 with heap:=h',toks:=tk}:=by
 subst hC;have I4:=I3.comp K hf (T.obj _ _ st) (tk:=tk) hn hk;have WD:tn 0 h':=T.keep _ _ _ st fun b _ o e=>hk b o e;have xE:∀{H':Hp},(∀b∈fp,H' b=none)->∀b∈fp,mI (fz X scope cl s3.heap.objs.size s3 H1 M fp pins) [] H' b:=fun{H'} hz b hb=>by
  obtain⟨o,e,_⟩:=T.obj _ _ st b hb;obtain⟨_,f1,f2,f3,f4,f5⟩:=hf b hb;refine⟨hz b hb,Nat.ne_of_lt (Heap.lt_size e),fun z=>(List.mem_cons.mp (I3.sF b z)).elim f1 f2,.inl hb,fun x c h=>f4 x c (K.cls x c h),fun p hp=>f5 p ?_⟩;rcases List.mem_append.mp hp with z|z
  ·exact z
  ·cases z
 have loop:codeAny (model X.prog X.w) X.A (.compLoop (.ListComp elt [⟨tg,iter,[],0⟩] scope ps) 0 (.ref it) (.ref D) (compEnvC scope cl s3.heap.objs.size X.env)) Rz {s3 with heap:=h',toks:=tk}:=by
  obtain⟨m,w0⟩:=w0;refine BU (fun n s'=>∃i bJ H',Inv (fz X scope cl s3.heap.objs.size s3 H1 M fp pins) [] bJ H' s'/\tn i s'.heap/\(∀b∈fp,H' b=none)/\W i n bJ H') (fun n s5 hJ=>?_) m ⟨0,_,H1,I4,WD,fun b hb=>(hf b hb).1,w0⟩;obtain⟨i,RE,H5,I5,Ny,Rr,w5⟩:=hJ;rcases turn i n RE H5 w5 with⟨stop,qz⟩|⟨go,step⟩
  ·refine dr (T.done (fz X scope cl s3.heap.objs.size s3 H1 M fp pins) rfl rfl rfl hc i [] s5 RE H5 _ I5 (xE Rr) Ny stop) fun r s6 q6=>?_;obtain⟨hr,I6⟩:=q6;subst hr;obtain⟨m6,n6,_⟩:=I6.loc;exact fin s6 H5 m6 (I3.Lq (h:=h') hf I6) I6.free n6 qz
  ·refine dr (T.item (fz X scope cl s3.heap.objs.size s3 H1 M fp pins) rfl rfl rfl hc i [] s5 RE H5 _ I5 (xE Rr) Ny go) fun r s6 q6=>?_;obtain⟨u,hr,h6⟩:=q6;subst hr;refine dr h6 fun _ s7 q7=>?_;obtain⟨x,H7,I7,r7,y7,Tv,YQ⟩:=q7;have YR:=I7.pinned (xE YQ) (T.obj _ _ Tv);refine dr (hg _ s7 RE H7 x u _ YR r7 (step x H7 y7)) fun _ s8 q8=>?_;obtain⟨Tx,H8,I8,q8⟩:=q8;refine dr (he _ s8 Tx H8 _ I8 q8) fun v s9 q9=>?_;obtain⟨y,H9,I9,r9,ys,hD,hz,m',hm,w9⟩:=q9;refine dr (fv (X:=fz X scope cl s3.heap.objs.size s3 H1 M fp pins) _ s9 Tx H9 (.ref D) [y] (.ref D) [v] (fun v' H'=>v'=.dU/\H'=upd H9 D (.lst (ys++[y]))) I9 rfl (.cons r9 .nil) ⟨D,ys,y,rfl,rfl,hD,hz,rfl,rfl⟩) fun v' Lr YS=>?_;obtain⟨v10,C6,Tz,_,rfl,rfl⟩:=YS;refine⟨m',hm,i+1,Tx,_,Tz.lB,T.keep _ _ _ Tv fun b hb o e=>(Tz.pin (b,o) (List.mem_append_right _ (List.mem_append_right _ (iO hb e)))).1,fun b hb=>?_,w9⟩;obtain⟨o,e,_⟩:=T.obj _ _ Tv b hb;exact(Tz.pin (b,o) (List.mem_append_right _ (List.mem_append_right _ (iO hb e)))).2.1
 exact codeAny_compStart_list loop (T.self X.A 0 _ _ _ WD loop)
theorem j4{elt tg iter:Expr}{ps:Pos}{wi:TI}{g:TG}{te:TE}(hc:X.calm=true)(hx:X.xe=fun _ _=>False)(K:oV X scope cl own fr M)(hi:PI X tg iter wi)(hg:∀C s3 H1 fp pins,PG (fz X scope cl C s3 H1 M fp pins) tg g)(he:∀C s3 H1 fp pins,PE (fz X scope cl C s3 H1 M fp pins) elt te)(hs:∀x,foldedSetIterable iter X.env x=pure x:=by intro _;rfl):PE X (.ListComp elt [⟨tg,iter,[],0⟩] scope ps) (Ag own fr wi g te):=by
 intro pins s σ H Q I h;rw[eval_ListComp];refine wpAny_comprehension_free (use:=none) rfl hs K.DH K.kind K.names ?_;show wpAny _ _ (eval iter X.env) _ _ _;refine dr (hi pins s σ H _ I h) fun v s1 h1=>dr h1 fun Rq s2 h2=>?_;obtain⟨it,fp,tn,J,H2,e,I2,T,KY,f2,hW⟩:=h2;subst e;refine wpAny_newObj_type (hd:=by size_fits) ?_;have I3:Inv X pins σ (upd H2 s2.heap.objs.size (.lst [])) {s2 with heap:=s2.heap.push {cls:=.type "list",dict:=none,data:=.seq ([]:List Value).toArray}}:=I2.Lc (t':=s2.toks) .nil (Nat.zero_le _);obtain⟨W,w0,turn⟩:=hW s2.heap.objs.size I2.fresh;have Nx:tn 0 (s2.heap.push {cls:=.type "list",dict:=none,data:=.seq ([]:List Value).toArray}):=T.keep _ _ _ KY fun b _ o e=>Heap.get?_push_of_some _ e;have f3:∀b∈fp,mI X pins (upd H2 s2.heap.objs.size (.lst [])) b:=fun b hb=>by
  obtain⟨o,e,_⟩:=T.obj _ _ KY b hb;obtain⟨f0,f'⟩:=f2 b hb;exact⟨by rw[aq (Nat.ne_of_lt (Heap.lt_size e))];exact f0,f'⟩
 refine wpAny_newFunctionEnv K.ju (fun y hy=>nomatch hy) (fun h' C7 Jx=>?_) K.kind;have hk:∀b u,(s2.heap.push {cls:=.type "list",dict:=none,data:=.seq ([]:List Value).toArray}).get? b=some u->h'.get? b=some u:=fun b u e=>
  Jx.extBut b u (Nat.ne_of_lt (Heap.lt_size e)) (Heap.get?_push_of_some _ e)
 refine oW (g:=g) (te:=te) (W:=W) (Qz:=fun H'=>Q (.ref s2.heap.objs.size) H') hc K I3 T Nx f3 (hg _ _ _ _ _) (he _ _ _ _ _) w0 turn rfl C7 hk fun s' H' m' J1 O4 TC qz=>?_;refine⟨m',TC,fun h2 sb=>⟨.ref s2.heap.objs.size,H',?_,rfl,qz⟩⟩;obtain⟨_,f1,_,TF,f4,f5⟩:=I3.xC (H':=H') (Nat.le_refl _) O4;exact J1.turned (t':=s'.toks) (fun b o hb e=>sb.extBut b o hb e) O4 f1 TF f4 f5
theorem G7{i:Nat}{y:Str}{py:Pos}{elt tg iter:Expr}{ps O5:Pos}{wi:TI}{g:TG}{te:TE}(hN:X.N.Nodup)(TH:X.N[i]?=some y)(hc:X.calm=true)(hx:X.xe=fun _ _=>False)(K:oV X scope cl own fr M)(hi:PI X tg iter wi)(hg:∀C s3 H1 fp pins,PG (fz X scope cl C s3 H1 M fp pins) tg g)(he:∀C s3 H1 fp pins,PE (fz X scope cl C s3 H1 M fp pins) elt te)(hy:X.env.scope.names.lookup y=some .local)(YT:swapsWith (.ListComp elt [⟨tg,iter,[],0⟩] scope ps) (some (.Name y py)) O5.line X.env=pure true:=by rfl)(hs:∀x,foldedSetIterable iter X.env x=pure x:=by intro _;rfl):PS X (.Assign [.Name y py] (.ListComp elt [⟨tg,iter,[],0⟩] scope ps) O5) (Dk (Ag own fr wi g te) (rk i)):=by
 intro pins s σ H D I h;rw[exec_Assign_Name_used _ _ _ _ YT];refine wpAny_bind (wpAny_standAt (wpAny_bind ?_));show wpAny _ _ (do let _<-comprehension (.ListComp elt [⟨tg,iter,[],0⟩] scope ps) scope X.env _ (newList []) false (eval iter X.env) (some (assign (.Name y py) X.env))) _ _ s;refine wpAny_bind (dr (Q:=fun _ s'=>SP X pins D .next s') (wpAny_comprehension_free (use:=some (assign (.Name y py) X.env)) rfl hs K.DH K.kind K.names ?_) fun _ s' q=>wpAny_pure (wpAny_pure q));refine dr (hi pins s σ H _ I h) fun v s1 h1=>dr h1 fun Rq s2 h2=>?_;obtain⟨it,fp,tn,J,H2,e,I2,T,KY,f2,hW⟩:=h2;subst e;refine wpAny_newObj_type (hd:=by size_fits) ?_;have I3:Inv X pins σ (upd H2 s2.heap.objs.size (.lst [])) {s2 with heap:=s2.heap.push {cls:=.type "list",dict:=none,data:=.seq ([]:List Value).toArray}}:=I2.Lc (t':=s2.toks) .nil (Nat.zero_le _);obtain⟨W,w0,turn⟩:=hW s2.heap.objs.size I2.fresh;have Nx:tn 0 (s2.heap.push {cls:=.type "list",dict:=none,data:=.seq ([]:List Value).toArray}):=T.keep _ _ _ KY fun b _ o e=>Heap.get?_push_of_some _ e;have f3:∀b∈fp,mI X pins (upd H2 s2.heap.objs.size (.lst [])) b:=fun b hb=>by
  obtain⟨o,e,_⟩:=T.obj _ _ KY b hb;obtain⟨f0,f'⟩:=f2 b hb;exact⟨by rw[aq (Nat.ne_of_lt (Heap.lt_size e))];exact f0,f'⟩
 refine wpAny_newFunctionEnv K.ju (fun y hy=>nomatch hy) (fun h' C7 Jx=>?_) K.kind;have hk:∀b u,(s2.heap.push {cls:=.type "list",dict:=none,data:=.seq ([]:List Value).toArray}).get? b=some u->h'.get? b=some u:=fun b u e=>
  Jx.extBut b u (Nat.ne_of_lt (Heap.lt_size e)) (Heap.get?_push_of_some _ e)
 refine oW (g:=g) (te:=te) (W:=W) (Qz:=fun H'=>rk i (.ref s2.heap.objs.size) σ H' D.nx) hc K I3 T Nx f3 (hg _ _ _ _ _) (he _ _ _ _ _) w0 turn rfl C7 hk fun s' H' m' J1 O4 TC qz=>?_;show wpAny _ _ (assign (.Name y py) X.env (.ref s2.heap.objs.size)) _ _ s';obtain⟨_,f1,_,TF,f4,f5⟩:=I3.xC (H':=H') (Nat.le_refl _) O4;refine wpAny_assign_Name (rj J1 hN TH (.inl hy) (v:=.ref s2.heap.objs.size) rfl (fun s4 J2 sb=>?_) (.inr hy));obtain⟨a,sa,TJ⟩:=sb;have eE:(s2.heap.push {cls:=.type "list",dict:=none,data:=.seq ([]:List Value).toArray}).objs.size≠a:=by
  rcases TJ with z|z
  ·rw[z];exact f1
  ·exact fun e=>f4 y a z e.symm
 refine⟨m',TC.sameBut sa eE,fun h2 YU=>⟨_,H',?_,qz⟩⟩;exact J2.turned (t':=s4.toks) (fun b o hb e=>YU.extBut b o hb e) O4 f1 TF f4 f5
end
end L2
namespace L2
open PySem PySem.Spec PyProof.Rows
section
variable {X:Cx}
end
end L2
namespace L2
open PySem PySem.Spec PyProof.Rows
noncomputable def DI(env:Env):List (Str×Addr)->Prop
 |[]=>True
 |p::r=>env.cells.lookup p.1=some p.2/\DI env r
noncomputable def vc(X:Cx)(scope:Scope)(cl:List (Str×Addr)):List Nat->List Str->Prop
 |[],[]=>True
 |i::r,x::y=>(X.N[i]?=some x/\X.env.scope.names.lookup x=some .cell/\(cl.lookup x).isSome=true/\((relabel scope X.env).names.lookup x=some .cell\/(relabel scope X.env).names.lookup x=some .free))/\vc X scope cl r y
 |_,_=>False
theorem DI.get{env:Env}:∀{cl:List (Str×Addr)},DI env cl->∀x c,cl.lookup x=some c->env.cells.lookup x=some c
 |[],_,x,c,h=>by simp at h
 |(y,d)::r,k,x,c,h=>by
  rw[List.lookup_cons] at h;cases e:x==y with
  |true=>
   rw[e] at h;have e1:x=y:=eq_of_beq e;have e2:d=c:=Option.some.inj h;rw[e1,<-e2];exact k.1
  |false=>
   rw[e] at h;exact DI.get k.2 x c h
theorem vc.len{X:Cx}{scope:Scope}{cl:List (Str×Addr)}:∀{fr:List Nat}{fs:List Str},vc X scope cl fr fs->fr.length=fs.length
 |[],[],_=>rfl
 |_::r,_::y,h=>congrArg Nat.succ (vc.len (fr:=r) (fs:=y) h.2)
 |[],_::_,h=>h.elim
 |_::_,[],h=>h.elim
theorem vc.get{X:Cx}{scope:Scope}{cl:List (Str×Addr)}:∀{fr:List Nat}{fs:List Str},vc X scope cl fr fs->∀(j i:Nat) x,fr[j]?=some i->fs[j]?=some x->
 X.N[i]?=some x/\X.env.scope.names.lookup x=some .cell/\(∃c,cl.lookup x=some c)/\((relabel scope X.env).names.lookup x=some .cell\/(relabel scope X.env).names.lookup x=some .free)
 |[],[],_,j,i,x,h,_=>by simp at h
 |k::r,z::y,H,0,i,x,h1,h2=>by
  simp at h1 h2;subst h1 h2;exact⟨H.1.1,H.1.2.1,Option.isSome_iff_exists.mp H.1.2.2.1,H.1.2.2.2⟩
 |k::r,z::y,H,j+1,i,x,h1,h2=>vc.get (fr:=r) (fs:=y) H.2 j i x (by simpa using h1) (by simpa using h2)
 |[],_::_,h,_,_,_,_,_=>h.elim
 |_::_,[],h,_,_,_,_,_=>h.elim
theorem kC{X:Cx}{scope:Scope}{cl:List (Str×Addr)}{own fs:List Str}{fr:List Nat}(DH:closureFor scope X.env=pure cl)(kind:scope.kind=.function)(names:∀x∈scope.names,x.2=.local->scope.names.lookup x.1=some .local)(ju:∀x∈scope.names,x.2≠.cell)(c:DI X.env cl)(h:((relabel scope X.env).names.all fun p=>!(p.2==.cell||p.2==.free)||(cl.lookup p.1).isSome)=true)(f:vc X scope cl fr fs):oV X scope cl own fr (own++fs) where
 DH:=DH
 kind:=kind
 names:=names
 ju:=ju
 cls:=c.get
 has:=fun x hx=>by
  have hm:∃k,(x,k)∈(relabel scope X.env).names/\(k=.cell\/k=.free):=by
   rcases hx with z|z
   ·exact⟨_,PySem.mem_of_lookup z,.inl rfl⟩
   ·exact⟨_,PySem.mem_of_lookup z,.inr rfl⟩
  obtain⟨k,hk,TK⟩:=hm;have:=List.all_eq_true.mp h (x,k) hk;rcases TK with rfl|rfl
  ·exact Option.isSome_iff_exists.mp (by simpa using this)
  ·exact Option.isSome_iff_exists.mp (by simpa using this)
 len:=by rw[List.length_append,f.len]
 Tt:=fun i x hi=>by
  rw[List.getElem?_append_left (List.getElem?_eq_some_iff.mp hi).1];exact hi
 Jw:=fun j i x h1 h2=>by
  rw[List.getElem?_append_right (Nat.le_add_right _ _),Nat.add_sub_cancel_left] at h2;exact f.get j i x h1 h2
noncomputable def vd(fr:List Nat)(σ:St):St:=fr.map fun i=>(σ[i]?).join
section
variable {own:List Str} {fr:List Nat} {g:TG} {te:TE} {σ:St} {H1:Hp} {Q:VK}
theorem Ah{J:It}(n:Nat)(Pv:List V->Prop)(hz:n<=sizeLine)(p0:Pv [])(hs:∀(i:Nat)(r:St)(ys:List V)(H2:Hp),i<n->r.length=own.length->ys.length=i->Pv ys->av H1 H2->J.go i H2/\∀x H3,J.xB i H2 x H3->av H2 H3/\∀Z:V->St->Hp->Prop,(∀y d_ H5,av H3 H5->Pv (ys++[y])->(∃r',r'.length=own.length/\d_=r'++vd fr σ)->Z y d_ H5)->g x (r++vd fr σ) H3 fun d_ H4=>te d_ H4 fun y H5=>Z y d_ H5)(he:∀H2,av H1 H2->J.stop n H2)(hq:∀D H2 ys,H1 D=none->av H1 H2->H2 D=some (.lst ys)->ys.length=n->Pv ys->Q (.ref D) H2):
 ∀D,H1 D=none->∃W:Nat->Nat->St->Hp->Prop,(∃m,W 0 m (iR own fr σ) (upd H1 D (.lst [])))/\∀i m fP H2,W i m fP H2->
  (J.stop i H2/\Q (.ref D) H2)\/(J.go i H2/\∀x H3,J.xB i H2 x H3->g x fP H3 fun d_ H4=>te d_ H4 fun y H5=>∃ys,H5 D=some (.lst ys)/\ys.length<sizeLine/\∃m',m'<m/\W (i+1) m' d_ (upd H5 D (.lst (ys++[y])))):=by
 intro D hD;refine⟨fun i m fP H2=>m=n-i/\i<=n/\av H1 H2/\(∃r:St,r.length=own.length/\fP=r++vd fr σ)/\∃ys,ys.length=i/\Pv ys/\H2 D=some (.lst ys),⟨n,rfl,Nat.zero_le _,av.new hD _,⟨_,List.length_replicate,rfl⟩,[],rfl,p0,ai⟩,fun i m fP H2 w=>?_⟩;obtain⟨rfl,hi,eT,⟨r,hr,rfl⟩,ys,hl,hp,hy⟩:=w;by_cases eM:i<n
 ·obtain⟨go,st⟩:=hs i r ys H2 eM hr hl hp eT;refine .inr ⟨go,fun x H3 y=>?_⟩;obtain⟨RF,gg⟩:=st x H3 y;refine gg (fun v d_ H5=>∃ys,H5 D=some (.lst ys)/\ys.length<sizeLine/\∃m',m'<n-i/\(m'=n-(i+1)/\i+1<=n/\av H1 (upd H5 D (.lst (ys++[v])))/\(∃r:St,r.length=own.length/\d_=r++vd fr σ)/\∃zs,zs.length=i+1/\Pv zs/\upd H5 D (.lst (ys++[v])) D=some (.lst zs))) fun v d_ H5 DJ pv⟨r',Ls,e⟩=>?_;refine⟨ys,DJ _ _ (RF _ _ hy),by lia,n-(i+1),by lia,rfl,eM,fun b o q=>?_,⟨r',Ls,e⟩,ys++[v],by rw[List.length_append,hl];rfl,pv,ai⟩;rw[aq (aL q hD)];exact DJ _ _ (RF _ _ (eT _ _ q))
 ·obtain rfl:i=n:=by lia
  exact .inl ⟨he H2 eT,hq D H2 ys hD eT hy hl hp⟩
theorem rE{K:PySem.W.Frag}{a:Addr}{xs:List V}(hS:aW K H1 a xs)(Pv:List V->Prop)(hz:xs.length<=sizeLine)(p0:Pv [])(hs:∀(i:Nat)(x:V)(r:St)(ys:List V)(H2:Hp),xs[i]?=some x->r.length=own.length->ys.length=i->Pv ys->av H1 H2->∀Z:V->St->Hp->Prop,(∀y d_ H5,av H2 H5->Pv (ys++[y])->(∃r',r'.length=own.length/\d_=r'++vd fr σ)->Z y d_ H5)->g x (r++vd fr σ) H2 fun d_ H4=>te d_ H4 fun y H5=>Z y d_ H5)(hq:∀D H2 ys,H1 D=none->av H1 H2->H2 D=some (.lst ys)->ys.length=xs.length->Pv ys->Q (.ref D) H2):
 ∀D,H1 D=none->∃W:Nat->Nat->St->Hp->Prop,(∃m,W 0 m (iR own fr σ) (upd H1 D (.lst [])))/\∀i m fP H2,W i m fP H2->
  ((uO K a).stop i H2/\Q (.ref D) H2)\/((uO K a).go i H2/\∀x H3,(uO K a).xB i H2 x H3->g x fP H3 fun d_ H4=>te d_ H4 fun y H5=>∃ys,H5 D=some (.lst ys)/\ys.length<sizeLine/\∃m',m'<m/\W (i+1) m' d_ (upd H5 D (.lst (ys++[y])))):=
 Ah xs.length Pv hz p0 (fun i r ys H2 hi hr hl hp eT=>⟨⟨xs,xs[i],eT.seq hS,by simp[hi]⟩,fun x H3 y=>by
  obtain⟨rfl,y⟩:=y
  exact⟨av.refl _,hs i x r ys _ (y xs (eT.seq hS)) hr hl hp eT⟩⟩) (fun H2 eT=>⟨xs,eT.seq hS,Nat.le_refl _⟩) hq
theorem BV{K:PySem.W.Frag}{a:Addr}{xs:List V}(hS:aW K H1 a xs)(Pv:List V->Prop)(hz:xs.length<=sizeLine)(p0:Pv [])(hs:∀(i:Nat)(x:V)(p:Addr)(r:St)(ys:List V)(H2:Hp),xs[i]?=some x->r.length=own.length->ys.length=i->Pv ys->av H1 H2->H2 p=some (.tup [.int (i:Int),x])->
 ∀Z:V->St->Hp->Prop,(∀y d_ H5,av H2 H5->Pv (ys++[y])->(∃r',r'.length=own.length/\d_=r'++vd fr σ)->Z y d_ H5)->g (.ref p) (r++vd fr σ) H2 fun d_ H4=>te d_ H4 fun y H5=>Z y d_ H5)(hq:∀D H2 ys,H1 D=none->av H1 H2->H2 D=some (.lst ys)->ys.length=xs.length->Pv ys->Q (.ref D) H2):
 ∀D,H1 D=none->∃W:Nat->Nat->St->Hp->Prop,(∃m,W 0 m (iR own fr σ) (upd H1 D (.lst [])))/\∀i m fP H2,W i m fP H2->
  ((DF K a).stop i H2/\Q (.ref D) H2)\/((DF K a).go i H2/\∀x H3,(DF K a).xB i H2 x H3->g x fP H3 fun d_ H4=>te d_ H4 fun y H5=>∃ys,H5 D=some (.lst ys)/\ys.length<sizeLine/\∃m',m'<m/\W (i+1) m' d_ (upd H5 D (.lst (ys++[y])))):=
 Ah xs.length Pv hz p0 (fun i r ys H2 hi hr hl hp eT=>⟨⟨xs,xs[i],eT.seq hS,by simp[hi]⟩,fun x H3 y=>by
  obtain⟨p,z,hn,rfl,rfl,y⟩:=y
  exact⟨av.new hn _,hs i z p r ys _ (y xs (eT.seq hS)) hr hl hp (eT.trans (av.new hn _)) ai⟩⟩) (fun H2 eT=>⟨xs,eT.seq hS,Nat.le_refl _⟩) hq
end
theorem ve{K:PySem.W.Frag}{a:Addr}{xs:List V}{g:TG}{tb:TS}{D:Ends}{σ:St}{H:Hp}(Pv:Nat->St->Hp->Prop)(h0:Pv 0 σ H)(hl:∀i σ H,i<=xs.length->Pv i σ H->aW K H a xs)(hs:∀i x p σ H,xs[i]?=some x->H p=none->Pv i σ H->g (.ref p) σ (upd H p (.tup [.int (i:Int),x])) fun fP H2=>tb {D with nx:=Pv (i+1),ct:=Pv (i+1),bk:=D.nx} fP H2)(hd:∀σ H,Pv xs.length σ H->D.nx σ H):
 ∃W:Nat->Nat->St->Hp->Prop,(∃m,W 0 m σ H)/\∀i m σ H,W i m σ H->
  ((DF K a).stop i H/\D.nx σ H)\/((DF K a).go i H/\∃N:St->Hp->Prop,(∀bJ H',N bJ H'->∃m',m'<m/\W (i+1) m' bJ H')/\∀x H',(DF K a).xB i H x H'->g x σ H' fun fP H2=>tb {D with nx:=N,ct:=N,bk:=D.nx} fP H2):=by
 refine⟨fun i m σ H=>m=xs.length-i/\i<=xs.length/\Pv i σ H,⟨xs.length,rfl,Nat.zero_le _,h0⟩,fun i m σ H w=>?_⟩;obtain⟨rfl,hi,p⟩:=w;have q:=hl i σ H hi p;by_cases eM:i<xs.length
 ·refine .inr ⟨⟨xs,xs[i],q,by simp[eM]⟩,Pv (i+1),fun bJ H' p'=>⟨xs.length-(i+1),by lia,rfl,eM,p'⟩,fun x H' y=>?_⟩;obtain⟨t,z,hn,rfl,rfl,y⟩:=y;exact hs i z t σ H (y xs q) hn p
 ·obtain rfl:i=xs.length:=by lia
  exact .inl ⟨⟨xs,q,Nat.le_refl _⟩,hd σ H p⟩
theorem sQ{K:PySem.W.Frag}{a:Addr}{xs:List V}{g:TG}{tb:TS}{D:Ends}{σ:St}{H:Hp}(Pv:Nat->St->Hp->Prop)(h0:Pv 0 σ H)(hl:∀i σ H,i<=xs.length->Pv i σ H->aW K H a xs)(hs:∀i x σ H,i<xs.length->xs[xs.length-1-i]?=some x->Pv i σ H->g x σ H fun fP H2=>tb {D with nx:=Pv (i+1),ct:=Pv (i+1),bk:=D.nx} fP H2)(hd:∀σ H,Pv xs.length σ H->D.nx σ H):
 ∃W:Nat->Nat->St->Hp->Prop,(∃m,W 0 m σ H)/\∀i m σ H,W i m σ H->
  ((NC K a xs.length).stop i H/\D.nx σ H)\/((NC K a xs.length).go i H/\∃N:St->Hp->Prop,(∀bJ H',N bJ H'->∃m',m'<m/\W (i+1) m' bJ H')/\∀x H',(NC K a xs.length).xB i H x H'->g x σ H' fun fP H2=>tb {D with nx:=N,ct:=N,bk:=D.nx} fP H2):=by
 refine⟨fun i m σ H=>m=xs.length-i/\i<=xs.length/\Pv i σ H,⟨xs.length,rfl,Nat.zero_le _,h0⟩,fun i m σ H w=>?_⟩;obtain⟨rfl,hi,p⟩:=w;have q:=hl i σ H hi p;by_cases eM:i<xs.length
 ·have hx:xs.length-1-i<xs.length:=by lia
  refine .inr ⟨⟨eM,xs,xs[xs.length-1-i],q,List.getElem?_eq_getElem hx⟩,Pv (i+1),fun bJ H' p'=>⟨xs.length-(i+1),by lia,rfl,eM,p'⟩,fun x H' y=>?_⟩;obtain⟨rfl,y⟩:=y;exact hs i x σ _ eM (y xs q) p
 ·obtain rfl:i=xs.length:=by lia
  exact .inl ⟨rfl,hd σ H p⟩
theorem cC{c:TT}{tb:TS}{D:Ends}{σ:St}{H:Hp}(Pv:Nat->St->Hp->Prop)(h0:∃m,Pv m σ H)(hs:∀m σ H,Pv m σ H->c σ H fun b H1=>if b=true then ∃N:St->Hp->Prop,(∀bJ H',N bJ H'->∃m',m'<m/\Pv m' bJ H')/\tb {D with nx:=N,ct:=N,bk:=D.nx} σ H1 else D.nx σ H1):Dl c tb D σ H:=⟨Pv,h0,hs⟩
section
variable {σ:St} {H:Hp} {R:It->Hp->Prop} {tl:TE} {tr:TA} {Q:VK}
theorem G8{K:PySem.W.Frag}(h:tl σ H fun x H1=>∃a,x=.ref a/\(∃xs,aW K H1 a xs)/\R (uO K a) H1):Jl K tl σ H R:=h
theorem Lu(h:tr σ H fun vs H1=>∃j:Int,vs=[.int j]/\-(2^62)<=j/\j<2^62/\R (GQ 0 j.toNat) H1):Jm tr σ H R:=h
theorem Lv(h:tr σ H fun vs H1=>∃i j:Int,vs=[.int i,.int j]/\(-(2^62)<=i/\i<2^62/\-(2^62)<=j/\j<2^62)/\R (GQ i (j-i).toNat) H1):Oo tr σ H R:=h
theorem G9{K:PySem.W.Frag}(h:tr σ H fun vs H1=>∃a,vs=[.ref a]/\(∃xs,aW K H1 a xs)/\R (DF K a) H1):Jv K tr σ H R:=h
theorem Lw{K:PySem.W.Frag}(h:tr σ H fun vs H1=>∃a xs,vs=[.ref a]/\aW K H1 a xs/\R (NC K a xs.length) H1):O3 K tr σ H R:=h
theorem Lx{te:TE}{S:Option Int->Hp->Prop}(h:te σ H fun x H1=>∃i,x=.int i/\S (some i) H1):Js te σ H S:=h
theorem DK{S:Option Int->Hp->Prop}(h:S none H):Aa σ H S:=h
theorem G_{r:V->Option Int->Option Int->Hp->VK->Prop}{WE WG:TO}(h:tl σ H fun x H1=>WE σ H1 fun l H2=>WG σ H2 fun u H3=>r x l u H3 Q):Wx r tl WE WG σ H Q:=h
theorem O6{to ti:TE}{t:GP}{v:V}{S:St->Hp->Prop}(h:to σ H fun o H1=>ti σ H1 fun i H2=>t o i v H2 fun H3=>S σ H3):Ol to ti t v σ H S:=h
end
theorem xY{K:PySem.W.Frag}{H:Hp}{p:Addr}{xs:List V}{R:Bool->Prop}(hs:aW K H p xs)(h:R (!xs.isEmpty)):∃k,GU K (.ref p) H k/\R k:=⟨_,.inl ⟨xs,hs,rfl⟩,h⟩
end L2
namespace SF
open Lean.Grind
section
variable {R:Type} [CommRing R]
noncomputable def aF(f:Nat->R):Nat->R
 |0=>0
 |n+1=>aF f n+f n
theorem aN{f g:Nat->R}:∀{n:Nat},(∀i,i<n->f i=g i)->aF f n=aF g n
 |0,_=>rfl
 |n+1,h=>by
  show aF f n+f n=aF g n+g n;rw[aN (fun i hi=>h i (Nat.lt_succ_of_lt hi)),h n (Nat.lt_succ_self n)]
theorem e_(f g:Nat->R):∀n,aF (fun i=>f i+g i) n=aF f n+aF g n
 |0=>by show(0:R)=0+0;grind
 |n+1=>by
  show aF (fun i=>f i+g i) n+(f n+g n)=aF f n+f n+(aF g n+g n);rw[e_ f g n];grind
theorem cD(c:R)(f:Nat->R):∀n,aF (fun i=>c*f i) n=c*aF f n
 |0=>by show(0:R)=c*0;grind
 |n+1=>by
  show aF (fun i=>c*f i) n+c*f n=c*(aF f n+f n);rw[cD c f n];grind
theorem j5(c:R)(f:Nat->R)(n:Nat):aF (fun i=>f i*c) n=aF f n*c:=by
 rw[aN (g:=fun i=>c*f i) (fun i _=>by grind),cD];grind
theorem rF(n:Nat):aF (fun _=>(0:R)) n=0:=by
 induction n with
 |zero=>rfl
 |succ n ih=>show aF (fun _=>(0:R)) n+0=0;rw[ih];grind
theorem cE{f:Nat->R}{n:Nat}(h:∀i,i<n->f i=0):aF f n=0:=by
 rw[aN h,rF]
theorem eN(f:Nat->R):∀n,aF f (n+1)=f 0+aF (fun i=>f (i+1)) n
 |0=>by show(0:R)+f 0=f 0+0;grind
 |n+1=>by
  show aF f (n+1)+f (n+1)=f 0+(aF (fun i=>f (i+1)) n+f (n+1));rw[eN f n];grind
theorem cF(f:Nat->R)(m:Nat):∀n,aF f (m+n)=aF f m+aF (fun i=>f (m+i)) n
 |0=>by show aF f m=aF f m+0;grind
 |n+1=>by
  show aF f (m+n)+f (m+n)=aF f m+(aF (fun i=>f (m+i)) n+f (m+n));rw[cF f m n];grind
theorem vf(f:Nat->R):∀n,aF f (n+1)=aF (fun i=>f (n-i)) (n+1)
 |0=>rfl
 |n+1=>by
  rw[eN (fun i=>f (n+1-i)) (n+1)];show aF f (n+1)+f (n+1)=f (n+1)+aF (fun i=>f (n+1-(i+1))) (n+1);rw[vf f n,aN (f:=fun i=>f (n+1-(i+1))) (g:=fun i=>f (n-i)) (fun i _=>by rw[Nat.add_sub_add_right])];grind
theorem oX(F:Nat->Nat->R):∀n,aF (fun i=>aF (fun j=>F j (i-j)) (i+1)) n=aF (fun j=>aF (fun k=>F j k) (n-j)) n
 |0=>rfl
 |n+1=>by
  show aF (fun i=>aF (fun j=>F j (i-j)) (i+1)) n+aF (fun j=>F j (n-j)) (n+1)=aF (fun j=>aF (fun k=>F j k) (n+1-j)) n+aF (fun k=>F n k) (n+1-n);rw[oX F n];have e1:aF (fun j=>aF (fun k=>F j k) (n+1-j)) n=aF (fun j=>aF (fun k=>F j k) (n-j)+F j (n-j)) n:=by
   refine aN fun j hj=>?_;have e:n+1-j=(n-j)+1:=by lia
   rw[e];rfl
  rw[e1,e_];have e2:n+1-n=1:=by lia
  rw[e2];show _+(aF (fun j=>F j (n-j)) n+F n (n-n))=_+(0+F n 0);rw[Nat.sub_self];grind
end
structure PS(R:Type) where
 c:Nat->R
namespace PS
variable {R:Type} [CommRing R]
theorem ext{f g:PS R}(h:∀i,f.c i=g.c i):f=g:=by
 cases f;cases g;congr;exact funext h
noncomputable def TM(f g:PS R):PS R:=⟨fun i=>f.c i+g.c i⟩
noncomputable def TN(f g:PS R):PS R:=⟨fun n=>aF (fun i=>f.c i*g.c (n-i)) (n+1)⟩
noncomputable def TQ(f:PS R):PS R:=⟨fun i=>-f.c i⟩
noncomputable def TR(f g:PS R):PS R:=⟨fun i=>f.c i-g.c i⟩
noncomputable def C(a:R):PS R:=⟨fun i=>if i=0 then a else 0⟩
noncomputable instance:Add (PS R):=⟨TM⟩
noncomputable instance:Mul (PS R):=⟨TN⟩
noncomputable instance:Neg (PS R):=⟨TQ⟩
noncomputable instance:Sub (PS R):=⟨TR⟩
theorem oY(f g:PS R)(i:Nat):(f+g).c i=f.c i+g.c i:=rfl
theorem DL(f:PS R)(i:Nat):(-f).c i=-f.c i:=rfl
theorem Ly(f g:PS R)(i:Nat):(f-g).c i=f.c i-g.c i:=rfl
theorem dM(f g:PS R)(n:Nat):(f*g).c n=aF (fun i=>f.c i*g.c (n-i)) (n+1):=rfl
theorem oZ(a:R)(i:Nat):(C a).c i=if i=0 then a else 0:=rfl
theorem mul_comm(f g:PS R):f*g=g*f:=by
 apply ext;intro n;rw[dM,dM,vf];refine aN fun i hi=>?_;have e:n-(n-i)=i:=by lia
 rw[e];grind
theorem nG(a:R)(f:PS R)(n:Nat):(C a*f).c n=a*f.c n:=by
 rw[dM,eN];rw[cE (fun i _=>by rw[oZ,if_neg (by lia)];grind)];rw[oZ,if_pos rfl,Nat.sub_zero];grind
theorem mul_assoc(f g h:PS R):f*g*h=f*(g*h):=by
 apply ext;intro n;rw[dM,dM];have e1:aF (fun i=>(f*g).c i*h.c (n-i)) (n+1)=aF (fun i=>aF (fun j=>(fun j k=>f.c j*g.c k*h.c (n-(j+k))) j (i-j)) (i+1)) (n+1):=by
  refine aN fun i hi=>?_;rw[dM,<-j5];refine aN fun j hj=>?_;show f.c j*g.c (i-j)*h.c (n-i)=f.c j*g.c (i-j)*h.c (n-(j+(i-j)));have e:j+(i-j)=i:=by lia
  rw[e]
 have e2:aF (fun i=>f.c i*(g*h).c (n-i)) (n+1)=aF (fun j=>aF (fun k=>(fun j k=>f.c j*g.c k*h.c (n-(j+k))) j k) (n+1-j)) (n+1):=by
  refine aN fun j hj=>?_;rw[dM,<-cD];have e:n+1-j=n-j+1:=by lia
  rw[e];refine aN fun k hk=>?_;show f.c j*(g.c k*h.c (n-j-k))=f.c j*g.c k*h.c (n-(j+k));have e:n-j-k=n-(j+k):=by lia
  rw[e];grind
 rw[e1,e2];exact oX (fun j k=>f.c j*g.c k*h.c (n-(j+k))) (n+1)
theorem add_mul(f g h:PS R):(f+g)*h=f*h+g*h:=by
 apply ext;intro n;rw[dM,oY,dM,dM,<-e_];exact aN fun i _=>by rw[oY];grind
theorem one_mul(f:PS R):C 1*f=f:=by
 apply ext;intro n;rw[nG];grind
theorem DM(a b:R):C (a+b)=C a+C b:=by
 apply ext;intro i;rw[oY,oZ,oZ,oZ];split<;>grind
theorem Ai(a:R):C (-a)=-C a:=by
 apply ext;intro i;rw[DL,oZ,oZ];split<;>grind
theorem ig(i:Nat):(C (0:R)).c i=0:=by rw[oZ];split<;>rfl
noncomputable instance instNatCast:NatCast (PS R):=⟨fun n=>C (@NatCast.natCast R Semiring.natCast n)⟩
noncomputable instance instIntCast:IntCast (PS R):=⟨fun n=>C (@IntCast.intCast R Ring.intCast n)⟩
noncomputable instance instOfNat(n:Nat):OfNat (PS R) n:=⟨C (@OfNat.ofNat R n (Semiring.ofNat n))⟩
noncomputable def O7(f:PS R):Nat->PS R
 |0=>C 1
 |n+1=>O7 f n*f
noncomputable instance instHPow:HPow (PS R) Nat (PS R):=⟨O7⟩
noncomputable instance ij:SMul Nat (PS R):=⟨fun n f=>C (@NatCast.natCast R Semiring.natCast n)*f⟩
noncomputable instance ik:SMul Int (PS R):=⟨fun n f=>C (@IntCast.intCast R Ring.intCast n)*f⟩
noncomputable instance instCommRing:CommRing (PS R) where
 natCast:=instNatCast
 ofNat:=instOfNat
 nsmul:=ij
 npow:=instHPow
 intCast:=instIntCast
 zsmul:=ik
 add_zero f:=by apply ext;intro i;show f.c i+(C (0:R)).c i=f.c i;rw[ig];grind
 add_comm f g:=by apply ext;intro i;show f.c i+g.c i=g.c i+f.c i;grind
 add_assoc f g h:=by apply ext;intro i;show f.c i+g.c i+h.c i=f.c i+(g.c i+h.c i);grind
 mul_assoc:=mul_assoc
 mul_one f:=by rw[mul_comm];exact one_mul f
 one_mul:=one_mul
 right_distrib:=add_mul
 left_distrib f g h:=by rw[mul_comm f (g+h),add_mul,mul_comm g f,mul_comm h f]
 zero_mul f:=by apply ext;intro i;show(C (0:R)*f:PS R).c i=(C (0:R)).c i;rw[nG,ig];grind
 mul_zero f:=by apply ext;intro i;show(f*C (0:R):PS R).c i=(C (0:R)).c i;rw[mul_comm,nG,ig];grind
 pow_zero f:=rfl
 pow_succ f n:=rfl
 ofNat_succ n:=by
  show C (@OfNat.ofNat R (n+1) (Semiring.ofNat (n+1)))=C (@OfNat.ofNat R n (Semiring.ofNat n))+C 1;rw[<-DM];exact congrArg C (Semiring.ofNat_succ n)
 ofNat_eq_natCast n:=congrArg C (Semiring.ofNat_eq_natCast n)
 nsmul_eq_natCast_mul n f:=rfl
 neg_add_cancel f:=by apply ext;intro i;show-f.c i+f.c i=(C (0:R)).c i;rw[ig];grind
 sub_eq_add_neg f g:=by apply ext;intro i;show f.c i-g.c i=f.c i+-g.c i;grind
 neg_zsmul n f:=by
  apply ext;intro i;show(C (@IntCast.intCast R Ring.intCast (-n))*f).c i=-((C (@IntCast.intCast R Ring.intCast n)*f).c i);have e:@IntCast.intCast R Ring.intCast (-n)=-@IntCast.intCast R Ring.intCast n:=Ring.intCast_neg n;rw[nG,nG,e];grind
 zsmul_natCast_eq_nsmul n f:=by
  apply ext;intro i;show(C (@IntCast.intCast R Ring.intCast (n:Int))*f).c i=(C (@NatCast.natCast R Semiring.natCast n)*f).c i;rw[nG,nG];have e:@IntCast.intCast R Ring.intCast (n:Int)=@NatCast.natCast R Semiring.natCast n:=Ring.intCast_natCast n;rw[e]
 intCast_ofNat n:=congrArg C (Ring.intCast_ofNat n)
 intCast_neg n:=by
  show C (@IntCast.intCast R Ring.intCast (-n))=-C (@IntCast.intCast R Ring.intCast n);rw[<-Ai];exact congrArg C (Ring.intCast_neg n)
 mul_comm:=mul_comm
noncomputable def nat(n:Nat):R:=@NatCast.natCast R Semiring.natCast n
noncomputable def aY(f:PS R):PS R:=⟨fun n=>nat (n+1)*f.c (n+1)⟩
theorem o5(f:PS R)(n:Nat):(aY f).c n=nat (n+1)*f.c (n+1):=rfl
theorem G'(m n:Nat):(nat (m+n):R)=nat m+nat n:=Semiring.natCast_add m n
theorem lH(f g:PS R):aY (f*g)=aY f*g+f*aY g:=by
 apply ext;intro n;rw[oY,o5,dM,dM,dM];have e0:nat (n+1)*aF (fun i=>f.c i*g.c (n+1-i)) (n+1+1)=aF (fun i=>nat i*(f.c i*g.c (n+1-i))) (n+1+1)+aF (fun i=>nat (n+1-i)*(f.c i*g.c (n+1-i))) (n+1+1):=by
  rw[<-cD,<-e_];refine aN fun i hi=>?_;have e:n+1=i+(n+1-i):=by lia
  have e2:(nat (n+1):R)=nat i+nat (n+1-i):=by rw[<-G',<-e]
  rw[e2];grind
 rw[e0];have z:(nat 0:R)=0:=Semiring.natCast_zero;have e1:aF (fun i=>nat i*(f.c i*g.c (n+1-i))) (n+1+1)=aF (fun i=>(aY f).c i*g.c (n-i)) (n+1):=by
  rw[eN,z];have:aF (fun i=>nat (i+1)*(f.c (i+1)*g.c (n+1-(i+1)))) (n+1)=aF (fun i=>(aY f).c i*g.c (n-i)) (n+1):=by
   refine aN fun i _=>?_;rw[Nat.add_sub_add_right,o5];grind
  rw[this];grind
 have e2:aF (fun i=>nat (n+1-i)*(f.c i*g.c (n+1-i))) (n+1+1)=aF (fun i=>f.c i*(aY g).c (n-i)) (n+1):=by
  show aF (fun i=>nat (n+1-i)*(f.c i*g.c (n+1-i))) (n+1)+nat (n+1-(n+1))*(f.c (n+1)*g.c (n+1-(n+1)))=_;rw[Nat.sub_self,z];have:aF (fun i=>nat (n+1-i)*(f.c i*g.c (n+1-i))) (n+1)=aF (fun i=>f.c i*(aY g).c (n-i)) (n+1):=by
   refine aN fun i hi=>?_;have e:n+1-i=(n-i)+1:=by lia
   rw[e,o5];grind
  rw[this];grind
 rw[e1,e2]
end PS
end SF
namespace SF
noncomputable def Bd(n:Nat)(x:Int):Prop:=x.natAbs<2^n
theorem Bd.mono{m n:Nat}{x:Int}(h:Bd m x)(TU:m<=n):Bd n x:=
 Nat.lt_of_lt_of_le h (Nat.pow_le_pow_right (by decide) TU)
theorem Bd.mul{m n:Nat}{x y:Int}(h:Bd m x)(h':Bd n y):Bd (m+n) (x*y):=by
 unfold Bd at*;rw[Int.natAbs_mul,Nat.pow_add];exact Nat.mul_lt_mul'' h h'
theorem Bd.neg{n:Nat}{x:Int}(h:Bd n x):Bd n (-x):=by
 unfold Bd at*;rw[Int.natAbs_neg];exact h
theorem Bd.add{n:Nat}{x y:Int}(h:Bd n x)(h':Bd n y):Bd (n+1) (x+y):=by
 unfold Bd at*;have:=Int.natAbs_add_le x y;rw[Nat.pow_succ];lia
theorem Bd.sub{n:Nat}{x y:Int}(h:Bd n x)(h':Bd n y):Bd (n+1) (x-y):=by
 rw[Int.sub_eq_add_neg];exact h.add h'.neg
theorem Bd.of_dvd{n:Nat}{x y:Int}(h:Bd n y)(hd:x∣y)(h0:y≠0):Bd n x:=by
 unfold Bd at*;have h1:x.natAbs∣y.natAbs:=Int.natAbs_dvd_natAbs.mpr hd;have h2:=Nat.le_of_dvd (Int.natAbs_pos.mpr h0) h1;lia
theorem Bd.log2{n:Nat}{x:Int}(h:Bd n x)(hn:n<=9000):x.natAbs.log2<9000:=by
 unfold Bd at h;rcases Nat.eq_zero_or_pos x.natAbs with h0|hp
 ·rw[h0];decide
 ·exact(Nat.log2_lt (Nat.ne_of_gt hp)).mpr (Nat.lt_of_lt_of_le h (Nat.pow_le_pow_right (by decide) hn))
theorem Bd.of_le{n:Nat}{x y:Int}(h:Bd n y)(h':x.natAbs<=y.natAbs):Bd n x:=Nat.lt_of_le_of_lt h' h
theorem Bd.gB{n:Nat}{x:Int}(h1:0<=x)(h2:x<2^n):Bd n x:=by
 unfold Bd;have e:((2:Int)^n)=((2^n:Nat):Int):=by simp
 rw[e] at h2;lia
theorem Bd.of_two{n:Nat}{x:Int}(h1:-(2^n)<x)(h2:x<2^n):Bd n x:=by
 unfold Bd;have e:((2:Int)^n)=((2^n:Nat):Int):=by simp
 rw[e] at h1 h2;lia
theorem fT{g l:Int}(hl:0<l):g.fmod l=g%l:=Int.fmod_eq_emod_of_nonneg g (by lia)
theorem dy{g l:Int}(hl:0<l):g.fdiv l=g/l:=Int.fdiv_eq_ediv_of_nonneg g (by lia)
theorem vg{g l:Int}(hg:0<=g)(hl:0<l):Int.gcd l (g%l)=Int.gcd g l:=by
 obtain⟨m,rfl⟩:=Int.eq_ofNat_of_zero_le hg;obtain⟨n,rfl⟩:=Int.eq_ofNat_of_zero_le (show 0<=l by lia);have e:((m:Int)%(n:Int))=((m%n:Nat):Int):=by simp
 rw[e];show Nat.gcd n (m%n)=Nat.gcd m n;rw[Nat.gcd_comm m n,Nat.gcd_rec n m,Nat.gcd_comm]
theorem Aj{a b:Int}:Int.gcd (if a<0 then -a else a) (if b<0 then -b else b)=Int.gcd a b:=by
 split<;>split<;>simp[Int.gcd_neg,Int.neg_gcd]
theorem Ak{g:Int}(hg:0<=g):((Int.gcd g 0:Nat):Int)=g:=by
 rw[Int.gcd_zero_right];lia
noncomputable def rs(a b:Int):Int:=if b<0 then -((Int.gcd a b:Nat):Int) else((Int.gcd a b:Nat):Int)
noncomputable def rt(a b:Int):Int:=a.fdiv (rs a b)
noncomputable def ru(a b:Int):Int:=b.fdiv (rs a b)
theorem Jy{a b:Int}(h:b≠0):rs a b≠0:=by
 have:0<Int.gcd a b:=Int.gcd_pos_of_ne_zero_right a h;unfold rs;split<;>lia
theorem vh{a b:Int}:rs a b∣a:=by
 unfold rs;split
 ·exact Int.neg_dvd.mpr (Int.gcd_dvd_left ..)
 ·exact Int.gcd_dvd_left ..
theorem sR{a b:Int}:rs a b∣b:=by
 unfold rs;split
 ·exact Int.neg_dvd.mpr (Int.gcd_dvd_right ..)
 ·exact Int.gcd_dvd_right ..
theorem gC{x y:Int}(hd:y∣x):x.fdiv y*y=x:=Int.fdiv_mul_cancel hd
theorem DN{a b:Int}:rt a b*rs a b=a:=gC vh
theorem xZ{a b:Int}:ru a b*rs a b=b:=gC sR
theorem Lz{a b:Int}(h:b≠0):0<ru a b:=by
 have e:=xZ (a:=a) (b:=b);have hg:0<Int.gcd a b:=Int.gcd_pos_of_ne_zero_right a h;by_cases hb:b<0
 ·have hs:rs a b<0:=by unfold rs;rw[if_pos hb];lia
  by_cases hq:0<ru a b
  ·exact hq
  ·have:0<=ru a b*rs a b:=Int.mul_nonneg_of_nonpos_of_nonpos (by lia) (by lia);lia
 ·have hs:0<rs a b:=by unfold rs;rw[if_neg hb];lia
  by_cases hq:0<ru a b
  ·exact hq
  ·have:ru a b*rs a b<=0:=Int.mul_nonpos_of_nonpos_of_nonneg (by lia) (by lia);lia
theorem Ha{a b:Int}(h:b≠0):rt a b*b=a*ru a b:=by
 have e1:=DN (a:=a) (b:=b);have e2:=xZ (a:=a) (b:=b);have h0:=Jy (a:=a) h;have:(rt a b*b)*rs a b=(a*ru a b)*rs a b:=by grind
 exact Int.eq_of_mul_eq_mul_right h0 this
theorem O8{a b:Int}(h:b≠0):Int.gcd (rt a b) (ru a b)=1:=by
 have e1:=DN (a:=a) (b:=b);have e2:=xZ (a:=a) (b:=b);have h0:=Jy (a:=a) h;have hg:0<Int.gcd a b:=Int.gcd_pos_of_ne_zero_right a h;have hn:(rs a b).natAbs=Int.gcd a b:=by unfold rs;split<;>lia
 have:Int.gcd (rt a b*rs a b) (ru a b*rs a b)=Int.gcd (rt a b) (ru a b)*(rs a b).natAbs:=Int.gcd_mul_right ..;rw[e1,e2,hn] at this;have h2:1*Int.gcd a b=Int.gcd (rt a b) (ru a b)*Int.gcd a b:=by lia
 exact(Nat.eq_of_mul_eq_mul_right hg h2).symm
structure Low(p q a b:Int):Prop where
 pos:0<q
 WH:p*b=a*q
 low:Int.gcd p q=1
end SF
namespace SF
open Lean.Grind
noncomputable def co(xs:List Int)(i:Nat):Int:=xs.getD i 0
noncomputable def se(xs:List Int):PS Int:=⟨co xs⟩
theorem sS(xs:List Int):(se xs).c=co xs:=rfl
theorem iS(x:Int)(r:List Int):co (x::r) 0=x:=rfl
theorem fb(x:Int)(r:List Int)(i:Nat):co (x::r) (i+1)=co r i:=rfl
theorem bY{xs:List Int}{i:Nat}(h:i<xs.length):co xs i=xs[i]:=by
 show xs.getD i 0=_;rw[List.getD_eq_getElem?_getD,List.getElem?_eq_getElem h];rfl
theorem cG{xs:List Int}{i:Nat}(h:xs.length<=i):co xs i=0:=by
 show xs.getD i 0=_;rw[List.getD_eq_getElem?_getD,List.getElem?_eq_none h];rfl
theorem iT(xs:List Int)(n i:Nat):co (xs.take n) i=if i<n then co xs i else 0:=by
 show(xs.take n).getD i 0=_;rw[List.getD_eq_getElem?_getD];split
 ·rename_i h;rw[List.getElem?_take_of_lt h];rfl
 ·rename_i h;rw[List.getElem?_eq_none (by rw[List.length_take];lia)];rfl
theorem LA(f:Int->Int)(h0:f 0=0)(xs:List Int)(i:Nat):co (xs.map f) i=f (co xs i):=by
 show(xs.map f).getD i 0=f (xs.getD i 0);rw[List.getD_eq_getElem?_getD,List.getD_eq_getElem?_getD,List.getElem?_map];cases xs[i]? with
 |none=>exact h0.symm
 |some v=>rfl
noncomputable def gx(f:Nat->Int)(n:Nat):List Int:=(List.range n).map f
theorem aQ(f:Nat->Int)(n:Nat):(gx f n).length=n:=by simp[gx]
theorem mO(f:Nat->Int)(n i:Nat):co (gx f n) i=if i<n then f i else 0:=by
 split
 ·rename_i h;rw[bY (by rw[aQ];exact h)];simp[gx]
 ·rename_i h;exact cG (by rw[aQ];lia)
theorem sT{f:Nat->Int}{n:Nat}(h:∀i,n<=i->f i=0):co (gx f n)=f:=by
 funext i
 rw[mO];split
 ·rfl
 ·rename_i hi;exact(h i (by lia)).symm
theorem LB(xs:List Int):gx (co xs) xs.length=xs:=by
 refine List.ext_getElem (aQ _ _) fun i h1 h2=>?_;simp only[gx,List.getElem_map,List.getElem_range];exact bY h2
theorem Al{f:Nat->Int}{n i:Nat}{v:Int}(h:i<n):(gx f n).set i v=gx (fun j=>if j=i then v else f j) n:=by
 refine List.ext_getElem (by rw[List.length_set,aQ,aQ]) fun j h1 h2=>?_;rw[List.getElem_set];simp only[gx,List.getElem_map,List.getElem_range];by_cases e:i=j
 ·rw[if_pos e,if_pos e.symm]
 ·rw[if_neg e,if_neg (Ne.symm e)]
theorem gy{f g:Nat->Int}{n:Nat}(h:∀i,i<n->f i=g i):gx f n=gx g n:=by
 unfold gx;exact List.map_congr_left fun i hi=>h i (List.mem_range.mp hi)
noncomputable def Tr(xs:List Int):Prop:=∀x,xs.getLast?=some x->x≠0
theorem Tr.nil:Tr []:=fun x h=>by cases h
theorem Tr.last{xs:List Int}(h:Tr xs)(hn:xs≠[]):co xs (xs.length-1)≠0:=by
 have hl:0<xs.length:=List.length_pos_iff.mpr hn;rw[bY (by lia)];refine h _ ?_;rw[List.getLast?_eq_getElem?,List.getElem?_eq_getElem (by lia)]
theorem Tr.lI{xs:List Int}(h:xs≠[]->co xs (xs.length-1)≠0):Tr xs:=by
 intro x hx;have hn:xs≠[]:=by rintro rfl;cases hx
 have hl:0<xs.length:=List.length_pos_iff.mpr hn;have:=h hn;rw[bY (by lia)] at this;rw[List.getLast?_eq_getElem?,List.getElem?_eq_getElem (by lia)] at hx;rw[Option.some.inj hx] at this;exact this
theorem Tr.inj{xs ys:List Int}(hx:Tr xs)(hy:Tr ys)(h:∀i,co xs i=co ys i):xs=ys:=by
 have hl:xs.length=ys.length:=by
  rcases Nat.lt_trichotomy xs.length ys.length with eM|he|eM
  ·have hn:ys≠[]:=by rintro rfl;exact absurd eM (Nat.not_lt_zero _)
   have:=hy.last hn;rw[<-h,cG (by lia)] at this;exact absurd rfl this
  ·exact he
  ·have hn:xs≠[]:=by rintro rfl;exact absurd eM (Nat.not_lt_zero _)
   have:=hx.last hn;rw[h,cG (by lia)] at this;exact absurd rfl this
 refine List.ext_getElem hl fun i h1 h2=>?_;have:=h i;rw[bY h1,bY h2] at this;exact this
noncomputable def dN:List Int->List Int
 |[]=>[]
 |x::r=>match dN r with
  |[]=>if x=0 then[] else[x]
  |y::t=>x::y::t
theorem gD:∀(xs:List Int)(i:Nat),co (dN xs) i=co xs i
 |[],i=>rfl
 |x::r,i=>by
  have ih:=gD r;unfold dN;cases e:dN r with
  |nil=>
   rw[e] at ih
   dsimp only
   split
   ·rename_i hx;cases i with
    |zero=>exact hx.symm
    |succ i=>rw[fb,<-ih i];rfl
   ·cases i with
    |zero=>rfl
    |succ i=>rw[fb,fb,<-ih i]
  |cons y t=>
   rw[e] at ih;cases i with
   |zero=>rfl
   |succ i=>exact ih i
theorem iq:∀xs:List Int,Tr (dN xs)
 |[]=>Tr.nil
 |x::r=>by
  have ih:=iq r;unfold dN;cases e:dN r with
  |nil=>
   dsimp only
   split
   ·exact Tr.nil
   ·rename_i hx;intro z hz;have:x=z:=by simpa using hz
    rw[<-this];exact hx
  |cons y t=>
   rw[e] at ih;intro z hz;exact ih z (by simpa using hz)
theorem DO{xs:List Int}(h:Tr xs):dN xs=xs:=(iq xs).inj h (gD xs)
theorem DP{xs ys:List Int}(h:∀i,co xs i=co ys i):dN xs=dN ys:=
 (iq xs).inj (iq ys) fun i=>by rw[gD,gD,h]
theorem rG:∀xs:List Int,(dN xs).length<=xs.length
 |[]=>Nat.le_refl _
 |x::r=>by
  have ih:=rG r;unfold dN;cases e:dN r with
  |nil=>
   dsimp only
   split<;>simp
  |cons y t=>
   rw[e] at ih;simp only[List.length_cons] at*;lia
theorem x4{xs:List Int}{n:Nat}(h:co xs n=0):dN (xs.take (n+1))=dN (xs.take n):=by
 refine DP fun i=>?_;rw[iT,iT];by_cases h1:i<n
 ·rw[if_pos h1,if_pos (by lia)]
 ·rw[if_neg h1];split
  ·have:i=n:=by lia
   rw[this];exact h
  ·rfl
theorem Hb{xs:List Int}{n:Nat}(hn:n<=xs.length)(h:n=0\/co xs (n-1)≠0):Tr (xs.take n):=by
 refine Tr.lI fun eE=>?_;have hl:(xs.take n).length=n:=by rw[List.length_take];lia
 rw[hl,iT];have:0<n:=by
  rcases Nat.eq_zero_or_pos n with z|z
  ·rw[z] at eE;simp at eE
  ·exact z
 rw[if_pos (by lia)];rcases h with z|z
 ·lia
 ·exact z
noncomputable def mulL(xs ys:List Int):List Int:=if xs=[]\/ys=[] then[] else gx (se xs*se ys).c (xs.length+ys.length-1)
theorem vi{xs ys:List Int}{n:Nat}(h:xs.length+ys.length<=n+1):(se xs*se ys).c n=0:=by
 rw[PS.dM];refine cE fun i hi=>?_;by_cases h1:i<xs.length
 ·rw[sS,sS,cG (xs:=ys) (by lia)];grind
 ·rw[sS,sS,cG (xs:=xs) (by lia)];grind
theorem sU(xs ys:List Int):co (mulL xs ys)=(se xs*se ys).c:=by
 unfold mulL;split
 ·rename_i h
  funext n
  rw[PS.dM];refine(cE fun i _=>?_).symm;rcases h with h|h<;>subst h
  ·show(0:Int)*_=0;grind
  ·show _*(0:Int)=0;grind
 ·refine sT fun i hi=>vi ?_;rename_i h;rw[_root_.not_or] at h;have h1:=List.length_pos_iff.mpr h.1;have h2:=List.length_pos_iff.mpr h.2;lia
theorem vk{xs ys:List Int}(hx:xs≠[])(hy:ys≠[]):(se xs*se ys).c (xs.length+ys.length-2)=co xs (xs.length-1)*co ys (ys.length-1):=by
 have h1:=List.length_pos_iff.mpr hx;have h2:=List.length_pos_iff.mpr hy;rw[PS.dM];have e:xs.length+ys.length-2+1=(xs.length-1)+(1+(ys.length-1)):=by lia
 rw[e,cF,cF];rw[cE (n:=xs.length-1) (fun i hi=>by rw[sS,sS,cG (xs:=ys) (by lia)];grind)];rw[cE (n:=ys.length-1) (fun i hi=>by rw[sS,sS,cG (xs:=xs) (by lia)];grind)];show 0+((0+co xs (xs.length-1+0)*co ys (xs.length+ys.length-2-(xs.length-1+0)))+0)=_;have e2:xs.length+ys.length-2-(xs.length-1+0)=ys.length-1:=by lia
 rw[e2,Nat.add_zero];grind
noncomputable def cb(xs:List Int):List Int:=gx (PS.aY (se xs)).c (xs.length-1)
theorem lJ(xs:List Int):co (cb xs)=(PS.aY (se xs)).c:=by
 refine sT fun i hi=>?_;show PS.nat (i+1)*co xs (i+1)=0;rw[cG (by lia)];grind
theorem Hc(n:Nat):(PS.nat n:Int)=(n:Int):=rfl
theorem Am{xs:List Int}(hx:Tr xs):Tr (cb xs):=by
 refine Tr.lI fun h=>?_;have hl:(cb xs).length=xs.length-1:=aQ _ _;have hp:0<(cb xs).length:=List.length_pos_iff.mpr h;rw[hl] at hp;rw[lJ,hl];have eE:xs≠[]:=by rintro rfl;simp at hp
 have e:xs.length-1-1+1=xs.length-1:=by lia
 show PS.nat (xs.length-1-1+1)*co xs (xs.length-1-1+1)≠0;rw[e,Hc];exact Int.mul_ne_zero (by lia) (hx.last eE)
end SF
namespace SF
noncomputable def fq(xs:List Int):Nat:=xs.foldl (fun g x=>Int.gcd g x) 0
noncomputable def lK(g:Nat)(xs:List Int):Nat:=xs.foldl (fun g x=>Int.gcd g x) g
theorem rH:∀(xs:List Int)(g d:Nat),d∣lK g xs↔(d∣g/\∀x∈xs,(d:Int)∣x)
 |[],g,d=>by simp[lK]
 |x::r,g,d=>by
  have ih:=rH r (Int.gcd g x) d;show d∣lK (Int.gcd g x) r↔_;rw[ih];have h1:d∣Int.gcd g x↔(d∣g/\(d:Int)∣x):=by
   constructor
   ·intro h;have hz:(d:Int)∣((Int.gcd g x:Nat):Int):=Int.ofNat_dvd.mpr h;exact⟨Int.ofNat_dvd.mp (Int.dvd_trans hz (Int.gcd_dvd_left ..)),Int.dvd_trans hz (Int.gcd_dvd_right ..)⟩
   ·rintro⟨h1,h2⟩;exact Int.ofNat_dvd.mp (Int.dvd_coe_gcd (Int.ofNat_dvd.mpr h1) h2)
  rw[h1];constructor
  ·rintro⟨⟨a,b⟩,c⟩;exact⟨a,fun y hy=>by rcases List.mem_cons.mp hy with rfl|hy;exact b;exact c y hy⟩
  ·rintro⟨a,b⟩;exact⟨⟨a,b x List.mem_cons_self⟩,fun y hy=>b y (List.mem_cons_of_mem _ hy)⟩
theorem mP(xs:List Int)(d:Nat):d∣fq xs↔∀x∈xs,(d:Int)∣x:=by
 have:=rH xs 0 d;rw[show lK 0 xs=fq xs from rfl] at this;rw[this];exact⟨fun h=>h.2,fun h=>⟨Nat.dvd_zero d,h⟩⟩
theorem lL{xs:List Int}{x:Int}(h:x∈xs):((fq xs:Nat):Int)∣x:=(mP xs _).mp (Nat.dvd_refl _) x h
theorem mQ{xs:List Int}{x:Int}(h:x∈xs)(h0:x≠0):0<fq xs:=by
 rcases Nat.eq_zero_or_pos (fq xs) with z|z
 ·have:=lL h;rw[z] at this;exact absurd (Int.zero_dvd.mp this) h0
 ·exact z
noncomputable def cont(xs:List Int):Int:=if co xs (xs.length-1)<0 then -((fq xs:Nat):Int) else((fq xs:Nat):Int)
theorem vm(xs:List Int):(cont xs).natAbs=fq xs:=by unfold cont;split<;>lia
theorem o6{xs:List Int}{x:Int}(h:x∈xs):cont xs∣x:=by
 unfold cont;split
 ·exact Int.neg_dvd.mpr (lL h)
 ·exact lL h
theorem lM{xs:List Int}(hn:xs≠[]):co xs (xs.length-1)∈xs:=by
 have hl:0<xs.length:=List.length_pos_iff.mpr hn;rw[bY (by lia)];exact List.getElem_mem _
theorem fK{xs:List Int}(h:Tr xs)(hn:xs≠[]):cont xs≠0:=by
 have:=mQ (lM hn) (h.last hn);have e:=vm xs;lia
noncomputable def au(xs:List Int):List Int:=xs.map (·.fdiv (cont xs))
theorem aS(xs:List Int):(au xs).length=xs.length:=List.length_map _
theorem iu{xs:List Int}{i:Nat}(h:i<xs.length):co (au xs) i*cont xs=co xs i:=by
 unfold au;rw[LA (fun y=>y.fdiv (cont xs)) (by simp)];have hm:co xs i∈xs:=by rw[bY h];exact List.getElem_mem _
 exact Int.fdiv_mul_cancel (o6 hm)
theorem gE{xs:List Int}(h:Tr xs)(hn:xs≠[]):0<co (au xs) (xs.length-1):=by
 have hl:0<xs.length:=List.length_pos_iff.mpr hn;have e:=iu (xs:=xs) (i:=xs.length-1) (by lia);have h0:=h.last hn;have hp:=mQ (lM hn) h0;by_cases hc:co xs (xs.length-1)<0
 ·have hs:cont xs<0:=by unfold cont;rw[if_pos hc];lia
  by_cases hq:0<co (au xs) (xs.length-1)
  ·exact hq
  ·have:0<=co (au xs) (xs.length-1)*cont xs:=Int.mul_nonneg_of_nonpos_of_nonpos (by lia) (by lia);lia
 ·have hs:0<cont xs:=by unfold cont;rw[if_neg hc];lia
  by_cases hq:0<co (au xs) (xs.length-1)
  ·exact hq
  ·have:co (au xs) (xs.length-1)*cont xs<=0:=Int.mul_nonpos_of_nonpos_of_nonneg (by lia) (by lia);lia
theorem bS{xs:List Int}(h:Tr xs):Tr (au xs):=by
 refine Tr.lI fun hn=>?_;have hx:xs≠[]:=by rintro rfl;exact hn rfl
 rw[aS];have:=gE h hx;lia
theorem vn{xs:List Int}(h:Tr xs)(hn:xs≠[]):fq (au xs)=1:=by
 have h0:=h.last hn;have hp:=mQ (lM hn) h0;have hd:fq (au xs)*fq xs∣fq xs:=by
  rw[mP];intro x hx;have hy:x.fdiv (cont xs)∈au xs:=List.mem_map.mpr ⟨x,hx,rfl⟩;have h1:=lL hy;have e:=Int.fdiv_mul_cancel (o6 hx);obtain⟨k,hk⟩:=h1;have ha:(cont xs).natAbs=fq xs:=vm xs;rcases Int.natAbs_eq (cont xs) with hc|hc
  ·rw[ha] at hc;refine⟨k,?_⟩;rw[<-e,hk,hc];push_cast;grind
  ·rw[ha] at hc;refine⟨-k,?_⟩;rw[<-e,hk,hc];push_cast;grind
 have h2:fq (au xs)*fq xs∣1*fq xs:=by rw[Nat.one_mul];exact hd
 have h3:=Nat.dvd_of_mul_dvd_mul_right hp h2;exact Nat.eq_one_of_dvd_one h3
noncomputable def hv(t u:Int)(xs:List Int):Int:=aF (fun i=>co xs i*(t^i*u^(xs.length-1-i))) xs.length
noncomputable def jv(t u:Int)(p:Int×Int)(x:Int):Int×Int:=(p.1*t+x*p.2,p.2*u)
theorem sV(t u x:Int)(r:List Int):hv t u (x::r)=hv t u r*t+x*u^r.length:=by
 unfold hv;rw[List.length_cons,eN,<-j5];have e:aF (fun i=>co (x::r) (i+1)*(t^(i+1)*u^(r.length+1-1-(i+1)))) r.length=aF (fun i=>co r i*(t^i*u^(r.length-1-i))*t) r.length:=by
  refine aN fun i hi=>?_;have e1:r.length+1-1-(i+1)=r.length-1-i:=by lia
  rw[e1,fb,Int.pow_succ];grind
 rw[e];rw[iS,Nat.add_sub_cancel,Nat.sub_zero,Int.pow_zero];grind
theorem An(t u:Int):∀xs:List Int,xs.reverse.foldl (jv t u) (0,1)=(hv t u xs,u^xs.length)
 |[]=>by show((0:Int),(1:Int))=(0,u^0);rw[Int.pow_zero]
 |x::r=>by
  rw[List.reverse_cons,List.foldl_append,An t u r,sV];show(hv t u r*t+x*u^r.length,u^r.length*u)=_;rw[List.length_cons,Int.pow_succ]
end SF
namespace SF
theorem BW(xs:List Int):((gx (fun i=>(i:Int)*co xs i) xs.length).drop 1)=cb xs:=by
 unfold cb;refine List.ext_getElem (by rw[List.length_drop,aQ,aQ]) fun i h1 h2=>?_;rw[List.getElem_drop];have e1:(gx (fun i=>(i:Int)*co xs i) xs.length)[1+i]'(by rw[aQ];rw[aQ] at h2;lia)=((1+i:Nat):Int)*co xs (1+i):=by simp only[gx,List.getElem_map,List.getElem_range]
 rw[e1];simp only[gx,List.getElem_map,List.getElem_range];rw[PS.o5,sS,Nat.add_comm 1 i];rfl
noncomputable def DQ(t u:Int)(xs:List Int)(j:Nat):Int×Int:=(xs.reverse.take j).foldl (jv t u) (0,1)
theorem DR(t u:Int)(xs:List Int):DQ t u xs 0=(0,1):=rfl
theorem vo(t u:Int)(xs:List Int)(j:Nat)(h:j<xs.length):DQ t u xs (j+1)=jv t u (DQ t u xs j) (co xs (xs.length-1-j)):=by
 unfold DQ;have hj:j<xs.reverse.length:=by rw[List.length_reverse];exact h
 rw[List.take_add_one,List.getElem?_eq_getElem hj,Option.toList_some,List.foldl_append];have e:xs.reverse[j]=co xs (xs.length-1-j):=by
  rw[List.getElem_reverse,bY (by lia)]
 rw[e];rfl
theorem o7(t u:Int)(xs:List Int):(DQ t u xs xs.length).1=hv t u xs:=by
 unfold DQ;rw[List.take_of_length_le (by rw[List.length_reverse];exact Nat.le_refl _),An]
end SF
namespace L2
open PySem PySem.Spec PyProof.Rows
section
variable {X:Cx} {K:PySem.W.Frag} {pos:Pos}
theorem Hd{es:List Expr}{k:Nat}{t:Gn}{n:Nat}(hK:X.K=K)(hc:X.calm=true)(h:Oh X es t)(hn:(assignEach es X.env).length=n)(uX:(assignEach es X.env).findIdx? (·.1)=none):PG X (.Tuple es k pos) (KW K n t):=by subst hK;exact jq hc h hn uX
end
theorem vp(F:Nat->Int)(n:Nat):SF.gx F (n+1)=SF.gx F n++[F n]:=by
 unfold SF.gx;rw[List.range_succ,List.map_append];rfl
theorem x5{α:Type}{r:List α}(h:r.length=1):∃x,r=[x]:=by
 match r,h with
 |[x],_=>exact⟨x,rfl⟩
theorem TV{α:Type}{r:List α}(h:r.length=2):∃x y,r=[x,y]:=by
 match r,h with
 |[x,y],_=>exact⟨x,y,rfl⟩
noncomputable abbrev mR(J:It)(own:List Str)(fr:List Nat)(σ:St)(g:TG)(te:TE)(H1:Hp)(Q:VK):Prop:=
 ∀D,H1 D=none->∃W:Nat->Nat->St->Hp->Prop,(∃m,W 0 m (iR own fr σ) (upd H1 D (.lst [])))/\∀i m fP H2,W i m fP H2->
  (J.stop i H2/\Q (.ref D) H2)\/(J.go i H2/\∀x H3,J.xB i H2 x H3->g x fP H3 fun d_ H4=>te d_ H4 fun y H5=>∃ys,H5 D=some (.lst ys)/\ys.length<sizeLine/\∃m',m'<m/\W (i+1) m' d_ (upd H5 D (.lst (ys++[y]))))
section
variable {K:PySem.W.Frag} {own:List Str} {fr:List Nat} {g:TG} {te:TE} {σ:St} {H1:Hp} {Q:VK}
theorem sW{xs:List Int}{n:Nat}{x:V}(h:(xs.map V.int)[n]?=some x):n<xs.length/\x=.int (SF.co xs n):=by
 have hn:n<xs.length:=by
  have:=(List.getElem?_eq_some_iff.mp h).1
  rwa [List.length_map] at this
 rw[List.getElem?_map,List.getElem?_eq_getElem hn] at h;rw[SF.bY hn];exact⟨hn,(Option.some.inj h).symm⟩
theorem iU{a:Addr}{xs:List Int}(hS:aW K H1 a (xs.map V.int))(F:Nat->Int)(hz:xs.length<=1000)(hs:∀(i:Nat)(r:St)(H2:Hp),i<xs.length->r.length=own.length->av H1 H2->∀Z:V->St->Hp->Prop,(∀d_ H5,av H2 H5->(∃r':St,r'.length=own.length/\d_=r'++vd fr σ)->Z (.int (F i)) d_ H5)->g (.int (SF.co xs i)) (r++vd fr σ) H2 fun d_ H4=>te d_ H4 fun y H5=>Z y d_ H5)(hq:∀D H2,H1 D=none->av H1 H2->H2 D=some (.lst ((SF.gx F xs.length).map V.int))->Q (.ref D) H2):mR (uO K a) own fr σ g te H1 Q:=
 rE hS (fun ys=>ys=(SF.gx F ys.length).map V.int) (fw (by rw[List.length_map];exact hz)) rfl
  (fun i x r ys H2 hx hr hl hp eT Z hZ=>by
   obtain⟨hi,rfl⟩:=sW hx
   refine hs i r H2 hi hr eT Z fun d_ H5 s e=>hZ _ d_ H5 s ?_ e
   subst hl
   rw[List.length_append]
   show ys++[V.int (F ys.length)]=(SF.gx F (ys.length+1)).map V.int
   rw[vp,List.map_append,<-hp];rfl)
  (fun D H2 ys hD eT h2 hl hp=>hq D H2 hD eT (by rw[h2,hp,hl,List.length_map]))
theorem x6{a:Addr}{xs:List Int}(hS:aW K H1 a (xs.map V.int))(F:Nat->Int)(hz:xs.length<=1000)(hs:∀(i:Nat)(p:Addr)(r:St)(H2:Hp),i<xs.length->r.length=own.length->av H1 H2->H2 p=some (.tup [.int (i:Int),.int (SF.co xs i)])->
 ∀Z:V->St->Hp->Prop,(∀d_ H5,av H2 H5->(∃r':St,r'.length=own.length/\d_=r'++vd fr σ)->Z (.int (F i)) d_ H5)->g (.ref p) (r++vd fr σ) H2 fun d_ H4=>te d_ H4 fun y H5=>Z y d_ H5)(hq:∀D H2,H1 D=none->av H1 H2->H2 D=some (.lst ((SF.gx F xs.length).map V.int))->Q (.ref D) H2):mR (DF K a) own fr σ g te H1 Q:=
 BV hS (fun ys=>ys=(SF.gx F ys.length).map V.int) (fw (by rw[List.length_map];exact hz)) rfl
  (fun i x p r ys H2 hx hr hl hp eT x8 Z hZ=>by
   obtain⟨hi,rfl⟩:=sW hx
   refine hs i p r H2 hi hr eT x8 Z fun d_ H5 s e=>hZ _ d_ H5 s ?_ e
   subst hl
   rw[List.length_append]
   show ys++[V.int (F ys.length)]=(SF.gx F (ys.length+1)).map V.int
   rw[vp,List.map_append,<-hp];rfl)
  (fun D H2 ys hD eT h2 hl hp=>hq D H2 hD eT (by rw[h2,hp,hl,List.length_map]))
theorem j6{σ:St}{H H1:Hp}{Q:VK}{own:List Str}{fr:List Nat}{wi:TI}{g:TG}{te:TE}(J:It)(h:∀R:It->Hp->Prop,R J H1->wi σ H R)(h2:mR J own fr σ g te H1 Q):Ag own fr wi g te σ H Q:=h _ h2
end
end L2
namespace PySem
open Sem (wp)
namespace F
theorem BX:typeLookup (.type "list_reverseiterator") "__len__"=pure none:=by rw[typeLookup_type,builtinLookup_eq_fast];kernel_rfl
theorem DS:typeLookup (.type "list_reverseiterator") "__length_hint__"=pure (some (.builtin "list_reverseiterator.__length_hint__")):=by rw[typeLookup_type,builtinLookup_eq_fast];kernel_rfl
end F
section
variable {prog:Program} {w:World} {A:Around} {E:Value->Shared->Prop} {s:Shared}
theorem DT{I:Addr}{Q:Bool->Shared->Prop}(hT:s.TypeIs (.ref I) "list_reverseiterator")(h:Q false s):wpAny (model prog w) A (Builtin.List.listLengthHint (.ref I)) Q E s:=by
 unfold Builtin.List.listLengthHint;refine wpAny_bind (wpAny_specialOf hT F.BX ?_);show wpAny _ _ (specialOf (Value.ref I) (Str.ofString "__length_hint__") >>= _) _ _ _;refine wpAny_bind (wpAny_specialOf hT F.DS ?_)
 (generalize TX:("list_reverseiterator.__length_hint__":String)=YV;wp_delta;rw[show splitId YV=some ("list_reverseiterator","__length_hint__") from by subst TX;decide +kernel];subst TX)
 refine wpAny_bind (wpAny_isInstance (b:=true) hT (by rw[isSubtype_type];kernel_rfl) ?_);exact wpAny_pure h
theorem vq{I l:Addr}{items:Array Value}{Q:Value->Shared->Prop}(hh:A.handled=none)(hit:s.heap.IsRevIter I l ((items.size:Int)-1))(hl:s.heap.IsList l items)(eE:l≠I)(hn:items.size<=sizeLine)(hQ:∀h' tk n_ c',(∀b o,b≠I->s.heap.get? b=some o->h'.get? b=some o)->h'.get? s.heap.objs.size=some {cls:=.type "list",dict:=none,data:=.seq n_ c',slots:=#[]}->
 ItemsOf (fun i v=>items[items.size-1-i]?=some v) n_ items.size->Q (.ref s.heap.objs.size) {s with heap:=h',toks:=tk}):
 wpAny (model prog w) A (call (.type "list") [.ref I]) Q E s:=by
 refine callType_codes (Q₁:=fun obj bW=>obj=.ref s.heap.objs.size/\bW={s with heap:=s.heap.push {cls:=.type "list",data:=.seq #[]}}) PySem.F.called_list (PySem.F.typeCall_list_1 _) PySem.F.entry_list_init
  (code_list_new _ ⟨rfl,rfl⟩) fun obj bW jj=>?_
 obtain⟨rfl,rfl⟩:=jj;have hS:(s.heap.push {cls:=.type "list",data:=.seq #[]}).get? s.heap.objs.size=some {cls:=.type "list",data:=.seq #[]}:=Heap.get?_push_size _ rfl;have hI:I<s.heap.objs.size:=let⟨_,e,_⟩:=hit;Heap.lt_size e;have eM:l<s.heap.objs.size:=let⟨_,e,_⟩:=hl;Heap.lt_size e;refine⟨⟨_,hS,rfl⟩,PySem.F.args_list_init_2 _ _,?_⟩;show wpAny _ _ (do let old<-Builtin.List.listItems (.ref s.heap.objs.size);Builtin.List.listUpdate (.ref s.heap.objs.size) (fun _=>#[]);letGo old.toList.reverse;Builtin.List.listExtendWith (.ref s.heap.objs.size) (.ref I) .none) _ _ _;generalize TY:s.heap.objs.size=S at hS ⊢;generalize O9:s.heap.push {cls:=.type "list",data:=.seq #[]}=h1 at hS ⊢;have k1:∀b o,s.heap.get? b=some o->h1.get? b=some o:=fun b o e=>by rw[<-O9];exact Heap.get?_push_of_some _ e
 refine wpAny_bind ?_;unfold Builtin.List.listItems;refine wpAny_bind (wpAny_seqItems hS rfl (wpAny_pure ?_));show wpAny _ _ (updateSeq S (fun _=>#[]) >>= fun _=>letGo (#[]:Array Value).toList.reverse >>= fun _=>Builtin.List.listExtendWith (.ref S) (.ref I) .none) _ _ _;refine wpAny_bind (wpAny_updateSeq hS rfl ?_);have Jz:=Heap.get?_update_self (Obj.mapSeq (fun _=>(#[]:Array Value))) hS rfl;have RG:∀b o,b≠S->h1.get? b=some o->(h1.update S (Obj.mapSeq (fun _=>(#[]:Array Value)))).get? b=some o:=
  fun b o hb e=>(Heap.get?_update_other _ _ (Ne.symm hb)).trans e
 refine wpAny_bind (wpAny_letGo ?_);have TZ:S≠I:=fun e=>by rw[<-e,<-TY] at hI;exact Nat.lt_irrefl _ hI
 have WI:S≠l:=fun e=>by rw[<-e,<-TY] at eM;exact Nat.lt_irrefl _ eM
 generalize hh2:h1.update S (Obj.mapSeq (fun _=>(#[]:Array Value)))=h2 at Jz RG ⊢;have He:h2.IsRevIter I l ((items.size:Int)-1):=hit.at fun o e=>RG _ _ TZ.symm (k1 _ _ e);have sO:h2.IsList l items:=hl.at fun o e=>RG _ _ WI.symm (k1 _ _ e);have W:=Walks.listRev (prog:=prog) (w:=w) (A:=A.in1.in1) hh I l eE items;have e0:(items.size:Int)-1-((0:Nat):Int)=(items.size:Int)-1:=by lia
 have YW:(0:Nat)<=items.size/\h2.IsRevIter I l ((items.size:Int)-1-((0:Nat):Int))/\h2.IsList l items:=by
  rw[e0];exact⟨Nat.zero_le _,He,sO⟩
 unfold Builtin.List.listExtendWith;refine wpAny_bind (wpAny_typeOf (T:="list_reverseiterator") He.typeIs ?_);have h3:Builtin.List.listSameRef (.ref S) (.ref I)=false:=by simp[Builtin.List.listSameRef,TZ]
 rw[if_neg (by rw[h3];decide)];refine wpAny_bind (wpAny_pyIter_revIter He ?_);refine wpAny_bind (wpAny_holding (DT He.typeIs ?_));rw[if_neg (by decide)];refine wpAny_pure ⟨plainId_quiet PySem.F.plain_extend_loop _,?_⟩;obtain⟨c3,YX⟩:∃c,h2.get? S=some {cls:=.type "list",dict:=none,data:=.seq #[] c,slots:=#[]}:=⟨_,Jz⟩;refine codeAny_extend_loopS W.toS hn S (by simp only[List.mem_cons,List.not_mem_nil,or_false,not_or];exact⟨TZ,WI⟩) .none items.size 0 {s with heap:=h2} #[] c3 rfl (Nat.zero_le _) YW YX (ItemsOf.nil _) fun s' n_ c' hm YY Hf=>?_;rw[Moved.eq_with hm];subst TY;refine⟨rfl,hQ s'.heap s'.toks n_ c' (fun b o hb e=>hm.heap b o (fun LC=>?_) (RG b o ?_ (k1 b o e))) YY Hf⟩
 ·rcases List.mem_cons.mp LC with e'|LC
  ·have:=Heap.lt_size e;rw[e'] at this;exact Nat.lt_irrefl _ this
  ·exact hb (List.mem_singleton.mp LC)
 ·intro z;have:=Heap.lt_size e;rw[z] at this;exact Nat.lt_irrefl _ this
theorem x9{l:Addr}{items:Array Value}{Q:Value->Shared->Prop}(hl:s.heap.IsList l items)(h:∀xF:Shared,xF={s with heap:=s.heap.push {cls:=.type "list_iterator",data:=.fields #[.ref l,.int 0 0]}}->
 (xF.heap.IsListIter s.heap.objs.size l 0/\xF.heap.IsList l items)->l≠s.heap.objs.size->Q (.ref s.heap.objs.size) xF):
 wpAny (model prog w) A (pyIter (.ref l)) Q E s:=by
 have eM:l<s.heap.objs.size:=by obtain⟨_,e,_⟩:=hl;exact Heap.lt_size e
 exact wpAny_pyIter_list hl (h _ rfl ⟨⟨_,Heap.get?_push_size _ rfl,rfl,rfl⟩,hl.push _⟩ (Nat.ne_of_lt eM))
end
end PySem
namespace L2
open PySem PySem.Spec PyProof.Rows
section
variable {X:Cx}
theorem BY(hc:X.calm=true):jf X (.builtin "any") (fun xs H Q=>∃(p:Addr)(ns:List Int),xs=[.ref p]/\aW X.K H p (ns.map V.int)/\Q (.bl (ns.any (·!=0))) H):=by
 intro pins s σ H xs us Q I r h;obtain⟨p,ns,rfl,hp,q⟩:=h;obtain⟨u,rfl,rx⟩:=vals1 r;cases rx;obtain⟨aX,rv,pl,hz⟩:=I.list hp;have hlen:=rv.length;rw[List.length_map] at hlen;refine call_any_walk (x9 pl.isList fun xF e st YZ=>?_);subst e;refine⟨_,_,_,_,_,_,fun i=>(ns.getD i 0)!=0,rfl,Walks.list (A:=X.A.in1) (I.ok.hd hc) _ p YZ aX.toArray,st,?_,fun h' tk hk=>?_⟩
 ·intro i v s' Q' E' hv Y0;have jg:aX[i]?=some v:=by simpa using hv
  have hi:i<aX.length:=(List.getElem?_eq_some_iff.mp jg).1;obtain⟨t,e⟩:=int_at rv (j:=i) (by lia) hi;rw[List.getElem?_eq_getElem hi,e] at jg;cases jg;have WJ:Q' (ns.getD i 0!=0) s':=Y0;rw[List.getD_eq_getElem?_getD,List.getElem?_eq_getElem (by lia)] at WJ;exact truthy_int WJ
 ·have e:(List.range aX.toArray.size).any (fun i=>(ns.getD i 0)!=0)=ns.any (·!=0):=by
   rw[List.size_toArray,<-hlen,Bool.eq_iff_iff,List.any_eq_true,List.any_eq_true];constructor
   ·rintro⟨i,hi,h⟩;have hi:=List.mem_range.mp hi;rw[List.getD_eq_getElem?_getD,List.getElem?_eq_getElem hi] at h;exact⟨_,List.getElem_mem hi,h⟩
   ·rintro⟨x,hx,h⟩;obtain⟨i,hi,rfl⟩:=List.getElem_of_mem hx;refine⟨i,List.mem_range.mpr hi,?_⟩;rw[List.getD_eq_getElem?_getD,List.getElem?_eq_getElem hi];exact h
  rw[e];exact⟨.bl _,H,I.kept (old_kept hk),rfl,q⟩
theorem BZ(hc:X.calm=true):jf X (.builtin "max") (fun xs H Q=>∃(p:Addr)(ns:List Int),xs=[.ref p]/\aW X.K H p (ns.map V.int)/\ns≠[]/\∀m,m∈ns->(∀x∈ns,x<=m)->Q (.int m) H):=by
 intro pins s σ H xs us Q I r h;obtain⟨p,ns,rfl,hp,eE,q⟩:=h;obtain⟨u,rfl,rx⟩:=vals1 r;cases rx;obtain⟨aX,rv,pl,hz⟩:=I.list hp;have hi:IntsAre aX ns:=intsAre_of rv;obtain⟨ys,e⟩:=hi.allInts.items;have C7:ns=ys.toList.map (·.1):=by
  rw[<-hi.numsOf,<-nums_intItems,<-e]
 have lr:0<ys.size:=by
  have h3:=List.length_pos_iff.mpr eE;rw[C7,List.length_map,Array.length_toList] at h3;exact h3
 have RH:s.heap.IsList p (intItems ys):=e▸pl.isList;refine max_intList (I.ok.hd hc) RH lr fun v h' tk hv hk=>?_;obtain⟨t,rfl⟩:=intItems_at hv;obtain⟨h1,h2⟩:=argBest_gt (numAt ys) (ys.size-1);refine⟨.int _,H,I.kept hk,⟨t,rfl⟩,q _ ?_ fun a ha=>?_⟩
 ·rw[C7,numAt_eq];exact getD_mem (by rw[List.length_map,Array.length_toList];lia)
 ·rw[C7] at ha;obtain⟨j,hj,rfl⟩:=mem_getD ha;rw[List.length_map,Array.length_toList] at hj;rw[<-numAt_eq];exact h2 j (by lia)
theorem vt:∀{xs:List V}{us:List Value},Vals xs us->Vals xs.reverse us.reverse
 |_,_,.nil=>.nil
 |_,_,.cons a b=>by
  rw[List.reverse_cons,List.reverse_cons];exact(vt b).append (.cons a .nil)
noncomputable def O_(K:PySem.W.Frag)(ta:TA):TE:=fun σ H Q=>ta σ H fun vs H1=>∃(p:Addr)(ys:List V),vs=[.ref p]/\aW K H1 p ys/\∀l,H1 l=none->Q (.ref l) (upd H1 l (.lst ys.reverse))
theorem Hg{a:Expr}{ta:TA}{p p' pos pos':Pos}(hc:X.calm=true)(hg:Gl X "reversed")(hm:X.mg "reversed"=none)(O2:Gl X "list")(NF:X.mg "list"=none)(ha:PA X [a] ta)(hs:starEach [a] X.env=[(false,eval a X.env)]:=by rfl)(Gq:starEach [Expr.Call (.Name "reversed" p) [a] [] pos] X.env=[(false,eval (Expr.Call (.Name "reversed" p) [a] [] pos) X.env)]:=by rfl):
 PE X (.Call (.Name "list" p') [.Call (.Name "reversed" p) [a] [] pos] [] pos') (O_ X.K ta):=by
 intro pins s σ H Q I h;refine wpAny_Call_Name_kw (iM I O2 NF boot_list ?_);refine PyProof.Rows.callWith_type1 ?_ Gq rfl;rw[Gq];show wpAny _ _ (spliced [(false,eval (Expr.Call (.Name "reversed" p) [a] [] pos) X.env)]) _ _ _;refine Calls.spliced_cons ?_;refine Call_ (iM I hg hm boot_reversed (PyProof.Rows.callWith_type1 (dr (ha pos pins s σ H _ I h) fun us s1 q1=>?_) hs rfl));obtain⟨vs,H1,I1,r1,l,ys,rfl,hq,q⟩:=q1;obtain⟨u,rfl,rx⟩:=vals1 r1;cases rx;obtain⟨aX,rv,pl,hz⟩:=I1.list hq;have hlen:=rv.length;refine call_reversed_list pl.isList ?_;refine Calls.spliced_nil ?_;have eM:l<s1.heap.objs.size:=by obtain⟨_,e,_⟩:=pl.isList;exact Heap.lt_size e
 have Ry:aX.toArray.size<=sizeLine:=by rw[List.size_toArray];lia
 refine vq (items:=aX.toArray) (I.ok.hd hc) ⟨_,Heap.get?_push_size _ rfl,rfl,rfl⟩ (pl.isList.push _) (Nat.ne_of_lt eM) Ry fun h' tk n_ c' hk hS Hf=>?_;have Y1:∀b o,s1.heap.get? b=some o->h'.get? b=some o:=fun b o e=>hk b o (Nat.ne_of_lt (Heap.lt_size e)) (Heap.get?_push_of_some _ e);have lr:s1.heap.objs.size<=(s1.heap.push (revObj l ((aX.toArray.size:Int)-1))).objs.size:=by rw[Heap.size_push];lia
 have JA:n_.size=aX.toArray.size:=Hf.1;have rr:Vals ys.reverse n_.toList:=by
  have e:n_.toList=aX.reverse:=by
   refine List.ext_getElem ?_ fun i h1 h2=>?_
   ·rw[Array.length_toList,JA,List.size_toArray,List.length_reverse]
   ·have h3:i<n_.size:=by simpa using h1
    have:=Hf.2 i n_[i] (by simp[h3]);have h4:aX.toArray.size-1-i<aX.length:=by rw[List.size_toArray];rw[JA,List.size_toArray] at h3;lia
    have h5:aX[aX.toArray.size-1-i]?=some n_[i]:=by simpa using this
    rw[List.getElem?_eq_getElem h4] at h5;rw[List.getElem_reverse];simp only[Array.getElem_toList];rw[<-Option.some.inj h5];simp
  rw[e];exact vt rv
 refine⟨.ref _,_,I1.laid (t':=tk) Y1 lr (show cX X.prog X.w _ h' _ (.lst ys.reverse) from⟨by rw[List.length_reverse];exact hz,n_.toList,c',rr,by rw[Array.toArray_toList];exact hS⟩),rfl,q _ (I1.bT.fresh lr)⟩
end
end L2
namespace L2
open PySem PySem.Spec PyProof.Rows
structure Dv(X:Cx):Prop where
 tree:X.prog.given.tree=none
 top:∃(env:Env)(l:List Env),X.stack=env::l/\env.scope.isGenerator=false/\env.scope.isCoroutine=false/\env.builtins=builtinsNs/\env.globals=mainGlobals
 dp:X.A.depth+100<recursionLimit
theorem fj.py{k:Nat}{A:Around}(r:fj (k+32) A):A.depth+100<recursionLimit:=by have:=r.dp;lia
theorem dO{X:Cx}(h:Dv X):nB X (binaryOp .FloorDiv) (rI (fun _ j=>j≠0) fun i j=>.int (i.fdiv j)):=by
 intro pins s σ H x y v u Q I rx ry hh;obtain⟨i,j,rfl,rfl,hc,q⟩:=hh;obtain⟨t,rfl⟩:=rx;obtain⟨t',rfl⟩:=ry;obtain⟨env,l,e,h1,h2,h3,h4⟩:=h.top;refine floordiv_int hc ?_ (.inr (PySem.PylongRoom.of I.nolimit h.dp (PySem.SeerAt.of (I.ok.mod.seer.keeps I.bk) h.tree (by rw[I.ok.frames,e]) h1 h2 h3 h4)));exact⟨.int (i.fdiv j),H,I.tok _,⟨_,rfl⟩,q⟩
end L2
namespace L2
open PySem PySem.Spec PyProof.Rows
section
variable {X:Cx}
end
end L2
namespace L2
open PySem PySem.Spec PyProof.Rows
inductive mS:List Expr->List Int->Prop
 |nil:mS [] []
 |pos {n:Int} {j:Nat} {p:Pos} {es:List Expr} {ns:List Int} (h:mS es ns):mS (.Constant (.int n) j p::es) (n::ns)
 |neg {n:Int} {j:Nat} {p p':Pos} {es:List Expr} {ns:List Int} (h:mS es ns):mS (.UnaryOp .USub (.Constant (.int n) j p) p'::es) (-n::ns)
noncomputable def JB(ns:List Int):TA:=fun _ H Q=>Q (ns.map V.int) H
theorem sX{X:Cx}:∀{es:List Expr}{ns:List Int},mS es ns->PA X es (JB ns)
 |_,_,.nil=>fun pos pins s σ H Q I h=>ag pos pins s σ H Q I h
 |_,_,.pos h=>fun pos pins s σ H Q I q=>aa af (sX h) rfl pos pins s σ H Q I q
 |_,_,.neg h=>fun pos pins s σ H Q I q=>aa (cU bR af) (sX h) rfl pos pins s σ H Q I ⟨_,rfl,q⟩
end L2
namespace L2
open PySem PySem.Spec PyProof.Rows
section
variable {X:Cx}
noncomputable def T4(K:PySem.W.Frag):R2:=fun x y H Q=>∃(p q:Addr)(a b c d:Int),x=.ref p/\y=.ref q/\bL K H p [.int a,.int b]/\bL K H q [.int c,.int d]/\Q (.bl (a==c&&b==d)) H
noncomputable def T5(K:PySem.W.Frag):R2:=fun x y H Q=>∃(p q:Addr)(a b c d:Int),x=.ref p/\y=.ref q/\bL K H p [.int a,.int b]/\bL K H q [.int c,.int d]/\Q (.bl (!(a==c&&b==d))) H
theorem DU(hu:X.A.units<cLine):nB X (compareOp .Eq) (T4 X.K):=by
 intro pins s σ H x y v u Q I rx ry h;obtain⟨p,q,a,b,c,d,rfl,rfl,hp,hq,h⟩:=h;cases rx;cases ry;obtain⟨aX,r,pl,hz⟩:=I.tuple hp;obtain⟨BK,r2,DE,Ry⟩:=I.tuple hq;obtain⟨u1,u2,rfl,⟨t1,rfl⟩,⟨t2,rfl⟩⟩:=vals2 r;obtain⟨w1,w2,rfl,⟨t3,rfl⟩,⟨t4,rfl⟩⟩:=vals2 r2;have z:=SeqAt.RcAt.tuples (A:=X.A) (s:=s) (e:=fun j=>if j=0 then a==c else b==d) pl DE hu (fun j h1 h2=>by
  match j,h1,h2 with
  |0,_,_=>exact SeqAt.EqAt.int_int _ _ _ _
  |1,_,_=>exact SeqAt.EqAt.int_int _ _ _ _
  |j+2,h1,_=>exact absurd h1 (by simp));refine z X.prog X.w X.xe _ ?_;have e3:((List.range (min [Value.int a t1,Value.int b t2].toArray.size [Value.int c t3,Value.int d t4].toArray.size)).all (fun j=>if j=0 then a==c else b==d)&&[Value.int a t1,Value.int b t2].toArray.size==[Value.int c t3,Value.int d t4].toArray.size)=(a==c&&b==d):=by
  show(((a==c)&&((b==d)&&true))&&true)=_;cases (a==c)<;>cases (b==d)<;>rfl
 rw[e3];exact⟨.bl _,H,I,rfl,h⟩
theorem LD(hu:X.A.units<cLine):nB X (compareOp .NotEq) (T5 X.K):=by
 intro pins s σ H x y v u Q I rx ry h;obtain⟨p,q,a,b,c,d,rfl,rfl,hp,hq,h⟩:=h;cases rx;cases ry;obtain⟨aX,r,pl,hz⟩:=I.tuple hp;obtain⟨BK,r2,DE,Ry⟩:=I.tuple hq;obtain⟨u1,u2,rfl,⟨t1,rfl⟩,⟨t2,rfl⟩⟩:=vals2 r;obtain⟨w1,w2,rfl,⟨t3,rfl⟩,⟨t4,rfl⟩⟩:=vals2 r2;have z:=SeqAt.RcNeAt.tuples (A:=X.A) (s:=s) (e:=fun j=>if j=0 then a==c else b==d) pl DE hu (fun j h1 h2=>by
  match j,h1,h2 with
  |0,_,_=>exact SeqAt.EqAt.int_int _ _ _ _
  |1,_,_=>exact SeqAt.EqAt.int_int _ _ _ _
  |j+2,h1,_=>exact absurd h1 (by simp));refine z X.prog X.w X.xe _ ?_;have e3:(!((List.range (min [Value.int a t1,Value.int b t2].toArray.size [Value.int c t3,Value.int d t4].toArray.size)).all (fun j=>if j=0 then a==c else b==d)&&[Value.int a t1,Value.int b t2].toArray.size==[Value.int c t3,Value.int d t4].toArray.size))=!(a==c&&b==d):=by
  show(!(((a==c)&&((b==d)&&true))&&true))=_;cases (a==c)<;>cases (b==d)<;>rfl
 rw[e3];exact⟨.bl _,H,I,rfl,h⟩
end
end L2
namespace SF
open Lean.Grind
structure Po where
 s:PS Int
 fin:∃n,∀i,n<=i->s.c i=0
namespace Po
theorem inj{f g:Po}(h:f.s=g.s):f=g:=by cases f;cases g;cases h;rfl
noncomputable def c(f:Po)(i:Nat):Int:=f.s.c i
theorem ext{f g:Po}(h:∀i,f.c i=g.c i):f=g:=inj (PS.ext h)
theorem Pa(a:Int):∃n,∀i,n<=i->(PS.C a).c i=0:=⟨1,fun i hi=>by rw[PS.oZ,if_neg (by lia)]⟩
noncomputable def K(a:Int):Po:=⟨PS.C a,Pa a⟩
theorem Hi(f g:Po):∃n,∀i,n<=i->(f.s+g.s).c i=0:=by
 obtain⟨a,ha⟩:=f.fin;obtain⟨b,hb⟩:=g.fin;exact⟨max a b,fun i hi=>by rw[PS.oY,ha i (by lia),hb i (by lia)];rfl⟩
theorem Hj(f g:Po):∃n,∀i,n<=i->(f.s-g.s).c i=0:=by
 obtain⟨a,ha⟩:=f.fin;obtain⟨b,hb⟩:=g.fin;exact⟨max a b,fun i hi=>by rw[PS.Ly,ha i (by lia),hb i (by lia)];rfl⟩
theorem Hk(f:Po):∃n,∀i,n<=i->(-f.s).c i=0:=by
 obtain⟨a,ha⟩:=f.fin;exact⟨a,fun i hi=>by rw[PS.DL,ha i hi];rfl⟩
theorem Hl(f g:Po):∃n,∀i,n<=i->(f.s*g.s).c i=0:=by
 obtain⟨a,ha⟩:=f.fin;obtain⟨b,hb⟩:=g.fin;refine⟨a+b,fun n hn=>?_⟩;rw[PS.dM];refine cE fun i hi=>?_;by_cases h:i<a
 ·rw[hb (n-i) (by lia)];grind
 ·rw[ha i (by lia)];grind
noncomputable instance instAdd:Add Po:=⟨fun f g=>⟨f.s+g.s,Hi f g⟩⟩
noncomputable instance instMul:Mul Po:=⟨fun f g=>⟨f.s*g.s,Hl f g⟩⟩
noncomputable instance instNeg:Neg Po:=⟨fun f=>⟨-f.s,Hk f⟩⟩
noncomputable instance instSub:Sub Po:=⟨fun f g=>⟨f.s-g.s,Hj f g⟩⟩
noncomputable instance instNatCast:NatCast Po:=⟨fun n=>K (n:Int)⟩
noncomputable instance instIntCast:IntCast Po:=⟨fun n=>K n⟩
noncomputable instance instOfNat(n:Nat):OfNat Po n:=⟨K ((n:Nat):Int)⟩
noncomputable def Pb(f:Po):Nat->Po
 |0=>K 1
 |n+1=>Pb f n*f
noncomputable instance instHPow:HPow Po Nat Po:=⟨Pb⟩
noncomputable instance ij:SMul Nat Po:=⟨fun n f=>K (n:Int)*f⟩
noncomputable instance ik:SMul Int Po:=⟨fun n f=>K n*f⟩
theorem JC:(PS.C (1:Int))=1:=rfl
theorem Ao:(PS.C (0:Int))=0:=rfl
noncomputable instance instCommRing:CommRing Po where
 natCast:=instNatCast
 ofNat:=instOfNat
 nsmul:=ij
 npow:=instHPow
 intCast:=instIntCast
 zsmul:=ik
 add_zero f:=inj (by show f.s+PS.C 0=f.s;rw[Ao];grind)
 add_comm f g:=inj (by show f.s+g.s=g.s+f.s;grind)
 add_assoc f g h:=inj (by show f.s+g.s+h.s=f.s+(g.s+h.s);grind)
 mul_assoc f g h:=inj (by show f.s*g.s*h.s=f.s*(g.s*h.s);grind)
 mul_one f:=inj (by show f.s*PS.C 1=f.s;rw[JC];grind)
 one_mul f:=inj (by show PS.C 1*f.s=f.s;rw[JC];grind)
 right_distrib f g h:=inj (by show(f.s+g.s)*h.s=f.s*h.s+g.s*h.s;grind)
 left_distrib f g h:=inj (by show f.s*(g.s+h.s)=f.s*g.s+f.s*h.s;grind)
 zero_mul f:=inj (by show PS.C 0*f.s=PS.C 0;rw[Ao];grind)
 mul_zero f:=inj (by show f.s*PS.C 0=PS.C 0;rw[Ao];grind)
 pow_zero f:=rfl
 pow_succ f n:=rfl
 ofNat_succ n:=inj (by show PS.C (((n+1:Nat)):Int)=PS.C ((n:Nat):Int)+PS.C ((1:Nat):Int);rw[<-PS.DM];rfl)
 ofNat_eq_natCast n:=rfl
 nsmul_eq_natCast_mul n f:=rfl
 neg_add_cancel f:=inj (by show -f.s+f.s=PS.C 0;rw[Ao];grind)
 sub_eq_add_neg f g:=inj (by show f.s-g.s=f.s+-g.s;grind)
 neg_zsmul n f:=inj (by show PS.C (-n)*f.s=-(PS.C n*f.s);rw[PS.Ai];grind)
 zsmul_natCast_eq_nsmul n f:=rfl
 intCast_ofNat n:=rfl
 intCast_neg n:=inj (by show PS.C (-n)=-PS.C n;rw[PS.Ai])
 mul_comm f g:=inj (PS.mul_comm f.s g.s)
theorem Ap(a b:Int):K (a+b)=K a+K b:=inj (PS.DM a b)
theorem DV(a:Int):K (-a)=-K a:=inj (PS.Ai a)
theorem cu:K 1=1:=rfl
theorem cR:K 0=0:=rfl
theorem fc(i:Nat):(0:Po).c i=0:=PS.ig i
theorem rJ(i:Nat):(1:Po).c i=if i=0 then 1 else 0:=PS.oZ 1 i
theorem x_(a:Int)(i:Nat):(K a).c i=if i=0 then a else 0:=PS.oZ a i
theorem kr(f g:Po)(i:Nat):(f+g).c i=f.c i+g.c i:=rfl
theorem gT(f g:Po)(i:Nat):(f-g).c i=f.c i-g.c i:=rfl
theorem JD(f:Po)(i:Nat):(-f).c i=-f.c i:=rfl
theorem vw(f g:Po)(n:Nat):(f*g).c n=aF (fun i=>f.c i*g.c (n-i)) (n+1):=rfl
theorem a_(a:Int)(f:Po)(n:Nat):(K a*f).c n=a*f.c n:=PS.nG a f.s n
theorem bQ(a b:Int):K (a*b)=K a*K b:=ext fun i=>by
 rw[a_,x_,x_];split<;>grind
theorem LF(xs:List Int):∃n,∀i,n<=i->(se xs).c i=0:=⟨xs.length,fun i hi=>cG hi⟩
noncomputable def aw(xs:List Int):Po:=⟨se xs,LF xs⟩
theorem bC(xs:List Int)(i:Nat):(aw xs).c i=co xs i:=rfl
theorem yb(f:Po):∃xs:List Int,Tr xs/\co xs=f.c:=by
 obtain⟨n,hn⟩:=f.fin;refine⟨dN (gx f.c n),iq _,?_⟩
 funext i
 rw[gD,sT (f:=f.c) hn]
noncomputable def lst(f:Po):List Int:=Classical.choose (yb f)
theorem iV(f:Po):Tr (lst f):=(Classical.choose_spec (yb f)).1
theorem jw(f:Po):co (lst f)=f.c:=(Classical.choose_spec (yb f)).2
noncomputable def len(f:Po):Nat:=(lst f).length
theorem di(f:Po):aw (lst f)=f:=ext fun i=>by rw[bC,jw]
theorem sY{xs:List Int}(h:Tr xs):lst (aw xs)=xs:=(iV _).inj h fun i=>by rw[jw];rfl
theorem bO{xs:List Int}(h:Tr xs):len (aw xs)=xs.length:=by unfold len;rw[sY h]
theorem lN{xs ys:List Int}(hx:Tr xs)(hy:Tr ys)(h:aw xs=aw ys):xs=ys:=by rw[<-sY hx,h,sY hy]
theorem dH:aw []=0:=ext fun i=>by rw[bC,fc];rfl
theorem Aq(xs ys:List Int):aw (mulL xs ys)=aw xs*aw ys:=ext fun i=>by rw[bC,sU];rfl
theorem DW(xs:List Int):aw (dN xs)=aw xs:=ext fun i=>by rw[bC,bC,gD]
theorem eF{f:Po}{i:Nat}(h:len f<=i):f.c i=0:=by rw[<-jw];exact cG h
theorem lead{f:Po}(h:0<len f):f.c (len f-1)≠0:=by
 rw[<-jw];exact(iV f).last (List.length_pos_iff.mp h)
theorem cJ{f:Po}{n:Nat}(h:∀i,n<=i->f.c i=0):len f<=n:=by
 rcases Nat.lt_or_ge n (len f) with hl|hl
 ·exact absurd (h (len f-1) (by lia)) (lead (by lia))
 ·exact hl
theorem len_eq{f:Po}{n:Nat}(h:∀i,n<=i->f.c i=0)(h0:f.c (n-1)≠0)(hp:0<n):len f=n:=by
 have h1:=cJ h;rcases Nat.lt_or_ge (len f) n with hl|hl
 ·exact absurd (eF (f:=f) (i:=n-1) (by lia)) h0
 ·lia
theorem fU:len (0:Po)=0:=Nat.le_zero.mp (cJ fun i _=>fc i)
theorem ou{f:Po}(h:len f=0):f=0:=ext fun i=>by rw[fc];exact eF (by lia)
theorem len_pos{f:Po}(h:f≠0):0<len f:=Nat.pos_of_ne_zero fun z=>h (ou z)
theorem cB{f:Po}(h:0<len f):f≠0:=by rintro rfl;rw[fU] at h;lia
theorem sZ(f g:Po):len (f+g)<=max (len f) (len g):=cJ fun i hi=>by
 rw[kr,eF (by lia),eF (by lia)];rfl
theorem len_sub(f g:Po):len (f-g)<=max (len f) (len g):=cJ fun i hi=>by
 rw[gT,eF (by lia),eF (by lia)];rfl
theorem len_K{a:Int}(h:a≠0):len (K a)=1:=len_eq (fun i hi=>by rw[x_,if_neg (by lia)]) (by rw[x_,if_pos rfl];exact h) (by decide)
theorem vy(a:Int):len (K a)<=1:=cJ fun i hi=>by rw[x_,if_neg (by lia)]
theorem cj{f:Po}(h:len f<=1):f=K (f.c 0):=ext fun i=>by
 rw[x_];split
 ·rename_i e;rw[e]
 ·exact eF (by lia)
theorem Pc{a b:Int}(h:K a=K b):a=b:=by
 have:=congrArg (fun f=>f.c 0) h;simpa[x_] using this
theorem kl{a:Int}(h:a≠0):K a≠0:=fun e=>h (Pc (e.trans cR.symm))
theorem len_mul{f g:Po}(hf:f≠0)(hg:g≠0):len (f*g)+1=len f+len g:=by
 have h1:=len_pos hf;have h2:=len_pos hg;have e:(f*g).c=(se (lst f)*se (lst g)).c:=by
  rw[<-sU]
  conv=>lhs;rw[<-di f,<-di g,<-Aq]
  rfl
 have h3:len (f*g)=len f+len g-1:=by
  refine len_eq (fun i hi=>?_) ?_ (by lia)
  ·rw[e];refine vi ?_;show len f+len g<=i+1;lia
  ·rw[e];have:=vk (xs:=lst f) (ys:=lst g) (List.length_pos_iff.mp h1) (List.length_pos_iff.mp h2);have e2:len f+len g-1-1=(lst f).length+(lst g).length-2:=by show _=len f+len g-2;lia
   rw[e2,this];exact Int.mul_ne_zero ((iV f).last (List.length_pos_iff.mp h1)) ((iV g).last (List.length_pos_iff.mp h2))
 lia
theorem o8{f g:Po}(hf:f≠0)(hg:g≠0):(f*g).c (len (f*g)-1)=f.c (len f-1)*g.c (len g-1):=by
 have h1:=len_pos hf;have h2:=len_pos hg;have h3:=len_mul hf hg;have e:(f*g).c=(se (lst f)*se (lst g)).c:=by
  rw[<-sU]
  conv=>lhs;rw[<-di f,<-di g,<-Aq]
  rfl
 have:=vk (xs:=lst f) (ys:=lst g) (List.length_pos_iff.mp h1) (List.length_pos_iff.mp h2);have e2:len (f*g)-1=(lst f).length+(lst g).length-2:=by show _=len f+len g-2;lia
 rw[e,e2,this,jw,jw];rfl
theorem dP{f g:Po}(hf:f≠0)(hg:g≠0):f*g≠0:=by
 have h1:=len_pos hf;have h2:=len_pos hg;have h3:=len_mul hf hg;exact cB (by lia)
theorem mul_eq_zero{f g:Po}(h:f*g=0):f=0\/g=0:=by
 by_cases hf:f=0
 ·exact .inl hf
 ·by_cases hg:g=0
  ·exact .inr hg
  ·exact absurd h (dP hf hg)
theorem cancel{f g h:Po}(hf:f≠0)(e:f*g=f*h):g=h:=by
 have:f*(g-h)=0:=by grind
 rcases mul_eq_zero this with z|z
 ·exact absurd z hf
 ·grind
theorem gF{a:Int}(h:a≠0)(f:Po):len (K a*f)=len f:=by
 by_cases hf:f=0
 ·rw[hf];have:K a*(0:Po)=0:=by grind
  rw[this]
 ·have:=len_mul (kl h) hf;rw[len_K h] at this;lia
theorem s_{f g:Po}(h:f*g≠0):f≠0:=by rintro rfl;exact h (by grind)
theorem iw{f g:Po}(h:f*g≠0):g≠0:=by rintro rfl;exact h (by grind)
noncomputable def X(n:Nat):Po:=⟨⟨fun i=>if i=n then 1 else 0⟩,n+1,fun i hi=>if_neg (by lia)⟩
theorem Ar(n i:Nat):(X n).c i=if i=n then 1 else 0:=rfl
theorem fL(n:Nat)(f:Po)(i:Nat):(X n*f).c i=if i<n then 0 else f.c (i-n):=by
 rw[vw];split
 ·rename_i h;refine cE fun j hj=>?_;rw[Ar,if_neg (by lia)];grind
 ·rename_i h;have e:i+1=n+(1+(i-n)):=by lia
  rw[e,cF,cF];rw[cE (n:=n) (fun j hj=>by rw[Ar,if_neg (by lia)];grind)];rw[cE (n:=i-n) (fun j hj=>by rw[Ar,if_neg (by lia)];grind)];show 0+((0+(X n).c (n+0)*f.c (i-(n+0)))+0)=_;rw[Ar,if_pos (Nat.add_zero n),Nat.add_zero];grind
theorem tj:X 0=1:=ext fun i=>by rw[Ar,rJ]
noncomputable def D(f g:Po):Prop:=∃a:Int,a≠0/\∃q,K a*g=f*q
theorem D.refl(f:Po):D f f:=⟨1,by decide,1,by rw[cu];grind⟩
theorem D.mul(f g:Po):D f (f*g):=⟨1,by decide,g,by rw[cu];grind⟩
theorem D.zero(f:Po):D f 0:=⟨1,by decide,0,by grind⟩
theorem D.trans{f g h:Po}(h1:D f g)(h2:D g h):D f h:=by
 obtain⟨a,ha,q,e⟩:=h1;obtain⟨b,hb,r,e2⟩:=h2;exact⟨a*b,Int.mul_ne_zero ha hb,q*r,by rw[bQ];grind⟩
theorem D.add{f g h:Po}(h1:D f g)(h2:D f h):D f (g+h):=by
 obtain⟨a,ha,q,e⟩:=h1;obtain⟨b,hb,r,e2⟩:=h2;exact⟨a*b,Int.mul_ne_zero ha hb,K b*q+K a*r,by rw[bQ];grind⟩
theorem D.mulR{f g:Po}(h:D f g)(u:Po):D f (g*u):=by
 obtain⟨a,ha,q,e⟩:=h;exact⟨a,ha,q*u,by grind⟩
theorem D.mulL{f g:Po}(h:D f g)(u:Po):D f (u*g):=by
 obtain⟨a,ha,q,e⟩:=h;exact⟨a,ha,q*u,by grind⟩
theorem D.neg{f g:Po}(h:D f g):D f (-g):=by
 obtain⟨a,ha,q,e⟩:=h;exact⟨a,ha,-q,by grind⟩
theorem D.sub{f g h:Po}(h1:D f g)(h2:D f h):D f (g-h):=by
 have:=h1.add h2.neg;have e:g-h=g+-h:=by grind
 rw[e];exact this
theorem D.As{f g:Po}{a:Int}(ha:a≠0)(h:D f (K a*g)):D f g:=by
 obtain⟨b,hb,q,e⟩:=h;exact⟨b*a,Int.mul_ne_zero hb ha,q,by rw[bQ];grind⟩
theorem D.Y2{f:Po}{a:Int}(ha:a≠0):D (K a) f:=⟨a,ha,f,rfl⟩
theorem D.Kl{f g:Po}{a:Int}(ha:a≠0)(h:D f g):D (K a*f) g:=by
 obtain⟨b,hb,q,e⟩:=h;exact⟨a*b,Int.mul_ne_zero ha hb,q,by rw[bQ];grind⟩
theorem D.ne{f g:Po}(h:D f g)(hg:g≠0):f≠0:=by
 obtain⟨a,ha,q,e⟩:=h;rintro rfl;exact dP (kl ha) hg (by rw[e];grind)
theorem D.len{f g:Po}(h:D f g)(hg:g≠0):len f<=len g:=by
 have hf:=h.ne hg;obtain⟨a,ha,q,e⟩:=h;have hq:q≠0:=by
  rintro rfl;exact dP (kl ha) hg (by rw[e];grind)
 have h1:=len_mul hf hq;rw[<-e,gF ha] at h1;have:=len_pos hq;lia
theorem D.o9{f g:Po}(h:D f g)(hg:g≠0)(hl:Po.len g<=Po.len f):D g f:=by
 have hf:=h.ne hg;obtain⟨a,ha,q,e⟩:=h;have hq:q≠0:=by
  rintro rfl;exact dP (kl ha) hg (by rw[e];grind)
 have h1:=len_mul hf hq;rw[<-e,gF ha] at h1;have h2:Po.len q<=1:=by lia
 have e2:=cj h2;have hb:q.c 0≠0:=by
  intro z;rw[z,cR] at e2;exact hq e2
 refine⟨q.c 0,hb,K a,?_⟩;rw[<-e2];grind
theorem D.cancel{f g h:Po}(hh:h≠0)(e:D (h*f) (h*g)):D f g:=by
 obtain⟨a,ha,q,e⟩:=e;refine⟨a,ha,q,Po.cancel hh ?_⟩;grind
theorem D.LG{f g h:Po}(e:D f g):D (h*f) (h*g):=by
 obtain⟨a,ha,q,e⟩:=e;exact⟨a,ha,q,by grind⟩
theorem D.const{f g:Po}(hf:f≠0)(hl:Po.len f<=1):D f g:=by
 have e:=cj hl;have hb:f.c 0≠0:=by
  intro z;rw[z,cR] at e;exact hf e
 rw[e];exact D.Y2 hb
theorem Pd{g:Po}(hg:g≠0):∀(n:Nat)(f:Po),len f<=n->∃a q r,a≠0/\K a*f=g*q+r/\len r<len g
 |0,f,h=>⟨1,0,f,by decide,by rw[cu];grind,by have:=len_pos hg;lia⟩
 |n+1,f,h=>by
  have Pe:=len_pos hg;by_cases hl:len f<len g
  ·exact⟨1,0,f,by decide,by rw[cu];grind,hl⟩
  have hfp:0<len f:=by lia
  let b:=g.c (len g-1);let d:=f.c (len f-1);let t:=K d*X (len f-len g);have hb:b≠0:=lead Pe;have hx:∀i,(t*g).c i=d*(if i<len f-len g then 0 else g.c (i-(len f-len g))):=fun i=>by
   have e:t*g=K d*(X (len f-len g)*g):=by show K d*X (len f-len g)*g=_;grind
   rw[e,a_,fL]
  have h2:len (K b*f-t*g)<=n:=cJ fun i hi=>by
   rw[gT,a_,hx];rw[if_neg (by lia)];by_cases he:i=len f-1
   ·have e2:i-(len f-len g)=len g-1:=by lia
    rw[e2,he];show b*d-d*b=0;grind
   ·rw[eF (f:=f) (by lia),eF (f:=g) (by lia)];grind
  obtain⟨a,q,r,ha,e,hr⟩:=Pd hg n _ h2;exact⟨a*b,q+K a*t,r,Int.mul_ne_zero ha hb,by rw[bQ];grind,hr⟩
theorem tD:∀(n:Nat)(f g:Po),len g<=n->(f≠0\/g≠0)->∃h u v,h≠0/\u*f+v*g=h/\D h f/\D h g
 |0,f,g,hn,h0=>by
  have hg:g=0:=ou (by lia);have hf:f≠0:=h0.resolve_right fun z=>z hg;exact⟨f,1,0,hf,by grind,D.refl f,by rw[hg];exact D.zero f⟩
 |n+1,f,g,hn,h0=>by
  by_cases hg:g=0
  ·exact tD 0 f g (by rw[hg,fU];exact Nat.le_refl _) h0
  obtain⟨a,q,r,ha,e,hr⟩:=Pd hg _ f (Nat.le_refl _);obtain⟨h,u,v,hh,eb,d1,d2⟩:=tD n g r (by lia) (.inl hg);refine⟨h,v*K a,u-v*q,hh,by grind,?_,d1⟩;refine D.As ha ?_;rw[e];exact(d1.mulR q).add d2
end Po
end SF
namespace SF
open Lean.Grind
noncomputable def JE(p:Nat):Prop:=2<=p/\∀d,d∣p->d=1\/d=p
theorem JE.dvd{p:Nat}(h:JE p){a b:Int}(hd:(p:Int)∣a*b):(p:Int)∣a\/(p:Int)∣b:=by
 by_cases ha:(p:Int)∣a
 ·exact .inl ha
 refine .inr ?_;have h1:p∣a.natAbs*b.natAbs:=by
  have:=Int.natAbs_dvd_natAbs.mpr hd
  rwa [Int.natAbs_mul,Int.natAbs_natCast] at this
 have hg:Nat.gcd p a.natAbs=1:=by
  rcases h.2 _ (Nat.gcd_dvd_left p a.natAbs) with e|e
  ·exact e
  ·exact absurd (Int.ofNat_dvd_left.mpr (by rw[<-e];exact Nat.gcd_dvd_right ..)) ha
 exact Int.ofNat_dvd_left.mpr (Nat.Coprime.dvd_of_dvd_mul_left hg h1)
theorem JE.ex:∀(n m:Nat),m<=n->2<=m->∃p,JE p/\p∣m
 |0,m,h,h2=>by lia
 |n+1,m,h,h2=>by
  by_cases hp:∀d,d∣m->d=1\/d=m
  ·exact⟨m,⟨h2,hp⟩,Nat.dvd_refl m⟩
  ·obtain⟨d,hd⟩:=Classical.not_forall.mp hp;obtain⟨uR,hd2⟩:=Classical.not_imp.mp hd;rw[_root_.not_or] at hd2;have hle:=Nat.le_of_dvd (by lia) uR;have h0:d≠0:=by
    rintro rfl;have:=Nat.eq_zero_of_zero_dvd uR;lia
   obtain⟨p,hp,JF⟩:=JE.ex n d (by lia) (by lia);exact⟨p,hp,Nat.dvd_trans JF uR⟩
theorem least{P:Nat->Prop}:∀(n:Nat),¬P n->∃i,¬P i/\∀j,j<i->P j:=by
 intro n
 induction n using Nat.strongRecOn with
 |_ n ih=>
  intro h;by_cases hx:∀j,j<n->P j
  ·exact⟨n,h,hx⟩
  ·obtain⟨j,hj⟩:=Classical.not_forall.mp hx;obtain⟨h1,h2⟩:=Classical.not_imp.mp hj;exact ih j h1 h2
theorem lO{p:Int}{f:Nat->Int}:∀{n:Nat},(∀i,i<n->p∣f i)->p∣aF f n
 |0,_=>Int.dvd_zero p
 |n+1,h=>Int.dvd_add (lO fun i hi=>h i (by lia)) (h n (by lia))
namespace Po
noncomputable def Pr(f:Po):Prop:=∀p:Nat,(∀i,(p:Int)∣f.c i)->p=1
theorem Pr.ne{f:Po}(h:Pr f):f≠0:=by
 rintro rfl;have:=h 2 fun i=>by rw[fc];exact Int.dvd_zero _
 lia
theorem nH{p:Nat}(hp:JE p){f q:Po}(h:∀i,(p:Int)∣(f*q).c i):(∀i,(p:Int)∣f.c i)\/(∀i,(p:Int)∣q.c i):=by
 by_cases h1:∀i,(p:Int)∣f.c i
 ·exact .inl h1
 by_cases h2:∀i,(p:Int)∣q.c i
 ·exact .inr h2
 exfalso;obtain⟨i0,TH⟩:=Classical.not_forall.mp h1;obtain⟨j0,Y3⟩:=Classical.not_forall.mp h2;obtain⟨i,hi,Y4⟩:=least (P:=fun i=>(p:Int)∣f.c i) i0 TH;obtain⟨j,hj,Y5⟩:=least (P:=fun i=>(p:Int)∣q.c i) j0 Y3;have:=h (i+j);rw[vw] at this;have e:i+j+1=i+(1+j):=by lia
 rw[e,cF,cF] at this;have d1:(p:Int)∣aF (fun s=>f.c s*q.c (i+j-s)) i:=lO fun s hs=>Int.dvd_mul_of_dvd_left (Y4 s hs);have d2:(p:Int)∣aF (fun s=>f.c (i+(1+s))*q.c (i+j-(i+(1+s)))) j:=lO fun s hs=>Int.dvd_mul_of_dvd_right (Y5 _ (by lia));have d3:=(Int.dvd_add_right d1).mp this;have d4:=(Int.dvd_add_left d2).mp d3;have d5:(p:Int)∣f.c i*q.c j:=by
  have e2:aF (fun s=>f.c (i+s)*q.c (i+j-(i+s))) 1=f.c i*q.c j:=by
   show 0+f.c (i+0)*q.c (i+j-(i+0))=_;rw[Nat.add_zero,Nat.add_sub_cancel_left];grind
  rw[<-e2];exact d4
 rcases hp.dvd d5 with z|z
 ·exact hi z
 ·exact hj z
theorem over{f:Po}{p:Int}(h:∀i,p∣f.c i):∃g,f=K p*g:=by
 refine⟨⟨⟨fun i=>f.c i/p⟩,?_⟩,?_⟩
 ·obtain⟨n,hn⟩:=f.fin;exact⟨n,fun i hi=>by show f.c i/p=0;rw[show f.c i=0 from hn i hi];simp⟩
 ·refine ext fun i=>?_;rw[a_];exact(Int.mul_ediv_cancel' (h i)).symm
theorem JG{f:Po}(hf:Pr f):∀(n:Nat)(a:Int)(g q:Po),a.natAbs<=n->a≠0->K a*g=f*q->∃q',q=K a*q'
 |0,a,g,q,hn,h0,e=>by lia
 |n+1,a,g,q,hn,h0,e=>by
  by_cases h1:a.natAbs=1
  ·refine⟨K a*q,?_⟩;have e2:a*a=1:=by
    rcases Int.natAbs_eq a with z|z<;>rw[h1] at z<;>rw[z]<;>rfl
   have:K a*(K a*q)=K (a*a)*q:=by rw[bQ];grind
   rw[this,e2,cu];grind
  obtain⟨p,hp,hd⟩:=JE.ex _ a.natAbs (Nat.le_refl _) (by lia);have Dg:(p:Int)∣a:=Int.ofNat_dvd_left.mpr hd;obtain⟨b,rfl⟩:=Dg;have hb:b≠0:=by rintro rfl;exact h0 (by simp)
  have Hm:(p:Int)≠0:=by have:=hp.1;lia
  have oU:∀i,(p:Int)∣(f*q).c i:=fun i=>by
   rw[<-e,a_,Int.mul_assoc];exact Int.dvd_mul_right ..
  rcases nH hp oU with z|z
  ·have:=hf p z;have:=hp.1;lia
  obtain⟨q1,rfl⟩:=over z;have e1:K b*g=f*q1:=by
   refine Po.cancel (kl Hm) ?_;rw[bQ] at e;grind
  have eM:b.natAbs<=n:=by
   have h2:=hp.1;rw[Int.natAbs_mul,Int.natAbs_natCast] at hn;have h3:0<b.natAbs:=by lia
   have h4:2*b.natAbs<=p*b.natAbs:=Nat.mul_le_mul_right _ h2;lia
  obtain⟨q2,rfl⟩:=JG hf n b g q1 eM hb e1;exact⟨q2,by rw[bQ];grind⟩
theorem Pr.div{f g:Po}(hf:Pr f)(h:D f g):∃q,g=f*q:=by
 obtain⟨a,ha,q,e⟩:=h;obtain⟨q',rfl⟩:=JG hf _ a g q (Nat.le_refl _) ha e;refine⟨q',Po.cancel (kl ha) ?_⟩;grind
theorem Pr.LH{f g:Po}(h:Pr (f*g)):Pr g:=fun p hp=>h p fun i=>by
 rw[vw];exact lO fun s _=>Int.dvd_mul_of_dvd_right (hp _)
theorem Pr.same{f g:Po}(hf:Pr f)(hg:Pr g)(h1:D f g)(h2:D g f)(l1:0<f.c (len f-1))(l2:0<g.c (len g-1)):f=g:=by
 obtain⟨q,e⟩:=hf.div h1;have T6:=h1.len hg.ne;have sO:=h2.len hf.ne;have hq:q≠0:=by rintro rfl;exact hg.ne (by rw[e];grind)
 have Y6:=len_mul hf.ne hq;rw[<-e] at Y6;have hc:=cj (f:=q) (by lia);have hd:∀i,q.c 0∣g.c i:=fun i=>by
  have e2:g=K (q.c 0)*f:=by rw[<-hc,e];grind
  rw[e2,a_];exact Int.dvd_mul_right ..
 have h3:(q.c 0).natAbs=1:=hg _ fun i=>Int.natAbs_dvd.mpr (hd i);have hle:len f=len g:=by lia
 have e3:g.c (len g-1)=q.c 0*f.c (len f-1):=by
  have e2:g=K (q.c 0)*f:=by rw[<-hc,e];grind
  have:=congrArg (fun z:Po=>z.c (len g-1)) e2;have e4:g.c (len g-1)=(K (q.c 0)*f).c (len g-1):=this;rw[e4,a_,hle]
 have h4:q.c 0=1:=by
  rcases Int.natAbs_eq (q.c 0) with z|z
  ·rw[z,h3];rfl
  ·rw[h3] at z;rw[z] at e3;lia
 rw[e,hc,h4,cu];grind
theorem Hn(f:Po):∃n,∀i,n<=i->(PS.aY f.s).c i=0:=by
 obtain⟨n,hn⟩:=f.fin;exact⟨n,fun i hi=>by rw[PS.o5,hn (i+1) (by lia)];grind⟩
noncomputable def aY(f:Po):Po:=⟨PS.aY f.s,Hn f⟩
theorem nI(f:Po)(i:Nat):(aY f).c i=((i+1:Nat):Int)*f.c (i+1):=rfl
theorem lH(f g:Po):aY (f*g)=aY f*g+f*aY g:=inj (PS.lH f.s g.s)
theorem vA(a:Int)(f:Po):aY (K a*f)=K a*aY f:=ext fun i=>by
 rw[nI,a_,a_,nI];grind
theorem Au(f:Po):len (aY f)=len f-1:=by
 by_cases h:len f<=1
 ·have:len (aY f)<=0:=cJ fun i _=>by rw[nI,eF (by lia)];grind
  lia
 ·refine len_eq (fun i hi=>by rw[nI,eF (by lia)];grind) ?_ (by lia);rw[nI];have e:len f-1-1+1=len f-1:=by lia
  rw[e];exact Int.mul_ne_zero (by lia) (lead (by lia))
theorem fe(xs:List Int):aw (cb xs)=aY (aw xs):=ext fun i=>by
 rw[bC,lJ];rfl
theorem iy(f:Po):f^0=1:=rfl
theorem pow_succ'(f:Po)(n:Nat):f^(n+1)=f^n*f:=rfl
theorem yc{f:Po}(h:f≠0):∀n:Nat,f^n≠0
 |0=>by rw[iy,<-cu];exact kl (by decide)
 |n+1=>by rw[pow_succ'];exact dP (yc h n) h
theorem Av(f:Po):∀n:Nat,aY (f^(n+1))=K ((n+1:Nat):Int)*(f^n*aY f)
 |0=>by
  have e:f^(0+1)=f:=by rw[pow_succ',iy];grind
  rw[e,iy];show _=K 1*_;rw[cu];grind
 |n+1=>by
  rw[pow_succ',lH,Av f n];have e:K ((n+1+1:Nat):Int)=K ((n+1:Nat):Int)+1:=by
   rw[<-cu,<-Ap];rfl
  rw[e,pow_succ'];grind
noncomputable def nJ(p:Po):Prop:=2<=len p/\∀d,D d p->len d<=1\/len p<=len d
theorem nJ.ne{p:Po}(h:nJ p):p≠0:=cB (by have:=h.1;lia)
theorem nJ.prime{p f g:Po}(hp:nJ p)(h:D p (f*g)):D p f\/D p g:=by
 obtain⟨h,u,v,hh,e,d1,d2⟩:=tD _ p f (Nat.le_refl _) (.inl hp.ne);rcases hp.2 h d1 with z|z
 ·refine .inr ?_;have hc:=cj z;have h0:h.c 0≠0:=fun z=>hh (by rw[hc,z,cR]);refine D.As h0 ?_;rw[<-hc,<-e];have e2:(u*p+v*f)*g=p*(u*g)+(f*g)*v:=by grind
  rw[e2];exact(D.mul p _).add (D.mulR (by assumption) v)
 ·exact .inl ((d1.o9 hp.ne z).trans d2)
theorem nJ.ex:∀(n:Nat)(f:Po),len f<=n->2<=len f->∃p,nJ p/\D p f
 |0,f,h,h2=>by lia
 |n+1,f,h,h2=>by
  by_cases hp:∀d,D d f->len d<=1\/len f<=len d
  ·exact⟨f,⟨h2,hp⟩,D.refl f⟩
  ·obtain⟨d,hd⟩:=Classical.not_forall.mp hp;obtain⟨uR,hd2⟩:=Classical.not_imp.mp hd;rw[_root_.not_or] at hd2;obtain⟨p,hp,JF⟩:=nJ.ex n d (by lia) (by lia);exact⟨p,hp,JF.trans uR⟩
theorem nJ.aY{p:Po}(hp:nJ p):¬D p (aY p):=fun h=>by
 have h1:=hp.1;have h2:=Au p;have:=h.len (cB (by lia));lia
theorem nJ.mult{p:Po}(hp:nJ p):∀(n:Nat)(f:Po),len f<=n->f≠0->∃(e:Nat)(u:Po)(a:Int),a≠0/\K a*f=p^e*u/\¬D p u
 |0,f,h,h0=>absurd (ou (by lia)) h0
 |n+1,f,h,h0=>by
  by_cases hd:D p f
  ·obtain⟨a,ha,q,e⟩:=hd;have hq:q≠0:=iw (f:=p) (by rw[<-e];exact dP (kl ha) h0);have h1:=len_mul hp.ne hq;rw[<-e,gF ha] at h1;have h2:=hp.1;obtain⟨k,u,b,hb,e2,hu⟩:=nJ.mult hp n q (by lia) hq;refine⟨k+1,u,b*a,Int.mul_ne_zero hb ha,?_,hu⟩;rw[bQ,pow_succ'];grind
  ·exact⟨0,f,1,by decide,by rw[cu,iy],hd⟩
theorem Ho{f h p u v:Po}{a:Int}(hf:f≠0)(e1:u*f+v*aY f=h)(d1:D h f)(d2:D h (aY f))(ha:a≠0)(e:K a*f=h*p){π:Po}(hp:nJ π):
 (D π p↔D π f)/\¬D (π*π) p:=by
 have T7:D p f:=⟨a,ha,h,by grind⟩;have hh:h≠0:=s_ (g:=p) (by rw[<-e];exact dP (kl ha) hf);by_cases hd:D π f
 ·obtain⟨k,w,b,hb,ew,hw⟩:=hp.mult _ f (Nat.le_refl _) hf;have hk:k≠0:=by
   rintro rfl;refine hw ?_;have:w=K b*f:=by rw[ew,iy];grind
   rw[this];exact hd.mulL _
  obtain⟨k,rfl⟩:=Nat.exists_eq_succ_of_ne_zero hk;have ed:K b*aY f=π^k*(K ((k+1:Nat):Int)*(aY π*w)+π*aY w):=by
   rw[<-vA,ew,lH,Av,pow_succ'];grind
  have dk:D (π^k) h:=by
   rw[<-e1];refine D.add (D.mulL ⟨b,hb,π*w,?_⟩ u) (D.mulL ⟨b,hb,_,ed⟩ v);rw[ew,pow_succ'];grind
  have Y7:¬D (π^(k+1)) h:=fun z=>by
   have z2:=z.trans d2;have z3:D (π^k*π) (π^k*(K ((k+1:Nat):Int)*(aY π*w)+π*aY w)):=by
    rw[<-ed,<-pow_succ'];exact z2.mulL _
   have z4:=D.cancel (yc hp.ne k) z3;have z5:D π (K ((k+1:Nat):Int)*(aY π*w)):=by
    have:=z4.sub (D.mul π (aY w));have e2:K ((k+1:Nat):Int)*(aY π*w)+π*aY w-π*aY w=K ((k+1:Nat):Int)*(aY π*w):=by grind
    rw[e2] at this;exact this
   rcases hp.prime (D.As (by lia) z5) with z6|z6
   ·exact hp.aY z6
   ·exact hw z6
  obtain⟨b2,JH,w2,WK⟩:=dk;have Y8:¬D π w2:=fun z=>Y7 (by
   refine D.As JH ?_
   rw[WK,pow_succ'];exact z.LG);have em:K (b2*a)*(π*w)=K b*(w2*p):=by
   refine Po.cancel (yc hp.ne k) ?_;have e2:π^k*π*w=K b*f:=by rw[ew,pow_succ']
   have e3:π^k*w2=K b2*h:=WK.symm;rw[bQ];have e4:π^k*(K b2*K a*(π*w))=K b2*K a*(π^k*π*w):=by grind
   have e5:π^k*(K b*(w2*p))=K b*p*(π^k*w2):=by grind
   rw[e4,e5,e2,e3];grind
  have rK:b2*a≠0:=Int.mul_ne_zero JH ha;constructor
  ·refine⟨fun z=>z.trans T7,fun _=>?_⟩;have z1:D π (w2*p):=by
    refine D.As hb ?_;rw[<-em];exact(D.mul π w).mulL _
   rcases hp.prime z1 with z|z
   ·exact absurd z Y8
   ·exact z
  ·rintro⟨c,hc,t,et⟩;refine hw ⟨b2*a*c,Int.mul_ne_zero rK hc,K b*(w2*t),Po.cancel hp.ne ?_⟩;have e6:π*(K (b2*a*c)*w)=K c*(K (b2*a)*(π*w)):=by rw[bQ];grind
   rw[e6,em];grind
 ·refine⟨⟨fun z=>z.trans T7,fun z=>absurd z hd⟩,fun z=>hd ?_⟩;have:D π (π*π):=D.mul π π;exact(this.trans z).trans T7
theorem yd:∀(n:Nat)(p q:Po),len p<=n->p≠0->(∀π,nJ π->¬D (π*π) p)->(∀π,nJ π->D π p->D π q)->D p q
 |0,p,q,h,h0,_,_=>absurd (ou (by lia)) h0
 |n+1,p,q,h,h0,hs,hd=>by
  by_cases hl:len p<=1
  ·exact D.const h0 hl
  obtain⟨π,hp,JF⟩:=nJ.ex _ p (Nat.le_refl _) (by lia);have dq:=hd π hp JF;obtain⟨a,ha,p1,e⟩:=JF;have h1:p1≠0:=iw (f:=π) (by rw[<-e];exact dP (kl ha) h0);have T6:=len_mul hp.ne h1;rw[<-e,gF ha] at T6;have sO:=hp.1;have WL:D p1 p:=⟨a,ha,π,by grind⟩;have Y9:¬D π p1:=fun z=>hs π hp (by
   refine D.As ha ?_
   rw[e];exact z.LG);have Y_:=yd n p1 q (by lia) h1 (fun τ ht z=>hs τ ht (z.trans WL)) (fun τ ht z=>hd τ ht (z.trans WL));obtain⟨b,hb,t,et⟩:=Y_;have z1:D π (p1*t):=by rw[<-et];exact dq.mulL _
  rcases hp.prime z1 with z|z
  ·exact absurd z Y9
  obtain⟨c,hc,s,es⟩:=z;refine⟨c*b*a,Int.mul_ne_zero (Int.mul_ne_zero hc hb) ha,K a*(K a*s),?_⟩;have e3:K (c*b*a)*q=K a*(K c*(K b*q)):=by rw[bQ,bQ];grind
  have e4:p*(K a*(K a*s))=K a*((K a*p)*s):=by grind
  rw[e3,e4,et,e];grind
end Po
end SF
namespace SF
open Lean.Grind
theorem lP{f g:Nat->Int}:∀{n:Nat},(∀i,i<n->f i<=g i)->aF f n<=aF g n
 |0,_=>Int.le_refl 0
 |n+1,h=>Int.add_le_add (lP fun i hi=>h i (by lia)) (h n (by lia))
theorem jx{f:Nat->Int}{n:Nat}(h:∀i,i<n->0<=f i):0<=aF f n:=by
 have:=lP (f:=fun _=>0) (g:=f) h;rw[rF] at this;exact this
theorem Hq{f:Nat->Int}{n j:Nat}(h:∀i,i<n->0<=f i)(hj:j<n):f j<=aF f n:=by
 have e:n=j+(1+(n-1-j)):=by lia
 rw[e,cF,cF];have h1:0<=aF f j:=jx fun i hi=>h i (by lia);have h2:0<=aF (fun i=>f (j+(1+i))) (n-1-j):=jx fun i hi=>h _ (by lia);have h3:aF (fun i=>f (j+i)) 1=f j:=by show 0+f (j+0)=f j;rw[Nat.add_zero];grind
 lia
theorem o_(M:Int):∀n:Nat,aF (fun i=>M*(M+1)^i) n=(M+1)^n-1
 |0=>by show(0:Int)=(M+1)^0-1;rw[Int.pow_zero];rfl
 |n+1=>by
  show aF (fun i=>M*(M+1)^i) n+M*(M+1)^n=_;rw[o_ M n,Int.pow_succ];grind
noncomputable def ab(x:Int):Int:=(x.natAbs:Int)
theorem aK(x:Int):0<=ab x:=by unfold ab;lia
theorem gG(x y:Int):ab (x+y)<=ab x+ab y:=by unfold ab;lia
theorem LI(x y:Int):ab (x-y)<=ab x+ab y:=by unfold ab;lia
theorem ck(x y:Int):ab (x*y)=ab x*ab y:=by unfold ab;rw[Int.natAbs_mul];push_cast;rfl
theorem nK{x:Int}(h:0<=x):ab x=x:=by unfold ab;lia
theorem f7{x:Int}(h:x≠0):0<ab x:=by unfold ab;lia
theorem ye{f:Nat->Int}:∀n:Nat,ab (aF f n)<=aF (fun i=>ab (f i)) n
 |0=>Int.le_refl 0
 |n+1=>by
  have h1:=gG (aF f n) (f n);have h2:=ye (f:=f) n;show ab (aF f n+f n)<=aF (fun i=>ab (f i)) n+ab (f n);lia
namespace Po
noncomputable def eX(p:Int):List Int->Int
 |[]=>0
 |x::r=>x+p*eX p r
theorem tE(p:Int):∀xs:List Int,eX p xs=aF (fun i=>co xs i*p^i) xs.length
 |[]=>rfl
 |x::r=>by
  show x+p*eX p r=_;rw[tE p r,List.length_cons,eN,iS,Int.pow_zero,<-cD];have e:aF (fun i=>p*(co r i*p^i)) r.length=aF (fun i=>co (x::r) (i+1)*p^(i+1)) r.length:=aN fun i _=>by
   rw[fb,Int.pow_succ];grind
  rw[e];grind
noncomputable def ev(p:Int)(f:Po):Int:=aF (fun i=>f.c i*p^i) (len f)
theorem vB(p:Int){f:Po}{n:Nat}(h:len f<=n):ev p f=aF (fun i=>f.c i*p^i) n:=by
 have e:n=len f+(n-len f):=by lia
 rw[e,cF,cE (n:=n-len f) (fun i _=>by rw[eF (by lia)];grind)];show aF _ _=_;grind
theorem jy(p:Int)(xs:List Int):ev p (aw xs)=eX p xs:=by
 rw[tE,vB p (f:=aw xs) (n:=xs.length) (cJ fun i hi=>by rw[bC];exact cG hi)];rfl
theorem yf(p:Int)(f g:Po):ev p (f+g)=ev p f+ev p g:=by
 have h1:=sZ f g;rw[vB p h1,vB p (f:=f) (n:=max (len f) (len g)) (by lia),vB p (f:=g) (n:=max (len f) (len g)) (by lia),<-e_];exact aN fun i _=>by rw[kr];grind
theorem lQ(p a:Int)(f:Po):ev p (K a*f)=a*ev p f:=by
 have h1:len (K a*f)<=len f:=cJ fun i hi=>by rw[a_,eF hi];grind
 rw[vB p h1];unfold ev;rw[<-cD];exact aN fun i _=>by rw[a_];grind
theorem LJ(p:Int)(f:Po):ev p (-f)=-ev p f:=by
 have e:-f=K (-1)*f:=by
  rw[DV,cu];grind
 rw[e,lQ];grind
theorem LK(p:Int)(f g:Po):ev p (f-g)=ev p f-ev p g:=by
 have e:f-g=f+-g:=by grind
 rw[e,yf,LJ];grind
theorem DX(p a:Int):ev p (K a)=a:=by
 rw[vB p (vy a)];show 0+(K a).c 0*p^0=a;rw[x_,if_pos rfl,Int.pow_zero];grind
theorem pb(x:Int)(r:List Int):aw (x::r)=K x+X 1*aw r:=ext fun i=>by
 rw[kr,x_,fL,bC];cases i with
 |zero=>rw[iS,if_pos rfl,if_pos (by decide)];grind
 |succ i=>rw[fb,if_neg (by lia),if_neg (by lia),Nat.add_sub_cancel,bC];grind
theorem rL(p:Int):∀xs:List Int,∃B,aw xs=(X 1-K p)*B+K (eX p xs)
 |[]=>⟨0,by rw[dH];show _=_+K 0;rw[cR];grind⟩
 |x::r=>by
  obtain⟨B,e⟩:=rL p r;refine⟨X 1*B+K (eX p r),?_⟩;rw[pb,e];show _=_+K (x+p*eX p r);rw[Ap,bQ];grind
theorem factor(p:Int)(f:Po):∃B,f=(X 1-K p)*B+K (ev p f):=by
 obtain⟨B,e⟩:=rL p (lst f);rw[di] at e;refine⟨B,?_⟩;rw[<-jy,di] at e;exact e
theorem Hr(p:Int)(f:Po)(i:Nat):((X 1-K p)*f).c i=(if i<1 then 0 else f.c (i-1))-p*f.c i:=by
 have e:(X 1-K p)*f=X 1*f-K p*f:=by grind
 rw[e,gT,fL,a_]
theorem DY(p:Int):len (X 1-K p)=2:=by
 refine len_eq (fun i hi=>?_) ?_ (by decide)
 ·rw[gT,Ar,x_,if_neg (by lia),if_neg (by lia)];rfl
 ·rw[gT,Ar,x_,if_pos (by decide),if_neg (by decide)];decide
theorem Pf(p:Int)(f:Po):ev p ((X 1-K p)*f)=0:=by
 have h:len ((X 1-K p)*f)<=len f+1:=cJ fun i hi=>by
  rw[Hr,if_neg (by lia),eF (by lia),eF (by lia)];grind
 rw[vB p h];have e:aF (fun i=>((X 1-K p)*f).c i*p^i) (len f+1)=aF (fun i=>(if i<1 then 0 else f.c (i-1))*p^i) (len f+1)-aF (fun i=>p*(f.c i*p^i)) (len f+1):=by
  have:∀a b:Int,a=b-(b-a):=fun a b=>by lia
  have e2:aF (fun i=>(if i<1 then 0 else f.c (i-1))*p^i) (len f+1)=aF (fun i=>((X 1-K p)*f).c i*p^i) (len f+1)+aF (fun i=>p*(f.c i*p^i)) (len f+1):=by
   rw[<-e_];exact aN fun i _=>by rw[Hr];grind
  lia
 rw[e,cD,<-vB p (f:=f) (n:=len f+1) (by lia),eN];have e3:aF (fun i=>(if i+1<1 then 0 else f.c (i+1-1))*p^(i+1)) (len f)=p*ev p f:=by
  unfold ev;rw[<-cD];exact aN fun i _=>by
   rw[if_neg (by lia),Nat.add_sub_cancel,Int.pow_succ];grind
 rw[e3,if_pos (by decide)];grind
theorem mT(p:Int)(f g:Po):ev p (f*g)=ev p f*ev p g:=by
 obtain⟨A,ea⟩:=factor p f;obtain⟨B,eb⟩:=factor p g;have e:f*g=(X 1-K p)*(A*g+K (ev p f)*B)+K (ev p f*ev p g):=by
  rw[bQ]
  conv=>lhs;rw[ea]
  have:K (ev p f)*g=K (ev p f)*((X 1-K p)*B+K (ev p g)):=by rw[<-eb]
  grind
 rw[e,yf,Pf,DX];grind
theorem DZ(p:Int){f g q:Po}(e:g=f*q):ev p f∣ev p g:=by rw[e,mT];exact Int.dvd_mul_right ..
noncomputable def nn(ρ:Int)(N:Nat)(z:Po):Int:=aF (fun i=>ab (z.c i)*ρ^i) N
theorem rM{ρ:Int}(h:0<=ρ)(N:Nat)(z:Po):0<=nn ρ N z:=
 jx fun i _=>Int.mul_nonneg (aK _) (Int.pow_nonneg h)
theorem D0{ρ:Int}(h:0<ρ){N:Nat}{z:Po}(hz:z≠0)(hl:len z<=N):0<nn ρ N z:=by
 have h1:=len_pos hz;have h2:=lead h1;have:=Hq (f:=fun i=>ab (z.c i)*ρ^i) (n:=N) (j:=len z-1) (fun i _=>Int.mul_nonneg (aK _) (Int.pow_nonneg (by lia))) (by lia);have h3:0<ab (z.c (len z-1))*ρ^(len z-1):=Int.mul_pos (f7 h2) (Int.pow_pos h);unfold nn;exact Int.lt_of_lt_of_le h3 this
theorem Aw{f z y:Po}{s τ p M:Int}{N:Nat}(hM:∀i,ab (f.c i)<=M)(hN:len f=N+2)(hy:len y<=N+1)(hp:0<=p)(e:(X 1-K p)*y=K τ*f-K s*z)(hz:len z<=N+1):
 p*nn (M+1) (N+1) y<=ab s*nn (M+1) (N+1) z+(M+1)*nn (M+1) (N+1) y:=by
 have LL:0<=M:=Int.le_trans (aK _) (hM 0);have ku:(0:Int)<=M+1:=by lia
 have top:τ*f.c (N+1)=y.c N:=by
  have:=congrArg (fun w:Po=>w.c (N+1)) e;have h2:((X 1-K p)*y).c (N+1)=(K τ*f-K s*z).c (N+1):=this;rw[Hr,if_neg (by lia),Nat.add_sub_cancel,eF (f:=y) (i:=N+1) hy,gT,a_,a_,eF (f:=z) (i:=N+1) hz] at h2;grind
 have hl:=lead (f:=f) (by lia);have Hs:len f-1=N+1:=by lia
 rw[Hs] at hl;have row:∀i,i<N+1->p*(ab (y.c i)*(M+1)^i)<=ab s*(ab (z.c i)*(M+1)^i)+(if i<1 then 0 else ab (y.c (i-1)))*(M+1)^i+ab τ*(M*(M+1)^i):=by
  intro i _;have h2:((X 1-K p)*y).c i=(K τ*f-K s*z).c i:=congrArg (fun w:Po=>w.c i) e;rw[Hr,gT,a_,a_] at h2;have e3:p*y.c i=(s*z.c i+(if i<1 then 0 else y.c (i-1)))-τ*f.c i:=by lia
  have h4:ab (p*y.c i)<=ab s*ab (z.c i)+(if i<1 then 0 else ab (y.c (i-1)))+ab τ*M:=by
   rw[e3];have a1:=LI (s*z.c i+(if i<1 then 0 else y.c (i-1))) (τ*f.c i);have a2:=gG (s*z.c i) (if i<1 then 0 else y.c (i-1));have a3:ab (if i<1 then 0 else y.c (i-1))=if i<1 then 0 else ab (y.c (i-1)):=by split<;>rfl
   have a4:ab (τ*f.c i)<=ab τ*M:=by rw[ck];exact Int.mul_le_mul_of_nonneg_left (hM i) (aK _)
   rw[a3] at a2;rw[ck s] at a2;lia
  rw[ck,nK hp] at h4;have h5:=Int.mul_le_mul_of_nonneg_right h4 (show 0<=(M+1)^i from Int.pow_nonneg ku);have e4:p*(ab (y.c i)*(M+1)^i)=p*ab (y.c i)*(M+1)^i:=by grind
  have e5:ab s*(ab (z.c i)*(M+1)^i)+(if i<1 then 0 else ab (y.c (i-1)))*(M+1)^i+ab τ*(M*(M+1)^i)=(ab s*ab (z.c i)+(if i<1 then 0 else ab (y.c (i-1)))+ab τ*M)*(M+1)^i:=by grind
  rw[e4,e5];exact h5
 have h6:=lP (n:=N+1) row;rw[cD,e_,e_,cD,cD,o_] at h6;have e7:aF (fun i=>(if i<1 then 0 else ab (y.c (i-1)))*(M+1)^i) (N+1)=(M+1)*aF (fun i=>ab (y.c i)*(M+1)^i) N:=by
  rw[eN,<-cD,if_pos (by decide)];have:aF (fun i=>(if i+1<1 then 0 else ab (y.c (i+1-1)))*(M+1)^(i+1)) N=aF (fun i=>(M+1)*(ab (y.c i)*(M+1)^i)) N:=aN fun i _=>by
   rw[if_neg (by lia),Nat.add_sub_cancel,Int.pow_succ];grind
  rw[this];grind
 rw[e7] at h6;have e8:nn (M+1) (N+1) y=aF (fun i=>ab (y.c i)*(M+1)^i) N+ab (y.c N)*(M+1)^N:=rfl;have h9:ab τ*((M+1)^(N+1)-1)<=(M+1)*(ab (y.c N)*(M+1)^N):=by
  rw[<-top,ck];have g1:1<=ab (f.c (N+1)):=f7 hl;have g2:0<=(M+1)^(N+1):=Int.pow_nonneg ku;have g3:ab τ*(M+1)^(N+1)*1<=ab τ*(M+1)^(N+1)*ab (f.c (N+1)):=Int.mul_le_mul_of_nonneg_left g1 (Int.mul_nonneg (aK _) g2);have g4:=aK τ;have T8:(M+1)*(ab τ*ab (f.c (N+1))*(M+1)^N)=ab τ*(M+1)^(N+1)*ab (f.c (N+1)):=by rw[Int.pow_succ];grind
  rw[T8];have Y':ab τ*((M+1)^(N+1)-1)=ab τ*(M+1)^(N+1)*1-ab τ:=by grind
  rw[Y'];lia
 show p*nn (M+1) (N+1) y<=ab s*nn (M+1) (N+1) z+(M+1)*nn (M+1) (N+1) y;rw[e8];show p*(aF (fun i=>ab (y.c i)*(M+1)^i) N+ab (y.c N)*(M+1)^N)<=ab s*nn (M+1) (N+1) z+(M+1)*(aF (fun i=>ab (y.c i)*(M+1)^i) N+ab (y.c N)*(M+1)^N);have h6':p*(aF (fun i=>ab (y.c i)*(M+1)^i) N+ab (y.c N)*(M+1)^N)<=ab s*nn (M+1) (N+1) z+(M+1)*aF (fun i=>ab (y.c i)*(M+1)^i) N+ab τ*((M+1)^(N+1)-1):=h6;have Pg:(M+1)*(aF (fun i=>ab (y.c i)*(M+1)^i) N+ab (y.c N)*(M+1)^N)=(M+1)*aF (fun i=>ab (y.c i)*(M+1)^i) N+(M+1)*(ab (y.c N)*(M+1)^N):=by grind
 rw[Pg];lia
theorem vC{f k q t:Po}(hf:f≠0)(e:f=k*q)(ht:len t+1<=len k)(p:Int):
 ∃B,len B+1<=len k/\(X 1-K p)*(q*B)=K (ev p t)*f-K (ev p k)*(q*t):=by
 let F:=K (ev p t)*k-K (ev p k)*t;obtain⟨B,eB⟩:=factor p F;have e0:ev p F=0:=by
  show ev p (K (ev p t)*k-K (ev p k)*t)=0;rw[LK,lQ,lQ];grind
 rw[e0,cR] at eB;have WM:F=(X 1-K p)*B:=by rw[eB];grind
 refine⟨B,?_,?_⟩
 ·by_cases hB:B=0
  ·rw[hB,fU];lia
  ·have h1:=len_mul (cB (by rw[DY];decide)) hB (f:=X 1-K p);rw[<-WM,DY] at h1;have h2:len F<=len k:=by
    have h3:len F<=max (len (K (ev p t)*k)) (len (K (ev p k)*t)):=len_sub _ _;have h4:len (K (ev p t)*k)<=len k:=cJ fun i hi=>by rw[a_,eF hi];grind
    have h5:len (K (ev p k)*t)<=len t:=cJ fun i hi=>by rw[a_,eF hi];grind
    lia
   lia
 ·have:(X 1-K p)*(q*B)=q*F:=by rw[WM];grind
  rw[this,e];show q*(K (ev p t)*k-K (ev p k)*t)=_;grind
theorem j7{f k q:Po}(hf:f≠0)(e:f=k*q)(hk:2<=len k){M:Int}(hM:∀i,ab (f.c i)<=M){p:Int}(hp:M+1<p):p-(M+1)<=ab (ev p k):=by
 have LL:0<=M:=Int.le_trans (aK _) (hM 0);have ku:(0:Int)<M+1:=by lia
 have T9:k≠0:=cB (by lia);have RJ:q≠0:=by rintro rfl;exact hf (by rw[e];grind)
 have hl:=len_mul T9 RJ;rw[<-e] at hl;have hqp:=len_pos RJ;obtain⟨N,hN⟩:∃N,len f=N+2:=⟨len f-2,by lia⟩;have yg:∀t:Po,len t+1<=len k->len (q*t)<=N+1:=fun t ht=>by
  by_cases h0:t=0
  ·rw[h0];have:q*(0:Po)=0:=by grind
   rw[this,fU];lia
  ·have:=len_mul RJ h0;lia
 have hs:ev p k≠0:=fun z=>by
  have l1:len (1:Po)=1:=by rw[<-cu];exact len_K (by decide)
  obtain⟨B,hB,eB⟩:=vC hf e (t:=1) (by lia) p;have g:=Aw hM hN (yg B hB) (by lia) eB (yg 1 (by lia));have Za:ev p 1=1:=by rw[<-cu,DX]
  rw[z] at g;have h0:ab 0=0:=rfl;rw[h0,Int.zero_mul,Int.zero_add] at g;have Zb:q*B=0:=by
   by_cases hz:q*B=0
   ·exact hz
   ·have:=D0 ku hz (yg B hB);have h3:(M+1)*nn (M+1) (N+1) (q*B)<p*nn (M+1) (N+1) (q*B):=Int.mul_lt_mul_of_pos_right hp this;lia
  rw[Zb,z,Za,cu,cR] at eB;exact hf (by grind)
 have hex:∃m:Nat,∃t:Po,len t+1<=len k/\q*t≠0/\nn (M+1) (N+1) (q*t)=(m:Int):=by
  refine⟨(nn (M+1) (N+1) (q*1)).toNat,1,?_,?_,?_⟩
  ·have l1:len (1:Po)=1:=by rw[<-cu];exact len_K (by decide)
   lia
  ·have:q*1=q:=by grind
   rw[this];exact RJ
  ·exact(Int.toNat_of_nonneg (rM (by lia) _ _)).symm
 obtain⟨m0,RK⟩:=hex;obtain⟨m,hm,LM⟩:=least (P:=fun m:Nat=>¬∃t:Po,len t+1<=len k/\q*t≠0/\nn (M+1) (N+1) (q*t)=(m:Int)) m0 (fun z=>z RK);obtain⟨t,ht,hz,hn⟩:=Classical.not_not.mp hm;obtain⟨B,hB,eB⟩:=vC hf e ht p;have g:=Aw hM hN (yg B hB) (by lia) eB (yg t ht);have hy:q*B≠0:=fun z=>by
  rw[z] at eB;have e2:K (ev p t)*f=K (ev p k)*(q*t):=by grind
  have h1:len (K (ev p k)*(q*t))<=N+1:=by
   rw[gF hs];exact yg t ht
  by_cases h0:ev p t=0
  ·rw[h0,cR] at e2;exact dP (kl hs) hz (by grind)
  ·have h2:=gF h0 f;rw[e2] at h2;lia
 have Ht:nn (M+1) (N+1) (q*t)<=nn (M+1) (N+1) (q*B):=by
  have Zc:=rM (ρ:=M+1) (by lia) (N+1) (q*B);rcases Int.lt_or_le (nn (M+1) (N+1) (q*B)) (nn (M+1) (N+1) (q*t)) with eM|hle
  ·exfalso;refine LM (nn (M+1) (N+1) (q*B)).toNat (by lia) ⟨B,hB,hy,?_⟩;exact(Int.toNat_of_nonneg Zc).symm
  ·exact hle
 have f9:=D0 ku hz (yg t ht);have h7:(p-(M+1))*nn (M+1) (N+1) (q*t)<=(p-(M+1))*nn (M+1) (N+1) (q*B):=Int.mul_le_mul_of_nonneg_left Ht (by lia);have h8:(p-(M+1))*nn (M+1) (N+1) (q*B)=p*nn (M+1) (N+1) (q*B)-(M+1)*nn (M+1) (N+1) (q*B):=by grind
 have h9:(p-(M+1))*nn (M+1) (N+1) (q*t)<=ab (ev p k)*nn (M+1) (N+1) (q*t):=by lia
 exact Int.le_of_mul_le_mul_right h9 f9
end Po
end SF
namespace SF
open Lean.Grind
theorem D3:∀(b a:Nat)(φ:Nat->Nat),b<a->(∀x,x<a->φ x<b)->∃x y,x<y/\y<a/\φ x=φ y
 |0,a,φ,h,NG=>absurd (NG 0 h) (Nat.not_lt_zero _)
 |b+1,a,φ,h,NG=>by
  by_cases hx:∃x,x<a-1/\φ x=φ (a-1)
  ·obtain⟨x,h1,h2⟩:=hx;exact⟨x,a-1,h1,by lia,h2⟩
  have eE:∀x,x<a-1->φ x≠φ (a-1):=fun x h1 h2=>hx ⟨x,h1,h2⟩;have hc:=NG (a-1) (by lia);obtain⟨x,y,h1,h2,h3⟩:=D3 b (a-1) (fun x=>if φ x=b then φ (a-1) else φ x) (by lia) (fun x hx=>by
   have h1:=NG x (by lia)
   have h2:=eE x hx
   split
   ·lia
   ·lia);refine⟨x,y,h1,by lia,?_⟩;have n1:=eE x (by lia);have n2:=eE y h2;split at h3<;>split at h3<;>lia
noncomputable def dg(B x i:Nat):Nat:=x/B^i%B
theorem Ax(B x i:Nat):dg B x (i+1)=dg B (x/B) i:=by
 unfold dg;rw[Nat.pow_succ',Nat.div_div_eq_div_mul]
theorem rN{B:Nat}(h:0<B)(x i:Nat):dg B x i<B:=Nat.mod_lt _ h
theorem D4{B:Nat}(hB:0<B):∀(n x y:Nat),x<B^n->y<B^n->(∀i,i<n->dg B x i=dg B y i)->x=y
 |0,x,y,hx,hy,_=>by rw[Nat.pow_zero] at hx hy;lia
 |n+1,x,y,hx,hy,h=>by
  have h0:=h 0 (by lia);unfold dg at h0;rw[Nat.pow_zero,Nat.div_one,Nat.div_one] at h0;have hd:=D4 hB n (x/B) (y/B) (Nat.div_lt_of_lt_mul (by rw[<-Nat.pow_succ'];exact hx)) (Nat.div_lt_of_lt_mul (by rw[<-Nat.pow_succ'];exact hy)) (fun i hi=>by
   rw[<-Ax,<-Ax];exact h (i+1) (by lia));rw[<-Nat.div_add_mod x B,<-Nat.div_add_mod y B,hd,h0]
noncomputable def enc(B:Nat)(w:Nat->Nat):Nat->Nat
 |0=>0
 |n+1=>enc B w n+w n*B^n
theorem tF{B:Nat}{w:Nat->Nat}(hw:∀i,w i<B):∀n,enc B w n<B^n
 |0=>by show 0<B^0;rw[Nat.pow_zero];decide
 |n+1=>by
  show enc B w n+w n*B^n<B^(n+1);have h1:=tF hw n;have h2:(w n+1)*B^n<=B*B^n:=Nat.mul_le_mul_right _ (hw n);rw[Nat.add_mul,Nat.one_mul] at h2;rw[Nat.pow_succ,Nat.mul_comm (B^n)];lia
theorem Ay{B:Nat}{w v:Nat->Nat}(hw:∀i,w i<B)(hv:∀i,v i<B):∀n,enc B w n=enc B v n->∀i,i<n->w i=v i
 |0,_,i,hi=>by lia
 |n+1,h,i,hi=>by
  have h1:=tF hw n;have h2:=tF hv n;have h':enc B w n+w n*B^n=enc B v n+v n*B^n:=h;have e1:(enc B w n+w n*B^n)/B^n=w n:=by
   rw[Nat.add_mul_div_right _ _ (by lia),Nat.div_eq_of_lt h1,Nat.zero_add]
  have e2:(enc B v n+v n*B^n)/B^n=v n:=by
   rw[Nat.add_mul_div_right _ _ (by lia),Nat.div_eq_of_lt h2,Nat.zero_add]
  have e3:w n=v n:=by rw[<-e1,h',e2]
  by_cases he:i=n
  ·rw[he];exact e3
  ·exact Ay hw hv n (by rw[e3] at h';lia) i (by lia)
namespace Po
noncomputable def Az(w:Nat->Int)(n:Nat):Po:=⟨⟨fun i=>if i<n then w i else 0⟩,n,fun i hi=>if_neg (by lia)⟩
theorem kv(w:Nat->Int)(n i:Nat):(Az w n).c i=if i<n then w i else 0:=rfl
theorem fM(w:Nat->Int)(n:Nat):len (Az w n)<=n:=cJ fun i hi=>if_neg (by lia)
theorem D5{u f:Po}{n:Nat}{H M:Int}(hl:len u<=n)(hu:∀i,ab (u.c i)<=H)(hf:∀i,ab (f.c i)<=M)(j:Nat):ab ((u*f).c j)<=n*(H*M):=by
 have hH:0<=H:=Int.le_trans (aK _) (hu 0);have hM:0<=M:=Int.le_trans (aK _) (hf 0);have Zd:0<=H*M:=Int.mul_nonneg hH hM;rw[vw];have h1:=ye (f:=fun i=>u.c i*f.c (j-i)) (j+1);have h2:aF (fun i=>ab (u.c i*f.c (j-i))) (j+1)<=aF (fun i=>if i<n then H*M else 0) (j+1):=lP fun i _=>by
  split
  ·rw[ck];exact Int.mul_le_mul (hu i) (hf _) (aK _) hH
  ·rw[eF (f:=u) (by lia),Int.zero_mul];exact Int.le_refl _
 have h3:∀m:Nat,aF (fun i=>if i<n then H*M else 0) m<=(min m n:Nat)*(H*M):=by
  intro m
  induction m with
  |zero=>show(0:Int)<=_;rw[Nat.zero_min];show(0:Int)<=0*_;lia
  |succ m ih=>
   show aF (fun i=>if i<n then H*M else 0) m+(if m<n then H*M else 0)<=_;split
   ·have e:min (m+1) n=min m n+1:=by lia
    rw[e];have e2:((min m n+1:Nat):Int)*(H*M)=((min m n:Nat):Int)*(H*M)+H*M:=by
     rw[Int.natCast_add];grind
    rw[e2];lia
   ·have e:min (m+1) n=min m n:=by lia
    rw[e];lia
 have h4:=h3 (j+1);have h5:((min (j+1) n:Nat):Int)*(H*M)<=(n:Int)*(H*M):=Int.mul_le_mul_of_nonneg_right (by lia) Zd;lia
theorem rO{f g:Po}{M:Nat}(Gr:∀i,ab (f.c i)<=M)(Hu:∀i,ab (g.c i)<=M){A n m:Nat}(TU:n+m=A)(Ph:0<A)(off:Nat):
 ∃U V:Po,len U<=n/\len V<=m/\(U≠0\/V≠0)/\(∀i,ab (U.c i)<=(((2*A*M+1)^(A-1):Nat):Int))/\(∀i,ab (V.c i)<=(((2*A*M+1)^(A-1):Nat):Int))/\
  (∀j,j<A-1->(U*f+V*g).c (off+j)=0)/\∀i,ab ((U*f+V*g).c i)<=((A*((2*A*M+1)^(A-1)*M):Nat):Int):=by
 let H:Nat:=(2*A*M+1)^(A-1);have hH:0<H:=Nat.pow_pos (by lia);let uu:Nat->Po:=fun x=>Az (fun i=>((dg (H+1) x i:Nat):Int)) n;let vv:Nat->Po:=fun x=>Az (fun i=>((dg (H+1) x (n+i):Nat):Int)) m;let ww:Nat->Po:=fun x=>uu x*f+vv x*g;have bu:∀x i,ab ((uu x).c i)<=(H:Int):=fun x i=>by
  show ab ((Az _ n).c i)<=_;rw[kv];split
  ·have:=rN (B:=H+1) (by lia) x i;rw[nK (by lia)];lia
  ·show(0:Int)<=_;lia
 have bv:∀x i,ab ((vv x).c i)<=(H:Int):=fun x i=>by
  show ab ((Az _ m).c i)<=_;rw[kv];split
  ·have:=rN (B:=H+1) (by lia) x (n+i);rw[nK (by lia)];lia
  ·show(0:Int)<=_;lia
 have bw:∀U V:Po,len U<=n->len V<=m->(∀i,ab (U.c i)<=(H:Int))->(∀i,ab (V.c i)<=(H:Int))->∀j,ab ((U*f+V*g).c j)<=((A*(H*M):Nat):Int):=fun U V l1 l2 b1 b2 j=>by
  rw[kr];have h1:=D5 l1 b1 Gr j;have h2:=D5 l2 b2 Hu j;have h3:=gG ((U*f).c j) ((V*g).c j);have e:((A*(H*M):Nat):Int)=(n:Int)*((H:Int)*M)+(m:Int)*((H:Int)*M):=by
   rw[<-TU];push_cast;grind
  lia
 let Bz:Nat:=A*(H*M);let Bk:Nat:=2*Bz+1;let wi:Nat->Nat->Nat:=fun x j=>((ww x).c (off+j)+Bz).toNat;have T_:∀x j,wi x j<Bk:=fun x j=>by
  have:=bw (uu x) (vv x) (fM _ _) (fM _ _) (bu x) (bv x) (off+j);have h2:ab ((ww x).c (off+j))<=((A*(H*M):Nat):Int):=this;unfold ab at h2;show((ww x).c (off+j)+Bz).toNat<2*Bz+1;have:Bz=A*(H*M):=rfl;lia
 have LN:Bk^(A-1)<(H+1)^A:=by
  have h1:Bk<=(2*A*M+1)*H:=by
   show 2*(A*(H*M))+1<=(2*A*M+1)*H;have e:(2*A*M+1)*H=2*(A*(H*M))+H:=by grind
   lia
  have h2:Bk^(A-1)<=((2*A*M+1)*H)^(A-1):=Nat.pow_le_pow_left h1 _;rw[Nat.mul_pow] at h2;have h3:H*H^(A-1)=H^A:=by
   rw[<-Nat.pow_succ'];congr 1;lia
  have h4:H^A<(H+1)^A:=Nat.pow_lt_pow_left (by lia) (by lia);have h5:(2*A*M+1)^(A-1)*H^(A-1)=H^A:=h3;lia
 obtain⟨x,y,hxy,hy,NG⟩:=D3 _ _ (fun x=>enc Bk (wi x) (A-1)) LN (fun x _=>tF (T_ x) _);have heq:=Ay (T_ x) (T_ y) _ NG;let U:=uu x-uu y;let V:=vv x-vv y;have lU:len U<=n:=Nat.le_trans (len_sub _ _) (by have:=fM (fun i=>((dg (H+1) x i:Nat):Int)) n;have:=fM (fun i=>((dg (H+1) y i:Nat):Int)) n;exact Nat.max_le.mpr ⟨by assumption,by assumption⟩);have lV:len V<=m:=Nat.le_trans (len_sub _ _) (by have:=fM (fun i=>((dg (H+1) x (n+i):Nat):Int)) m;have:=fM (fun i=>((dg (H+1) y (n+i):Nat):Int)) m;exact Nat.max_le.mpr ⟨by assumption,by assumption⟩);have bU:∀i,ab (U.c i)<=(H:Int):=fun i=>by
  show ab ((uu x-uu y).c i)<=_;rw[gT];show ab ((Az _ n).c i-(Az _ n).c i)<=_;rw[kv,kv];have h1:=rN (B:=H+1) (by lia) x i;have h2:=rN (B:=H+1) (by lia) y i;unfold ab;split<;>lia
 have bV:∀i,ab (V.c i)<=(H:Int):=fun i=>by
  show ab ((vv x-vv y).c i)<=_;rw[gT];show ab ((Az _ m).c i-(Az _ m).c i)<=_;rw[kv,kv];have h1:=rN (B:=H+1) (by lia) x (n+i);have h2:=rN (B:=H+1) (by lia) y (n+i);unfold ab;split<;>lia
 have eE:U≠0\/V≠0:=by
  by_cases hU:U=0
  ·refine .inr fun hV=>?_;have:x=y:=D4 (by lia) A x y (by lia) hy fun i hi=>by
    by_cases RB:i<n
    ·have h1:(uu x-uu y).c i=0:=by
      have:(uu x-uu y)=0:=hU;rw[this,fc]
     rw[gT] at h1;have h2:(uu x).c i=((dg (H+1) x i:Nat):Int):=by show(Az _ n).c i=_;rw[kv,if_pos RB]
     have h3:(uu y).c i=((dg (H+1) y i:Nat):Int):=by show(Az _ n).c i=_;rw[kv,if_pos RB]
     lia
    ·have h1:(vv x-vv y).c (i-n)=0:=by
      have:(vv x-vv y)=0:=hV;rw[this,fc]
     rw[gT] at h1;have WN:i-n<m:=by lia
     have Ze:n+(i-n)=i:=by lia
     have h2:(vv x).c (i-n)=((dg (H+1) x (n+(i-n)):Nat):Int):=by show(Az _ m).c (i-n)=_;rw[kv,if_pos WN]
     have h3:(vv y).c (i-n)=((dg (H+1) y (n+(i-n)):Nat):Int):=by show(Az _ m).c (i-n)=_;rw[kv,if_pos WN]
     rw[Ze] at h2 h3;lia
   lia
  ·exact .inl hU
 refine⟨U,V,lU,lV,eE,bU,bV,fun j hj=>?_,bw U V lU lV bU bV⟩;have h1:=heq j hj;have b1:=bw (uu x) (vv x) (fM _ _) (fM _ _) (bu x) (bv x) (off+j);have b2:=bw (uu y) (vv y) (fM _ _) (fM _ _) (bu y) (bv y) (off+j);have h2:((ww x).c (off+j)+Bz).toNat=((ww y).c (off+j)+Bz).toNat:=h1;have Zf:ab ((ww x).c (off+j))<=((Bz:Nat):Int):=b1;have Zg:ab ((ww y).c (off+j))<=((Bz:Nat):Int):=b2;unfold ab at Zf Zg;have h3:(ww x).c (off+j)=(ww y).c (off+j):=by lia
 have e:U*f+V*g=ww x-ww y:=by
  show(uu x-uu y)*f+(vv x-vv y)*g=uu x*f+vv x*g-(uu y*f+vv y*g);grind
 rw[e,gT,h3];lia
theorem j8{W z:Po}{a b i:Nat}(l:len W<=a)(e:a+len z<=b+1)(hi:b<=i):(W*z).c i=0:=by
 by_cases hW:W=0
 ·rw[hW];have:(0:Po)*z=0:=by grind
  rw[this,fc]
 ·by_cases hz:z=0
  ·rw[hz];have:W*(0:Po)=0:=by grind
   rw[this,fc]
  ·have:=len_mul hW hz;exact eF (by lia)
theorem LO{f g h f1 g1 u0 v0:Po}{c0:Int}{M:Nat}(hh:h≠0)(yh:f1≠0)(xr:g1≠0)(ef:f=h*f1)(eg:g=h*g1)(eb:u0*f1+v0*g1=K c0)(Gs:c0≠0)(Gr:∀i,ab (f.c i)<=M)(Hu:∀i,ab (g.c i)<=M){A:Nat}(hA:len f1+len g1=A+2)(Ph:0<A):
 ∃(U V:Po)(r:Int),r≠0/\U*f1+V*g1=K r/\∀i,ab (r*h.c i)<=((A*((2*A*M+1)^(A-1)*M):Nat):Int):=by
 have lf:=len_mul hh yh;have lg:=len_mul hh xr;rw[<-ef] at lf;rw[<-eg] at lg;have ow:=len_pos yh;have uS:=len_pos xr;have Zh:=len_pos hh;obtain⟨U,V,lU,lV,eE,bU,bV,hz,D6⟩:=rO (f:=f) (g:=g) Gr Hu (n:=len g1-1) (m:=len f1-1) (A:=A) (by lia) Ph (len h);let R:=U*f+V*g;have eR:R=h*(U*f1+V*g1):=by
  show U*f+V*g=_;rw[ef,eg];grind
 have lR:len R<=len h:=cJ fun i hi=>by
  by_cases Ua:i<len h+A-1
  ·have:=hz (i-len h) (by lia);have ei:len h+(i-len h)=i:=by lia
   rw[ei] at this;exact this
  ·show(U*f+V*g).c i=0;rw[kr,j8 (W:=U) (z:=f) (b:=len h+A-1) lU (by lia) (by lia),j8 (W:=V) (z:=g) (b:=len h+A-1) lV (by lia) (by lia)];rfl
 have Hv:len (U*f1+V*g1)<=1:=by
  by_cases h0:U*f1+V*g1=0
  ·rw[h0,fU];lia
  ·have:=len_mul hh h0;rw[<-eR] at this;lia
 have er:=cj Hv;refine⟨U,V,(U*f1+V*g1).c 0,?_,er,?_⟩
 ·intro z;rw[z,cR] at er;have dv:D f1 V:=⟨c0,Gs,u0*V-v0*U,by
   rw[<-eb]
   have:V*g1=-(U*f1):=by grind
   have e2:(u0*f1+v0*g1)*V=u0*f1*V+v0*(V*g1):=by grind
   rw[e2,this];grind⟩;have du:D g1 U:=⟨c0,Gs,v0*U-u0*V,by
   rw[<-eb]
   have:U*f1=-(V*g1):=by grind
   have e2:(u0*f1+v0*g1)*U=u0*(U*f1)+v0*g1*U:=by grind
   rw[e2,this];grind⟩;rcases eE with hU|hV
  ·have:=du.len hU;lia
  ·have:=dv.len hV;lia
 ·intro i;have h1:=D6 i;have e:U*f+V*g=K ((U*f1+V*g1).c 0)*h:=by
   show R=_;rw[eR,<-er];grind
  rw[e,a_] at h1;exact h1
end Po
end SF
namespace SF
open Lean.Grind
namespace Po
theorem ff{xs:List Int}(h:Tr xs)(hn:xs≠[]):aw xs=K (cont xs)*aw (au xs):=ext fun i=>by
 rw[a_,bC,bC];by_cases hi:i<xs.length
 ·have:=iu hi;grind
 ·rw[cG (by lia),cG (by rw[aS];lia)];grind
theorem mU{xs:List Int}{x:Int}(h:x∈xs):∃i,co xs i=x:=by
 obtain⟨i,hi,e⟩:=List.getElem_of_mem h;exact⟨i,by rw[bY hi,e]⟩
theorem cO{xs:List Int}(h:Tr xs)(hn:xs≠[]):Pr (aw (au xs)):=fun p hp=>by
 have h1:p∣fq (au xs):=(mP _ _).mpr fun x hx=>by
  obtain⟨i,e⟩:=mU hx;rw[<-e];exact hp i
 rw[vn h hn] at h1;exact Nat.eq_one_of_dvd_one h1
theorem eO{xs:List Int}(h:Tr xs)(hn:xs≠[]):0<(aw (au xs)).c (len (aw (au xs))-1):=by
 rw[bO (bS h),aS];exact gE h hn
theorem LP{f:Po}(h:f≠0):lst f≠[]:=List.length_pos_iff.mp (len_pos h)
theorem AA{xs:List Int}(h:Tr xs){b:Int}{f:Po}(hb:b≠0)(e:aw xs=K b*f)(hf:Pr f)(hl:0<f.c (len f-1)):aw (au xs)=f:=by
 have hn:xs≠[]:=by
  rintro rfl;rw[dH] at e;exact dP (kl hb) hf.ne e.symm
 have hc:=fK h hn;have e2:=ff h hn;refine(cO h hn).same hf ?_ ?_ (eO h hn) hl
 ·refine D.As hb ?_;rw[<-e,e2];exact(D.refl _).mulL _
 ·refine D.As hc ?_;rw[<-e2,e];exact(D.refl _).mulL _
structure GC(f g d:Po):Prop where
 pr:Pr d
 pos:0<d.c (len d-1)
 df:D d f
 dg:D d g
 bz:∃(u v:Po)(a:Int),a≠0/\u*f+v*g=K a*d
theorem GC.RL{f g d e:Po}(h:GC f g d)(h1:D e f)(h2:D e g):D e d:=by
 obtain⟨u,v,a,ha,eq⟩:=h.bz;refine D.As ha ?_;rw[<-eq];exact(h1.mulL u).add (h2.mulL v)
theorem GC.uniq{f g d e:Po}(h:GC f g d)(h':GC f g e):d=e:=
 h.pr.same h'.pr (h'.RL h.df h.dg) (h.RL h'.df h'.dg) h.pos h'.pos
theorem GC.symm{f g d:Po}(h:GC f g d):GC g f d:=by
 obtain⟨u,v,a,ha,eq⟩:=h.bz;exact⟨h.pr,h.pos,h.dg,h.df,v,u,a,ha,by grind⟩
theorem GC.ex{f g:Po}(h:f≠0\/g≠0):∃d,GC f g d:=by
 obtain⟨d,u,v,hd,e,d1,d2⟩:=tD _ f g (Nat.le_refl _) h;have hn:=LP hd;have ht:=iV d;have e2:d=K (cont (lst d))*aw (au (lst d)):=by
  conv=>lhs;rw[<-di d]
  exact ff ht hn
 have hc:=fK ht hn;have hd2:D (aw (au (lst d))) d:=by
  conv=>rhs;rw[e2]
  exact(D.refl _).mulL _
 exact⟨aw (au (lst d)),cO ht hn,eO ht hn,hd2.trans d1,hd2.trans d2,u,v,_,hc,by rw[e];exact e2⟩
theorem GC.scale{f g d:Po}{a b:Int}(ha:a≠0)(hb:b≠0)(h:GC f g d):GC (K a*f) (K b*g) d:=by
 obtain⟨u,v,c,hc,eq⟩:=h.bz;refine⟨h.pr,h.pos,h.df.mulL _,h.dg.mulL _,K b*u,K a*v,a*b*c,Int.mul_ne_zero (Int.mul_ne_zero ha hb) hc,?_⟩;rw[bQ,bQ];grind
structure JI(p v:Int)(xs:List Int):Prop where
 val:eX p xs=v
 LQ:∀x∈xs,-p<2*x/\2*x<=p
 tr:Tr xs
theorem oy{p:Int}(hp:0<p):∀xs ys:List Int,(∀x∈xs,-p<2*x/\2*x<=p)->(∀x∈ys,-p<2*x/\2*x<=p)->eX p xs=eX p ys->∀i,co xs i=co ys i
 |[],[],_,_,_,i=>rfl
 |x::r,[],hx,hy,e,i=>by
  have h1:=hx x List.mem_cons_self;have e1:x+p*eX p r=0:=e;have hd:x=0:=by
   have h2:p∣x:=⟨-eX p r,by grind⟩;obtain⟨k,rfl⟩:=h2;have:k=0:=by
    rcases Int.lt_trichotomy k 0 with hk|hk|hk
    ·have:p*k<=p*(-1):=Int.mul_le_mul_of_nonneg_left (by lia) (by lia);lia
    ·exact hk
    ·have:p*1<=p*k:=Int.mul_le_mul_of_nonneg_left (by lia) (by lia);lia
   rw[this];simp
  have e2:eX p r=eX p []:=by
   rw[hd] at e1;have e3:p*eX p r=0:=by lia
   rcases Int.mul_eq_zero.mp e3 with z|z
   ·lia
   ·rw[z];rfl
  have ih:=oy hp r [] (fun x h=>hx x (List.mem_cons_of_mem _ h)) hy e2;cases i with
  |zero=>rw[iS,hd];rfl
  |succ i=>rw[fb,ih i];rfl
 |[],y::s,hx,hy,e,i=>by
  have h1:=hy y List.mem_cons_self;have e1:0=y+p*eX p s:=e;have hd:y=0:=by
   have h2:p∣y:=⟨-eX p s,by grind⟩;obtain⟨k,rfl⟩:=h2;have:k=0:=by
    rcases Int.lt_trichotomy k 0 with hk|hk|hk
    ·have:p*k<=p*(-1):=Int.mul_le_mul_of_nonneg_left (by lia) (by lia);lia
    ·exact hk
    ·have:p*1<=p*k:=Int.mul_le_mul_of_nonneg_left (by lia) (by lia);lia
   rw[this];simp
  have e2:eX p []=eX p s:=by
   rw[hd] at e1;have e3:p*eX p s=0:=by lia
   rcases Int.mul_eq_zero.mp e3 with z|z
   ·lia
   ·rw[z];rfl
  have ih:=oy hp [] s hx (fun x h=>hy x (List.mem_cons_of_mem _ h)) e2;cases i with
  |zero=>rw[iS,hd];rfl
  |succ i=>rw[fb,<-ih i];rfl
 |x::r,y::s,hx,hy,e,i=>by
  have h1:=hx x List.mem_cons_self;have h2:=hy y List.mem_cons_self;have e1:x+p*eX p r=y+p*eX p s:=e;have hd:x=y:=by
   have h3:x-y=p*(eX p s-eX p r):=by grind
   generalize eX p s-eX p r=k at h3;have:k=0:=by
    rcases Int.lt_trichotomy k 0 with hk|hk|hk
    ·have:p*k<=p*(-1):=Int.mul_le_mul_of_nonneg_left (by lia) (by lia);lia
    ·exact hk
    ·have:p*1<=p*k:=Int.mul_le_mul_of_nonneg_left (by lia) (by lia);lia
   rw[this] at h3;lia
  have e2:eX p r=eX p s:=by
   have e3:p*eX p r=p*eX p s:=by lia
   exact Int.eq_of_mul_eq_mul_left (by lia) e3
  have ih:=oy hp r s (fun x h=>hx x (List.mem_cons_of_mem _ h)) (fun x h=>hy x (List.mem_cons_of_mem _ h)) e2;cases i with
  |zero=>rw[iS,iS,hd]
  |succ i=>rw[fb,fb,ih i]
theorem JI.uniq{p v:Int}(hp:0<p){xs ys:List Int}(h:JI p v xs)(h':JI p v ys):xs=ys:=
 h.tr.inj h'.tr (oy hp xs ys h.LQ h'.LQ (by rw[h.val,h'.val]))
theorem mem_co{xs:List Int}{M:Int}(h:∀x∈xs,ab x<=M)(h0:0<=M)(i:Nat):ab (co xs i)<=M:=by
 by_cases hi:i<xs.length
 ·rw[bY hi];exact h _ (List.getElem_mem _)
 ·rw[cG (by lia)];exact h0
theorem gcd_right{f g:Po}{M p:Int}(hf:Pr f)(hg:Pr g)(hM:(∀i,ab (f.c i)<=M)\/(∀i,ab (g.c i)<=M))(hp:2*(M+1)<p){G:List Int}(hs:JI p ((Int.gcd (ev p f) (ev p g):Nat):Int) G)(d1:D (aw (au G)) f)(d2:D (aw (au G)) g):GC f g (aw (au G)):=by
 have LL:0<=M:=by
  rcases hM with h|h
  ·exact Int.le_trans (aK _) (h 0)
  ·exact Int.le_trans (aK _) (h 0)
 have nz:∀w:Po,w≠0->(∀i,ab (w.c i)<=M)->ev p w≠0:=fun w hw hb=>by
  by_cases hl:2<=len w
  ·have:=j7 hw (show w=w*1 by grind) hl hb (p:=p) (by lia);intro z;rw[z] at this;have h0:ab 0=0:=rfl;lia
  ·have e:=cj (f:=w) (by lia);rw[e,DX];intro z;rw[z,cR] at e;exact hw e
 have Zi:Int.gcd (ev p f) (ev p g)≠0:=by
  rcases hM with h|h
  ·exact Nat.ne_of_gt (Int.gcd_pos_of_ne_zero_left _ (nz f hf.ne h))
  ·exact Nat.ne_of_gt (Int.gcd_pos_of_ne_zero_right _ (nz g hg.ne h))
 have Hw:G≠[]:=by
  rintro rfl;have:(0:Int)=((Int.gcd (ev p f) (ev p g):Nat):Int):=hs.val;lia
 have eG:=ff hs.tr Hw;have hc:=fK hs.tr Hw;have pf:=cO hs.tr Hw;have lf:=eO hs.tr Hw;generalize NH:aw (au G)=fd at*;have hcb:2*ab (cont G)<=p:=by
  have hm:=lM Hw;have h1:=hs.LQ _ hm;have h2:=hs.tr.last Hw;have h3:(cont G).natAbs<=(co G (G.length-1)).natAbs:=Nat.le_of_dvd (by lia) (Int.natAbs_dvd_natAbs.mpr (o6 hm));unfold ab;lia
 have LR:((Int.gcd (ev p f) (ev p g):Nat):Int)=cont G*ev p fd:=by
  rw[<-hs.val,<-jy,eG,lQ]
 have Ub:ev p fd≠0:=fun z=>by
  rw[z,Int.mul_zero] at LR;lia
 obtain⟨h,gc⟩:=GC.ex (f:=f) (g:=g) (.inl hf.ne);have dh:D fd h:=gc.RL d1 d2;obtain⟨k,ek⟩:=pf.div dh;obtain⟨f1,e1⟩:=gc.pr.div gc.df;obtain⟨g1,e2⟩:=gc.pr.div gc.dg;have T9:k≠0:=by rintro rfl;exact gc.pr.ne (by rw[ek];grind)
 have JF:ev p k∣cont G:=by
  have h1:ev p h∣((Int.gcd (ev p f) (ev p g):Nat):Int):=Int.dvd_coe_gcd (DZ p e1) (DZ p e2);rw[LR,ek,mT,Int.mul_comm (ev p fd)] at h1;exact Int.dvd_of_mul_dvd_mul_right Ub h1
 have hle:ab (ev p k)<=ab (cont G):=by
  unfold ab;have:=Nat.le_of_dvd (by lia) (Int.natAbs_dvd_natAbs.mpr JF);lia
 have Zj:len k<=1:=by
  rcases Nat.lt_or_ge 1 (len k) with hl|hl
  ·exfalso;have Zk:p-(M+1)<=ab (ev p k):=by
    rcases hM with hb|hb
    ·exact j7 hf.ne (show f=k*(fd*f1) by rw[e1,ek];grind) hl hb (by lia)
    ·exact j7 hg.ne (show g=k*(fd*g1) by rw[e2,ek];grind) hl hb (by lia)
   lia
  ·exact hl
 have WO:=cj Zj;have hb:k.c 0≠0:=fun z=>T9 (by rw[WO,z,cR]);obtain⟨u,v,a,ha,eq⟩:=gc.bz;refine⟨pf,lf,d1,d2,u,v,a*k.c 0,Int.mul_ne_zero ha hb,?_⟩;rw[eq,ek,bQ,<-WO];grind
noncomputable def NB(A M:Nat):Nat:=(A+1)*((2*A*M+1)^A*M)
theorem AB{A B M N:Nat}(h:A<=B)(h':M<=N):NB A M<=NB B N:=by
 unfold NB;refine Nat.mul_le_mul (by lia) (Nat.mul_le_mul ?_ h');refine Nat.le_trans (Nat.pow_le_pow_left (n:=2*A*M+1) (m:=2*B*N+1) ?_ A) (Nat.pow_le_pow_right (by lia) h);have:=Nat.mul_le_mul (Nat.mul_le_mul_left 2 h) h';lia
theorem rP{f g h f1 g1:Po}{M A:Nat}(hf:Pr f)(hg:Pr g)(Gr:∀i,ab (f.c i)<=M)(Hu:∀i,ab (g.c i)<=M)(gc:GC f g h)(e1:f=h*f1)(e2:g=h*g1)(hA:len f+len g<=A+2):
 ∃(U V:Po)(r:Int),r≠0/\U*f1+V*g1=K r/\∀i,ab (r*h.c i)<=((NB A M:Nat):Int):=by
 have hh:=gc.pr.ne;have yh:f1≠0:=by rintro rfl;exact hf.ne (by rw[e1];grind)
 have xr:g1≠0:=by rintro rfl;exact hg.ne (by rw[e2];grind)
 obtain⟨u0,v0,a,ha,eq⟩:=gc.bz;have eb:u0*f1+v0*g1=K a:=by
  refine Po.cancel hh ?_;rw[e1,e2] at eq;grind
 have lf:=len_mul hh yh;have lg:=len_mul hh xr;rw[<-e1] at lf;rw[<-e2] at lg;have Zh:=len_pos hh;have ow:=len_pos yh;have uS:=len_pos xr;by_cases Ph:len f1+len g1=2
 ·have ek:=cj (f:=f1) (by lia);have hb:f1.c 0≠0:=fun z=>yh (by rw[ek,z,cR]);refine⟨1,0,f1.c 0,hb,by rw[<-ek];grind,fun i=>?_⟩;have e3:f=K (f1.c 0)*h:=by rw[<-ek,e1];grind
  have h4:=Gr i;rw[e3,a_] at h4;have h5:NB 0 M<=NB A M:=AB (by lia) (Nat.le_refl _);have h6:NB 0 M=M:=by unfold NB;simp
  lia
 ·obtain⟨U,V,r,hr,er,hb⟩:=LO hh yh xr e1 e2 eb ha Gr Hu (A:=len f1+len g1-2) (by lia) (by lia);refine⟨U,V,r,hr,er,fun i=>Int.le_trans (hb i) ?_⟩;refine Int.ofNat_le.mpr ?_;generalize hB:len f1+len g1-2=B;have h5:NB B M<=NB A M:=AB (by lia) (Nat.le_refl _);refine Nat.le_trans ?_ h5;unfold NB;refine Nat.mul_le_mul (by lia) (Nat.mul_le_mul_right _ ?_);exact Nat.pow_le_pow_right (by lia) (by lia)
theorem B0{f g h:Po}{M A:Nat}(hf:Pr f)(hg:Pr g)(Gr:∀i,ab (f.c i)<=M)(Hu:∀i,ab (g.c i)<=M)(gc:GC f g h)(hA:len f+len g<=A+2){p:Int}(hp:2*((NB A M:Nat):Int)<p){G:List Int}(hs:JI p ((Int.gcd (ev p f) (ev p g):Nat):Int) G)(Zi:Int.gcd (ev p f) (ev p g)≠0):aw (au G)=h:=by
 obtain⟨f1,e1⟩:=gc.pr.div gc.df;obtain⟨g1,e2⟩:=gc.pr.div gc.dg;have hh:=gc.pr.ne;have yh:f1≠0:=by rintro rfl;exact hf.ne (by rw[e1];grind)
 have xr:g1≠0:=by rintro rfl;exact hg.ne (by rw[e2];grind)
 obtain⟨U,V,r,hr,er,hb⟩:=rP hf hg Gr Hu gc e1 e2 hA;let c:Nat:=Int.gcd (ev p f1) (ev p g1);have Zl:(c:Int)∣r:=by
  have:=congrArg (ev p) er;rw[yf,mT,mT,DX] at this;rw[<-this];exact Int.dvd_add (Int.dvd_mul_of_dvd_right (Int.gcd_dvd_left ..)) (Int.dvd_mul_of_dvd_right (Int.gcd_dvd_right ..))
 have LR:((Int.gcd (ev p f) (ev p g):Nat):Int)=ab (ev p h)*c:=by
  rw[e1,e2,mT,mT,Int.gcd_mul_left]
  push_cast;rfl
 have Gs:(c:Int)≠0:=fun z=>by
  rw[z,Int.mul_zero] at LR;lia
 have hh0:ev p h≠0:=fun z=>by
  rw[z] at LR;have h0:ab 0=0:=rfl;rw[h0,Int.zero_mul] at LR;lia
 obtain⟨s,Pk,Ds⟩:∃s:Int,(s=1\/s=-1)/\ab (ev p h)=s*ev p h:=by
  rcases Int.le_total 0 (ev p h) with z|z
  ·exact⟨1,.inl rfl,by rw[nK z];lia⟩
  ·exact⟨-1,.inr rfl,by unfold ab;lia⟩
 have RM:s*c≠0:=Int.mul_ne_zero (by lia) Gs;have Gq:JI p ((Int.gcd (ev p f) (ev p g):Nat):Int) (lst (K (s*c)*h)):=by
  refine⟨?_,?_,iV _⟩
  ·rw[<-jy,di,lQ,LR,Ds];grind
  ·intro x hx;obtain⟨i,ei⟩:=mU hx;rw[jw,a_] at ei;have h1:=hb i;have h2:ab x<=ab (r*h.c i):=by
    rw[<-ei,ck (s*c),ck r];refine Int.mul_le_mul_of_nonneg_right ?_ (aK _);have h3:(c:Int).natAbs<=r.natAbs:=Nat.le_of_dvd (by lia) (Int.natAbs_dvd_natAbs.mpr Zl);rw[ck];have h4:ab s=1:=by rcases Pk with z|z<;>rw[z]<;>rfl
    rw[h4,Int.one_mul];unfold ab;lia
   unfold ab at h1 h2;lia
 have Hm:0<p:=by lia
 rw[hs.uniq Hm Gq];exact AA (iV _) RM (di _) gc.pr gc.pos
end Po
end SF
namespace SF
open Lean.Grind
namespace Po
theorem iW{xs:List Int}(h:Tr xs)(hn:xs≠[]):aw xs≠0:=cB (by rw[bO h];exact List.length_pos_iff.mpr hn)
theorem B3{xs:List Int}(h:Tr xs)(hp:Pr (aw xs))(hl:0<(aw xs).c (len (aw xs)-1)):au xs=xs:=
 lN (bS h) h (AA h (b:=1) (by decide) (by rw[cu];grind) hp hl)
open Classical in
noncomputable def dj(xs ys:List Int):List Int:=if h:aw xs≠0\/aw ys≠0 then lst (choose (GC.ex h)) else[]
theorem gU(xs ys:List Int):Tr (dj xs ys):=by
 unfold dj;split
 ·exact iV _
 ·exact Tr.nil
theorem dm{xs ys:List Int}(h:aw xs≠0\/aw ys≠0):GC (aw xs) (aw ys) (aw (dj xs ys)):=by
 unfold dj;rw[dif_pos h,di];exact Classical.choose_spec (GC.ex h)
theorem lS{xs ys ds:List Int}(hd:Tr ds)(h:GC (aw xs) (aw ys) (aw ds)):ds=dj xs ys:=by
 have h0:aw xs≠0\/aw ys≠0:=by
  by_cases hx:aw xs=0
  ·refine .inr fun hy=>?_;obtain⟨u,v,a,ha,e⟩:=h.bz;rw[hx,hy] at e;exact dP (kl ha) h.pr.ne (by grind)
  ·exact .inl hx
 exact lN hd (gU _ _) (h.uniq (dm h0))
theorem rQ(xs ys:List Int):dj xs ys=dj ys xs:=by
 by_cases h:aw xs≠0\/aw ys≠0
 ·exact lS (gU _ _) (dm h).symm
 ·unfold dj;rw[dif_neg h,dif_neg fun z=>h z.symm]
theorem lT{xs:List Int}(h:Tr xs):dj xs []=au xs:=by
 by_cases hn:xs=[]
 ·subst hn;unfold dj;rw[dif_neg (by rw[dH];intro z;rcases z with z|z<;>exact z rfl)];rfl
 ·refine(lS (bS h) ?_).symm;have e:=ff h hn;refine⟨cO h hn,eO h hn,?_,?_,1,0,cont xs,fK h hn,?_⟩
  ·rw[e];exact(D.refl _).mulL _
  ·rw[dH];exact D.zero _
  ·rw[<-e];grind
theorem pe{xs ys:List Int}(hx:Tr xs)(hy:Tr ys)(eY:xs≠[])(iK:ys≠[]):dj (au xs) (au ys)=dj xs ys:=by
 refine lS (gU _ _) ?_;rw[ff hx eY,ff hy iK];exact(dm (.inl (cO hx eY).ne)).scale (fK hx eY) (fK hy iK)
theorem AD{xs ys:List Int}(h:aw xs≠0\/aw ys≠0):dj xs ys≠[]:=fun z=>(dm h).pr.ne (by rw[z,dH])
theorem B4{xs ys:List Int}(h:aw xs≠0\/aw ys≠0):au (dj xs ys)=dj xs ys:=B3 (gU _ _) (dm h).pr (dm h).pos
open Classical in
noncomputable def lW(xs ys:List Int):List Int:=if h:∃q,aw (au xs)=aw (au ys)*q then lst (choose h) else[]
theorem AE(xs ys:List Int):Tr (lW xs ys):=by
 unfold lW;split
 ·exact iV _
 ·exact Tr.nil
theorem tG{xs ys:List Int}(hx:Tr xs)(hy:Tr ys)(eY:xs≠[])(iK:ys≠[])(h:D (aw ys) (aw xs)):aw (au xs)=aw (au ys)*aw (lW xs ys):=by
 have h2:∃q,aw (au xs)=aw (au ys)*q:=by
  refine(cO hy iK).div ?_;refine D.As (fK hx eY) ?_;rw[<-ff hx eY];refine D.trans ?_ h;rw[ff hy iK];exact(D.refl _).mulL _
 unfold lW;rw[dif_pos h2,di];exact Classical.choose_spec h2
theorem Hy{xs ys qs:List Int}(hy:Tr ys)(iK:ys≠[])(hq:Tr qs)(e:aw (au xs)=aw (au ys)*aw qs):qs=lW xs ys:=by
 have h2:∃q,aw (au xs)=aw (au ys)*q:=⟨_,e⟩;refine lN hq (AE _ _) ?_;unfold lW;rw[dif_pos h2,di];have e2:=Classical.choose_spec h2;exact cancel (cO hy iK).ne (e.symm.trans e2)
theorem Hz{xs ys:List Int}(hx:Tr xs)(hy:Tr ys)(eY:xs≠[])(iK:ys≠[])(h:D (aw ys) (aw xs)):Pr (aw (lW xs ys))/\0<(aw (lW xs ys)).c (len (aw (lW xs ys))-1):=by
 have e:=tG hx hy eY iK h;have p:=cO hx eY;have l:=eO hx eY;have ly:=eO hy iK;rw[e] at p l;have hq:=p.LH;refine⟨hq,?_⟩;rw[o8 (cO hy iK).ne hq.ne] at l;rcases Int.lt_or_le 0 ((aw (lW xs ys)).c (len (aw (lW xs ys))-1)) with z|z
 ·exact z
 ·have:=Int.mul_nonpos_of_nonneg_of_nonpos (Int.le_of_lt ly) z;lia
noncomputable def vD(xs:List Int):List Int:=lW xs (dj xs (cb xs))
structure Gu(p f:Po):Prop where
 pr:Pr p
 pos:0<p.c (len p-1)
 vE:∀π,nJ π->(D π p↔D π f)
 sq:∀π,nJ π->¬D (π*π) p
theorem Gu.uniq{p q f g:Po}(h:Gu p f)(h':Gu q g)(e:∀π,nJ π->(D π f↔D π g)):p=q:=by
 refine h.pr.same h'.pr ?_ ?_ h.pos h'.pos
 ·exact yd _ p q (Nat.le_refl _) h.pr.ne h.sq fun π hp z=>(h'.vE π hp).mpr ((e π hp).mp ((h.vE π hp).mp z))
 ·exact yd _ q p (Nat.le_refl _) h'.pr.ne h'.sq fun π hp z=>(h.vE π hp).mpr ((e π hp).mpr ((h'.vE π hp).mp z))
theorem Pl{xs:List Int}(hx:Tr xs)(eY:xs≠[]):D (aw (dj xs (cb xs))) (aw xs):=(dm (.inl (iW hx eY))).df
theorem LS(xs:List Int):Tr (vD xs):=AE _ _
theorem Pm{xs:List Int}(hx:Tr xs)(eY:xs≠[]):Gu (aw (vD xs)) (aw xs):=by
 have h0:aw xs≠0\/aw (cb xs)≠0:=.inl (iW hx eY);have gc:=dm h0;have hd:=Pl hx eY;have hg:=gU xs (cb xs);have RN:=AD h0;have hq:=Hz hx hg eY RN hd;have e:=tG hx hg eY RN hd;rw[B4 h0] at e;have e2:aw xs=aw (dj xs (cb xs))*(K (cont xs)*aw (vD xs)):=by
  rw[ff hx eY,e];show K (cont xs)*(aw (dj xs (cb xs))*aw (vD xs))=_;grind
 obtain⟨u,v,a,ha,eb⟩:=gc.bz;rw[fe] at eb;have hc:=fK hx eY;have key:∀π,nJ π->(D π (aw (vD xs))↔D π (aw xs))/\¬D (π*π) (aw (vD xs)):=fun π hp=>by
  have d1:D (K a*aw (dj xs (cb xs))) (aw xs):=gc.df.Kl ha;have d2:D (K a*aw (dj xs (cb xs))) (aY (aw xs)):=by rw[<-fe];exact gc.dg.Kl ha
  have e3:K a*aw xs=K a*aw (dj xs (cb xs))*(K (cont xs)*aw (vD xs)):=by
   conv=>lhs;rw[e2]
   grind
  have:=Ho (iW hx eY) eb d1 d2 ha e3 hp;refine⟨⟨fun z=>this.1.mp (z.mulL _),fun z=>?_⟩,fun z=>this.2 (z.mulL _)⟩;exact D.As hc (this.1.mpr z)
 exact⟨hq.1,hq.2,fun π hp=>(key π hp).1,fun π hp=>(key π hp).2⟩
theorem yi{xs:List Int}(hx:Tr xs)(h:Gu (aw xs) (aw xs)):dj xs (cb xs)=[1]:=by
 have hn:aw xs≠0:=h.pr.ne;have gc:=dm (xs:=xs) (ys:=cb xs) (.inl hn);have hl:len (aw (dj xs (cb xs)))<=1:=by
  rcases Nat.lt_or_ge 1 (len (aw (dj xs (cb xs)))) with hl|hl
  ·exfalso;obtain⟨π,hp,hd⟩:=nJ.ex _ _ (Nat.le_refl _) hl;have d1:=hd.trans gc.df;have d2:=hd.trans gc.dg;rw[fe] at d2;obtain⟨a,ha,u,e⟩:=d1;have e2:=congrArg aY e;rw[vA,lH] at e2;have d3:D π (aY π*u):=by
    have h3:D π (K a*aY (aw xs)-π*aY u):=(d2.mulL _).sub (D.mul π _);have e3:K a*aY (aw xs)-π*aY u=aY π*u:=by grind
    rw[e3] at h3;exact h3
   rcases hp.prime d3 with z|z
   ·exact hp.aY z
   ·refine h.sq π hp (D.As ha ?_);rw[e];exact z.LG
  ·exact hl
 have e:=cj hl;have t1:Tr [1]:=fun x hx=>by
  have:1=x:=by simpa using hx
  lia
 refine lN (gU _ _) t1 ?_;have hp:=gc.pr;have f9:=gc.pos;rw[e] at hp f9 ⊢;generalize (aw (dj xs (cb xs))).c 0=b at*;have Uc:b≠0:=by rintro rfl;exact hp.ne cR
 have hb:b.natAbs=1:=hp _ fun i=>by
  rw[x_];split
  ·exact Int.natAbs_dvd.mpr (Int.dvd_refl b)
  ·exact Int.dvd_zero _
 rw[len_K Uc,x_,if_pos rfl] at f9;have:b=1:=by lia
 rw[this];exact ext fun i=>by
  rw[x_,bC];cases i with
  |zero=>rfl
  |succ i=>rfl
theorem HA{xs ys:List Int}(hx:Tr xs)(hy:Tr ys)(eY:xs≠[])(iK:ys≠[]){A M:Nat}(hA:xs.length+ys.length<=A+2)(h1:∀i,ab (co (au xs) i)<=M)(h2:∀i,ab (co (au ys) i)<=M)(i:Nat):
 ab (co (dj xs ys) i)<=((NB A M:Nat):Int):=by
 rw[<-pe hx hy eY iK];have gc:=dm (xs:=au xs) (ys:=au ys) (.inl (cO hx eY).ne);obtain⟨f1,e1⟩:=gc.pr.div gc.df;obtain⟨g1,e2⟩:=gc.pr.div gc.dg;have hh:=gc.pr.ne;have pf:=cO hx eY;have pg:=cO hy iK;have yh:f1≠0:=by rintro rfl;exact pf.ne (by rw[e1];grind)
 have xr:g1≠0:=by rintro rfl;exact pg.ne (by rw[e2];grind)
 have T6:len (aw (au xs))=xs.length:=by rw[bO (bS hx),aS]
 have sO:len (aw (au ys))=ys.length:=by rw[bO (bS hy),aS]
 obtain⟨U,V,r,hr,er,hb⟩:=rP pf pg h1 h2 gc e1 e2 (A:=A) (by lia);refine Int.le_trans ?_ (hb i);rw[ck];have g1:1<=ab r:=f7 hr;have g2:=aK (co (dj (au xs) (au ys)) i);have g3:1*ab (co (dj (au xs) (au ys)) i)<=ab r*ab (co (dj (au xs) (au ys)) i):=Int.mul_le_mul_of_nonneg_right g1 g2;have g4:ab (co (dj (au xs) (au ys)) i)<=ab r*ab (co (dj (au xs) (au ys)) i):=by lia
 exact g4
end Po
end SF
namespace SF
open Lean.Grind
namespace Po
theorem JJ(a b:Nat):X (a+b)=X a*X b:=ext fun i=>by
 rw[fL,Ar,Ar];by_cases h:i<a
 ·rw[if_pos h,if_neg (by lia)]
 ·rw[if_neg h];by_cases h2:i=a+b
  ·rw[if_pos h2,if_pos (by lia)]
  ·rw[if_neg h2,if_neg (by lia)]
noncomputable def jz(rs ds:List Int)(t:Int)(k:Nat):List Int:=gx (fun j=>co rs j-if k<=j then t*co ds (j-k) else 0) rs.length
theorem B5(rs ds:List Int)(t:Int)(k:Nat):(jz rs ds t k).length=rs.length:=aQ _ _
theorem pj{rs ds:List Int}{t:Int}{k:Nat}(h:k+ds.length<=rs.length)(j:Nat):co (jz rs ds t k) j=co rs j-if k<=j then t*co ds (j-k) else 0:=by
 unfold jz;rw[mO];split
 ·rfl
 ·rw[cG (xs:=rs) (by lia)];split
  ·rw[cG (xs:=ds) (by lia)];grind
  ·rfl
theorem B6{rs ds:List Int}{t:Int}{k:Nat}(h:k+ds.length<=rs.length):aw (jz rs ds t k)=aw rs-K t*X k*aw ds:=ext fun j=>by
 have e:K t*X k*aw ds=K t*(X k*aw ds):=by grind
 rw[e,gT,a_,fL,bC,bC,bC,pj h];by_cases hj:k<=j
 ·rw[if_pos hj,if_neg (by lia)]
 ·rw[if_neg hj,if_pos (by lia)];grind
theorem D7{rs:List Int}(h:co rs (rs.length-1)=0):aw rs.dropLast=aw rs:=ext fun j=>by
 rw[bC,bC,List.dropLast_eq_take,iT];split
 ·rfl
 ·by_cases hj:j=rs.length-1
  ·rw[hj,h]
  ·rw[cG (by lia)]
theorem AF(x y:Int):(x.fdiv y).natAbs<=x.natAbs:=by
 rcases Int.lt_trichotomy y 0 with h|h|h
 ·have e:x.fdiv y=(-x).fdiv (-y):=by rw[Int.neg_fdiv_neg]
  rw[e,dy (by lia:0< -y)];generalize hz:-y=z;have LU:0<z:=by lia
  rcases Int.le_total 0 (-x) with hx|hx
  ·have h1:=Int.ediv_nonneg hx (by lia:0<=z);have h2:=Int.ediv_le_self z hx;lia
  ·have h1:(-x)/z<=0:=by
    have:=Int.ediv_le_ediv LU hx;rw[Int.zero_ediv] at this;exact this
   have h2:-x<=(-x)/z:=by
    rw[Int.le_ediv_iff_mul_le LU];have:(-x)*z<=(-x)*1:=Int.mul_le_mul_of_nonpos_left hx (by lia);lia
   lia
 ·rw[h,Int.fdiv_zero];simp
 ·rw[dy h];rcases Int.le_total 0 x with hx|hx
  ·have h1:=Int.ediv_nonneg hx (by lia:0<=y);have h2:=Int.ediv_le_self y hx;lia
  ·have h1:x/y<=0:=by
    have:=Int.ediv_le_ediv h hx;rw[Int.zero_ediv] at this;exact this
   have h2:x<=x/y:=by
    rw[Int.le_ediv_iff_mul_le h];have:x*y<=x*1:=Int.mul_le_mul_of_nonpos_left hx (by lia);lia
   lia
theorem B7{rs ds:List Int}(hd:Tr ds)(yj:ds≠[])(hl:ds.length<=rs.length){s:Po}(e:aw rs=aw ds*s):
 co rs (rs.length-1)-(co rs (rs.length-1)).fdiv (co ds (ds.length-1))*co ds (ds.length-1)=0:=by
 have hz:co rs (rs.length-1)=0->co rs (rs.length-1)-(co rs (rs.length-1)).fdiv (co ds (ds.length-1))*co ds (ds.length-1)=0:=fun z=>by
  rw[z,Int.zero_fdiv];grind
 by_cases hs:s=0
 ·refine hz ?_;have:(aw rs).c (rs.length-1)=0:=by
   rw[e,hs];have e2:aw ds*(0:Po)=0:=by grind
   rw[e2,fc]
  exact this
 ·have WQ:=iW hd yj;have h1:=len_mul WQ hs;rw[<-e] at h1;rw[bO hd] at h1;have h2:len (aw rs)<=rs.length:=cJ fun i hi=>by rw[bC];exact cG hi
  by_cases h3:len (aw rs)=rs.length
  ·have h4:=o8 WQ hs;rw[<-e,h3,bO hd,bC,bC] at h4;have yk:=hd.last yj;rw[h4,Int.mul_comm (co ds (ds.length-1)),Int.mul_fdiv_cancel _ yk];lia
  ·have f9:0<rs.length:=by have:=List.length_pos_iff.mpr yj;lia
   exact hz (eF (f:=aw rs) (i:=rs.length-1) (by lia))
theorem B8{rs ds:List Int}(hd:Tr ds)(hl:rs.length<ds.length){s:Po}(e:aw rs=aw ds*s):aw rs=0:=by
 have yj:ds≠[]:=by rintro rfl;exact absurd hl (Nat.not_lt_zero _)
 by_cases hs:s=0
 ·rw[e,hs];grind
 ·have h1:=len_mul (iW hd yj) hs;rw[<-e,bO hd] at h1;have h2:len (aw rs)<=rs.length:=cJ fun i hi=>by rw[bC];exact cG hi
  have h3:=len_pos hs;lia
theorem any_zero{rs:List Int}:rs.any (·!=0)=false↔aw rs=0:=by
 constructor
 ·intro h;refine ext fun i=>?_;rw[bC,fc];by_cases hi:i<rs.length
  ·rw[bY hi];have:=List.any_eq_false.mp h _ (List.getElem_mem hi);simpa using this
  ·exact cG (by lia)
 ·intro h;refine List.any_eq_false.mpr fun x hx=>?_;obtain⟨i,e⟩:=mU hx;have:(aw rs).c i=0:=by rw[h,fc]
  rw[bC,e] at this;simp[this]
theorem LV{xs ds qs:List Int}(hx:Tr xs)(eY:xs≠[])(hd:Tr ds)(e:aw xs=aw ds*aw qs)(hl:qs.length+ds.length=xs.length+1):Tr qs:=by
 have h0:=iW hx eY;rw[e] at h0;have h1:=len_mul (s_ h0) (iw h0);rw[<-e,bO hx,bO hd] at h1;refine Tr.lI fun hq=>?_;have hp:=List.length_pos_iff.mpr hq;have h2:=lead (f:=aw qs) (by lia);have e2:len (aw qs)-1=qs.length-1:=by lia
 rw[e2] at h2;exact h2
theorem AG(p:Int):∀xs ys:List Int,eX p (xs++ys)=eX p xs+p^xs.length*eX p ys
 |[],ys=>by show eX p ys=0+p^0*eX p ys;rw[Int.pow_zero];lia
 |x::r,ys=>by
  show x+p*eX p (r++ys)=x+p*eX p r+p^(r.length+1)*eX p ys;rw[AG p r ys,Int.pow_succ];grind
noncomputable def digit(p v:Int):Int:=if 2*(v%p)>p then v%p-p else v%p
noncomputable def jA(p v:Int):Int:=(v-digit p v)/p
theorem pk{p v:Int}(hp:0<p):digit p v+p*jA p v=v:=by
 have hd:p∣v-digit p v:=by
  unfold digit;have h1:=Int.emod_add_mul_ediv v p;split
  ·exact⟨v/p+1,by grind⟩
  ·exact⟨v/p,by grind⟩
 unfold jA;rw[Int.mul_ediv_cancel' hd];lia
theorem oz{p v:Int}(hp:0<p):-p<2*digit p v/\2*digit p v<=p:=by
 have h1:=Int.emod_nonneg v (Int.ne_of_gt hp);have h2:=Int.emod_lt_of_pos v hp;unfold digit;split<;>lia
theorem vF{p v:Int}(hp:0<p)(hv:0<=v):0<=jA p v:=by
 have e:=pk (v:=v) hp;have b:=oz (v:=v) hp;rcases Int.lt_or_le (jA p v) 0 with h|h
 ·have:p*jA p v<=p*(-1):=Int.mul_le_mul_of_nonneg_left (by lia) (by lia);lia
 ·exact h
theorem HB{p v w:Int}(hp:0<p)(h:v<=p*w):jA p v<=w:=by
 have e:=pk (v:=v) hp;have b:=oz (v:=v) hp;rcases Int.lt_or_le w (jA p v) with h2|h2
 ·have:p*(w+1)<=p*jA p v:=Int.mul_le_mul_of_nonneg_left (by lia) (by lia);have e2:p*(w+1)=p*w+p:=by grind
  lia
 ·exact h2
theorem D8{p:Int}(hp:2<=p):jA p 1=0/\digit p 1=1:=by
 have e:(1:Int)%p=1:=Int.emod_eq_of_lt (by decide) (by lia);have e2:digit p 1=1:=by unfold digit;rw[e,if_neg (by lia)]
 refine⟨?_,e2⟩;unfold jA;rw[e2];simp
theorem HC{p v:Int}(hp:3<=p)(hv:0<v):jA p v<v:=by
 have e:=pk (p:=p) (v:=v) (by lia);have b:=oz (p:=p) (v:=v) (by lia);rcases Int.lt_or_le (jA p v) v with h|h
 ·exact h
 ·have h1:p*v<=p*jA p v:=Int.mul_le_mul_of_nonneg_left h (by lia);have h2:3*v<=p*v:=Int.mul_le_mul_of_nonneg_right hp (by lia);have h3:p*1<=p*v:=Int.mul_le_mul_of_nonneg_left (by lia) (by lia);lia
theorem ym{p v:Int}(hp:0<p)(hv:v≠0)(h:jA p v=0):digit p v≠0:=fun z=>by
 have e:=pk (v:=v) hp;rw[z,h] at e;lia
theorem Pn{p:Int}(hp:0<p){xs:List Int}(h:∀x∈xs,ab x<p):ab (eX p xs)<p^xs.length:=by
 rw[tE];have h1:=ye (f:=fun i=>co xs i*p^i) xs.length;have h2:aF (fun i=>ab (co xs i*p^i)) xs.length<=aF (fun i=>(p-1)*(p-1+1)^i) xs.length:=lP fun i hi=>by
  rw[ck,nK (Int.pow_nonneg (by lia))];have e:p-1+1=p:=by lia
  rw[e];refine Int.mul_le_mul_of_nonneg_right ?_ (Int.pow_nonneg (by lia));have:=h (co xs i) (by rw[bY hi];exact List.getElem_mem hi);lia
 rw[o_] at h2;have e:p-1+1=p:=by lia
 rw[e] at h2;lia
theorem vG(p:Int)(xs:List Int){j:Nat}(h:j<xs.length):eX p (xs.drop (xs.length-(j+1)))=eX p (xs.drop (xs.length-j))*p+co xs (xs.length-1-j):=by
 have e:xs.length-(j+1)=xs.length-1-j:=by lia
 have e2:xs.length-j=xs.length-1-j+1:=by lia
 rw[e,e2,List.drop_eq_getElem_cons (i:=xs.length-1-j) (by lia)];show xs[xs.length-1-j]+p*_=_;rw[bY (by lia)];grind
theorem D9(p:Int)(xs:List Int):eX p (xs.drop (xs.length-xs.length))=eX p xs:=by rw[Nat.sub_self,List.drop_zero]
theorem vH(p:Int)(xs:List Int):eX p (xs.drop (xs.length-0))=0:=by rw[Nat.sub_zero,List.drop_length];rfl
end Po
end SF
namespace SF
open Lean.Grind
namespace Po
theorem Pp{p M:Int}{w:Po}(hw:w≠0)(hb:∀i,ab (w.c i)<=M)(hp:2*(M+1)<p):ev p w≠0:=by
 have LL:0<=M:=Int.le_trans (aK _) (hb 0);by_cases hl:2<=len w
 ·have:=j7 hw (show w=w*1 by grind) hl hb (p:=p) (by lia);intro z;rw[z] at this;have h0:ab 0=0:=rfl;lia
 ·have e:=cj (f:=w) (by lia);rw[e,DX];intro z;rw[z,cR] at e;exact hw e
theorem D_{a b:Int}{B:Int}(h:(a≠0/\ab a<=B)\/(b≠0/\ab b<=B)):Int.gcd a b≠0/\((Int.gcd a b:Nat):Int)<=B:=by
 rcases h with⟨h,hb⟩|⟨h,hb⟩
 ·refine⟨Nat.ne_of_gt (Int.gcd_pos_of_ne_zero_left _ h),Int.le_trans ?_ hb⟩;unfold ab;have:=Nat.le_of_dvd (by lia) (Int.natAbs_dvd_natAbs.mpr (Int.gcd_dvd_left (a:=a) (b:=b)));lia
 ·refine⟨Nat.ne_of_gt (Int.gcd_pos_of_ne_zero_right _ h),Int.le_trans ?_ hb⟩;unfold ab;have:=Nat.le_of_dvd (by lia) (Int.natAbs_dvd_natAbs.mpr (Int.gcd_dvd_right (a:=a) (b:=b)));lia
theorem B9{xs ys:List Int}{M p:Int}(hx:aw xs≠0)(hy:aw ys≠0)(hM:(∀x∈xs,ab x<=M)\/(∀y∈ys,ab y<=M))(h0:0<=M)(hp:2*(M+1)<p)(n:Nat)(h1:xs.length<=n)(h2:ys.length<=n):
 Int.gcd (eX p xs) (eX p ys)≠0/\((Int.gcd (eX p xs) (eX p ys):Nat):Int)<=p^n:=by
 have key:∀zs:List Int,aw zs≠0->(∀x∈zs,ab x<=M)->zs.length<=n->eX p zs≠0/\ab (eX p zs)<=p^n:=fun zs hz hb hl=>by
  constructor
  ·rw[<-jy];exact Pp hz (fun i=>mem_co hb h0 i) hp
  ·have h3:=Pn (p:=p) (by lia) (xs:=zs) (fun x hx=>by have:=hb x hx;lia);have h4:p^zs.length<=p^n:=by
    obtain⟨k,rfl⟩:=Int.eq_ofNat_of_zero_le (show 0<=p by lia);have e1:((k:Int)^zs.length)=((k^zs.length:Nat):Int):=by simp
    have e2:((k:Int)^n)=((k^n:Nat):Int):=by simp
    rw[e1,e2];exact Int.ofNat_le.mpr (Nat.pow_le_pow_right (by lia) hl)
   lia
 refine D_ ?_;rcases hM with h|h
 ·exact .inl (key xs hx h h1)
 ·exact .inr (key ys hy h h2)
theorem AH(b:Nat):2*NB 60 (2^b)<2^(61*b+427):=by
 unfold NB;have h0:0<2^b:=Nat.two_pow_pos b;have h1:2*60*2^b+1<=2^(b+7):=by rw[Nat.pow_add];lia
 have h2:(2*60*2^b+1)^60<=(2^(b+7))^60:=Nat.pow_le_pow_left h1 60;rw[<-Nat.pow_mul] at h2;have h3:(2*60*2^b+1)^60*2^b<=2^((b+7)*60)*2^b:=Nat.mul_le_mul_right _ h2;rw[<-Nat.pow_add] at h3;have e:61*b+427=((b+7)*60+b)+7:=by lia
 rw[e,Nat.pow_add 2 ((b+7)*60+b) 7];generalize (2*60*2^b+1)^60*2^b=z at*;have h4:0<2^((b+7)*60+b):=Nat.two_pow_pos _;lia
end Po
end SF
namespace SF
open Lean.Grind
namespace RR
noncomputable def ra(x:Rat):Rat:=if x<0 then -x else x
theorem fA(x:Rat):0<=ra x:=by unfold ra;split<;>grind
theorem pA(x y:Rat):ra (x+y)<=ra x+ra y:=by unfold ra;split<;>split<;>split<;>grind
theorem yo(x:Rat):ra (-x)=ra x:=by unfold ra;split<;>split<;>grind
theorem pB{x e:Rat}:ra x<e↔(-e<x/\x<e):=by unfold ra;split<;>grind
theorem JK{x e:Rat}:ra x<=e↔(-e<=x/\x<=e):=by unfold ra;split<;>grind
theorem tH{a b c d:Rat}(h1:a<=b)(h2:c<=d)(h3:0<=b)(h4:0<=c):a*c<=b*d:=by
 have e1:a*c<=b*c:=Rat.mul_le_mul_of_nonneg_right h1 h4;have e2:b*c<=b*d:=Rat.mul_le_mul_of_nonneg_left h2 h3;grind
theorem Ea(x y:Rat):ra (x*y)=ra x*ra y:=by
 unfold ra;by_cases hx:x<0<;>by_cases hy:y<0
 ·have:¬x*y<0:=by
   have:=Rat.mul_pos (a:=-x) (b:=-y) (by grind) (by grind);grind
  rw[if_neg this,if_pos hx,if_pos hy];grind
 ·rw[if_pos hx,if_neg hy];by_cases h0:y=0
  ·rw[h0,if_neg (by grind)];grind
  ·have:=Rat.mul_pos (a:=-x) (b:=y) (by grind) (by grind);rw[if_pos (by grind)];grind
 ·rw[if_neg hx,if_pos hy];by_cases h0:x=0
  ·rw[h0,if_neg (by grind)];grind
  ·have:=Rat.mul_pos (a:=x) (b:=-y) (by grind) (by grind);rw[if_pos (by grind)];grind
 ·rw[if_neg hx,if_neg hy];have:¬x*y<0:=by
   have:=Rat.mul_nonneg (a:=x) (b:=y) (by grind) (by grind);grind
  rw[if_neg this]
theorem yp{a b:Rat}(ha:0<a)(hb:0<b):0<a/b:=by rw[Rat.div_def];exact Rat.mul_pos ha (Rat.inv_pos.mpr hb)
structure CS where
 s:Nat->Rat
 c:∀e:Rat,0<e->∃N,∀m n,N<=m->N<=n->ra (s m-s n)<e
theorem CS.bd(a:CS):∃B:Rat,0<B/\∀n,ra (a.s n)<=B:=by
 obtain⟨N,hN⟩:=a.c 1 (by decide);have hex:∀k:Nat,∃B:Rat,0<B/\∀n,n<k->ra (a.s n)<=B:=by
  intro k
  induction k with
  |zero=>exact⟨1,by decide,fun n hn=>by lia⟩
  |succ k ih=>
   obtain⟨B,hB,hb⟩:=ih;refine⟨B+ra (a.s k),by have:=fA (a.s k);grind,fun n hn=>?_⟩;by_cases h:n<k
   ·have:=hb n h;have:=fA (a.s k);grind
   ·have e:n=k:=by lia
    rw[e];grind
 obtain⟨B,hB,hb⟩:=hex (N+1);refine⟨B+1,by grind,fun n=>?_⟩;by_cases h:n<N+1
 ·have:=hb n h;grind
 ·have h1:=hN n N (by lia) (Nat.le_refl _);have h2:=hb N (by lia);have h3:=pA (a.s n-a.s N) (a.s N);have e:a.s n-a.s N+a.s N=a.s n:=by grind
  rw[e] at h3;grind
theorem half{e:Rat}(h:0<e):0<e/2/\e/2+e/2=e:=by
 constructor<;>grind
noncomputable def LW(a b:CS):CS:=⟨fun n=>a.s n+b.s n,fun e he=>by
 obtain⟨h1,h2⟩:=half he
 obtain⟨N,hN⟩:=a.c _ h1
 obtain⟨M,hM⟩:=b.c _ h1
 refine⟨max N M,fun m n hm hn=>?_⟩
 have g1:=hN m n (by lia) (by lia)
 have g2:=hM m n (by lia) (by lia)
 have g3:=pA (a.s m-a.s n) (b.s m-b.s n)
 have e:a.s m+b.s m-(a.s n+b.s n)=a.s m-a.s n+(b.s m-b.s n):=by grind
 rw[e];grind⟩
noncomputable def LX(a:CS):CS:=⟨fun n=>-a.s n,fun e he=>by
 obtain⟨N,hN⟩:=a.c _ he
 refine⟨N,fun m n hm hn=>?_⟩
 have g1:=hN m n hm hn
 have e2:-a.s m- -a.s n=-(a.s m-a.s n):=by grind
 rw[e2,yo];exact g1⟩
theorem vI{a b a' b' B:Rat}{e:Rat}(hB:0<B)(h1:ra a<=B)(h2:ra b'<=B)(h3:ra (b-b')<e/(2*B))(h4:ra (a-a')<e/(2*B)):ra (a*b-a'*b')<e:=by
 have e1:a*b-a'*b'=a*(b-b')+(a-a')*b':=by grind
 have g:=pA (a*(b-b')) ((a-a')*b');rw[Ea,Ea] at g;have z1:=fA a;have z2:=fA b';have z3:=fA (b-b');have z4:=fA (a-a');have g1:ra a*ra (b-b')<=B*ra (b-b'):=Rat.mul_le_mul_of_nonneg_right h1 z3;have g2:ra (a-a')*ra b'<=ra (a-a')*B:=Rat.mul_le_mul_of_nonneg_left h2 z4;have g3:B*ra (b-b')<B*(e/(2*B)):=(Rat.mul_lt_mul_left hB).mpr h3;have g4:B*ra (a-a')<B*(e/(2*B)):=(Rat.mul_lt_mul_left hB).mpr h4;have e2:B*(e/(2*B))=e/2:=by grind
 rw[e1];grind
noncomputable def LY(a b:CS):CS:=⟨fun n=>a.s n*b.s n,fun e he=>by
 obtain⟨A,hA,ha⟩:=a.bd
 obtain⟨B,hB,hb⟩:=b.bd
 have Pq:0<A+B:=by grind
 have f9:0<e/(2*(A+B)):=yp he (Rat.mul_pos (by decide) Pq)
 obtain⟨N,hN⟩:=a.c _ f9
 obtain⟨M,hM⟩:=b.c _ f9
 refine⟨max N M,fun m n hm hn=>?_⟩
 exact vI Pq (by have:=ha m;grind) (by have:=hb n;grind) (hM m n (by lia) (by lia)) (hN m n (by lia) (by lia))⟩
noncomputable def Ud(q:Rat):CS:=⟨fun _=>q,fun e he=>⟨0,fun _ _ _ _=>by
 have:q-q=0:=by grind
 rw[this];unfold ra;rw[if_neg (by decide)];exact he⟩⟩
noncomputable def eqv(a b:CS):Prop:=∀e:Rat,0<e->∃N,∀n,N<=n->ra (a.s n-b.s n)<e
theorem eqv_refl(a:CS):eqv a a:=fun e he=>⟨0,fun n _=>by
 have:a.s n-a.s n=0:=by grind
 rw[this];unfold ra;rw[if_neg (by decide)];exact he⟩
theorem pC{a b:CS}(h:eqv a b):eqv b a:=fun e he=>by
 obtain⟨N,hN⟩:=h e he;refine⟨N,fun n hn=>?_⟩;have:=hN n hn;have e2:b.s n-a.s n=-(a.s n-b.s n):=by grind
 rw[e2,yo];exact this
theorem B_{a b c:CS}(h:eqv a b)(h':eqv b c):eqv a c:=fun e he=>by
 obtain⟨h1,h2⟩:=half he;obtain⟨N,hN⟩:=h _ h1;obtain⟨M,hM⟩:=h' _ h1;refine⟨max N M,fun n hn=>?_⟩;have g1:=hN n (by lia);have g2:=hM n (by lia);have g3:=pA (a.s n-b.s n) (b.s n-c.s n);have e3:a.s n-b.s n+(b.s n-c.s n)=a.s n-c.s n:=by grind
 rw[e3] at g3;grind
noncomputable instance sd:Setoid CS:=⟨eqv,eqv_refl,pC,B_⟩
end RR
noncomputable def Re:Type:=Quotient RR.sd
namespace Re
open RR
noncomputable def mk(a:CS):Re:=Quotient.mk sd a
theorem LZ{a b a' b':CS}(h:eqv a a')(h':eqv b b'):eqv (LW a b) (LW a' b'):=fun e he=>by
 obtain⟨h1,h2⟩:=half he;obtain⟨N,hN⟩:=h _ h1;obtain⟨M,hM⟩:=h' _ h1;refine⟨max N M,fun n hn=>?_⟩;have g1:=hN n (by lia);have g2:=hM n (by lia);have g3:=pA (a.s n-a'.s n) (b.s n-b'.s n);show ra (a.s n+b.s n-(a'.s n+b'.s n))<e;have e3:a.s n+b.s n-(a'.s n+b'.s n)=a.s n-a'.s n+(b.s n-b'.s n):=by grind
 rw[e3];grind
theorem L3{a a':CS}(h:eqv a a'):eqv (LX a) (LX a'):=fun e he=>by
 obtain⟨N,hN⟩:=h _ he;refine⟨N,fun n hn=>?_⟩;have g1:=hN n hn;show ra (- a.s n- -a'.s n)<e;have e3:-a.s n- -a'.s n=-(a.s n-a'.s n):=by grind
 rw[e3,yo];exact g1
theorem L4{a b a' b':CS}(h:eqv a a')(h':eqv b b'):eqv (LY a b) (LY a' b'):=fun e he=>by
 obtain⟨A,hA,ha⟩:=a.bd;obtain⟨B,hB,hb⟩:=b'.bd;have Pq:0<A+B:=by grind
 have f9:0<e/(2*(A+B)):=yp he (Rat.mul_pos (by decide) Pq);obtain⟨N,hN⟩:=h _ f9;obtain⟨M,hM⟩:=h' _ f9;refine⟨max N M,fun n hn=>?_⟩;exact vI Pq (by have:=ha n;grind) (by have:=hb n;grind) (hM n (by lia)) (hN n (by lia))
noncomputable def add(x y:Re):Re:=Quotient.liftOn₂ x y (fun a b=>mk (LW a b)) fun _ _ _ _ h h'=>Quotient.sound (LZ h h')
noncomputable def mul(x y:Re):Re:=Quotient.liftOn₂ x y (fun a b=>mk (LY a b)) fun _ _ _ _ h h'=>Quotient.sound (L4 h h')
noncomputable def neg(x:Re):Re:=Quotient.liftOn x (fun a=>mk (LX a)) fun _ _ h=>Quotient.sound (L3 h)
noncomputable def q(r:Rat):Re:=mk (Ud r)
noncomputable instance instAdd:Add Re:=⟨add⟩
noncomputable instance instMul:Mul Re:=⟨mul⟩
noncomputable instance instNeg:Neg Re:=⟨neg⟩
noncomputable instance instSub:Sub Re:=⟨fun x y=>x+-y⟩
noncomputable instance instNatCast:NatCast Re:=⟨fun n=>q (n:Rat)⟩
noncomputable instance instIntCast:IntCast Re:=⟨fun n=>q (n:Rat)⟩
noncomputable instance instOfNat(n:Nat):OfNat Re n:=⟨q ((n:Nat):Rat)⟩
noncomputable def pow(x:Re):Nat->Re
 |0=>q 1
 |n+1=>pow x n*x
noncomputable instance instHPow:HPow Re Nat Re:=⟨pow⟩
noncomputable instance ij:SMul Nat Re:=⟨fun n x=>q (n:Rat)*x⟩
noncomputable instance ik:SMul Int Re:=⟨fun n x=>q (n:Rat)*x⟩
theorem mk_eq{a b:CS}(h:∀n,a.s n=b.s n):mk a=mk b:=by
 have:a=b:=by
  cases a;cases b;have:_=_:=funext h;cases this;rfl
 rw[this]
theorem ex(x:Re):∃a,x=mk a:=by
 obtain⟨a,h⟩:=Quotient.exists_rep x;exact⟨a,h.symm⟩
theorem nL(a b:Rat):q (a+b)=q a+q b:=mk_eq fun _=>rfl
theorem fV(a b:Rat):q (a*b)=q a*q b:=mk_eq fun _=>rfl
theorem rR(a:Rat):q (-a)=-q a:=mk_eq fun _=>rfl
noncomputable instance instCommRing:CommRing Re where
 natCast:=instNatCast
 ofNat:=instOfNat
 nsmul:=ij
 npow:=instHPow
 intCast:=instIntCast
 zsmul:=ik
 add_zero x:=by obtain⟨a,rfl⟩:=ex x;exact mk_eq fun n=>by show a.s n+((0:Nat):Rat)=a.s n;grind
 add_comm x y:=by obtain⟨a,rfl⟩:=ex x;obtain⟨b,rfl⟩:=ex y;exact mk_eq fun n=>by show a.s n+b.s n=b.s n+a.s n;grind
 add_assoc x y z:=by obtain⟨a,rfl⟩:=ex x;obtain⟨b,rfl⟩:=ex y;obtain⟨c,rfl⟩:=ex z;exact mk_eq fun n=>by show a.s n+b.s n+c.s n=a.s n+(b.s n+c.s n);grind
 mul_assoc x y z:=by obtain⟨a,rfl⟩:=ex x;obtain⟨b,rfl⟩:=ex y;obtain⟨c,rfl⟩:=ex z;exact mk_eq fun n=>by show a.s n*b.s n*c.s n=a.s n*(b.s n*c.s n);grind
 mul_one x:=by obtain⟨a,rfl⟩:=ex x;exact mk_eq fun n=>by show a.s n*((1:Nat):Rat)=a.s n;grind
 one_mul x:=by obtain⟨a,rfl⟩:=ex x;exact mk_eq fun n=>by show((1:Nat):Rat)*a.s n=a.s n;grind
 right_distrib x y z:=by obtain⟨a,rfl⟩:=ex x;obtain⟨b,rfl⟩:=ex y;obtain⟨c,rfl⟩:=ex z;exact mk_eq fun n=>by show(a.s n+b.s n)*c.s n=a.s n*c.s n+b.s n*c.s n;grind
 left_distrib x y z:=by obtain⟨a,rfl⟩:=ex x;obtain⟨b,rfl⟩:=ex y;obtain⟨c,rfl⟩:=ex z;exact mk_eq fun n=>by show a.s n*(b.s n+c.s n)=a.s n*b.s n+a.s n*c.s n;grind
 zero_mul x:=by obtain⟨a,rfl⟩:=ex x;exact mk_eq fun n=>by show((0:Nat):Rat)*a.s n=((0:Nat):Rat);grind
 mul_zero x:=by obtain⟨a,rfl⟩:=ex x;exact mk_eq fun n=>by show a.s n*((0:Nat):Rat)=((0:Nat):Rat);grind
 pow_zero x:=rfl
 pow_succ x n:=rfl
 ofNat_succ n:=mk_eq fun _=>by show((n+1:Nat):Rat)=((n:Nat):Rat)+((1:Nat):Rat);grind
 ofNat_eq_natCast n:=rfl
 nsmul_eq_natCast_mul n x:=rfl
 neg_add_cancel x:=by obtain⟨a,rfl⟩:=ex x;exact mk_eq fun n=>by show-a.s n+a.s n=((0:Nat):Rat);grind
 sub_eq_add_neg x y:=rfl
 neg_zsmul n x:=by
  obtain⟨a,rfl⟩:=ex x;refine mk_eq fun k=>?_;show((-n:Int):Rat)*a.s k=-(((n:Int):Rat)*a.s k);have:((-n:Int):Rat)=-((n:Int):Rat):=by simp
  rw[this];grind
 zsmul_natCast_eq_nsmul n x:=by obtain⟨a,rfl⟩:=ex x;exact mk_eq fun k=>rfl
 intCast_ofNat n:=mk_eq fun _=>by show(((OfNat.ofNat n:Int)):Rat)=((n:Nat):Rat);rfl
 intCast_neg n:=mk_eq fun _=>by show((-n:Int):Rat)=-((n:Int):Rat);simp
 mul_comm x y:=by obtain⟨a,rfl⟩:=ex x;obtain⟨b,rfl⟩:=ex y;exact mk_eq fun n=>by show a.s n*b.s n=b.s n*a.s n;grind
end Re
end SF
namespace SF
open Lean.Grind
namespace Re
open RR
noncomputable def Ue(a b:CS):Prop:=∃e:Rat,0<e/\∃N,∀n,N<=n->a.s n+e<=b.s n
theorem JL{a b a' b':CS}(h:eqv a a')(h':eqv b b')(l:Ue a b):Ue a' b':=by
 obtain⟨e,he,N,hN⟩:=l;have h4:0<e/4:=by grind
 obtain⟨M,hM⟩:=h _ h4;obtain⟨L,hL⟩:=h' _ h4;refine⟨e/2,by grind,max N (max M L),fun n hn=>?_⟩;have g1:=hN n (by lia);have g2:=pB.mp (hM n (by lia));have g3:=pB.mp (hL n (by lia));grind
noncomputable def lt(x y:Re):Prop:=Quotient.liftOn₂ x y Ue fun _ _ _ _ h h'=>propext ⟨JL h h',JL (pC h) (pC h')⟩
noncomputable instance instLT:LT Re:=⟨lt⟩
noncomputable instance instLE:LE Re:=⟨fun x y=>¬y<x⟩
theorem le_iff{x y:Re}:x<=y↔¬y<x:=Iff.rfl
theorem lt_irrefl(x:Re):¬x<x:=by
 obtain⟨a,rfl⟩:=ex x;rintro⟨e,he,N,hN⟩;have:=hN N (Nat.le_refl _);grind
theorem lt_trans{x y z:Re}(h:x<y)(h':y<z):x<z:=by
 obtain⟨a,rfl⟩:=ex x;obtain⟨b,rfl⟩:=ex y;obtain⟨c,rfl⟩:=ex z;obtain⟨e,he,N,hN⟩:=h;obtain⟨e',RO,M,hM⟩:=h';refine⟨e,he,max N M,fun n hn=>?_⟩;have g1:=hN n (by lia);have g2:=hM n (by lia);grind
theorem AI(x y:Re):x<y\/x=y\/y<x:=by
 obtain⟨a,rfl⟩:=ex x;obtain⟨b,rfl⟩:=ex y;by_cases h:eqv a b
 ·exact .inr (.inl (Quotient.sound h))
 ·have h1:∃e:Rat,0<e/\∀N,∃n,N<=n/\e<=ra (a.s n-b.s n):=by
   obtain⟨e,he⟩:=Classical.not_forall.mp h;obtain⟨Ug,WR⟩:=Classical.not_imp.mp he;refine⟨e,Ug,fun N=>?_⟩;have h3:=fun hN=>WR ⟨N,hN⟩;obtain⟨n,hn⟩:=Classical.not_forall.mp h3;obtain⟨Hs,K2⟩:=Classical.not_imp.mp hn;exact⟨n,Hs,by grind⟩
  obtain⟨e,he,oU⟩:=h1;have h4:0<e/4:=by grind
  obtain⟨N,hN⟩:=a.c _ h4;obtain⟨M,hM⟩:=b.c _ h4;obtain⟨n,hn,hb⟩:=oU (max N M);by_cases hs:a.s n-b.s n<0
  ·left;refine⟨e/2,by grind,max N M,fun m hm=>?_⟩;have g1:=pB.mp (hN m n (by lia) (by lia));have g2:=pB.mp (hM m n (by lia) (by lia));unfold ra at hb;rw[if_pos hs] at hb;grind
  ·right;right;refine⟨e/2,by grind,max N M,fun m hm=>?_⟩;have g1:=pB.mp (hN m n (by lia) (by lia));have g2:=pB.mp (hM m n (by lia) (by lia));unfold ra at hb;rw[if_neg hs] at hb;grind
noncomputable instance L5:Std.IsLinearOrder Re where
 le_refl a:=lt_irrefl a
 le_trans a b c h h':=fun hc=>by
  rcases AI a b with z|z|z
  ·exact h' (lt_trans hc z)
  ·rw[<-z] at h';exact h' hc
  ·exact h z
 le_antisymm a b h h':=by
  rcases AI a b with z|z|z
  ·exact absurd z h'
  ·exact z
  ·exact absurd z h
 le_total a b:=by
  rcases AI a b with z|z|z
  ·exact .inl fun y=>lt_irrefl a (lt_trans z y)
  ·exact .inl (by rw[z];exact lt_irrefl b)
  ·exact .inr fun y=>lt_irrefl a (lt_trans y z)
noncomputable instance L6:Std.LawfulOrderLT Re where
 lt_iff a b:=by
  constructor
  ·intro h;exact⟨fun y=>lt_irrefl a (lt_trans h y),fun y=>y h⟩
  ·rintro⟨_,h⟩;exact Classical.not_not.mp h
theorem tI{x y:Re}(h:x<y)(z:Re):x+z<y+z:=by
 obtain⟨a,rfl⟩:=ex x;obtain⟨b,rfl⟩:=ex y;obtain⟨c,rfl⟩:=ex z;obtain⟨e,he,N,hN⟩:=h;refine⟨e,he,N,fun n hn=>?_⟩;have g1:=hN n hn;show a.s n+c.s n+e<=b.s n+c.s n;grind
theorem add_lt_iff{x y:Re}(z:Re):x<y↔x+z<y+z:=by
 constructor
 ·exact fun h=>tI h z
 ·intro h;have:=tI h (-z);have e1:x+z+-z=x:=by grind
  have e2:y+z+-z=y:=by grind
  rw[e1,e2] at this;exact this
theorem mul_pos{x y:Re}(h:0<x)(h':0<y):0<x*y:=by
 obtain⟨a,rfl⟩:=ex x;obtain⟨b,rfl⟩:=ex y;obtain⟨e,he,N,hN⟩:=h;obtain⟨e',RO,M,hM⟩:=h';refine⟨e*e',Rat.mul_pos he RO,max N M,fun n hn=>?_⟩;have g1:((0:Nat):Rat)+e<=a.s n:=hN n (by lia);have g2:((0:Nat):Rat)+e'<=b.s n:=hM n (by lia);show((0:Nat):Rat)+e*e'<=a.s n*b.s n;have g3:=tH (a:=e) (b:=a.s n) (c:=e') (d:=b.s n) (by grind) (by grind) (by grind) (by grind);grind
theorem eA{r t:Rat}:q r<q t↔r<t:=by
 constructor
 ·rintro⟨e,he,N,hN⟩;have:r+e<=t:=hN N (Nat.le_refl _);grind
 ·intro h;refine⟨t-r,by grind,0,fun n _=>?_⟩;show r+(t-r)<=t;grind
theorem gH:q 0=0:=rfl
theorem AJ:q 1=1:=rfl
theorem cv{r t:Rat}:q r<=q t↔r<=t:=by
 rw[le_iff,eA];grind
theorem vJ{r t:Rat}(h:q r=q t):r=t:=by
 have h1:¬r<t:=fun z=>by have:=eA.mpr z;rw[h] at this;exact lt_irrefl _ this
 have h2:¬t<r:=fun z=>by have:=eA.mpr z;rw[h] at this;exact lt_irrefl _ this
 grind
noncomputable instance Eb:OrderedAdd Re where
 add_le_left_iff {a b} c:=by
  rw[le_iff,le_iff,<-add_lt_iff c]
theorem sub_pos{x y:Re}(h:x<y):0<y-x:=by
 have:=tI h (-x);have e1:x+-x=0:=by grind
 have e2:y+-x=y-x:=by grind
 rw[e1,e2] at this;exact this
theorem pD{x y:Re}(h:0<y-x):x<y:=by
 have:=tI h x;have e1:0+x=x:=by grind
 have e2:y-x+x=y:=by grind
 rw[e1,e2] at this;exact this
noncomputable instance instOrderedRing:OrderedRing Re where
 zero_lt_one:=by
  show q ((0:Nat):Rat)<q ((1:Nat):Rat);rw[eA];decide
 mul_lt_mul_of_pos_left {a b c} h hc:=by
  have:=mul_pos hc (sub_pos h);have e:c*(b-a)=c*b-c*a:=by grind
  rw[e] at this;exact pD this
 mul_lt_mul_of_pos_right {a b c} h hc:=by
  have:=mul_pos hc (sub_pos h);have e:c*(b-a)=b*c-a*c:=by grind
  rw[e] at this;exact pD this
example (x y:Re)(h:x<y):x+1<=y+2:=by grind
theorem small{x:Re}(h:0<x):∃r:Rat,0<r/\q r<x:=by
 obtain⟨a,rfl⟩:=ex x;obtain⟨e,he,N,hN⟩:=h;refine⟨e/2,by grind,e/2,by grind,N,fun n hn=>?_⟩;have g1:((0:Nat):Rat)+e<=a.s n:=hN n hn;show e/2+e/2<=a.s n;grind
theorem great(x:Re):∃r:Rat,0<r/\x<q r:=by
 obtain⟨a,rfl⟩:=ex x;obtain⟨B,hB,hb⟩:=a.bd;refine⟨B+1,by grind,1,by decide,0,fun n _=>?_⟩;have:=(JK.mp (hb n)).2;show a.s n+1<=B+1;grind
open Classical in
noncomputable def ab(x:Re):Re:=if x<0 then -x else x
theorem aK(x:Re):0<=ab x:=by unfold ab;split<;>grind
theorem iz{x e:Re}:ab x<=e↔(-e<=x/\x<=e):=by unfold ab;split<;>grind
theorem dC{x e:Re}:ab x<e↔(-e<x/\x<e):=by unfold ab;split<;>grind
theorem gG(x y:Re):ab (x+y)<=ab x+ab y:=by unfold ab;split<;>split<;>split<;>grind
theorem yq(x:Re):ab (-x)=ab x:=by unfold ab;split<;>split<;>grind
theorem mul_nonneg{x y:Re}(h:0<=x)(h':0<=y):0<=x*y:=by
 by_cases hx:x=0
 ·rw[hx];grind
 ·by_cases hy:y=0
  ·rw[hy];grind
  ·have:=mul_pos (x:=x) (y:=y) (by grind) (by grind);grind
theorem ck(x y:Re):ab (x*y)=ab x*ab y:=by
 by_cases hx:x<0<;>by_cases hy:y<0
 ·have:=mul_pos (x:=-x) (y:=-y) (by grind) (by grind);unfold ab;rw[if_neg (by grind),if_pos hx,if_pos hy];grind
 ·have:=mul_nonneg (x:=-x) (y:=y) (by grind) (by grind);unfold ab;rw[if_pos hx,if_neg hy];split<;>grind
 ·have:=mul_nonneg (x:=x) (y:=-y) (by grind) (by grind);unfold ab;rw[if_neg hx,if_pos hy];split<;>grind
 ·have:=mul_nonneg (x:=x) (y:=y) (by grind) (by grind);unfold ab;rw[if_neg (by grind),if_neg hx,if_neg hy]
theorem mul_le_mul{a b c d:Re}(h1:a<=b)(h2:c<=d)(h3:0<=b)(h4:0<=c):a*c<=b*d:=by
 have e1:=mul_nonneg (x:=b-a) (y:=c) (by grind) h4;have e2:=mul_nonneg (x:=b) (y:=d-c) h3 (by grind);grind
theorem dP{x y:Re}(hx:x≠0)(hy:y≠0):x*y≠0:=by
 intro h;have e:ab (x*y)=0:=by rw[h];unfold ab;rw[if_neg (by grind)]
 rw[ck] at e;have p1:0<ab x:=by unfold ab;split<;>grind
 have p2:0<ab y:=by unfold ab;split<;>grind
 have:=mul_pos p1 p2;rw[e] at this;exact lt_irrefl _ this
theorem vK(n:Nat):(0:Rat)<(1/2)^n:=Rat.pow_pos (by grind)
theorem yr(e:Rat)(he:0<e):∃N:Nat,∀n,N<=n->(1/2:Rat)^n<e:=by
 have key:∀n:Nat,(1/2:Rat)^n*((n:Rat)+1)<=1:=by
  intro n
  induction n with
  |zero=>rw[Rat.pow_zero];grind
  |succ n ih=>
   rw[Rat.pow_succ];have h0:=vK n;have e1:((n+1:Nat):Rat)=(n:Rat)+1:=by grind
   rw[e1];have hn:(0:Rat)<=(n:Rat):=by
    have:((0:Nat):Rat)<=(n:Rat):=by exact_mod_cast Nat.zero_le n
    exact this
   have e2:(1/2:Rat)^n*(1/2)*((n:Rat)+1+1)=(1/2:Rat)^n*((n:Rat)+1)-(1/2:Rat)^n*((n:Rat)*(1/2)):=by grind
   have h1:=Rat.mul_nonneg (a:=(1/2:Rat)^n) (b:=(n:Rat)*(1/2)) (Rat.le_of_lt h0) (Rat.mul_nonneg hn (by grind));rw[e2];grind
 obtain⟨N,hN⟩:∃N:Nat,1/e<(N:Rat):=by
  refine⟨(1/e).ceil.toNat+1,?_⟩;have h1:=Rat.le_ceil (x:=1/e);have h2:(1/e).ceil<=(((1/e).ceil.toNat+1:Nat):Int)-1:=by lia
  have h3:(((1/e).ceil:Int):Rat)<=(((((1/e).ceil.toNat+1:Nat):Int)-1:Int):Rat):=Rat.intCast_le_intCast.mpr h2;have h4:(((((1/e).ceil.toNat+1:Nat):Int)-1:Int):Rat)=(((1/e).ceil.toNat+1:Nat):Rat)-1:=by push_cast;grind
  grind
 refine⟨N,fun n hn=>?_⟩;have h1:=key n;have h0:=vK n;have hnN:(N:Rat)<=(n:Rat):=by exact_mod_cast hn
 have h5:1<e*((n:Rat)+1):=by
  have:1/e<(n:Rat)+1:=by grind
  have h6:=(Rat.mul_lt_mul_left he).mpr this;have e3:e*(1/e)=1:=by grind
  rw[e3] at h6;exact h6
 rcases Classical.em ((1/2:Rat)^n<e) with z|z
 ·exact z
 ·have hp:(0:Rat)<=(n:Rat)+1:=by
   have:(0:Rat)<=(N:Rat):=by exact_mod_cast Nat.zero_le N
   grind
  have:=Rat.mul_le_mul_of_nonneg_right (show e<=(1/2:Rat)^n by grind) hp;grind
end Re
end SF
namespace SF
open Lean.Grind
namespace Re
open RR
theorem mk_le{a:CS}{r:Rat}{N:Nat}(h:∀m,N<=m->a.s m<=r):mk a<=q r:=by
 rintro⟨e,he,M,hM⟩;have g1:r+e<=a.s (max N M):=hM _ (by lia);have g2:=h (max N M) (by lia);grind
theorem Pu{a:CS}{r:Rat}{N:Nat}(h:∀m,N<=m->r<=a.s m):q r<=mk a:=by
 rintro⟨e,he,M,hM⟩;have g1:a.s (max N M)+e<=r:=hM _ (by lia);have g2:=h (max N M) (by lia);grind
open Classical in
noncomputable def jv(φ:Rat->Int)(p:Rat×Rat):Rat×Rat:=if φ p.1=φ ((p.1+p.2)/2) then((p.1+p.2)/2,p.2) else(p.1,(p.1+p.2)/2)
noncomputable def cL(φ:Rat->Int)(p:Rat×Rat):Nat->Rat×Rat
 |0=>p
 |n+1=>jv φ (cL φ p n)
theorem j9{φ:Rat->Int}{a b:Rat}(j_:a<=b)(eE:φ a≠φ b):∀n:Nat,
 φ (cL φ (a,b) n).1≠φ (cL φ (a,b) n).2/\(cL φ (a,b) n).1<=(cL φ (a,b) n).2/\(cL φ (a,b) n).2-(cL φ (a,b) n).1=(b-a)*(1/2)^n
 |0=>⟨eE,j_,by show b-a=(b-a)*(1/2)^0;rw[Rat.pow_zero];grind⟩
 |n+1=>by
  obtain⟨h1,h2,h3⟩:=j9 j_ eE n;have e:cL φ (a,b) (n+1)=jv φ (cL φ (a,b) n):=rfl;rw[e];generalize cL φ (a,b) n=p at h1 h2 h3;unfold jv;rw[Rat.pow_succ];split
  ·rename_i h;refine⟨?_,?_,?_⟩
   ·show φ ((p.1+p.2)/2)≠φ p.2;rw[<-h];exact h1
   ·show(p.1+p.2)/2<=p.2;grind
   ·show p.2-(p.1+p.2)/2=_;have e2:(b-a)*((1/2)^n*(1/2))=((b-a)*(1/2)^n)*(1/2):=by grind
    rw[e2,<-h3];grind
  ·rename_i h;refine⟨h,?_,?_⟩
   ·show p.1<=(p.1+p.2)/2;grind
   ·show(p.1+p.2)/2-p.1=_;have e2:(b-a)*((1/2)^n*(1/2))=((b-a)*(1/2)^n)*(1/2):=by grind
    rw[e2,<-h3];grind
theorem Ca(φ:Rat->Int)(p:Rat×Rat)(n:Nat)(h:(cL φ p n).1<=(cL φ p n).2):(cL φ p n).1<=(cL φ p (n+1)).1/\(cL φ p (n+1)).2<=(cL φ p n).2:=by
 show _<=(jv φ (cL φ p n)).1/\(jv φ (cL φ p n)).2<=_;unfold jv;split
 ·constructor
  ·show(cL φ p n).1<=((cL φ p n).1+(cL φ p n).2)/2;grind
  ·exact Rat.le_refl
 ·constructor
  ·exact Rat.le_refl
  ·show((cL φ p n).1+(cL φ p n).2)/2<=(cL φ p n).2;grind
theorem rS{φ:Rat->Int}{a b:Rat}(j_:a<=b)(eE:φ a≠φ b)(n:Nat):∀k:Nat,(cL φ (a,b) n).1<=(cL φ (a,b) (n+k)).1/\(cL φ (a,b) (n+k)).2<=(cL φ (a,b) n).2
 |0=>⟨Rat.le_refl,Rat.le_refl⟩
 |k+1=>by
  have ih:=rS j_ eE n k;have h:=Ca φ (a,b) (n+k) (j9 j_ eE (n+k)).2.1;exact⟨Rat.le_trans ih.1 h.1,Rat.le_trans h.2 ih.2⟩
theorem oA{φ:Rat->Int}{a b:Rat}(j_:a<=b)(eE:φ a≠φ b){n m:Nat}(h:n<=m):(cL φ (a,b) n).1<=(cL φ (a,b) m).1/\(cL φ (a,b) m).1<=(cL φ (a,b) n).2:=by
 have e:m=n+(m-n):=by lia
 have h1:=rS j_ eE n (m-n);rw[<-e] at h1;have h2:=(j9 j_ eE m).2.1;exact⟨h1.1,Rat.le_trans h2 h1.2⟩
theorem nM{φ:Rat->Int}{a b:Rat}(j_:a<=b)(eE:φ a≠φ b)(e:Rat)(he:0<e):∃N:Nat,(b-a)*(1/2)^N<e:=by
 by_cases h0:b-a=0
 ·exact⟨0,by rw[h0];grind⟩
 ·have hp:0<b-a:=by grind
  obtain⟨N,hN⟩:=yr (e/(b-a)) (yp he hp);refine⟨N,?_⟩;have:=(Rat.mul_lt_mul_left hp).mpr (hN N (Nat.le_refl _));have e2:(b-a)*(e/(b-a))=e:=by grind
  rw[e2] at this;exact this
theorem jB{φ:Rat->Int}(loc:∀x:Re,∃d:Rat,0<d/\∀s t:Rat,ab (q s-x)<q d->ab (q t-x)<q d->φ s=φ t){a b:Rat}(j_:a<=b):φ a=φ b:=by
 by_cases eE:φ a=φ b
 ·exact eE
 exfalso;let c:CS:=⟨fun n=>(cL φ (a,b) n).1,fun e he=>by
  obtain⟨N,hN⟩:=nM j_ eE e he
  refine⟨N,fun m n hm hn=>pB.mpr ?_⟩
  have g1:=oA j_ eE hm
  have g2:=oA j_ eE hn
  have g3:=(j9 j_ eE N).2.2
  constructor<;>grind⟩;obtain⟨d,hd,Uh⟩:=loc (mk c);obtain⟨N,hN⟩:=nM j_ eE d hd;have g3:=(j9 j_ eE N).2.2;have l1:q (cL φ (a,b) N).1<=mk c:=Pu (N:=N) fun m hm=>(oA j_ eE hm).1;have l2:mk c<=q (cL φ (a,b) N).2:=mk_le (N:=N) fun m hm=>(oA j_ eE hm).2;have l3:q (cL φ (a,b) N).2-q (cL φ (a,b) N).1<q d:=by
  have:q (cL φ (a,b) N).2-q (cL φ (a,b) N).1=q ((cL φ (a,b) N).2-(cL φ (a,b) N).1):=by
   have e:(cL φ (a,b) N).2-(cL φ (a,b) N).1=(cL φ (a,b) N).2+-(cL φ (a,b) N).1:=by grind
   rw[e,nL,rR];grind
  rw[this,eA,g3];exact hN
 refine(j9 j_ eE N).1 (Uh _ _ (dC.mpr ?_) (dC.mpr ?_))
 ·constructor<;>grind
 ·constructor<;>grind
end Re
namespace Po
open Re
noncomputable def at'(x:Re)(f:Po):Re:=aF (fun i=>((f.c i:Int):Re)*x^i) (len f)
theorem qN(x:Re){f:Po}{n:Nat}(h:len f<=n):at' x f=aF (fun i=>((f.c i:Int):Re)*x^i) n:=by
 have e:n=len f+(n-len f):=by lia
 have z:((0:Int):Re)=0:=Ring.intCast_zero;rw[e,cF,cE (n:=n-len f) (fun i _=>by rw[eF (by lia),z];grind)];show aF _ _=_;grind
theorem kD(x:Re)(f g:Po):at' x (f+g)=at' x f+at' x g:=by
 have h1:=sZ f g;rw[qN x h1,qN x (f:=f) (n:=max (len f) (len g)) (by lia),qN x (f:=g) (n:=max (len f) (len g)) (by lia),<-e_];exact aN fun i _=>by rw[kr,Ring.intCast_add];grind
theorem oB(x:Re)(a:Int)(f:Po):at' x (K a*f)=(a:Re)*at' x f:=by
 have h1:len (K a*f)<=len f:=cJ fun i hi=>by rw[a_,eF hi];grind
 rw[qN x h1];unfold at';rw[<-cD];exact aN fun i _=>by rw[a_,Ring.intCast_mul];grind
theorem pE(f:Nat->Int):∀n:Nat,((aF f n:Int):Re)=aF (fun i=>((f i:Int):Re)) n
 |0=>Ring.intCast_zero
 |n+1=>by
  show((aF f n+f n:Int):Re)=_;rw[Ring.intCast_add,pE f n];rfl
theorem pow_add'(x:Re)(m:Nat):∀n:Nat,x^(m+n)=x^m*x^n
 |0=>by
  have:x^0=1:=Semiring.pow_zero x;rw[Nat.add_zero,this];grind
 |n+1=>by
  have e1:x^(m+(n+1))=x^(m+n)*x:=Semiring.pow_succ x (m+n);have e2:x^(n+1)=x^n*x:=Semiring.pow_succ x n;rw[e1,pow_add' x m n,e2];grind
theorem g7(x:Re)(f g:Po):at' x (f*g)=at' x f*at' x g:=by
 have hl:len (f*g)<=len f+len g:=by
  by_cases hf:f=0
  ·rw[hf];have:(0:Po)*g=0:=by grind
   rw[this,fU];lia
  ·by_cases hg:g=0
   ·rw[hg];have:f*(0:Po)=0:=by grind
    rw[this,fU];lia
   ·have:=len_mul hf hg;lia
 rw[qN x hl];have z:((0:Int):Re)=0:=Ring.intCast_zero;let F:Nat->Nat->Re:=fun j k=>(((f.c j:Int):Re)*x^j)*(((g.c k:Int):Re)*x^k);have e1:aF (fun i=>(((f*g).c i:Int):Re)*x^i) (len f+len g)=aF (fun i=>aF (fun j=>F j (i-j)) (i+1)) (len f+len g):=aN fun i _=>by
  rw[vw,pE,<-j5];refine aN fun j hj=>?_;show _=(((f.c j:Int):Re)*x^j)*(((g.c (i-j):Int):Re)*x^(i-j));rw[Ring.intCast_mul];have e:i=j+(i-j):=by lia
  have e2:x^i=x^j*x^(i-j):=by rw[<-pow_add',<-e]
  rw[e2];grind
 rw[e1,oX F];have e3:aF (fun j=>aF (fun k=>F j k) (len f+len g-j)) (len f+len g)=aF (fun j=>(((f.c j:Int):Re)*x^j)*at' x g) (len f+len g):=aN fun j hj=>by
  show aF (fun k=>(((f.c j:Int):Re)*x^j)*(((g.c k:Int):Re)*x^k)) _=_;rw[cD];by_cases h:j<len f
  ·rw[<-qN x (f:=g) (n:=len f+len g-j) (by lia)]
  ·rw[eF (f:=f) (by lia),z];grind
 rw[e3,j5,<-qN x (f:=f) (n:=len f+len g) (by lia)]
theorem Ec(x:Re)(a:Int):at' x (K a)=(a:Re):=by
 rw[qN x (vy a)];show 0+(((K a).c 0:Int):Re)*x^0=_;have:x^0=1:=Semiring.pow_zero x;rw[x_,if_pos rfl,this];grind
theorem iX(x:Re):at' x 0=0:=by rw[<-cR,Ec];exact Ring.intCast_zero
theorem HD(x:Re):at' x (X 1)=x:=by
 have h:len (X 1)<=2:=cJ fun i hi=>by rw[Ar,if_neg (by lia)]
 rw[qN x h];show 0+(((X 1).c 0:Int):Re)*x^0+(((X 1).c 1:Int):Re)*x^1=_;have e0:x^0=1:=Semiring.pow_zero x;have e1:x^1=x^0*x:=Semiring.pow_succ x 0;have z:((0:Int):Re)=0:=Ring.intCast_zero;have o:((1:Int):Re)=1:=Ring.intCast_one;rw[Ar,Ar,if_neg (by decide),if_pos rfl,e1,e0,z,o];grind
theorem pG(a:Int)(r:List Int):aY (aw (a::r))=aw r+X 1*aY (aw r):=ext fun i=>by
 rw[nI,kr,bC,bC,fb,fL];cases i with
 |zero=>rw[if_pos (by decide)];grind
 |succ i=>
  rw[if_neg (by lia),Nat.add_sub_cancel,nI,bC];have:((i+1+1:Nat):Int)=((i+1:Nat):Int)+1:=by lia
  rw[this];grind
theorem fN(x:Re)(a:Int)(r:List Int):at' x (aw (a::r))=(a:Re)+x*at' x (aw r):=by
 rw[pb,kD,Ec,g7,HD]
theorem yu(x:Re):∀xs:List Int,∃B:Re,0<=B/\∀t:Re,Re.ab (t-x)<=1->Re.ab (at' t (aw xs)-at' x (aw xs)-(t-x)*at' x (aY (aw xs)))<=B*(Re.ab (t-x)*Re.ab (t-x))
 |[]=>⟨0,by grind,fun t _=>by
  have e:aY (aw [])=0:=by
   refine ext fun i=>?_
   rw[nI,bC,fc];show _*0=0;grind
  rw[e,dH,iX,iX]
  have:(0:Re)-0-(t-x)*0=0:=by grind
  rw[this];unfold Re.ab;rw[if_neg (by grind)];grind⟩
 |a::r=>by
  obtain⟨B,hB,hb⟩:=yu x r;refine⟨Re.ab (at' x (aY (aw r)))+(Re.ab x+1)*B,?_,fun t ht=>?_⟩
  ·have h1:=Re.aK (at' x (aY (aw r)));have h2:=Re.mul_nonneg (x:=Re.ab x+1) (y:=B) (by have:=Re.aK x;grind) hB;grind
  ·have h:=hb t ht;generalize ku:at' t (aw r)-at' x (aw r)-(t-x)*at' x (aY (aw r))=ρ at h;rw[fN,fN,pG,kD,g7,HD];have e:(a:Re)+t*at' t (aw r)-((a:Re)+x*at' x (aw r))-(t-x)*(at' x (aw r)+x*at' x (aY (aw r)))=(t-x)*(t-x)*at' x (aY (aw r))+t*ρ:=by rw[<-ku];grind
   rw[e];have g1:=Re.gG ((t-x)*(t-x)*at' x (aY (aw r))) (t*ρ);rw[Re.ck,Re.ck,Re.ck] at g1;have g2:Re.ab t<=Re.ab x+1:=by
    have:=Re.gG (t-x) x;have e2:t-x+x=t:=by grind
    rw[e2] at this;grind
   have g3:=Re.mul_le_mul (a:=Re.ab t) (b:=Re.ab x+1) (c:=Re.ab ρ) (d:=B*(Re.ab (t-x)*Re.ab (t-x))) g2 h (by have:=Re.aK x;grind) (Re.aK _);grind
end Po
end SF
namespace SF
open Lean.Grind
open Classical in
noncomputable def aU(x:Re):Int:=if x<0 then -1 else if 0<x then 1 else 0
namespace Re
theorem cI{x:Re}(h:x<0):aU x=-1:=by unfold aU;rw[if_pos h]
theorem bK{x:Re}(h:0<x):aU x=1:=by unfold aU;rw[if_neg (by grind),if_pos h]
theorem bP:aU 0=0:=by unfold aU;rw[if_neg (by grind),if_neg (by grind)]
theorem aR(x:Re):(x<0/\aU x=-1)\/(x=0/\aU x=0)\/(0<x/\aU x=1):=by
 rcases AI x 0 with h|h|h
 ·exact .inl ⟨h,cI h⟩
 ·exact .inr (.inl ⟨h,by rw[h,bP]⟩)
 ·exact .inr (.inr ⟨h,bK h⟩)
theorem tJ{x:Re}(h:x≠0):aU x=-1\/aU x=1:=by
 rcases aR x with z|z|z
 ·exact .inl z.2
 ·exact absurd z.1 h
 ·exact .inr z.2
theorem bA{x:Re}(h:aU x=0):x=0:=by
 rcases aR x with z|z|z
 ·rw[h] at z;lia
 ·exact z.1
 ·rw[h] at z;lia
theorem mV(x:Re):aU (-x)=-aU x:=by
 rcases aR x with z|z|z
 ·rw[z.2,bK (by grind)];rfl
 ·have:-x=0:=by grind
  rw[z.2,this,bP];rfl
 ·rw[z.2,cI (by grind)]
theorem gr(x y:Re):aU (x*y)=aU x*aU y:=by
 rcases aR x with z|z|z<;>rcases aR y with w|w|w
 ·have:=mul_pos (x:=-x) (y:=-y) (by grind) (by grind);rw[z.2,w.2,bK (by grind)];rfl
 ·have:x*y=0:=by rw[w.1];grind
  rw[this,bP,w.2];lia
 ·have:=mul_pos (x:=-x) (y:=y) (by grind) (by grind);rw[z.2,w.2,cI (by grind)];rfl
 ·have:x*y=0:=by rw[z.1];grind
  rw[this,bP,z.2];lia
 ·have:x*y=0:=by rw[z.1];grind
  rw[this,bP,z.2];lia
 ·have:x*y=0:=by rw[z.1];grind
  rw[this,bP,z.2];lia
 ·have:=mul_pos (x:=x) (y:=-y) (by grind) (by grind);rw[z.2,w.2,cI (by grind)];rfl
 ·have:x*y=0:=by rw[w.1];grind
  rw[this,bP,w.2];lia
 ·have:=mul_pos (x:=x) (y:=y) (by grind) (by grind);rw[z.2,w.2,bK (by grind)];rfl
theorem Pw(C e:Re)(he:0<e):∃d:Rat,0<d/\d<=1/\∀z:Re,0<=z->z<q d->z*C<e:=by
 obtain⟨g,hg,hC⟩:=great (ab C);obtain⟨r,hr,hre⟩:=small he;have h1:0<r/g:=RR.yp hr hg;refine⟨if r/g<1 then r/g else 1,by split<;>grind,by split<;>grind,fun z hz WS=>?_⟩;have h2:z<q (r/g):=by
  split at WS
  ·exact WS
  ·have:q 1<=q (r/g):=cv.mpr (by grind);grind
 have h3:z*C<=z*q g:=by
  have h4:C<=q g:=by
   have:=(iz (x:=C) (e:=ab C)).mp (by grind);grind
  have:=mul_nonneg (x:=z) (y:=q g-C) hz (by grind);grind
 have Pe:0<q g:=by
  have:=eA.mpr hg;rw[gH] at this;exact this
 have h5:z*q g<q (r/g)*q g:=by
  have:=mul_pos (x:=q (r/g)-z) (y:=q g) (by grind) Pe;grind
 have h6:q (r/g)*q g=q r:=by
  rw[<-fV];congr 1;grind
 rw[h6] at h5;grind
end Re
namespace Po
open Re
theorem ka{x:Re}{f:Po}(h:at' x f≠0):∃d:Rat,0<d/\∀t:Re,Re.ab (t-x)<q d->aU (at' t f)=aU (at' x f):=by
 obtain⟨B,hB,hb⟩:=yu x (lst f);rw[di] at hb;have f9:0<Re.ab (at' x f):=by unfold Re.ab;split<;>grind
 obtain⟨d,hd,uR,hz⟩:=Pw (Re.ab (at' x (aY f))+B) _ f9;refine⟨d,hd,fun t ht=>?_⟩;have g0:=Re.aK (t-x);have g1:=hz (Re.ab (t-x)) g0 ht;have Zm:q d<=1:=by
  have:=cv.mpr uR;rw[AJ] at this;exact this
 have g2:=hb t (by grind);have g3:Re.ab (at' t f-at' x f)<Re.ab (at' x f):=by
  have e:at' t f-at' x f=(at' t f-at' x f-(t-x)*at' x (aY f))+(t-x)*at' x (aY f):=by grind
  have g4:=Re.gG (at' t f-at' x f-(t-x)*at' x (aY f)) ((t-x)*at' x (aY f));rw[<-e,Re.ck] at g4;have g5:=Re.mul_nonneg (x:=B) (y:=Re.ab (t-x)*(1-Re.ab (t-x))) hB (Re.mul_nonneg g0 (by grind));grind
 have g6:=dC.mp g3;rcases aR (at' x f) with z|z|z
 ·have e:Re.ab (at' x f)=-at' x f:=by unfold Re.ab;rw[if_pos z.1]
  rw[z.2];exact cI (by grind)
 ·exact absurd z.1 h
 ·have e:Re.ab (at' x f)=at' x f:=by unfold Re.ab;rw[if_neg (by grind)]
  rw[z.2];exact bK (by grind)
theorem rT{x:Re}{f:Po}(h0:at' x f=0)(h:at' x (aY f)≠0):∃d:Rat,0<d/\∀t:Re,Re.ab (t-x)<q d->aU (at' t f)=aU (t-x)*aU (at' x (aY f)):=by
 obtain⟨B,hB,hb⟩:=yu x (lst f);rw[di] at hb;have f9:0<Re.ab (at' x (aY f)):=by unfold Re.ab;split<;>grind
 obtain⟨d,hd,uR,hz⟩:=Pw B _ f9;refine⟨d,hd,fun t ht=>?_⟩;have g0:=Re.aK (t-x);have g1:=hz (Re.ab (t-x)) g0 ht;have Zm:q d<=1:=by
  have:=cv.mpr uR;rw[AJ] at this;exact this
 have g2:=hb t (by grind);rw[h0] at g2;by_cases Zn:t-x=0
 ·have:t=x:=by grind
  rw[Zn,this,h0,bP];lia
 ·have hp:0<Re.ab (t-x):=by unfold Re.ab;split<;>grind
  have g3:B*(Re.ab (t-x)*Re.ab (t-x))<Re.ab ((t-x)*at' x (aY f)):=by
   rw[Re.ck];have:=Re.mul_pos (x:=Re.ab (t-x)) (y:=Re.ab (at' x (aY f))-Re.ab (t-x)*B) hp (by grind);grind
  rw[<-gr];generalize (t-x)*at' x (aY f)=y at g2 g3;have g4:=iz.mp g2;rcases aR y with z|z|z
  ·have e:Re.ab y=-y:=by unfold Re.ab;rw[if_pos z.1]
   rw[z.2];exact cI (by grind)
  ·rw[z.1] at g3;have e:Re.ab (0:Re)=0:=by unfold Re.ab;rw[if_neg (by grind)]
   rw[e] at g3;have:=Re.mul_nonneg hB (Re.mul_nonneg g0 g0);grind
  ·have e:Re.ab y=y:=by unfold Re.ab;rw[if_neg (by grind)]
   rw[z.2];exact bK (by grind)
end Po
noncomputable def cg(b:Int):List Int->Nat
 |[]=>0
 |s::r=>(if s*b<0 then 1 else 0)+cg (if s≠0 then s else b) r
namespace Po
open Re
noncomputable def eU(t:Re)(ps:List Po):List Int:=ps.map fun p=>aU (at' t p)
noncomputable def Cb(x:Re):List Po->Prop
 |[]=>True
 |[a]=>at' x a≠0
 |a::b::[]=>at' x b≠0
 |a::b::c::r=>(at' x b=0->aU (at' x a)*aU (at' x c)<0)/\Cb x (b::c::r)
theorem lX{d e:Rat}(hd:0<d)(he:0<e):∃m:Rat,0<m/\q m<=q d/\q m<=q e:=by
 by_cases h:d<e
 ·exact⟨d,hd,cv.mpr (by grind),cv.mpr (by grind)⟩
 ·exact⟨e,he,cv.mpr (by grind),cv.mpr (by grind)⟩
theorem iA{x:Re}:∀(n:Nat)(a:Po)(r:List Po),r.length<=n->at' x a≠0->Cb x (a::r)->∃d:Rat,0<d/\∀t:Re,Re.ab (t-x)<q d->aU (at' t a)=aU (at' x a)/\cg (aU (at' t a)) (eU t r)=cg (aU (at' x a)) (eU x r)
 |n,a,[],_,ha,_=>by
  obtain⟨d,hd,h⟩:=ka ha;exact⟨d,hd,fun t ht=>⟨h t ht,rfl⟩⟩
 |n,a,[b],_,ha,hc=>by
  obtain⟨d,hd,h⟩:=ka ha;obtain⟨e,he,h'⟩:=ka (show at' x b≠0 from hc);obtain⟨m,hm,h1,h2⟩:=lX hd he;refine⟨m,hm,fun t ht=>?_⟩;have g1:=h t (by grind);have g2:=h' t (by grind);refine⟨g1,?_⟩;unfold eU;rw[List.map_cons,List.map_cons,g1,g2];rfl
 |0,a,b::c::r,hl,_,_=>by simp at hl
 |n+1,a,b::c::r,hl,ha,hc=>by
  obtain⟨d,hd,h⟩:=ka ha;obtain⟨L7,AK⟩:=hc;by_cases hb:at' x b=0
  ·have Ui:=L7 hb;have RP:at' x c≠0:=fun z=>by rw[z,bP] at Ui;lia
   have AL:Cb x (c::r):=by
    cases r with
    |nil=>exact RP
    |cons e r=>exact AK.2
   obtain⟨e,he,h'⟩:=iA n c r (by simp at hl;lia) RP AL;obtain⟨m,hm,h1,h2⟩:=lX hd he;refine⟨m,hm,fun t ht=>?_⟩;have g1:=h t (by grind);obtain⟨g2,g3⟩:=h' t (by grind);refine⟨g1,?_⟩;show cg (aU (at' t a)) (aU (at' t b)::aU (at' t c)::eU t r)=cg (aU (at' x a)) (aU (at' x b)::aU (at' x c)::eU x r);rw[g1,g2,hb,bP];rw[g2] at g3;rcases tJ ha with sa|sa<;>rcases tJ RP with sc|sc
   ·rw[sa,sc] at Ui;lia
   ·rw[sc] at g3;rw[sa,sc];rcases aR (at' t b) with z|z|z<;>rw[z.2]<;>simp[cg,g3]
   ·rw[sc] at g3;rw[sa,sc];rcases aR (at' t b) with z|z|z<;>rw[z.2]<;>simp[cg,g3]
   ·rw[sa,sc] at Ui;lia
  ·obtain⟨e,he,h'⟩:=iA n b (c::r) (by simp at hl ⊢;lia) hb AK;obtain⟨m,hm,h1,h2⟩:=lX hd he;refine⟨m,hm,fun t ht=>?_⟩;have g1:=h t (by grind);obtain⟨g2,g3⟩:=h' t (by grind);refine⟨g1,?_⟩;show cg (aU (at' t a)) (aU (at' t b)::eU t (c::r))=cg (aU (at' x a)) (aU (at' x b)::eU x (c::r));rw[g1];have nz:aU (at' x b)≠0:=fun z=>hb (bA z);show(if aU (at' t b)*aU (at' x a)<0 then 1 else 0)+cg (if aU (at' t b)≠0 then aU (at' t b) else aU (at' x a)) (eU t (c::r))=(if aU (at' x b)*aU (at' x a)<0 then 1 else 0)+cg (if aU (at' x b)≠0 then aU (at' x b) else aU (at' x a)) (eU x (c::r));rw[if_pos (c:=aU (at' x b)≠0) nz,if_pos (c:=aU (at' t b)≠0) (by rw[g2];exact nz),g3,g2]
open Classical in
theorem Py{p0:Po}{r:List Po}{N:Rat->Int}(hc:∀x:Re,Cb x (p0::aY p0::r))(hz:∀x:Re,at' x p0=0->at' x (aY p0)≠0)(hN:∀x:Re,∃d:Rat,0<d/\∃n0:Int,∀t:Rat,Re.ab (q t-x)<q d->N t=n0+(if at' x p0=0/\x<=q t then 1 else 0)){a b:Rat}(j_:a<=b):
 (cg 0 (eU (q a) (p0::aY p0::r)):Int)+N a=(cg 0 (eU (q b) (p0::aY p0::r)):Int)+N b:=by
 refine jB (φ:=fun t=>(cg 0 (eU (q t) (p0::aY p0::r)):Int)+N t) (fun x=>?_) j_;obtain⟨d,hd,n0,hn⟩:=hN x;have c0:∀(s:Int)(l:List Int),s≠0->cg 0 (s::l)=cg s l:=fun s l hs=>by
  show(if s*0<0 then 1 else 0)+cg (if s≠0 then s else 0) l=_;rw[if_neg (by lia),if_pos hs];lia
 by_cases h0:at' x p0=0
 ·have h1:=hz x h0;have AK:Cb x (aY p0::r):=by
   have:=hc x;cases r with
   |nil=>exact this
   |cons e r=>exact this.2
  obtain⟨e,he,hr⟩:=rT h0 h1;obtain⟨f,hf,hs⟩:=iA r.length (aY p0) r (Nat.le_refl _) h1 AK;obtain⟨m,hm,m1,m2⟩:=lX hd he;obtain⟨m',NF,m3,m4⟩:=lX hm hf;have key:∀t:Rat,Re.ab (q t-x)<q m'->(cg 0 (eU (q t) (p0::aY p0::r)):Int)+N t=(cg (aU (at' x (aY p0))) (eU x r):Int)+n0+1:=fun t ht=>by
   have k1:=hr (q t) (by grind);obtain⟨k2,k3⟩:=hs (q t) (by grind);have k4:=hn t (by grind);have nz:aU (at' x (aY p0))≠0:=fun z=>h1 (bA z);show((cg 0 (aU (at' (q t) p0)::aU (at' (q t) (aY p0))::eU (q t) r):Nat):Int)+N t=_;rw[k1,k2,k4];rw[k2] at k3;generalize aU (at' x (aY p0))=s1 at nz k3 ⊢;rcases aR (q t-x) with z|z|z
   ·rw[z.2,if_neg (by rintro⟨_,w⟩;grind),c0 _ _ (by lia)];show(((if s1*(-1*s1)<0 then 1 else 0)+cg (if s1≠0 then s1 else -1*s1) (eU (q t) r):Nat):Int)+(n0+0)=_;have Uj:s1*(-1*s1)<0:=by
     have:0<s1*s1:=by
      rcases Int.lt_or_lt_of_ne nz with w|w
      ·exact Int.mul_pos_of_neg_of_neg w w
      ·exact Int.mul_pos w w
     grind
    rw[if_pos Uj,if_pos nz,k3];lia
   ·rw[z.2,if_pos ⟨h0,by grind⟩];show(((if 0*s1*0<0 then 1 else 0)+((if s1*(if 0*s1≠0 then 0*s1 else 0)<0 then 1 else 0)+cg (if s1≠0 then s1 else(if 0*s1≠0 then 0*s1 else 0)) (eU (q t) r)):Nat):Int)+(n0+1)=_;have e0:0*s1=0:=by lia
    rw[e0,if_neg (by lia),if_neg (c:=(0:Int)≠0) (by lia),if_neg (by lia),if_pos nz,k3];lia
   ·rw[z.2,if_pos ⟨h0,by grind⟩,c0 _ _ (by lia)];show(((if s1*(1*s1)<0 then 1 else 0)+cg (if s1≠0 then s1 else 1*s1) (eU (q t) r):Nat):Int)+(n0+1)=_;have f9:¬s1*(1*s1)<0:=by
     have:0<s1*s1:=by
      rcases Int.lt_or_lt_of_ne nz with w|w
      ·exact Int.mul_pos_of_neg_of_neg w w
      ·exact Int.mul_pos w w
     grind
    rw[if_neg f9,if_pos nz,k3];lia
  exact⟨m',NF,fun s t Gq Uk=>by
   show(cg 0 (eU (q s) (p0::aY p0::r)):Int)+N s=(cg 0 (eU (q t) (p0::aY p0::r)):Int)+N t
   rw[key s Gq,key t Uk]⟩
 ·obtain⟨e,he,hs⟩:=iA (r.length+1) p0 (aY p0::r) (Nat.le_refl _) h0 (hc x);obtain⟨m,hm,m1,m2⟩:=lX hd he;have key:∀t:Rat,Re.ab (q t-x)<q m->(cg 0 (eU (q t) (p0::aY p0::r)):Int)+N t=(cg (aU (at' x p0)) (eU x (aY p0::r)):Int)+n0:=fun t ht=>by
   obtain⟨k2,k3⟩:=hs (q t) (by grind);have k4:=hn t (by grind);have nz:aU (at' x p0)≠0:=fun z=>h0 (bA z);show((cg 0 (aU (at' (q t) p0)::eU (q t) (aY p0::r)):Nat):Int)+N t=_;rw[c0 _ _ (by rw[k2];exact nz),k3,k4,if_neg (fun z=>h0 z.1)];lia
  exact⟨m,hm,fun s t Gq Uk=>by
   show(cg 0 (eU (q s) (p0::aY p0::r)):Int)+N s=(cg 0 (eU (q t) (p0::aY p0::r)):Int)+N t
   rw[key s Gq,key t Uk]⟩
end Po
end SF
namespace SF
open Lean.Grind
namespace Po
structure Pz(l:Po->Po):Prop where
 add:∀x y,l (x+y)=l x+l y
 smul:∀(a:Int) x,l (K a*x)=K a*l x
noncomputable def Ex(l:Po->Po)(F:List Po->Po):List Po->List Po->Po
 |_,[]=>0
 |pre,r::rs=>l r*F (pre++rs)-Ex l F (pre++[r]) rs
noncomputable def rV:List (Po->Po)->List Po->Po
 |[],_=>1
 |l::cs,rows=>Ex l (rV cs) [] rows
structure iY(n:Nat)(F:List Po->Po):Prop where
 add:∀A x y B,A.length+B.length+1=n->F (A++(x+y)::B)=F (A++x::B)+F (A++y::B)
 smul:∀A(a:Int) x B,A.length+B.length+1=n->F (A++(K a*x)::B)=K a*F (A++x::B)
 alt:∀A x y B,A.length+B.length+2=n->F (A++x::y::B)=-F (A++y::x::B)
theorem pH{n:Nat}{l:Po->Po}{F:List Po->Po}(hF:iY n F):∀(rs P Q:List Po)(x y:Po),P.length+Q.length+rs.length=n->Ex l F (P++(x+y)::Q) rs=Ex l F (P++x::Q) rs+Ex l F (P++y::Q) rs
 |[],P,Q,x,y,_=>by show(0:Po)=0+0;grind
 |r::rs,P,Q,x,y,h=>by
  rw[List.length_cons] at h;have ih:=pH (l:=l) hF rs P (Q++[r]) x y (by rw[List.length_append,List.length_singleton];lia);have h2:=hF.add P x y (Q++rs) (by rw[List.length_append];lia);show l r*F ((P++(x+y)::Q)++rs)-Ex l F ((P++(x+y)::Q)++[r]) rs=(l r*F ((P++x::Q)++rs)-Ex l F ((P++x::Q)++[r]) rs)+(l r*F ((P++y::Q)++rs)-Ex l F ((P++y::Q)++[r]) rs);simp only[List.append_assoc,List.cons_append] at*;rw[h2,ih];grind
theorem nN{n:Nat}{l:Po->Po}{F:List Po->Po}(hF:iY n F)(a:Int):∀(rs P Q:List Po)(x:Po),P.length+Q.length+rs.length=n->Ex l F (P++(K a*x)::Q) rs=K a*Ex l F (P++x::Q) rs
 |[],P,Q,x,_=>by show(0:Po)=K a*0;grind
 |r::rs,P,Q,x,h=>by
  rw[List.length_cons] at h;have ih:=nN (l:=l) hF a rs P (Q++[r]) x (by rw[List.length_append,List.length_singleton];lia);have h2:=hF.smul P a x (Q++rs) (by rw[List.length_append];lia);show l r*F ((P++(K a*x)::Q)++rs)-Ex l F ((P++(K a*x)::Q)++[r]) rs=K a*(l r*F ((P++x::Q)++rs)-Ex l F ((P++x::Q)++[r]) rs);simp only[List.append_assoc,List.cons_append] at*;rw[h2,ih];grind
theorem pI{n:Nat}{l:Po->Po}{F:List Po->Po}(hF:iY n F):∀(rs P Q:List Po)(x y:Po),P.length+Q.length+rs.length+1=n->Ex l F (P++x::y::Q) rs=-Ex l F (P++y::x::Q) rs
 |[],P,Q,x,y,_=>by show(0:Po)=-0;grind
 |r::rs,P,Q,x,y,h=>by
  rw[List.length_cons] at h;have ih:=pI (l:=l) hF rs P (Q++[r]) x y (by rw[List.length_append,List.length_singleton];lia);have h2:=hF.alt P x y (Q++rs) (by rw[List.length_append];lia);show l r*F ((P++x::y::Q)++rs)-Ex l F ((P++x::y::Q)++[r]) rs=-(l r*F ((P++y::x::Q)++rs)-Ex l F ((P++y::x::Q)++[r]) rs);simp only[List.append_assoc,List.cons_append] at*;rw[h2,ih];grind
theorem Ed{n:Nat}{l:Po->Po}{F:List Po->Po}(hl:Pz l)(hF:iY n F):∀(A pre B:List Po)(x y:Po),pre.length+A.length+B.length=n->Ex l F pre (A++(x+y)::B)=Ex l F pre (A++x::B)+Ex l F pre (A++y::B)
 |[],pre,B,x,y,h=>by
  have h:=pH (l:=l) hF B pre [] x y (by rw[List.length_nil] at *;lia);show l (x+y)*F (pre++B)-Ex l F (pre++[x+y]) B=(l x*F (pre++B)-Ex l F (pre++[x]) B)+(l y*F (pre++B)-Ex l F (pre++[y]) B);rw[hl.add,h];grind
 |z::A,pre,B,x,y,h=>by
  rw[List.length_cons] at h;have ih:=Ed hl hF A (pre++[z]) B x y (by rw[List.length_append,List.length_singleton];lia);have h:=hF.add (pre++A) x y B (by rw[List.length_append];lia);show l z*F (pre++(A++(x+y)::B))-Ex l F (pre++[z]) (A++(x+y)::B)=(l z*F (pre++(A++x::B))-Ex l F (pre++[z]) (A++x::B))+(l z*F (pre++(A++y::B))-Ex l F (pre++[z]) (A++y::B));rw[List.append_assoc,List.append_assoc,List.append_assoc] at h;rw[ih,h];grind
theorem AM{n:Nat}{l:Po->Po}{F:List Po->Po}(hl:Pz l)(hF:iY n F)(a:Int):∀(A pre B:List Po)(x:Po),pre.length+A.length+B.length=n->Ex l F pre (A++(K a*x)::B)=K a*Ex l F pre (A++x::B)
 |[],pre,B,x,h=>by
  have h:=nN (l:=l) hF a B pre [] x (by rw[List.length_nil] at *;lia);show l (K a*x)*F (pre++B)-Ex l F (pre++[K a*x]) B=K a*(l x*F (pre++B)-Ex l F (pre++[x]) B);rw[hl.smul,h];grind
 |z::A,pre,B,x,h=>by
  rw[List.length_cons] at h;have ih:=AM hl hF a A (pre++[z]) B x (by rw[List.length_append,List.length_singleton];lia);have h:=hF.smul (pre++A) a x B (by rw[List.length_append];lia);show l z*F (pre++(A++(K a*x)::B))-Ex l F (pre++[z]) (A++(K a*x)::B)=K a*(l z*F (pre++(A++x::B))-Ex l F (pre++[z]) (A++x::B));rw[List.append_assoc,List.append_assoc] at h;rw[ih,h];grind
theorem Ee{n:Nat}{l:Po->Po}{F:List Po->Po}(hF:iY n F):∀(A pre B:List Po)(x y:Po),pre.length+A.length+B.length+1=n->Ex l F pre (A++x::y::B)=-Ex l F pre (A++y::x::B)
 |[],pre,B,x,y,h=>by
  have h:=pI (l:=l) hF B pre [] x y (by rw[List.length_nil] at *;lia);show l x*F (pre++y::B)-(l y*F ((pre++[x])++B)-Ex l F ((pre++[x])++[y]) B)=-(l y*F (pre++x::B)-(l x*F ((pre++[y])++B)-Ex l F ((pre++[y])++[x]) B));have e1:(pre++[x])++B=pre++x::B:=by simp
  have e2:(pre++[y])++B=pre++y::B:=by simp
  have e3:(pre++[x])++[y]=pre++[x,y]:=by simp
  have e4:(pre++[y])++[x]=pre++[y,x]:=by simp
  rw[e1,e2,e3,e4,h];grind
 |z::A,pre,B,x,y,h=>by
  rw[List.length_cons] at h;have ih:=Ee (l:=l) hF A (pre++[z]) B x y (by rw[List.length_append,List.length_singleton];lia);have h:=hF.alt (pre++A) x y B (by rw[List.length_append];lia);show l z*F (pre++(A++x::y::B))-Ex l F (pre++[z]) (A++x::y::B)=-(l z*F (pre++(A++y::x::B))-Ex l F (pre++[z]) (A++y::x::B));rw[List.append_assoc,List.append_assoc] at h;rw[ih,h];grind
noncomputable def Ef(cs:List (Po->Po)):Prop:=∀l∈cs,Pz l
theorem AN:∀cs:List (Po->Po),Ef cs->iY cs.length (rV cs)
 |[],_=>⟨fun A x y B h=>by rw[List.length_nil] at h;lia,fun A a x B h=>by rw[List.length_nil] at h;lia,fun A x y B h=>by rw[List.length_nil] at h;lia⟩
 |l::cs,hc=>by
  have ih:=AN cs fun m hm=>hc m (List.mem_cons_of_mem _ hm);have hl:=hc l List.mem_cons_self;rw[List.length_cons];refine⟨fun A x y B h=>Ed hl ih A [] B x y ?_,fun A a x B h=>AM hl ih a A [] B x ?_,fun A x y B h=>Ee ih A [] B x y ?_⟩<;>(rw[List.length_nil];lia)
section
variable {n:Nat} {F:List Po->Po} (hF:iY n F)
include hF
theorem Eg{x:Po}(h:x=-x):x=0:=by
 have:K 2*x=0:=by
  have e:K 2=1+1:=by rw[<-cu,<-Ap];rfl
  rw[e];grind
 rcases mul_eq_zero this with z|z
 ·exact absurd z (kl (by decide))
 ·exact z
theorem Cc(A:List Po)(x:Po)(B:List Po)(h:A.length+B.length+2=n):F (A++x::x::B)=0:=Eg hF (hF.alt A x x B h)
theorem AO:∀(B1 A B2:List Po)(x:Po),A.length+B1.length+B2.length+2=n->F (A++x::(B1++x::B2))=0
 |[],A,B2,x,h=>Cc hF A x B2 (by rw[List.length_nil] at h;lia)
 |z::B1,A,B2,x,h=>by
  rw[List.length_cons] at h;have h1:=hF.alt A x z (B1++x::B2) (by rw[List.length_append,List.length_cons];lia);have h2:=AO B1 (A++[z]) B2 x (by rw[List.length_append,List.length_singleton];lia);have e:A++x::(z::B1++x::B2)=A++x::z::(B1++x::B2):=rfl;rw[e,h1];have e2:(A++[z])++x::(B1++x::B2)=A++z::x::(B1++x::B2):=by simp
  rw[e2] at h2;rw[h2];grind
omit hF in
inductive Span(B:List Po):Po->Prop
 |zero:Span B 0
 |step (y b:Po) (a:Int):Span B y->b∈B->Span B (y+K a*b)
theorem Eh(A B:List Po)(h:A.length+B.length+1=n):F (A++0::B)=0:=by
 have:=hF.smul A 0 0 B h;rw[cR] at this;have e:(0:Po)*0=0:=by grind
 rw[e] at this;rw[this];grind
theorem Ei{B:List Po}{y:Po}(hy:Span B y):∀(A:List Po),A.length+B.length+1=n->F (A++y::B)=0:=by
 induction hy with
 |zero=>exact fun A h=>Eh hF A B h
 |step y b a _ hb ih=>
  intro A h;rw[hF.add A y (K a*b) B h,ih A h,hF.smul A a b B h];obtain⟨B1,B2,e⟩:=List.append_of_mem hb;have h2:A.length+B1.length+B2.length+2=n:=by
   have:=congrArg List.length e;rw[List.length_append,List.length_cons] at this;lia
  have h3:=AO hF B1 A B2 b h2;rw[<-e] at h3;rw[h3];grind
omit hF in
theorem Span.mono{B B':List Po}{y:Po}(h:Span B y)(hs:∀b∈B,b∈B'):Span B' y:=by
 induction h with
 |zero=>exact .zero
 |step y b a _ hb ih=>exact .step y b a ih (hs b hb)
omit hF in
theorem Span.add{B:List Po}{x y:Po}(h:Span B x)(h':Span B y):Span B (x+y):=by
 induction h' with
 |zero=>have:x+0=x:=by grind
        rw[this];exact h
 |step y b a _ hb ih=>
  have:x+(y+K a*b)=(x+y)+K a*b:=by grind
  rw[this];exact .step _ _ _ ih hb
omit hF in
theorem Span.of{B:List Po}{b:Po}(a:Int)(hb:b∈B):Span B (K a*b):=by
 have:K a*b=0+K a*b:=by grind
 rw[this];exact .step _ _ _ .zero hb
theorem pJ{G:List Po}:∀(us vs A:List Po),us.length=vs.length->(∀i(h:i<us.length)(h':i<vs.length),∃w,Span G w/\us[i]=vs[i]+w)->A.length+us.length+G.length=n->F (A++(us++G))=F (A++(vs++G))
 |[],[],A,_,_,_=>rfl
 |[],v::vs,A,hl,_,_=>by simp at hl
 |u::us,[],A,hl,_,_=>by simp at hl
 |u::us,v::vs,A,hl,hw,h=>by
  have RH:us.length=vs.length:=by simpa using hl
  obtain⟨w,hs,e⟩:=hw 0 (by simp) (by simp);have e':u=v+w:=e;rw[List.length_cons] at h;have ih:=pJ us vs (A++[v]) RH (fun i h1 h2=>by
   obtain⟨w,hs,e⟩:=hw (i+1) (by simp;lia) (by simp;lia)
   exact⟨w,hs,e⟩) (by rw[List.length_append,List.length_singleton];lia);show F (A++u::(us++G))=F (A++v::(vs++G));rw[e',hF.add A v w (us++G) (by rw[List.length_append];lia)];rw[Ei hF (hs.mono fun b hb=>List.mem_append_right _ hb) A (by rw[List.length_append];lia)];have e2:A++v::(us++G)=(A++[v])++(us++G):=by simp
  have e3:A++v::(vs++G)=(A++[v])++(vs++G):=by simp
  rw[e2,e3,ih];grind
theorem mW(a:Int):∀(us A B:List Po),A.length+us.length+B.length=n->F (A++(us.map (fun u=>K a*u)++B))=K (a^us.length)*F (A++(us++B))
 |[],A,B,_=>by
  show F (A++B)=K (a^0)*F (A++B);rw[Int.pow_zero,cu];grind
 |u::us,A,B,h=>by
  rw[List.length_cons] at h;have ih:=mW a us (A++[u]) B (by rw[List.length_append,List.length_singleton];lia);show F (A++(K a*u)::(us.map (fun u=>K a*u)++B))=K (a^(us.length+1))*F (A++u::(us++B));rw[hF.smul A a u _ (by rw[List.length_append,List.length_map];lia)];have e2:A++u::(us.map (fun u=>K a*u)++B)=(A++[u])++(us.map (fun u=>K a*u)++B):=by simp
  have e3:A++u::(us++B)=(A++[u])++(us++B):=by simp
  rw[e2,e3,ih,Int.pow_succ,bQ];grind
theorem vL(x:Po):∀(B A C:List Po),A.length+B.length+C.length+1=n->∃s:Int,(s=1\/s=-1)/\F (A++x::(B++C))=K s*F (A++(B++x::C))
 |[],A,C,_=>⟨1,.inl rfl,by rw[cu];show F (A++x::C)=1*F (A++x::C);grind⟩
 |b::B,A,C,h=>by
  rw[List.length_cons] at h;obtain⟨s,hs,e⟩:=vL x B (A++[b]) C (by rw[List.length_append,List.length_singleton];lia);refine⟨-s,by lia,?_⟩;show F (A++x::b::(B++C))=K (-s)*F (A++(b::(B++x::C)));rw[hF.alt A x b (B++C) (by rw[List.length_append];lia)];have e2:A++b::x::(B++C)=(A++[b])++x::(B++C):=by simp
  have e3:A++b::(B++x::C)=(A++[b])++(B++x::C):=by simp
  rw[e2,e3,e,DV];grind
theorem blocks:∀(U A B:List Po),A.length+U.length+B.length=n->∃s:Int,(s=1\/s=-1)/\F (A++(U++B))=K s*F (A++(B++U))
 |[],A,B,_=>⟨1,.inl rfl,by rw[cu];show F (A++B)=1*F (A++(B++[]));rw[List.append_nil];grind⟩
 |u::U,A,B,h=>by
  rw[List.length_cons] at h;obtain⟨s,hs,e⟩:=blocks U (A++[u]) B (by rw[List.length_append,List.length_singleton];lia);obtain⟨s',Gq,e'⟩:=vL hF u B A U (by lia);refine⟨s*s',by rcases hs with z|z<;>rcases Gq with w|w<;>rw[z,w]<;>lia,?_⟩;have e1:A++(u::U++B)=(A++[u])++(U++B):=by simp
  have e2:(A++[u])++(B++U)=A++u::(B++U):=by simp
  rw[e1,e,e2,e',bQ];have e3:A++(B++u::U)=A++(B++(u::U)):=rfl;grind
end
theorem AQ{l:Po->Po}{F:List Po->Po}:∀(rs pre:List Po),(∀r∈rs,l r=0)->Ex l F pre rs=0
 |[],_,_=>rfl
 |r::rs,pre,h=>by
  show l r*F (pre++rs)-Ex l F (pre++[r]) rs=0;rw[h r List.mem_cons_self,AQ rs _ fun x hx=>h x (List.mem_cons_of_mem _ hx)];grind
theorem AR(l:Po->Po)(cs:List (Po->Po))(r:Po)(rs:List Po)(h:∀x∈rs,l x=0):rV (l::cs) (r::rs)=l r*rV cs rs:=by
 show l r*rV cs ([]++rs)-Ex l (rV cs) ([]++[r]) rs=_;rw[AQ rs _ h];show l r*rV cs rs-0=_;grind
end Po
end SF
namespace SF
open Lean.Grind
namespace Po
noncomputable def cf(d:Nat)(P:Po):Po:=K (P.c d)
theorem L8(d:Nat):Pz (cf d):=⟨fun x y=>by unfold cf;rw[kr,Ap],fun a x=>by unfold cf;rw[a_,bQ]⟩
theorem L9:Pz (fun P=>P):=⟨fun _ _=>rfl,fun _ _=>rfl⟩
noncomputable def cols:Nat->Nat->List (Po->Po)
 |_,0=>[]
 |_,1=>[fun P=>P]
 |D,N+2=>cf D::cols (D-1) (N+1)
theorem vM:∀(N D:Nat),(cols D N).length=N
 |0,_=>rfl
 |1,_=>rfl
 |N+2,D=>by
  show(cols (D-1) (N+1)).length+1=_;rw[vM (N+1)]
theorem vN:∀(N D:Nat),Ef (cols D N)
 |0,_=>fun l h=>nomatch h
 |1,_=>fun l h=>by
  rw[List.mem_singleton.mp h];exact L9
 |N+2,D=>fun l h=>by
  rcases List.mem_cons.mp h with z|z
  ·rw[z];exact L8 D
  ·exact vN (N+1) (D-1) l z
theorem HE(D N:Nat):iY N (rV (cols D N)):=by
 have:=AN (cols D N) (vN N D);rw[vM] at this;exact this
noncomputable def fr(f:Po):Nat->List Po
 |0=>[]
 |a+1=>(X a*f)::fr f a
theorem eH(f:Po):∀a,(fr f a).length=a
 |0=>rfl
 |a+1=>by show(fr f a).length+1=_;rw[eH f a]
theorem yv(f:Po):∀(a i:Nat)(h:i<(fr f a).length),(fr f a)[i]=X (a-1-i)*f
 |0,i,h=>by rw[eH] at h;lia
 |a+1,0,h=>by
  show X a*f=_;congr 2
 |a+1,i+1,h=>by
  have h':i<(fr f a).length:=by rw[eH] at h ⊢;lia
  show(fr f a)[i]=_;rw[yv f a i h'];congr 2;lia
theorem Ej(f:Po):∀(a i:Nat),i<a->X i*f∈fr f a
 |0,i,h=>by lia
 |a+1,i,h=>by
  by_cases e:i=a
  ·rw[e];exact List.mem_cons_self
  ·exact List.mem_cons_of_mem _ (Ej f a i (by lia))
theorem kb{f P:Po}:∀{a:Nat},P∈fr f a->∃i,i<a/\P=X i*f
 |0,h=>nomatch h
 |a+1,h=>by
  rcases List.mem_cons.mp h with z|z
  ·exact⟨a,by lia,z⟩
  ·obtain⟨i,hi,e⟩:=kb z;exact⟨i,by lia,e⟩
noncomputable def JM(q:Po)(e:Nat):Po:=aF (fun i=>K (q.c i)*X i) e
theorem JN(q:Po)(j:Nat):∀e:Nat,(JM q e).c j=if j<e then q.c j else 0
 |0=>by
  show(0:Po).c j=_;rw[fc,if_neg (by lia)]
 |e+1=>by
  show(JM q e+K (q.c e)*X e).c j=_;rw[kr,JN q j e,a_,Ar];by_cases h1:j<e
  ·rw[if_pos h1,if_pos (show j<e+1 by lia),if_neg (show ¬j=e by lia)];grind
  ·rw[if_neg h1];by_cases h2:j=e
   ·rw[if_pos h2,if_pos (show j<e+1 by lia),h2];grind
   ·rw[if_neg h2,if_neg (show ¬j<e+1 by lia)];grind
theorem HF{q:Po}{e:Nat}(h:len q<=e):JM q e=q:=ext fun j=>by
 rw[JN];split
 ·rfl
 ·exact(eF (by lia)).symm
theorem vO(q g:Po)(k b:Nat):∀e:Nat,k+e<=b->Span (fr g b) (X k*(JM q e*g))
 |0,_=>by
  have:X k*(JM q 0*g)=0:=by show X k*(0*g)=0;grind
  rw[this];exact .zero
 |e+1,h=>by
  have ih:=vO q g k b e (by lia);have e1:X k*(JM q (e+1)*g)=X k*(JM q e*g)+K (q.c e)*(X (k+e)*g):=by
   show X k*((JM q e+K (q.c e)*X e)*g)=_;rw[JJ];grind
  rw[e1];exact ih.add (Span.of _ (Ej g b (k+e) (by lia)))
theorem F1{f g h q:Po}{α β:Int}{a b e D:Nat}(eq:K α*f=q*g+K β*h)(hq:len q<=e)(j_:a+e<=b+1):
 ∃s:Int,(s=1\/s=-1)/\K (α^a)*rV (cols D (a+b)) (fr f a++fr g b)=K (s*β^a)*rV (cols D (a+b)) (fr g b++fr h a):=by
 have hF:=HE D (a+b);have e1:=mW hF α (fr f a) [] (fr g b) (by rw[List.length_nil,eH,eH];lia);have e2:=mW hF β (fr h a) [] (fr g b) (by rw[List.length_nil,eH,eH];lia);have e3:=pJ hF (G:=fr g b) ((fr f a).map fun u=>K α*u) ((fr h a).map fun u=>K β*u) [] (by rw[List.length_map,List.length_map,eH,eH]) (fun i h1 h2=>by
  have hi:i<a:=by rw[List.length_map,eH] at h1;exact h1
  refine⟨X (a-1-i)*(q*g),?_,?_⟩
  ·have:=vO q g (a-1-i) b e (by lia)
   rw[HF hq] at this;exact this
  ·rw[List.getElem_map,List.getElem_map,yv,yv]
   have e4:K α*(X (a-1-i)*f)=X (a-1-i)*(K α*f):=by grind
   rw[e4,eq];grind) (by rw[List.length_nil,List.length_map,eH,eH];lia);obtain⟨s,hs,e5⟩:=blocks hF (fr h a) [] (fr g b) (by rw[List.length_nil,eH,eH];lia);rw[eH] at e1 e2;refine⟨s,hs,?_⟩;simp only[List.nil_append] at*;rw[<-e1,e3,e2,e5,bQ];grind
theorem Ek{f:Po}{i m D:Nat}(h:∀j,m<j->f.c j=0)(hd:i+m<D):(X i*f).c D=0:=by
 rw[fL,if_neg (by lia)];exact h _ (by lia)
theorem F2{g h:Po}{m k a b:Nat}(hg:∀j,m<j->g.c j=0)(hh:∀j,k<j->h.c j=0)(ha:0<a)(hk:a-1+k<b+m):∀e:Nat,
 rV (cols (b+e+m-1) (b+e+a)) (fr g (b+e)++fr h a)=K (g.c m^e)*rV (cols (b+m-1) (b+a)) (fr g b++fr h a)
 |0=>by
  rw[Int.pow_zero,cu];show rV (cols (b+m-1) (b+a)) (fr g b++fr h a)=_;grind
 |e+1=>by
  have ih:=F2 hg hh ha hk e;obtain⟨a',rfl⟩:∃a',a=a'+1:=⟨a-1,by lia⟩;have e1:cols (b+(e+1)+m-1) (b+(e+1)+(a'+1))=cf (b+e+m)::cols (b+e+m-1) (b+e+(a'+1)):=by
   have e2:b+(e+1)+(a'+1)=(b+e+a')+2:=by lia
   have e3:b+(e+1)+m-1=b+e+m:=by lia
   rw[e2,e3];rfl
  rw[e1];show rV (cf (b+e+m)::cols (b+e+m-1) (b+e+(a'+1))) (X (b+e)*g::(fr g (b+e)++fr h (a'+1)))=_;rw[AR _ _ _ _ (fun x hx=>?_),ih]
  ·have e4:cf (b+e+m) (X (b+e)*g)=K (g.c m):=by
    unfold cf;rw[fL,if_neg (by lia)];congr 2;lia
   rw[e4,Int.pow_succ,bQ];grind
  ·unfold cf;rcases List.mem_append.mp hx with z|z
   ·obtain⟨i,hi,rfl⟩:=kb z;rw[Ek hg (by lia),cR]
   ·obtain⟨i,hi,rfl⟩:=kb z;rw[Ek hh (by lia),cR]
theorem F3{h:Po}{k:Nat}(hh:∀j,k<j->h.c j=0):∀a:Nat,rV (cols (a+k) (a+1)) (fr h (a+1))=K (h.c k^a)*h
 |0=>by
  show X 0*h*1-0=K (h.c k^0)*h;rw[Int.pow_zero,cu,tj];grind
 |a+1=>by
  have ih:=F3 hh a;have e1:cols (a+1+k) (a+1+1)=cf (a+1+k)::cols (a+k) (a+1):=by
   have e2:a+1+k-1=a+k:=by lia
   show cf (a+1+k)::cols (a+1+k-1) (a+1)=_;rw[e2]
  rw[e1];show rV (cf (a+1+k)::cols (a+k) (a+1)) (X (a+1)*h::fr h (a+1))=_;rw[AR _ _ _ _ (fun x hx=>?_),ih]
  ·have e4:cf (a+1+k) (X (a+1)*h)=K (h.c k):=by
    unfold cf;rw[fL,if_neg (by lia)];congr 2;lia
   rw[e4,Int.pow_succ,bQ];grind
  ·unfold cf;obtain⟨i,hi,rfl⟩:=kb hx;rw[Ek hh (by lia),cR]
noncomputable def Sb(n m j:Nat)(f g:Po):Po:=rV (cols (n+m-j-1) (m-j+(n-j))) (fr f (m-j)++fr g (n-j))
section
variable {f g h q:Po} {α β:Int} {n m k j:Nat}
theorem T1(eq:K α*f=q*g+K β*h)(hq:len q<=n-m+1)(hg:∀j,m<j->g.c j=0)(hh:∀j,k<j->h.c j=0)(JO:m<n)(WT:k<m)(hj:j<=k):
 ∃s:Int,(s=1\/s=-1)/\K (α^(m-j))*Sb n m j f g=K (s*β^(m-j)*g.c m^(n-k))*rV (cols (m+k-j-1) (k-j+(m-j))) (fr g (k-j)++fr h (m-j)):=by
 obtain⟨s,hs,e1⟩:=F1 (D:=n+m-j-1) (a:=m-j) (b:=n-j) eq hq (by lia);have e2:=F2 (a:=m-j) (b:=k-j) hg hh (by lia) (by lia) (n-k);have d1:k-j+(n-k)=n-j:=by lia
 have d2:n-j+m-1=n+m-j-1:=by lia
 have d3:k-j+m-1=m+k-j-1:=by lia
 have d4:n-j+(m-j)=m-j+(n-j):=by lia
 rw[d1,d2,d3,d4] at e2;refine⟨s,hs,?_⟩;unfold Sb;rw[e1,e2,bQ (s*β^(m-j))];grind
theorem T2(eq:K α*f=q*g+K β*h)(hq:len q<=n-m+1)(hg:∀j,m<j->g.c j=0)(hh:∀j,k<j->h.c j=0)(JO:m<n)(WT:k<m):
 ∃s:Int,(s=1\/s=-1)/\K (α^(m-k))*Sb n m k f g=K (s*β^(m-k)*g.c m^(n-k)*h.c k^(m-k-1))*h:=by
 obtain⟨s,hs,e1⟩:=T1 (j:=k) eq hq hg hh JO WT (Nat.le_refl _);refine⟨s,hs,?_⟩;rw[e1];have e2:=F3 hh (m-k-1);have d1:m-k-1+1=m-k:=by lia
 have d2:m-k-1+k=m-1:=by lia
 rw[d1,d2] at e2;have d3:m+k-k-1=m-1:=by lia
 have d4:k-k+(m-k)=m-k:=by lia
 have d5:k-k=0:=by lia
 rw[d3,d4,d5];show K _*rV (cols (m-1) (m-k)) ([]++fr h (m-k))=_;rw[List.nil_append,e2,bQ (s*β^(m-k)*g.c m^(n-k))];grind
theorem T3{r:Po}(eq:K α*f=q*g+r)(hq:len q<=n-m+1)(hg:∀j,m<j->g.c j=0)(hr:∀j,m<=j->r.c j=0)(JO:m<n)(hm:0<m):
 ∃s:Int,(s=1\/s=-1)/\K α*Sb n m (m-1) f g=K (s*g.c m^(n-m+1))*r:=by
 have Zo:K α*f=q*g+K 1*r:=by rw[eq,cu];grind
 obtain⟨s,hs,e1⟩:=F1 (D:=n) (a:=1) (b:=n-m+1) Zo hq (by lia);have e2:=F2 (a:=1) (b:=0) (k:=m-1) hg (fun j hj=>hr j (by lia)) (by lia) (by lia) (n-m+1);refine⟨s,hs,?_⟩;unfold Sb;have d1:m-(m-1)=1:=by lia
 have d2:n-(m-1)=n-m+1:=by lia
 have d3:n+m-(m-1)-1=n:=by lia
 have d4:0+(n-m+1)+m-1=n:=by lia
 have d5:0+(n-m+1)=n-m+1:=by lia
 have d6:n-m+1+1=1+(n-m+1):=by lia
 rw[d4,d5,d6] at e2;have p1:α^1=α:=by rw[Int.pow_succ,Int.pow_zero];lia
 have p2:(1:Int)^1=1:=rfl;rw[p1,p2] at e1;rw[d1,d2,d3,e1,e2];have e3:rV (cols (0+m-1) (0+1)) (fr g 0++fr r 1)=r:=by
  show X 0*r*1-0=r;rw[tj];grind
 rw[e3,Int.mul_one,bQ];grind
end
end Po
end SF
namespace SF
open Lean.Grind
namespace Po
noncomputable def Sn(s:Int):Prop:=s=1\/s=-1
theorem Sn.mul{s t:Int}(h:Sn s)(h':Sn t):Sn (s*t):=by rcases h with z|z<;>rcases h' with w|w<;>rw[z,w]<;>unfold Sn<;>lia
theorem Sn.sq{s:Int}(h:Sn s):s*s=1:=by rcases h with z|z<;>rw[z]<;>rfl
theorem Sn.pow{s:Int}(h:Sn s):∀e:Nat,Sn (s^e)
 |0=>.inl (Int.pow_zero s)
 |e+1=>by rw[Int.pow_succ];exact(h.pow e).mul h
theorem JP(x:Int):∃s,Sn s/\x=s*ab x:=by
 rcases Int.le_total 0 x with h|h
 ·exact⟨1,.inl rfl,by rw[nK h];lia⟩
 ·exact⟨-1,.inr rfl,by unfold ab;lia⟩
theorem lY(a b:Int):∀e:Nat,(a*b)^e=a^e*b^e
 |0=>by rw[Int.pow_zero,Int.pow_zero,Int.pow_zero];rfl
 |e+1=>by rw[Int.pow_succ,Int.pow_succ,Int.pow_succ,lY a b e];grind
theorem iB(a:Int)(m:Nat):∀n:Nat,a^(m+n)=a^m*a^n
 |0=>by rw[Int.pow_zero,Nat.add_zero];lia
 |n+1=>by
  have e:m+(n+1)=(m+n)+1:=by lia
  rw[e,Int.pow_succ,iB a m n,Int.pow_succ];grind
theorem pow_mul'(a:Int)(m:Nat):∀n:Nat,a^(m*n)=(a^m)^n
 |0=>by rw[Nat.mul_zero,Int.pow_zero,Int.pow_zero]
 |n+1=>by rw[Nat.mul_succ,iB,pow_mul' a m n,Int.pow_succ]
theorem cw{a:Int}(h:0<a)(n:Nat):0<a^n:=Int.pow_pos h
theorem pK(x:Int)(e:Nat):∃s,Sn s/\x^e=s*ab x^e:=by
 obtain⟨s,hs,ex⟩:=JP x;refine⟨s^e,hs.pow e,?_⟩
 conv=>lhs;rw[ex]
 rw[lY]
theorem tK{c a b:Int}{P Q:Po}(hc:c≠0)(h:K (c*a)*P=K (c*b)*Q):K a*P=K b*Q:=by
 refine cancel (kl hc) ?_;rw[bQ,bQ] at h;grind
theorem Ul{s:Int}(hs:Sn s){a b:Int}{P Q:Po}(h:K (s*a)*P=K b*Q):K a*P=K (s*b)*Q:=by
 have e:K a*P=K s*(K (s*a)*P):=by
  have e2:K s*(K (s*a)*P)=K (s*(s*a))*P:=by rw[bQ s (s*a)];grind
  rw[e2,<-Int.mul_assoc,hs.sq,Int.one_mul]
 rw[e,h,bQ s b];grind
structure xt(F G f g:Po)(n0 n1 n m:Nat)(g0 h0:Int):Prop where
 lf:len f=n+1
 lg:len g=m+1
 nm:m<n
 RQ:0<g0
 NI:0<h0
 C:∀j,j<m->∃s,Sn s/\Sb n m j f g=K (s*(g0^(m-j)*h0^(n-j-1)))*Sb n0 n1 j F G
 Hh:∃s,Sn s/\K (h0^(n-m-1))*Sb n0 n1 m F G=K (s*ab (g.c m)^(n-m-1))*g
theorem xt.start{F G:Po}{n:Nat}(lf:len F=n+2)(lg:len G=n+1):xt F G F G (n+1) n (n+1) n 1 1:=by
 refine⟨lf,lg,by lia,by decide,by decide,fun j _=>⟨1,.inl rfl,?_⟩,1,.inl rfl,?_⟩
 ·rw[Int.one_pow,Int.one_pow];show _=K 1*_;rw[cu];grind
 ·have e:n+1-n-1=0:=by lia
  rw[e,Int.pow_zero,Int.pow_zero];unfold Sb;have e1:n-n=0:=by lia
  have e2:n+1-n=1:=by lia
  rw[e1,e2];show K 1*(X 0*G*1-0)=K (1*1)*G;rw[tj,Int.one_mul];grind
section
variable {F G f g q r:Po} {n0 n1 n m:Nat} {g0 h0:Int}
theorem xt.lead(S:xt F G f g n0 n1 n m g0 h0):0<ab (g.c m):=by
 have:=Po.lead (f:=g) (by rw[S.lg];lia);rw[S.lg] at this;exact f7 this
theorem xt.hi(S:xt F G f g n0 n1 n m g0 h0):∀j,m<j->g.c j=0:=fun j hj=>eF (by rw[S.lg];lia)
theorem xt.rem(S:xt F G f g n0 n1 n m g0 h0)(hm:0<m)(eq:K (ab (g.c m)^(n-m+1))*f=q*g+r)(hq:len q<=n-m+1)(hr:len r<=m):∃h,r=K (g0*h0^(n-m))*h:=by
 have hl:=S.lead;obtain⟨s,hs,e1⟩:=T3 eq hq S.hi (fun j hj=>eF (by lia)) S.nm hm;obtain⟨t,ht,e2⟩:=pK (g.c m) (n-m+1);obtain⟨u,hu,e3⟩:=S.C (m-1) (by lia);have hp:ab (g.c m)^(n-m+1)≠0:=Int.ne_of_gt (cw hl _);have e4:K 1*Sb n m (m-1) f g=K (s*t)*r:=by
  refine tK hp ?_;rw[Int.mul_one,e1,e2];congr 2;grind
 rw[cu] at e4;have e5:K (s*t)*r=K (u*(g0*h0^(n-m)))*Sb n0 n1 (m-1) F G:=by
  have d1:m-(m-1)=1:=by lia
  have d2:n-(m-1)-1=n-m:=by lia
  rw[d1,d2] at e3;have p1:g0^1=g0:=by rw[Int.pow_succ,Int.pow_zero];lia
  rw[p1] at e3;rw[<-e4,<-e3];grind
 refine⟨K (s*t*u)*Sb n0 n1 (m-1) F G,?_⟩;have e6:K (s*t*1)*r=K (u*(g0*h0^(n-m)))*Sb n0 n1 (m-1) F G:=by rw[Int.mul_one];exact e5
 have e7:=Ul (Sn.mul hs ht) e6;rw[cu] at e7;have e8:r=1*r:=by grind
 rw[e8,e7];have e9:K (g0*h0^(n-m))*(K (s*t*u)*Sb n0 n1 (m-1) F G)=K (g0*h0^(n-m)*(s*t*u))*Sb n0 n1 (m-1) F G:=by rw[bQ (g0*h0^(n-m)) (s*t*u)];grind
 rw[e9];congr 2;grind
theorem xt.scale(S:xt F G f g n0 n1 n m g0 h0):h0^(n-m-1)∣ab (g.c m)^(n-m):=by
 obtain⟨s,hs,e⟩:=S.Hh;have e1:(K (h0^(n-m-1))*Sb n0 n1 m F G).c m=(K (s*ab (g.c m)^(n-m-1))*g).c m:=by rw[e]
 rw[a_,a_] at e1;obtain⟨t,ht,e2⟩:=JP (g.c m);have JO:=S.nm;have d:n-m=(n-m-1)+1:=by lia
 refine⟨(Sb n0 n1 m F G).c m*(s*t),?_⟩;have e3:ab (g.c m)^(n-m)=ab (g.c m)^(n-m-1)*ab (g.c m):=by
  conv=>lhs;rw[d]
  rw[Int.pow_succ]
 rw[e3];have h1:=hs.sq;have h2:=ht.sq;generalize ab (g.c m)^(n-m-1)=L at*;generalize ab (g.c m)=l at*;generalize g.c m=y at*;generalize h0^(n-m-1)=A at*;generalize (Sb n0 n1 m F G).c m=B at*;have e5:A*(B*(s*t))=(A*B)*(s*t):=by grind
 rw[e5,e1,e2];have e6:s*L*(t*l)*(s*t)=(s*s)*(t*t)*(L*l):=by grind
 rw[e6,h1,h2];lia
theorem PC{l h0 h1:Int}{n m k j δ:Nat}(hd:n=m+δ)(JQ:0<δ)(hk:k<m)(hj:j<=k)(h:h1*h0^(δ-1)=l^δ):
 l^((δ+1)*(m-j))*h0^(n-j-1)=h0^(δ*(m-j))*l^(n-k)*(l^(k-j)*h1^(m-j-1)):=by
 obtain⟨u,hu⟩:∃u,m-j=u+1:=⟨m-j-1,by lia⟩;have d1:n-j-1=u+δ:=by lia
 have d2:m-j-1=u:=by lia
 have d3:(δ+1)*(u+1)=δ*u+((n-k)+(k-j)):=by
  have:(n-k)+(k-j)=u+1+δ:=by lia
  rw[this,Nat.add_mul,Nat.mul_add];lia
 rw[hu,d1,show u+1-1=u by lia,d3,iB,iB,pow_mul',<-h,lY,<-pow_mul'];have d4:δ*(u+1)=(δ-1)*u+(u+δ):=by
  obtain⟨e,rfl⟩:∃e,δ=e+1:=⟨δ-1,by lia⟩;rw[Nat.add_sub_cancel,Nat.mul_add,Nat.add_mul];lia
 rw[d4,iB h0];grind
theorem xt.next{h:Po}{k:Nat}{h1:Int}(S:xt F G f g n0 n1 n m g0 h0)(eq:K (ab (g.c m)^(n-m+1))*f=q*g+K (-(g0*h0^(n-m)))*h)(hq:len q<=n-m+1)(lh:len h=k+1)(hk:k<m)(O9:h1*h0^(n-m-1)=ab (g.c m)^(n-m)):xt F G g h n0 n1 m k (ab (g.c m)) h1:=by
 have hl:=S.lead;have JO:=S.nm;have Cd:∀j,k<j->h.c j=0:=fun j hj=>eF (by rw[lh];lia);have hd:n=m+(n-m):=by lia
 have Zp:0<h1:=by
  have p1:=cw S.NI (n-m-1);have p2:=cw hl (n-m);rw[<-O9] at p2;rcases Int.lt_or_le 0 h1 with z|z
  ·exact z
  ·have:=Int.mul_nonpos_of_nonpos_of_nonneg z (Int.le_of_lt p1);lia
 have sgn:∀(e:Nat),∃t,Sn t/\(-(g0*h0^(n-m)))^e=t*(g0^e*h0^((n-m)*e)):=fun e=>by
  obtain⟨t,ht,e1⟩:=pK (-(g0*h0^(n-m))) e;refine⟨t,ht,?_⟩;have f9:0<g0*h0^(n-m):=Int.mul_pos S.RQ (cw S.NI _);have e2:ab (-(g0*h0^(n-m)))=g0*h0^(n-m):=by unfold ab;lia
  rw[e1,e2,lY,pow_mul']
 refine⟨S.lg,lh,hk,hl,Zp,fun j hj=>?_,?_⟩
 ·obtain⟨s,hs,e1⟩:=T1 (j:=j) eq hq S.hi Cd JO hk (by lia);obtain⟨t,ht,e2⟩:=sgn (m-j);obtain⟨u,hu,e3⟩:=pK (g.c m) (n-k);obtain⟨v,hv,e4⟩:=S.C j (by lia);have ex:=PC hd (by lia) hk (by lia:j<=k) O9;have PD:K ((ab (g.c m)^(n-m+1))^(m-j))*Sb n m j f g=K (s*(-(g0*h0^(n-m)))^(m-j)*g.c m^(n-k))*Sb m k j g h:=e1;rw[<-pow_mul',e2,e3,e4] at PD;have e5:K (ab (g.c m)^((n-m+1)*(m-j)))*(K (v*(g0^(m-j)*h0^(n-j-1)))*Sb n0 n1 j F G)=K (v*(g0^(m-j)*(ab (g.c m)^((n-m+1)*(m-j))*h0^(n-j-1))))*Sb n0 n1 j F G:=by
   have:v*(g0^(m-j)*(ab (g.c m)^((n-m+1)*(m-j))*h0^(n-j-1)))=ab (g.c m)^((n-m+1)*(m-j))*(v*(g0^(m-j)*h0^(n-j-1))):=by grind
   rw[this,bQ (ab (g.c m)^((n-m+1)*(m-j)))];grind
  rw[e5,ex] at PD;let c:=g0^(m-j)*h0^((n-m)*(m-j))*ab (g.c m)^(n-k);have hc:c≠0:=Int.ne_of_gt (Int.mul_pos (Int.mul_pos (cw S.RQ _) (cw S.NI _)) (cw hl _));have e6:K (c*(v*(ab (g.c m)^(k-j)*h1^(m-j-1))))*Sb n0 n1 j F G=K (c*(s*t*u))*Sb m k j g h:=by
   have a1:c*(v*(ab (g.c m)^(k-j)*h1^(m-j-1)))=v*(g0^(m-j)*(h0^((n-m)*(m-j))*ab (g.c m)^(n-k)*(ab (g.c m)^(k-j)*h1^(m-j-1)))):=by
    show g0^(m-j)*h0^((n-m)*(m-j))*ab (g.c m)^(n-k)*_=_;grind
   have a2:c*(s*t*u)=s*(t*(g0^(m-j)*h0^((n-m)*(m-j))))*(u*ab (g.c m)^(n-k)):=by
    show g0^(m-j)*h0^((n-m)*(m-j))*ab (g.c m)^(n-k)*_=_;grind
   rw[a1,a2];exact PD
  have e7:=tK hc e6;have hw:=Sn.mul (Sn.mul hs ht) hu;have e8:K (s*t*u*1)*Sb m k j g h=K (v*(ab (g.c m)^(k-j)*h1^(m-j-1)))*Sb n0 n1 j F G:=by rw[Int.mul_one];exact e7.symm
  have e9:=Ul hw e8;rw[cu] at e9;refine⟨s*t*u*v,hw.mul hv,?_⟩;have T8:Sb m k j g h=1*Sb m k j g h:=by grind
  rw[T8,e9];congr 2;grind
 ·obtain⟨s,hs,e1⟩:=T2 eq hq S.hi Cd JO hk;obtain⟨t,ht,e2⟩:=sgn (m-k);obtain⟨u,hu,e3⟩:=pK (g.c m) (n-k);obtain⟨v,hv,e4⟩:=S.C k hk;obtain⟨w,hw,e0⟩:=pK (h.c k) (m-k-1);have ex:=PC hd (by lia) hk (Nat.le_refl k) O9;rw[<-pow_mul',e2,e3,e0,e4] at e1;have e5:K (ab (g.c m)^((n-m+1)*(m-k)))*(K (v*(g0^(m-k)*h0^(n-k-1)))*Sb n0 n1 k F G)=K (v*(g0^(m-k)*(ab (g.c m)^((n-m+1)*(m-k))*h0^(n-k-1))))*Sb n0 n1 k F G:=by
   have:v*(g0^(m-k)*(ab (g.c m)^((n-m+1)*(m-k))*h0^(n-k-1)))=ab (g.c m)^((n-m+1)*(m-k))*(v*(g0^(m-k)*h0^(n-k-1))):=by grind
   rw[this,bQ (ab (g.c m)^((n-m+1)*(m-k)))];grind
  rw[e5,ex,show k-k=0 by lia,Int.pow_zero,Int.one_mul] at e1;let c:=g0^(m-k)*h0^((n-m)*(m-k))*ab (g.c m)^(n-k);have hc:c≠0:=Int.ne_of_gt (Int.mul_pos (Int.mul_pos (cw S.RQ _) (cw S.NI _)) (cw hl _));have e6:K (c*(v*h1^(m-k-1)))*Sb n0 n1 k F G=K (c*(s*t*u*w*ab (h.c k)^(m-k-1)))*h:=by
   have a1:c*(v*h1^(m-k-1))=v*(g0^(m-k)*(h0^((n-m)*(m-k))*ab (g.c m)^(n-k)*h1^(m-k-1))):=by
    show g0^(m-k)*h0^((n-m)*(m-k))*ab (g.c m)^(n-k)*_=_;grind
   have a2:c*(s*t*u*w*ab (h.c k)^(m-k-1))=s*(t*(g0^(m-k)*h0^((n-m)*(m-k))))*(u*ab (g.c m)^(n-k))*(w*ab (h.c k)^(m-k-1)):=by
    show g0^(m-k)*h0^((n-m)*(m-k))*ab (g.c m)^(n-k)*_=_;grind
   rw[a1,a2];exact e1
  have e7:=Ul hv (tK hc e6);refine⟨v*(s*t*u*w),hv.mul (Sn.mul (Sn.mul (Sn.mul hs ht) hu) hw),?_⟩;rw[e7];congr 2;grind
end
end Po
end SF
namespace SF
open Lean.Grind
namespace Po
open Re
noncomputable def oa(x:Re):List Po->Prop
 |[]=>True
 |[_]=>True
 |[_,_]=>True
 |a::b::c::r=>(at' x b=0->aU (at' x a)*aU (at' x c)<0)/\oa x (b::c::r)
theorem oa.snoc{x:Re}{u v w:Po}(h:at' x v=0->aU (at' x u)*aU (at' x w)<0):∀hs:List Po,oa x (hs++[u,v])->oa x (hs++[u,v,w])
 |[],_=>⟨h,trivial⟩
 |[a],t=>⟨t.1,h,trivial⟩
 |a::b::hs,t=>by
  cases hs with
  |nil=>exact⟨t.1,oa.snoc h [b] t.2⟩
  |cons c hs=>exact⟨t.1,oa.snoc h (b::c::hs) t.2⟩
theorem oa.L_{x:Re}{w:Po}(hw:at' x w≠0):∀hs:List Po,oa x (hs++[w])->Cb x (hs++[w])
 |[],_=>hw
 |[a],_=>hw
 |[a,b],t=>⟨t.1,hw⟩
 |a::b::c::hs,t=>⟨t.1,oa.L_ hw (b::c::hs) t.2⟩
theorem Ce{x:Re}{f g h q:Po}{α β:Int}(Zq:0<α)(L':0<β)(eq:K α*f=q*g+K (-β)*h)(WU:¬(at' x f=0/\at' x g=0)):
 (at' x g=0->aU (at' x f)*aU (at' x h)<0)/\¬(at' x g=0/\at' x h=0):=by
 have e:=congrArg (at' x) eq;rw[oB,kD,g7,oB] at e;have HG:(0:Re)<(α:Re):=by
  show Re.q ((0:Nat):Rat)<Re.q (α:Rat);rw[eA];exact Rat.intCast_lt_intCast.mpr Zq
 have PF:(0:Re)<(β:Re):=by
  show Re.q ((0:Nat):Rat)<Re.q (β:Rat);rw[eA];exact Rat.intCast_lt_intCast.mpr L'
 have Zr:((-β:Int):Re)=-(β:Re):=Ring.intCast_neg β;rw[Zr] at e;generalize (α:Re)=a at e HG;generalize (β:Re)=b at e PF;have key:at' x g=0->a*at' x f=-(b*at' x h):=fun z=>by rw[z] at e;grind
 constructor
 ·intro z;have e2:=key z;have hf:at' x f≠0:=fun y=>WU ⟨y,z⟩;have s1:aU (a*at' x f)=aU (at' x f):=by rw[gr,bK HG];lia
  have s2:aU (b*at' x h)=aU (at' x h):=by rw[gr,bK PF];lia
  rw[e2,mV,s2] at s1;rw[<-s1];have h0:aU (at' x h)≠0:=fun y=>hf (bA (by rw[<-s1,y];rfl));generalize aU (at' x h)=s at h0;have:0<s*s:=by
   rcases Int.lt_or_lt_of_ne h0 with w|w
   ·exact Int.mul_pos_of_neg_of_neg w w
   ·exact Int.mul_pos w w
  have e3:-s*s=-(s*s):=by grind
  rw[e3];lia
 ·rintro⟨z,w⟩;have e2:=key z;rw[w] at e2;have e3:a*at' x f=0:=by rw[e2];grind
  by_cases hf:at' x f=0
  ·exact WU ⟨hf,z⟩
  ·exact Re.dP (fun y=>by rw[y] at HG;exact lt_irrefl _ HG) hf e3
theorem rW{x:Re}{f g u v:Po}{a:Int}(ha:a≠0)(e:u*f+v*g=K a):¬(at' x f=0/\at' x g=0):=by
 rintro⟨z,w⟩;have e2:=congrArg (at' x) e;rw[kD,g7,g7,Ec,z,w] at e2;have e3:(a:Re)=0:=by rw[<-e2];grind
 have e4:q (a:Rat)=q 0:=e3;have:=vJ e4;have:(a:Rat)=((0:Int):Rat):=this;exact ha (Rat.intCast_inj.mp this)
theorem El{rs ys:List Int}(iK:ys≠[])(hl:ys.length<=rs.length){σ l:Int}(Ma:σ*co ys (ys.length-1)=l):
 aw (gx (fun j=>co rs j*l-if rs.length-ys.length<=j/\j<rs.length-ys.length+(ys.length-1) then co rs (rs.length-1)*σ*co ys (j-(rs.length-ys.length)) else 0) (rs.length-1))=
  K l*aw rs-K (co rs (rs.length-1)*σ)*X (rs.length-ys.length)*aw ys:=ext fun j=>by
 have hp:=List.length_pos_iff.mpr iK;have e:K (co rs (rs.length-1)*σ)*X (rs.length-ys.length)*aw ys=K (co rs (rs.length-1)*σ)*(X (rs.length-ys.length)*aw ys):=by grind
 rw[e,gT,a_,a_,fL,bC,bC,bC,mO];by_cases h1:j<rs.length-1
 ·rw[if_pos h1];by_cases h2:rs.length-ys.length<=j
  ·rw[if_pos ⟨h2,by lia⟩,if_neg (by lia)];grind
  ·rw[if_neg (fun z=>h2 z.1),if_pos (by lia)];grind
 ·rw[if_neg h1,if_neg (by lia)];by_cases h3:j=rs.length-1
  ·have e2:j-(rs.length-ys.length)=ys.length-1:=by lia
   rw[e2,h3,Int.mul_assoc,Ma];grind
  ·rw[cG (xs:=rs) (by lia),cG (xs:=ys) (by lia)];grind
theorem PH(y:Int):(if y<0 then -1 else if 0<y then 1 else 0)*y=ab y:=by
 unfold ab;split
 ·lia
 ·split<;>lia
structure WV(xs ys rs:List Int):Prop where
 tr:Tr rs
 lt:rs.length<ys.length
 eq:∃q,K (ab (co ys (ys.length-1))^(xs.length-ys.length+1))*aw xs=q*aw ys+aw rs/\len q<=xs.length-ys.length+1
theorem Mb(a:Int)(k:Nat):len (K a*X k)<=k+1:=cJ fun i hi=>by
 rw[a_,Ar,if_neg (by lia)];grind
theorem HH{rs:List Int}{n:Nat}(h:rs.length<n):(dN rs).length<n:=Nat.lt_of_le_of_lt (rG rs) h
theorem neg_fdiv{rs:List Int}{β:Int}{h:Po}(L':0<β)(e:aw rs=K β*h):aw (gx (fun i=>(-(co rs i)).fdiv β) rs.length)=-h:=ext fun i=>by
 rw[bC,mO,JD];have e1:co rs i=β*h.c i:=by
  have:(aw rs).c i=(K β*h).c i:=by rw[e]
  rw[bC,a_] at this;exact this
 split
 ·rw[e1];have:-(β*h.c i)=(-(h.c i))*β:=by grind
  rw[this,Int.mul_fdiv_cancel _ (Int.ne_of_gt L')]
 ·rw[cG (by lia)] at e1;rcases Int.mul_eq_zero.mp e1.symm with z|z
  ·lia
  ·lia
end Po
end SF
namespace SF
open Lean.Grind
theorem AS(s:Rat):s*(s.den:Rat)=(s.num:Rat):=by
 have h:=Rat.num_divInt_den s;rw[Rat.divInt_eq_div] at h;have hd:((s.den:Int):Rat)≠0:=by
  intro z;have z2:((s.den:Int):Rat)=((0:Int):Rat):=z;have:=Rat.intCast_inj.mp z2;have:=s.den_nz;lia
 have e:(s.den:Rat)=((s.den:Int):Rat):=rfl;rw[e]
 conv=>lhs;rw[<-h]
 grind
theorem HI{s:Rat}(h:s.den∣s.num.natAbs*s.num.natAbs\/s.den∣s.num.natAbs*s.num.natAbs*s.num.natAbs):s=(s.num:Rat):=by
 have hc:Nat.Coprime s.den s.num.natAbs:=s.reduced.symm;have h1:s.den∣1:=by
  rcases h with h|h
  ·have:=hc.dvd_of_dvd_mul_left h;have h2:=hc.dvd_of_dvd_mul_left (k:=s.den) (n:=1) (m:=s.num.natAbs);exact h2 (by rw[Nat.mul_one];exact this)
  ·have h3:=hc.dvd_of_dvd_mul_right h;have h4:=hc.dvd_of_dvd_mul_right h3;have h2:=hc.dvd_of_dvd_mul_left (k:=s.den) (n:=1) (m:=s.num.natAbs);exact h2 (by rw[Nat.mul_one];exact h4)
 have h2:s.den=1:=Nat.eq_one_of_dvd_one h1;have:=AS s;rw[h2] at this;have e:((1:Nat):Rat)=1:=rfl;rw[e] at this;rw[<-this];grind
theorem Mc{s:Rat}{n:Int}(h:s*s=(n:Rat)):∃k:Int,k*k=n:=by
 have e:=AS s;have e1:((s.num*s.num:Int):Rat)=((n*(s.den*s.den):Int):Rat):=by
  rw[Rat.intCast_mul,Rat.intCast_mul,Rat.intCast_mul,<-e,<-h];have e0:(((s.den:Nat):Int):Rat)=(s.den:Rat):=rfl;rw[e0];grind
 have e2:=Rat.intCast_inj.mp e1;have hd:s.den∣s.num.natAbs*s.num.natAbs:=by
  have:(s.den:Int)∣s.num*s.num:=⟨n*s.den,by rw[e2];grind⟩;have:=Int.ofNat_dvd_left.mp this
  rwa [Int.natAbs_mul] at this
 have e3:=HI (s:=s) (.inl hd);refine⟨s.num,?_⟩;rw[e3,<-Rat.intCast_mul] at h;exact Rat.intCast_inj.mp h
noncomputable def Zs(n:Int):Prop:=n=2\/n=3\/n=5\/n=6\/n=7\/n=8\/n=10\/n=12\/n=50\/n=99
noncomputable def Zt(n:Int):Prop:=n=2\/n=3\/n=4\/n=5\/n=6\/n=7\/n=9\/n=10\/n=-2\/n=-5
namespace Po
open Re
theorem cS(a:Int):((a:Int):Re)=q (a:Rat):=rfl
theorem at2(x:Re)(a b:Int):at' x (aw [a,b])=(a:Re)+x*(b:Re):=by
 rw[fN,fN,dH,iX];grind
theorem WW(x:Re)(a b c:Int):at' x (aw [a,b,c])=(a:Re)+x*((b:Re)+x*(c:Re)):=by
 rw[fN,at2]
theorem vP{e f:Po}(he:len e=2)(hd:D e f):∃r:Rat,at' (q r) f=0:=by
 obtain⟨a,ha,p,eq⟩:=hd;have hl:e.c 1≠0:=by
  have:=lead (f:=e) (by lia);rw[he] at this;exact this
 have RH:((e.c 1:Int):Rat)≠0:=fun z=>hl (Rat.intCast_inj.mp (show((e.c 1:Int):Rat)=((0:Int):Rat) from z));refine⟨-((e.c 0:Int):Rat)/((e.c 1:Int):Rat),?_⟩;generalize hr:-((e.c 0:Int):Rat)/((e.c 1:Int):Rat)=r;have e0:at' (q r) e=0:=by
  have e1:e=aw [e.c 0,e.c 1]:=ext fun i=>by
   rw[bC]
   match i with
   |0=>rfl
   |1=>rfl
   |i+2=>rw[eF (by lia)];rfl
  rw[e1,at2,cS,cS,<-fV,<-nL];have e2:((aw [e.c 0,e.c 1]).c 0:Int)=e.c 0:=rfl;have:((e.c 0:Int):Rat)+r*((e.c 1:Int):Rat)=0:=by rw[<-hr];grind
  show q (((e.c 0:Int):Rat)+r*((e.c 1:Int):Rat))=0;rw[this];rfl
 have e3:=congrArg (at' (q r)) eq;rw[oB,g7,e0] at e3;have e4:(a:Re)*at' (q r) f=0:=by rw[e3];grind
 by_cases hz:at' (q r) f=0
 ·exact hz
 ·exfalso;refine Re.dP (fun z=>ha ?_) hz e4;have z2:q (a:Rat)=q ((0:Int):Rat):=z;exact Rat.intCast_inj.mp (vJ z2)
theorem PJ{f:Po}(h:len f=3\/len f=4)(hn:∀r:Rat,at' (q r) f≠0):nJ f:=by
 have h0:f≠0:=cB (by lia);refine⟨by lia,fun d hd=>?_⟩;have h1:=hd.len h0;have h2:=len_pos (hd.ne h0);by_cases h3:len d<=1
 ·exact .inl h3
 by_cases h4:len f<=len d
 ·exact .inr h4
 exfalso;by_cases h5:len d=2
 ·obtain⟨r,hr⟩:=vP h5 hd;exact hn r hr
 ·obtain⟨a,ha,p,eq⟩:=hd;have hp:p≠0:=iw (f:=d) (by rw[<-eq];exact dP (kl ha) h0);have h6:=len_mul (cB h2) hp;rw[<-eq,gF ha] at h6;obtain⟨r,hr⟩:=vP (e:=p) (f:=f) (by lia) ⟨a,ha,d,by rw[eq];grind⟩;exact hn r hr
noncomputable def cZ:List Po->Po
 |[]=>1
 |g::r=>g*cZ r
theorem rX{p:Po}(hp:nJ p):∀gs:List Po,D p (cZ gs)->∃g∈gs,D p g
 |[],h=>by
  have l1:len (1:Po)=1:=by rw[<-cu];exact len_K (by decide)
  have:=h.len (cB (by show 0<len (1:Po);lia));have h2:=hp.1;have h3:len (cZ [])=1:=l1;lia
 |g::r,h=>by
  rcases hp.prime h with z|z
  ·exact⟨g,List.mem_cons_self,z⟩
  ·obtain⟨x,hx,hd⟩:=rX hp r z;exact⟨x,List.mem_cons_of_mem _ hx,hd⟩
structure Fk(g:Po):Prop where
 vE:nJ g
 pr:Pr g
 pos:0<g.c (len g-1)
theorem Fk.same{g h:Po}(hg:Fk g)(hh:Fk h)(d:D g h):g=h:=by
 rcases hh.vE.2 g d with z|z
 ·have:=hg.vE.1;lia
 ·exact hg.pr.same hh.pr d (d.o9 hh.vE.ne z) hg.pos hh.pos
theorem AU:∀gs:List Po,(∀g∈gs,Fk g)->gs.Nodup->∀p,nJ p->¬D (p*p) (cZ gs)
 |[],_,_,p,hp,h=>by
  have l1:len (1:Po)=1:=by rw[<-cu];exact len_K (by decide)
  have h1:=h.len (show cZ []≠0 from cB (by show 0<len (1:Po);lia));have h2:=hp.1;have h3:=len_mul hp.ne hp.ne;have h4:len (cZ [])=1:=l1;lia
 |g::r,hF,hN,p,hp,h=>by
  have hg:=hF g List.mem_cons_self;obtain⟨Zu,Zv⟩:=List.nodup_cons.mp hN;obtain⟨a,ha,t,e⟩:=h;have e':K a*(g*cZ r)=p*p*t:=e;by_cases hd:D p g
  ·have Pe:D g p:=by
    rcases hg.vE.2 p hd with z|z
    ·have:=hp.1;lia
    ·exact hd.o9 hg.vE.ne z
   obtain⟨b,hb,s,es⟩:=Pe;have Zw:D g (cZ r):=by
    refine⟨b*b*a,Int.mul_ne_zero (Int.mul_ne_zero hb hb) ha,s*s*t,Po.cancel hg.vE.ne ?_⟩;have e1:g*(K (b*b*a)*cZ r)=K b*K b*(K a*(g*cZ r)):=by rw[bQ,bQ];grind
    have e2:g*(g*(s*s*t))=(g*s)*(g*s)*t:=by grind
    rw[e1,e2,e',<-es];grind
   obtain⟨x,hx,Zx⟩:=rX hg.vE r Zw;have:=hg.same (hF x (List.mem_cons_of_mem _ hx)) Zx;exact Zu (by rw[this];exact hx)
  ·have h1:D p (g*cZ r):=⟨a,ha,p*t,by rw[e'];grind⟩;have h2:=(hp.prime h1).resolve_left hd;obtain⟨c,hc,u,eu⟩:=h2;have h3:D p (g*u):=by
    refine⟨a,ha,K c*t,Po.cancel hp.ne ?_⟩;have e1:p*(K a*(g*u))=K a*(g*(p*u)):=by grind
    rw[e1,<-eu];have e2:K a*(g*(K c*cZ r))=K c*(K a*(g*cZ r)):=by grind
    rw[e2,e'];grind
   have h4:=(hp.prime h3).resolve_left hd;obtain⟨d,Zy,v,ev⟩:=h4;refine AU r (fun x hx=>hF x (List.mem_cons_of_mem _ hx)) Zv p hp ⟨d*c,Int.mul_ne_zero Zy hc,v,?_⟩;rw[bQ];have e1:K d*K c*cZ r=K d*(K c*cZ r):=by grind
   rw[e1,eu];have e2:K d*(p*u)=p*(K d*u):=by grind
   rw[e2,ev];grind
theorem Pr.mul{f g:Po}(hf:Pr f)(hg:Pr g):Pr (f*g):=fun p hp=>by
 rcases Nat.lt_or_ge 1 p with h1|h1
 ·exfalso;obtain⟨r,hr,hd⟩:=JE.ex _ p (Nat.le_refl _) h1;have oU:∀i,(r:Int)∣(f*g).c i:=fun i=>Int.dvd_trans (Int.ofNat_dvd.mpr hd) (hp i);have h2:=hr.1;rcases nH hr oU with z|z
  ·have:=hf r z;lia
  ·have:=hg r z;lia
 ·have h0:p≠0:=by
   rintro rfl;have hz:f*g=0:=ext fun i=>by
    rw[fc];exact Int.zero_dvd.mp (hp i)
   exact dP hf.ne hg.ne hz
  lia
theorem Pr.one:Pr 1:=fun p hp=>by
 have:=hp 0;rw[rJ,if_pos rfl] at this;exact Nat.eq_one_of_dvd_one (Int.ofNat_dvd.mp this)
theorem pL:∀gs:List Po,(∀g∈gs,Fk g)->Pr (cZ gs)/\0<(cZ gs).c (len (cZ gs)-1)
 |[],_=>by
  have l1:len (1:Po)=1:=by rw[<-cu];exact len_K (by decide)
  refine⟨Pr.one,?_⟩;show 0<(1:Po).c (len (1:Po)-1);rw[l1,rJ,if_pos rfl];decide
 |g::r,h=>by
  obtain⟨h1,h2⟩:=pL r fun x hx=>h x (List.mem_cons_of_mem _ hx);have hg:=h g List.mem_cons_self;refine⟨hg.pr.mul h1,?_⟩;show 0<(g*cZ r).c (len (g*cZ r)-1);rw[o8 hg.pr.ne h1.ne];exact Int.mul_pos hg.pos h2
theorem vQ{gs:List Po}(h:∀g∈gs,Fk g)(hN:gs.Nodup):Gu (cZ gs) (cZ gs):=
 ⟨(pL gs h).1,(pL gs h).2,fun _ _=>Iff.rfl,AU gs h hN⟩
theorem yw{xs:List Int}(tx:Tr xs)(eY:xs≠[]){gs:List Po}(h:∀g∈gs,Fk g)(hN:gs.Nodup)(e:∀p,nJ p->(D p (aw xs)↔D p (cZ gs))):aw (vD xs)=cZ gs:=
 (Pm tx eY).uniq (vQ h hN) e
theorem AV(z:Int):(if z<0 then -1 else if 0<z then 1 else 0:Int)=aU ((z:Int):Re):=by
 rcases Int.lt_trichotomy z 0 with h|h|h
 ·rw[if_pos h,cI];show q (z:Rat)<q ((0:Nat):Rat);rw[eA];exact Rat.intCast_lt_intCast.mpr h
 ·rw[if_neg (by lia),if_neg (by lia),h];have:((0:Int):Re)=0:=Ring.intCast_zero;rw[this,bP]
 ·rw[if_neg (by lia),if_pos h,bK];show q ((0:Nat):Rat)<q (z:Rat);rw[eA];exact Rat.intCast_lt_intCast.mpr h
theorem pM(a:Int):∀n:Nat,((a^n:Int):Re)=((a:Int):Re)^n
 |0=>by
  rw[Int.pow_zero];have e:((a:Int):Re)^0=1:=Semiring.pow_zero _;rw[e];exact Ring.intCast_one
 |n+1=>by
  have e:((a:Int):Re)^(n+1)=((a:Int):Re)^n*((a:Int):Re):=Semiring.pow_succ _ _;rw[Int.pow_succ,Ring.intCast_mul,pM a n,e]
theorem vR(a b:Re):∀n:Nat,(a*b)^n=a^n*b^n
 |0=>by
  have e1:(a*b)^0=1:=Semiring.pow_zero _;have e2:a^0=1:=Semiring.pow_zero _;have e3:b^0=1:=Semiring.pow_zero _;rw[e1,e2,e3];grind
 |n+1=>by
  have e1:(a*b)^(n+1)=(a*b)^n*(a*b):=Semiring.pow_succ _ _;have e2:a^(n+1)=a^n*a:=Semiring.pow_succ _ _;have e3:b^(n+1)=b^n*b:=Semiring.pow_succ _ _;rw[e1,e2,e3,vR a b n];grind
theorem Md{t u:Int}(hu:0<u)(xs:List Int):(if hv t u xs<0 then -1 else if 0<hv t u xs then 1 else 0:Int)=aU (at' (q ((t:Rat)/(u:Rat))) (aw xs)):=by
 rw[AV];have hu0:(u:Rat)≠0:=fun z=>by
  have:=Rat.intCast_inj.mp (show(u:Rat)=((0:Int):Rat) from z);lia
 have qO:(0:Re)<(u:Re):=by
  show q ((0:Nat):Rat)<q (u:Rat);rw[eA];exact Rat.intCast_lt_intCast.mpr hu
 generalize hx:q ((t:Rat)/(u:Rat))=x;have Zz:x*(u:Re)=(t:Re):=by
  rw[<-hx,cS,cS,<-fV];congr 1;grind
 have NJ:∀n:Nat,0<((u:Int):Re)^n:=fun n=>by
  induction n with
  |zero=>
   have e:((u:Int):Re)^0=1:=Semiring.pow_zero _;rw[e];grind
  |succ n ih=>
   have e:((u:Int):Re)^(n+1)=((u:Int):Re)^n*((u:Int):Re):=Semiring.pow_succ _ _;rw[e];exact Re.mul_pos ih qO
 have key:((hv t u xs:Int):Re)=((u:Int):Re)^(xs.length-1)*at' x (aw xs):=by
  rw[qN x (f:=aw xs) (n:=xs.length) (cJ fun i hi=>by rw[bC];exact cG hi)];unfold hv;rw[pE,<-cD];refine aN fun i hi=>?_;rw[Ring.intCast_mul,Ring.intCast_mul,pM,pM,<-Zz,vR,bC];have e:xs.length-1=i+(xs.length-1-i):=by lia
  have e2:((u:Int):Re)^(xs.length-1)=((u:Int):Re)^i*((u:Int):Re)^(xs.length-1-i):=by rw[<-pow_add',<-e]
  rw[e2];grind
 rw[key,gr,bK (NJ _)];lia
end Po
end SF
namespace SF
open Lean.Grind
namespace Po
open Re
theorem Me{y:Re}(h:aU y=-1):y<0:=by
 rcases aR y with w|w|w
 ·exact w.1
 ·rw[h] at w;lia
 ·rw[h] at w;lia
theorem Em{y:Re}(h:aU y=1):0<y:=by
 rcases aR y with w|w|w
 ·rw[h] at w;lia
 ·rw[h] at w;lia
 ·exact w.1
inductive RS:List Int->Prop
 |lin (t u:Int) (hu:0<u) (hc:Int.gcd t u=1):RS [0-t,u]
 |ZA (a n:Int) (hn:Zs n):RS [a*a-n,0-2*a,1]
 |Mf (a m:Int) (hm:0<m):RS [a*a+m,0-2*a,1]
 |cub (n:Int) (hn:Zt n):RS [0-n,0,0,1]
theorem HJ{xs:List Int}{l:Int}(h:l≠0):Tr (xs++[l]):=by
 intro x hx;rw[List.getLast?_append] at hx;have:l=x:=by simpa using hx
 rw[<-this];exact h
theorem fB(a:Int):((-a:Int):Re)=-((a:Int):Re):=Ring.intCast_neg a
theorem c0:((0:Int):Re)=0:=Ring.intCast_zero
theorem c1:((1:Int):Re)=1:=Ring.intCast_one
theorem c2:((2:Int):Re)=2:=by
 have e:(2:Int)=1+1:=rfl;rw[e,Ring.intCast_add,c1];grind
theorem kx(a b:Int):((a-b:Int):Re)=(a:Re)-(b:Re):=by
 rw[Int.sub_eq_add_neg,Ring.intCast_add,fB];grind
theorem Mg(x:Re)(t u:Int):at' x (aw [0-t,u])=x*(u:Re)-(t:Re):=by
 rw[at2,kx,c0];grind
theorem dz{n:Int}(h:0<n):(0:Re)<(n:Re):=by
 show q ((0:Nat):Rat)<q (n:Rat);rw[eA];exact Rat.intCast_lt_intCast.mpr h
theorem sq_nonneg(x:Re):0<=x*x:=by
 rcases AI x 0 with h|h|h
 ·have:=Re.mul_pos (x:=-x) (y:=-x) (by grind) (by grind);grind
 ·rw[h];grind
 ·have:=Re.mul_pos h h;grind
end Po
end SF
namespace SF
open Lean.Grind
namespace Po
open Re
open Classical in
theorem En{φ:Rat->Int}(loc:∀x:Re,∃d:Rat,0<d/\∀s t:Rat,s<=t->Re.ab (q s-x)<q d->Re.ab (q t-x)<q d->φ t<=φ s){a b:Rat}(j_:a<=b):φ b<=φ a:=by
 let ψ:Rat->Int:=fun t=>if ∀u,a<=u->u<=t->φ u<=φ a then 0 else 1;have h:ψ a=ψ b:=by
  refine jB (φ:=ψ) (fun x=>?_) j_;obtain⟨d,hd,h⟩:=loc x;have key:∀s t:Rat,s<=t->Re.ab (q s-x)<q d->Re.ab (q t-x)<q d->ψ s=ψ t:=fun s t uX hs ht=>by
   show(if _ then(0:Int) else 1)=if _ then 0 else 1;have mid:∀u,s<=u->u<=t->Re.ab (q u-x)<q d:=fun u h1 h2=>by
    have e1:=cv.mpr h1;have e2:=cv.mpr h2;rw[dC] at hs ht ⊢;constructor<;>grind
   by_cases c:∀u,a<=u->u<=s->φ u<=φ a
   ·rw[if_pos c,if_pos];intro u h1 h2;by_cases hu:u<=s
    ·exact c u h1 hu
    ·by_cases has:a<=s
     ·have g1:=c s has (by grind);have g2:=h s u (by grind) hs (mid u (by grind) h2);lia
     ·exact h a u h1 (mid a (by grind) (by grind)) (mid u (by grind) h2)
   ·rw[if_neg c,if_neg fun z=>c fun u h1 h2=>z u h1 (by grind)]
  refine⟨d,hd,fun s t hs ht=>?_⟩;by_cases uX:s<=t
  ·exact key s t uX hs ht
  ·exact(key t s (by grind) ht hs).symm
 have h0:ψ a=0:=if_pos fun u h1 h2=>by
  have:u=a:=by grind
  rw[this];lia
 rw[h0] at h;have h2:∀u,a<=u->u<=b->φ u<=φ a:=by
  by_cases c:∀u,a<=u->u<=b->φ u<=φ a
  ·exact c
  ·have:ψ b=1:=if_neg c;lia
 exact h2 b j_ (by grind)
open Classical in
theorem AW{p0:Po}{r:List Po}(hc:∀x:Re,Cb x (p0::aY p0::r))(hz:∀x:Re,at' x p0=0->at' x (aY p0)≠0)(x:Re):
 ∃d:Rat,0<d/\∃n0:Int,∀t:Rat,Re.ab (q t-x)<q d->(cg 0 (eU (q t) (p0::aY p0::r)):Int)=n0+(if at' x p0=0/\q t<x then 1 else 0):=by
 have c0:∀(s:Int)(l:List Int),s≠0->cg 0 (s::l)=cg s l:=fun s l hs=>by
  show(if s*0<0 then 1 else 0)+cg (if s≠0 then s else 0) l=_;rw[if_neg (by lia),if_pos hs];lia
 by_cases h0:at' x p0=0
 ·have h1:=hz x h0;have AK:Cb x (aY p0::r):=by
   have:=hc x;cases r with
   |nil=>exact this
   |cons e r=>exact this.2
  obtain⟨e,he,hr⟩:=rT h0 h1;obtain⟨f,hf,hs⟩:=iA r.length (aY p0) r (Nat.le_refl _) h1 AK;obtain⟨m',NF,m3,m4⟩:=lX he hf;refine⟨m',NF,(cg (aU (at' x (aY p0))) (eU x r):Int),fun t ht=>?_⟩;have k1:=hr (q t) (by grind);obtain⟨k2,k3⟩:=hs (q t) (by grind);have nz:aU (at' x (aY p0))≠0:=fun z=>h1 (bA z);show((cg 0 (aU (at' (q t) p0)::aU (at' (q t) (aY p0))::eU (q t) r):Nat):Int)=_;rw[k1,k2];rw[k2] at k3;generalize aU (at' x (aY p0))=s1 at nz k3 ⊢;have sq:0<s1*s1:=by
   rcases Int.lt_or_lt_of_ne nz with w|w
   ·exact Int.mul_pos_of_neg_of_neg w w
   ·exact Int.mul_pos w w
  rcases aR (q t-x) with z|z|z
  ·rw[z.2,if_pos ⟨h0,by grind⟩,c0 _ _ (by lia)];show(((if s1*(-1*s1)<0 then 1 else 0)+cg (if s1≠0 then s1 else -1*s1) (eU (q t) r):Nat):Int)=_;rw[if_pos (show s1*(-1*s1)<0 by grind),if_pos nz,k3];lia
  ·rw[z.2,if_neg (by rintro⟨_,w⟩;grind)];show(((if 0*s1*0<0 then 1 else 0)+((if s1*(if 0*s1≠0 then 0*s1 else 0)<0 then 1 else 0)+cg (if s1≠0 then s1 else(if 0*s1≠0 then 0*s1 else 0)) (eU (q t) r)):Nat):Int)=_;have e0:0*s1=0:=by lia
   rw[e0,if_neg (by lia),if_neg (c:=(0:Int)≠0) (by lia),if_neg (by lia),if_pos nz,k3];lia
  ·rw[z.2,if_neg (by rintro⟨_,w⟩;grind),c0 _ _ (by lia)];show(((if s1*(1*s1)<0 then 1 else 0)+cg (if s1≠0 then s1 else 1*s1) (eU (q t) r):Nat):Int)=_;rw[if_neg (show ¬s1*(1*s1)<0 by grind),if_pos nz,k3];lia
 ·obtain⟨e,he,hs⟩:=iA (r.length+1) p0 (aY p0::r) (Nat.le_refl _) h0 (hc x);refine⟨e,he,(cg (aU (at' x p0)) (eU x (aY p0::r)):Int),fun t ht=>?_⟩;obtain⟨k2,k3⟩:=hs (q t) (by grind);have nz:aU (at' x p0)≠0:=fun z=>h0 (bA z);show((cg 0 (aU (at' (q t) p0)::eU (q t) (aY p0::r)):Nat):Int)=_;rw[c0 _ _ (by rw[k2];exact nz),k3,if_neg (fun z=>h0 z.1)];lia
theorem Eo{p0:Po}{r:List Po}(hc:∀x:Re,Cb x (p0::aY p0::r))(hz:∀x:Re,at' x p0=0->at' x (aY p0)≠0){a b:Rat}(j_:a<=b):
 cg 0 (eU (q b) (p0::aY p0::r))<=cg 0 (eU (q a) (p0::aY p0::r)):=by
 have:=En (φ:=fun t=>(cg 0 (eU (q t) (p0::aY p0::r)):Int)) (fun x=>by
  obtain⟨d,hd,n0,h⟩:=AW hc hz x
  refine⟨d,hd,fun s t uX hs ht=>?_⟩
  have g:=cv.mpr uX
  show(cg 0 (eU (q t) (p0::aY p0::r)):Int)<=(cg 0 (eU (q s) (p0::aY p0::r)):Int)
  rw[h s hs,h t ht]
  by_cases c:at' x p0=0/\q t<x
  ·rw[if_pos c,if_pos ⟨c.1,by grind⟩];lia
  ·rw[if_neg c];split<;>lia) j_;have h2:(cg 0 (eU (q b) (p0::aY p0::r)):Int)<=(cg 0 (eU (q a) (p0::aY p0::r)):Int):=this;lia
open Classical in
theorem HK{p0:Po}{r:List Po}(hc:∀x:Re,Cb x (p0::aY p0::r))(hz:∀x:Re,at' x p0=0->at' x (aY p0)≠0){a b:Rat}(j_:a<=b)(h1:∀x y:Re,q a<=x->x<=q b->q a<=y->y<=q b->at' x p0=0->at' y p0=0->x=y):
 cg 0 (eU (q a) (p0::aY p0::r))<=cg 0 (eU (q b) (p0::aY p0::r))+1:=by
 have LU:∃z:Re,∀x:Re,q a<=x->x<=q b->at' x p0=0->x=z:=by
  by_cases c:∃z:Re,q a<=z/\z<=q b/\at' z p0=0
  ·obtain⟨z,z1,z2,z3⟩:=c;exact⟨z,fun x x1 x2 x3=>h1 x z x1 x2 z1 z2 x3 z3⟩
  ·exact⟨0,fun x x1 x2 x3=>absurd ⟨x,x1,x2,x3⟩ c⟩
 obtain⟨z,ZC⟩:=LU;let cl:Rat->Rat:=fun t=>if t<a then a else if b<t then b else t;have cl1:∀t,a<=cl t/\cl t<=b:=fun t=>by
  show a<=(if t<a then a else if b<t then b else t)/\(if t<a then a else if b<t then b else t)<=b;split
  ·exact⟨by grind,j_⟩
  ·split<;>constructor<;>grind
 have ZD:cl a=a:=by show(if a<a then a else if b<a then b else a)=a;rw[if_neg (by grind),if_neg (by grind)]
 have ZE:cl b=b:=by show(if b<a then a else if b<b then b else b)=b;rw[if_neg (by grind),if_neg (by grind)]
 let δ:Int:=if at' z p0=0 then 1 else 0;let φ:Rat->Int:=fun t=>(cg 0 (eU (q (cl t)) (p0::aY p0::r)):Int)+(if z<=q (cl t) then δ else 0);have h:φ a=φ b:=by
  refine jB (φ:=φ) (fun x=>?_) j_;by_cases xa:x<q a
  ·obtain⟨d,hd,hd2⟩:=small (sub_pos xa);refine⟨d,hd,fun s t hs ht=>?_⟩;have key:∀s:Rat,Re.ab (q s-x)<q d->cl s=a:=fun s hs=>by
    rw[dC] at hs;have:q s<q a:=by grind
    exact if_pos (eA.mp this)
   show(cg 0 (eU (q (cl s)) (p0::aY p0::r)):Int)+(if z<=q (cl s) then δ else 0)=(cg 0 (eU (q (cl t)) (p0::aY p0::r)):Int)+(if z<=q (cl t) then δ else 0);rw[key s hs,key t ht]
  ·by_cases xb:q b<x
   ·obtain⟨d,hd,hd2⟩:=small (sub_pos xb);refine⟨d,hd,fun s t hs ht=>?_⟩;have key:∀s:Rat,Re.ab (q s-x)<q d->cl s=b:=fun s hs=>by
     rw[dC] at hs;have g1:q b<q s:=by grind
     have g2:=eA.mp g1;show(if s<a then a else if b<s then b else s)=b;rw[if_neg (by grind),if_pos g2]
    show(cg 0 (eU (q (cl s)) (p0::aY p0::r)):Int)+(if z<=q (cl s) then δ else 0)=(cg 0 (eU (q (cl t)) (p0::aY p0::r)):Int)+(if z<=q (cl t) then δ else 0);rw[key s hs,key t ht]
   ·have ZF:q a<=x:=by grind
    have ZG:x<=q b:=by grind
    obtain⟨d,hd,n0,hn⟩:=AW hc hz x;have near:∀(e:Rat)(s:Rat),Re.ab (q s-x)<q e->Re.ab (q (cl s)-x)<q e:=fun e s hs=>by
     rw[dC] at hs ⊢;show -q e<q (if s<a then a else if b<s then b else s)-x/\q (if s<a then a else if b<s then b else s)-x<q e;split
     ·rename_i g;have:=eA.mpr g;constructor<;>grind
     ·split
      ·rename_i g;have:=eA.mpr g;constructor<;>grind
      ·exact hs
    by_cases xz:x=z
    ·subst xz;refine⟨d,hd,fun s t hs ht=>?_⟩;have key:∀s:Rat,Re.ab (q s-x)<q d->φ s=n0+δ:=fun s hs=>by
      show(cg 0 (eU (q (cl s)) (p0::aY p0::r)):Int)+(if x<=q (cl s) then δ else 0)=n0+δ;rw[hn _ (near d s hs)];by_cases c:q (cl s)<x
      ·rw[if_neg (c:=x<=q (cl s)) (by grind)];show n0+(if at' x p0=0/\q (cl s)<x then 1 else 0)+0=n0+(if at' x p0=0 then 1 else 0);by_cases c2:at' x p0=0
       ·rw[if_pos ⟨c2,c⟩,if_pos c2];lia
       ·rw[if_neg (fun z=>c2 z.1),if_neg c2];lia
      ·rw[if_pos (c:=x<=q (cl s)) (by grind),if_neg (fun z=>c z.2)];lia
     rw[key s hs,key t ht]
    ·have nr:¬at' x p0=0:=fun g=>xz (ZC x ZF ZG g);obtain⟨e,he,PK⟩:∃e:Rat,0<e/\∀s:Rat,Re.ab (q s-x)<q e->(z<=q s↔z<=x):=by
      rcases AI x z with g|g|g
      ·obtain⟨e,he,h2⟩:=small (sub_pos g);refine⟨e,he,fun s hs=>?_⟩;rw[dC] at hs;constructor<;>intro w<;>grind
      ·exact absurd g xz
      ·obtain⟨e,he,h2⟩:=small (sub_pos g);refine⟨e,he,fun s hs=>?_⟩;rw[dC] at hs;constructor<;>intro w<;>grind
     obtain⟨m,hm,m1,m2⟩:=lX hd he;refine⟨m,hm,fun s t hs ht=>?_⟩;have key:∀s:Rat,Re.ab (q s-x)<q m->φ s=n0+(if z<=x then δ else 0):=fun s hs=>by
      have g:=near m s hs;show(cg 0 (eU (q (cl s)) (p0::aY p0::r)):Int)+(if z<=q (cl s) then δ else 0)=_;rw[hn _ (by grind),if_neg (fun w=>nr w.1)];have g2:=PK (cl s) (by grind);by_cases c:z<=x
      ·rw[if_pos c,if_pos (g2.mpr c)];lia
      ·rw[if_neg c,if_neg (fun w=>c (g2.mp w))];lia
     rw[key s hs,key t ht]
 have h2:(cg 0 (eU (q (cl a)) (p0::aY p0::r)):Int)+(if z<=q (cl a) then δ else 0)=(cg 0 (eU (q (cl b)) (p0::aY p0::r)):Int)+(if z<=q (cl b) then δ else 0):=h;rw[ZD,ZE] at h2;have d1:0<=δ/\δ<=1:=by
  show 0<=(if at' z p0=0 then(1:Int) else 0)/\(if at' z p0=0 then(1:Int) else 0)<=1;split<;>lia
 split at h2<;>split at h2<;>lia
end Po
end SF
namespace SF
open Lean.Grind
namespace Po
open Re
noncomputable def vS(M ρ:Rat):Nat->Rat
 |0=>0
 |n+1=>M+ρ*vS M ρ n
noncomputable def yx(M ρ:Rat):Nat->Rat
 |0=>0
 |n+1=>vS M ρ n+ρ*yx M ρ n
noncomputable def C8(M ρ:Rat):Nat->Rat
 |0=>0
 |n+1=>ρ*C8 M ρ n+yx M ρ n
theorem HL(a:Rat):Re.ab (q a)=q (RR.ra a):=by
 unfold Re.ab RR.ra;by_cases h:a<0
 ·have h2:q a<0:=eA (r:=a) (t:=0) |>.mpr h;rw[if_pos h,if_pos h2,rR]
 ·have h2:¬q a<0:=fun z=>h (eA (r:=a) (t:=0) |>.mp z);rw[if_neg h,if_neg h2]
theorem yy{x:Re}{M ρ:Rat}(ku:0<=ρ)(hx:Re.ab x<=q ρ):∀xs:List Int,(∀a∈xs,RR.ra (a:Rat)<=M)->Re.ab (at' x (aw xs))<=q (vS M ρ xs.length)/\0<=vS M ρ xs.length
 |[],_=>by
  rw[dH,iX];exact⟨by show Re.ab 0<=q 0;rw[gH];unfold Re.ab;split<;>grind,by show(0:Rat)<=0;grind⟩
 |a::r,h=>by
  obtain⟨i1,i2⟩:=yy ku hx r fun b hb=>h b (List.mem_cons_of_mem _ hb);have ha:=h a List.mem_cons_self;have hM:0<=M:=by have:=RR.fA (a:Rat);grind
  rw[fN];have e1:=Re.gG ((a:Int):Re) (x*at' x (aw r));rw[Re.ck] at e1;have e2:=mul_le_mul hx i1 (cv (r:=0) (t:=ρ) |>.mpr ku) (Re.aK _);have e3:Re.ab ((a:Int):Re)<=q M:=by rw[cS,HL,cv];exact ha
  have e4:q (vS M ρ (a::r).length)=q M+q ρ*q (vS M ρ r.length):=by
   show q (M+ρ*vS M ρ r.length)=_;rw[nL,fV]
  refine⟨by rw[e4];grind,?_⟩;show 0<=M+ρ*vS M ρ r.length;have:=Rat.mul_nonneg ku i2;grind
theorem Ep{x:Re}{M ρ:Rat}(ku:0<=ρ)(hx:Re.ab x<=q ρ):∀xs:List Int,(∀a∈xs,RR.ra (a:Rat)<=M)->Re.ab (at' x (aY (aw xs)))<=q (yx M ρ xs.length)/\0<=yx M ρ xs.length
 |[],_=>by
  have:aY (aw [])=0:=by rw[<-fe];exact dH
  rw[this,iX];exact⟨by show Re.ab 0<=q 0;rw[gH];unfold Re.ab;split<;>grind,by show(0:Rat)<=0;grind⟩
 |a::r,h=>by
  obtain⟨i1,i2⟩:=Ep ku hx r fun b hb=>h b (List.mem_cons_of_mem _ hb);obtain⟨j1,j2⟩:=yy ku hx r fun b hb=>h b (List.mem_cons_of_mem _ hb);rw[pG,kD,g7,HD];have e1:=Re.gG (at' x (aw r)) (x*at' x (aY (aw r)));rw[Re.ck] at e1;have e2:=mul_le_mul hx i1 (cv (r:=0) (t:=ρ) |>.mpr ku) (Re.aK _);have e4:q (yx M ρ (a::r).length)=q (vS M ρ r.length)+q ρ*q (yx M ρ r.length):=by
   show q (vS M ρ r.length+ρ*yx M ρ r.length)=_;rw[nL,fV]
  refine⟨by rw[e4];grind,?_⟩;show 0<=vS M ρ r.length+ρ*yx M ρ r.length;have:=Rat.mul_nonneg ku i2;grind
theorem Er{x t:Re}{M ρ:Rat}(ku:0<=ρ)(hx:Re.ab x<=q ρ)(ht:Re.ab t<=q ρ):∀xs:List Int,(∀a∈xs,RR.ra (a:Rat)<=M)->
 Re.ab (at' t (aw xs)-at' x (aw xs)-(t-x)*at' x (aY (aw xs)))<=q (C8 M ρ xs.length)*(Re.ab (t-x)*Re.ab (t-x))/\0<=C8 M ρ xs.length
 |[],_=>by
  have:aY (aw [])=0:=by rw[<-fe];exact dH
  rw[this,dH];simp only[iX];have e:(0:Re)-0-(t-x)*0=0:=by grind
  rw[e];refine⟨?_,by show(0:Rat)<=0;grind⟩;show Re.ab 0<=q 0*_;rw[gH];have:Re.ab (0:Re)=0:=by unfold Re.ab;split<;>grind
  rw[this];grind
 |a::r,h=>by
  obtain⟨i1,i2⟩:=Er ku hx ht r fun b hb=>h b (List.mem_cons_of_mem _ hb);obtain⟨j1,j2⟩:=Ep ku hx r fun b hb=>h b (List.mem_cons_of_mem _ hb);rw[fN,fN,pG,kD,g7,HD];have e0:(a:Re)+t*at' t (aw r)-((a:Re)+x*at' x (aw r))-(t-x)*(at' x (aw r)+x*at' x (aY (aw r)))=
   t*(at' t (aw r)-at' x (aw r)-(t-x)*at' x (aY (aw r)))+at' x (aY (aw r))*((t-x)*(t-x)):=by grind
  rw[e0];have e1:=Re.gG (t*(at' t (aw r)-at' x (aw r)-(t-x)*at' x (aY (aw r)))) (at' x (aY (aw r))*((t-x)*(t-x)));rw[Re.ck,Re.ck,Re.ck] at e1;have e2:=mul_le_mul ht i1 (cv (r:=0) (t:=ρ) |>.mpr ku) (Re.aK _);have n2:0<=Re.ab (t-x)*Re.ab (t-x):=mul_nonneg (Re.aK _) (Re.aK _);have e3:=mul_le_mul j1 (Std.le_refl (a:=Re.ab (t-x)*Re.ab (t-x))) (cv (r:=0) (t:=yx M ρ r.length) |>.mpr j2) n2;have e4:q (C8 M ρ (a::r).length)=q ρ*q (C8 M ρ r.length)+q (yx M ρ r.length):=by
   show q (ρ*C8 M ρ r.length+yx M ρ r.length)=_;rw[nL,fV]
  refine⟨by rw[e4];grind,?_⟩;show 0<=ρ*C8 M ρ r.length+yx M ρ r.length;have:=Rat.mul_nonneg ku i2;grind
theorem Cf{f g u0 v0:Po}{c0:Int}{M:Nat}(hf:f≠0)(hg:g≠0)(eb:u0*f+v0*g=K c0)(Gs:c0≠0)(Gr:∀i,ab (f.c i)<=M)(Hu:∀i,ab (g.c i)<=M){A:Nat}(hA:len f+len g=A+2)(Ph:0<A):
 ∃(U V:Po)(r:Int),r≠0/\U*f+V*g=K r/\len V<=len f-1/\∀i,ab (V.c i)<=(((2*A*M+1)^(A-1):Nat):Int):=by
 have ow:=len_pos hf;have uS:=len_pos hg;obtain⟨U,V,lU,lV,eE,bU,bV,hz,D6⟩:=rO (f:=f) (g:=g) Gr Hu (n:=len g-1) (m:=len f-1) (A:=A) (by lia) Ph 1;have lR:len (U*f+V*g)<=1:=cJ fun i hi=>by
  by_cases Ua:i<1+A-1
  ·have:=hz (i-1) (by lia);have ei:1+(i-1)=i:=by lia
   rw[ei] at this;exact this
  ·show(U*f+V*g).c i=0;rw[kr,j8 (W:=U) (z:=f) (b:=1+A-1) lU (by lia) (by lia),j8 (W:=V) (z:=g) (b:=1+A-1) lV (by lia) (by lia)];rfl
 have er:=cj lR;refine⟨U,V,(U*f+V*g).c 0,?_,er,lV,bV⟩;intro z;rw[z,cR] at er;have dv:D f V:=⟨c0,Gs,u0*V-v0*U,by
  rw[<-eb]
  have:V*g=-(U*f):=by grind
  have e2:(u0*f+v0*g)*V=u0*f*V+v0*(V*g):=by grind
  rw[e2,this];grind⟩;have du:D g U:=⟨c0,Gs,v0*U-u0*V,by
  rw[<-eb]
  have:U*f=-(V*g):=by grind
  have e2:(u0*f+v0*g)*U=u0*(U*f)+v0*g*U:=by grind
  rw[e2,this];grind⟩;rcases eE with hU|hV
 ·have:=du.len hU;lia
 ·have:=dv.len hV;lia
theorem Es{f U V:Po}{r:Int}(hr:r≠0)(e:U*f+V*aY f=K r){x y:Re}(hx:at' x f=0)(hy:at' y f=0){VB TB:Rat}(h1:Re.ab (at' x V)<=q VB)(h2:Re.ab (at' y f-at' x f-(y-x)*at' x (aY f))<=q TB*(Re.ab (y-x)*Re.ab (y-x)))(hV:0<=VB)(hT:0<=TB)(h3:Re.ab (y-x)*q (VB*TB)<1):x=y:=by
 by_cases eE:y-x=0
 ·grind
 exfalso;have e1:at' x V*at' x (aY f)=((r:Int):Re):=by
  have:=congrArg (at' x) e;rw[kD,g7,g7,hx,Ec] at this;rw[<-this];grind
 have e2:(1:Re)<=Re.ab ((r:Int):Re):=by
  rw[cS,HL,<-AJ,cv];unfold RR.ra;split
  ·rename_i c;have c2:r<0:=by
    have:((r:Int):Rat)<((0:Int):Rat):=c;exact Rat.intCast_lt_intCast.mp this
   have:((1:Int):Rat)<=((-r:Int):Rat):=Rat.intCast_le_intCast.mpr (by lia);rw[Rat.intCast_neg] at this;exact this
  ·rename_i c;have c2:¬r<0:=fun z=>c (by
    have:((r:Int):Rat)<((0:Int):Rat):=Rat.intCast_lt_intCast.mpr z
    exact this);exact Rat.intCast_le_intCast (a:=1).mpr (by lia)
 rw[<-e1,Re.ck] at e2;have nd:=Re.aK (at' x (aY f));have e3:=mul_le_mul h1 (Std.le_refl (a:=Re.ab (at' x (aY f)))) (cv (r:=0) (t:=VB) |>.mpr hV) nd;rw[hx,hy] at h2;have e4:(0:Re)-0-(y-x)*at' x (aY f)=-((y-x)*at' x (aY f)):=by grind
 rw[e4,Re.yq,Re.ck] at h2;have hp:0<Re.ab (y-x):=by
  have g:=Re.aK (y-x);rcases AI (Re.ab (y-x)) 0 with g1|g1|g1
  ·grind
  ·exfalso;apply eE;unfold Re.ab at g1;split at g1<;>grind
  ·exact g1
 have e5:Re.ab (at' x (aY f))<=q TB*Re.ab (y-x):=by
  by_cases c:Re.ab (at' x (aY f))<=q TB*Re.ab (y-x)
  ·exact c
  ·exfalso;have c':0<Re.ab (at' x (aY f))-q TB*Re.ab (y-x):=by grind
   have:=mul_pos hp c';grind
 have e6:=mul_le_mul (Std.le_refl (a:=q VB)) e5 (cv (r:=0) (t:=VB) |>.mpr hV) nd;rw[fV] at h3;grind
end Po
end SF
namespace SF
open Lean.Grind
namespace Po
open Re
theorem c_{a:Rat}(h:1<=a):∀n:Nat,1<=a^n
 |0=>by rw[Rat.pow_zero];grind
 |n+1=>by
  have i:=c_ h n;rw[Rat.pow_succ];have:=Rat.mul_le_mul_of_nonneg_left (c:=a^n) (show(1:Rat)<=a from h) (by grind);grind
theorem gI(a:Rat)(m:Nat):∀n:Nat,a^(m+n)=a^m*a^n
 |0=>by rw[Nat.add_zero,Rat.pow_zero];grind
 |n+1=>by rw[<-Nat.add_assoc,Rat.pow_succ,Rat.pow_succ,gI a m n];grind
theorem mX(a:Rat)(m:Nat):∀n:Nat,a^(m*n)=(a^m)^n
 |0=>by rw[Nat.mul_zero,Rat.pow_zero,Rat.pow_zero]
 |n+1=>by rw[Nat.mul_succ,gI,Rat.pow_succ,mX a m n]
theorem mY{a:Rat}(h:1<=a){m n:Nat}(hm:m<=n):a^m<=a^n:=by
 obtain⟨k,rfl⟩:=Nat.exists_eq_add_of_le hm;rw[gI];have h1:=c_ h m;have h2:=c_ h k;have:=Rat.mul_le_mul_of_nonneg_left (c:=a^m) h2 (by grind);grind
theorem pN{a b:Rat}(ha:0<=a)(h:a<=b):∀n:Nat,0<=a^n/\a^n<=b^n
 |0=>by rw[Rat.pow_zero,Rat.pow_zero];constructor<;>grind
 |n+1=>by
  obtain⟨i1,i2⟩:=pN ha h n;rw[Rat.pow_succ,Rat.pow_succ];exact⟨Rat.mul_nonneg i1 ha,RR.tH i2 h (by grind) ha⟩
theorem Et{M ρ:Rat}(hM:0<=M)(ku:1<=ρ):∀n:Nat,vS M ρ n<=M*(2*ρ)^n
 |0=>by show 0<=M*(2*ρ)^0;rw[Rat.pow_zero];grind
 |n+1=>by
  have i:=Et hM ku n;show M+ρ*vS M ρ n<=M*(2*ρ)^(n+1);have h1:=c_ (a:=2*ρ) (by grind) n;rw[Rat.pow_succ];have g1:=Rat.mul_le_mul_of_nonneg_left (c:=ρ) i (by grind);have g2:1<=(2*ρ)^n*ρ:=by
   have:=RR.tH h1 ku (by grind) (by grind);grind
  have g3:=Rat.mul_le_mul_of_nonneg_left (c:=M) g2 hM;grind
theorem JR{M ρ:Rat}(hM:0<=M)(ku:1<=ρ):∀n:Nat,yx M ρ n<=M*(4*ρ)^n
 |0=>by show 0<=M*(4*ρ)^0;rw[Rat.pow_zero];grind
 |n+1=>by
  have i:=JR hM ku n;have j:=Et hM ku n;show vS M ρ n+ρ*yx M ρ n<=M*(4*ρ)^(n+1);have h1:=c_ (a:=4*ρ) (by grind) n;have h2:=(pN (a:=2*ρ) (b:=4*ρ) (by grind) (by grind) n).2;rw[Rat.pow_succ];have g0:=Rat.mul_le_mul_of_nonneg_left (c:=M) h2 hM;have g1:=Rat.mul_le_mul_of_nonneg_left (c:=ρ) i (by grind);have g2:(4*ρ)^n<=(4*ρ)^n*ρ:=by
   have:=Rat.mul_le_mul_of_nonneg_left (c:=(4*ρ)^n) ku (by grind);grind
  have g3:=Rat.mul_le_mul_of_nonneg_left (c:=M) g2 hM;have g4:0<=M*((4*ρ)^n*ρ):=Rat.mul_nonneg hM (by grind);grind
theorem JS{M ρ:Rat}(hM:0<=M)(ku:1<=ρ):∀n:Nat,C8 M ρ n<=M*(8*ρ)^n
 |0=>by show 0<=M*(8*ρ)^0;rw[Rat.pow_zero];grind
 |n+1=>by
  have i:=JS hM ku n;have j:=JR hM ku n;show ρ*C8 M ρ n+yx M ρ n<=M*(8*ρ)^(n+1);have h1:=c_ (a:=8*ρ) (by grind) n;have h2:=(pN (a:=4*ρ) (b:=8*ρ) (by grind) (by grind) n).2;rw[Rat.pow_succ];have g0:=Rat.mul_le_mul_of_nonneg_left (c:=M) h2 hM;have g1:=Rat.mul_le_mul_of_nonneg_left (c:=ρ) i (by grind);have g2:(8*ρ)^n<=(8*ρ)^n*ρ:=by
   have:=Rat.mul_le_mul_of_nonneg_left (c:=(8*ρ)^n) ku (by grind);grind
  have g3:=Rat.mul_le_mul_of_nonneg_left (c:=M) g2 hM;have g4:0<=M*((8*ρ)^n*ρ):=Rat.mul_nonneg hM (by grind);grind
theorem JT{b:Nat}{a:Int}(h:Bd b a):RR.ra (a:Rat)<=(2:Rat)^b:=by
 unfold Bd at h;have e:((2:Rat)^b)=(((2^b:Nat):Int):Rat):=by
  rw[Int.natCast_pow,Rat.intCast_pow];rfl
 rw[e,RR.JK];rw[<-Rat.intCast_neg];constructor
 ·exact Rat.intCast_le_intCast.mpr (by lia)
 ·exact Rat.intCast_le_intCast.mpr (by lia)
theorem sep{xs:List Int}(tx:Tr xs)(hn:2<=xs.length)(ZH:xs.length<=13)(bx:∀a∈xs,Bd 100 a)(hs:Gu (aw xs) (aw xs)){x y:Re}(hx:at' x (aw xs)=0)(hy:at' y (aw xs)=0)(rx:Re.ab x<=q ((2:Rat)^110))(ry:Re.ab y<=q ((2:Rat)^110))(h:Re.ab (y-x)<=q (1/(2:Rat)^5500)):x=y:=by
 have lf:len (aw xs)=xs.length:=bO tx;have Dh:aw xs≠0:=cB (by lia);have lg:len (aY (aw xs))=xs.length-1:=by rw[Au,lf]
 have RN:aY (aw xs)≠0:=cB (by lia);have gc:=dm (xs:=xs) (ys:=cb xs) (.inl Dh);have g1:=yi tx hs;have o1:aw [1]=1:=Po.ext fun i=>by
  rw[bC,rJ];cases i with
  |zero=>rfl
  |succ i=>rfl
 rw[g1,o1,fe] at gc;obtain⟨bu,bv,ba,rK,PL⟩:=gc.bz;have Eu:bu*aw xs+bv*aY (aw xs)=K ba:=by rw[PL];grind
 have WX:∀i,Bd 100 (co xs i):=fun i=>by
  by_cases hi:i<xs.length
  ·rw[bY hi];exact bx _ (List.getElem_mem _)
  ·rw[cG (by lia)];show(0:Int).natAbs<2^100;decide
 have m1:∀i,ab ((aw xs).c i)<=((2^104:Nat):Int):=fun i=>by
  have:=WX i;unfold Bd at this;rw[bC];unfold ab;have e:(2:Nat)^100<=2^104:=Nat.pow_le_pow_right (by decide) (by decide);lia
 have m2:∀i,ab ((aY (aw xs)).c i)<=((2^104:Nat):Int):=fun i=>by
  rw[<-fe,bC];by_cases hi:i<xs.length-1
  ·have e0:co (cb xs) i=((i+1:Nat):Int)*co xs (i+1):=by rw[lJ];rfl
   rw[e0];have h1:Bd 4 (((i+1:Nat):Int)):=Bd.of_two (by lia) (by lia);have:=h1.mul (WX (i+1));unfold Bd at this;unfold ab;lia
  ·rw[cG (by unfold cb;rw[aQ];lia)];show(0:Int)<=_;lia
 obtain⟨U,V,r,hr,e,lV,bV⟩:=Cf (M:=2^104) (A:=2*xs.length-3) Dh RN Eu rK m1 m2 (by rw[lf,lg];lia) (by lia);have hH:(2*(2*xs.length-3)*2^104+1)^(2*xs.length-3-1)<=2^2420:=by
  have a1:2*(2*xs.length-3)*2^104+1<=2^110:=by lia
  have a2:=Nat.pow_le_pow_left a1 (2*xs.length-3-1);have a3:(2^110)^(2*xs.length-3-1)<=(2^110)^22:=Nat.pow_le_pow_right (by decide) (by lia);have a4:((2:Nat)^110)^22=2^2420:=by rw[<-Nat.pow_mul]
  lia
 have ZI:∀a∈lst V,Bd 2421 a:=fun a ha=>by
  obtain⟨i,hi,ea⟩:=List.getElem_of_mem ha;have:=bV i;rw[<-jw,bY hi,ea] at this;unfold ab at this;unfold Bd;have e2:(2:Nat)^2420<2^2421:=Nat.pow_lt_pow_right (by decide) (by decide);lia
 have WY:(1:Rat)<=2^110:=c_ (by grind) _;obtain⟨v1,v2⟩:=yy (M:=(2:Rat)^2421) (ρ:=2^110) (by grind) rx (lst V) fun a ha=>JT (ZI a ha);obtain⟨t1,t2⟩:=Er (M:=(2:Rat)^100) (ρ:=2^110) (by grind) rx ry xs fun a ha=>JT (bx a ha);rw[di] at v1;refine Es hr e hx hy v1 t1 v2 t2 ?_;have ZJ:(lst V).length<=13:=by
  have:(lst V).length=len V:=rfl;lia
 have b1:vS ((2:Rat)^2421) (2^110) (lst V).length<=2^2421*(2*2^110)^13:=by
  have:=Et (M:=(2:Rat)^2421) (ρ:=2^110) (Rat.le_of_lt (Rat.pow_pos (by grind))) WY (lst V).length;have g:=mY (a:=2*(2:Rat)^110) (by grind) ZJ;have g2:=Rat.mul_le_mul_of_nonneg_left (c:=(2:Rat)^2421) g (Rat.le_of_lt (Rat.pow_pos (by grind)));grind
 have b2:C8 ((2:Rat)^100) (2^110) xs.length<=2^100*(8*2^110)^13:=by
  have:=JS (M:=(2:Rat)^100) (ρ:=2^110) (Rat.le_of_lt (Rat.pow_pos (by grind))) WY xs.length;have g:=mY (a:=8*(2:Rat)^110) (by grind) ZH;have g2:=Rat.mul_le_mul_of_nonneg_left (c:=(2:Rat)^100) g (Rat.le_of_lt (Rat.pow_pos (by grind)));grind
 have c1:(2:Rat)*2^110=2^111:=by rw[Rat.pow_succ];grind
 have c2:(8:Rat)*2^110=2^113:=by rw[Rat.pow_succ,Rat.pow_succ,Rat.pow_succ];grind
 rw[c1,<-mX,<-gI] at b1;rw[c2,<-mX,<-gI] at b2;have b3:=RR.tH b1 b2 (Rat.le_of_lt (Rat.pow_pos (by grind))) t2;rw[<-gI] at b3;have b4:vS ((2:Rat)^2421) (2^110) (lst V).length*C8 ((2:Rat)^100) (2^110) xs.length<2^5500:=by
  have g:(2:Rat)^(2421+111*13+(100+113*13))<=2^5499:=mY (by grind) (by decide);have g2:(2:Rat)^5500=2^5499*2:=Rat.pow_succ ..;have g3:(0:Rat)<2^5499:=Rat.pow_pos (by grind);grind
 generalize vS ((2:Rat)^2421) (2^110) (lst V).length*C8 ((2:Rat)^100) (2^110) xs.length=W at b4 b3 ⊢;have p0:(0:Rat)<2^5500:=Rat.pow_pos (by grind);generalize (2:Rat)^5500=Z at b4 p0 h ⊢;by_cases hW:0<=W
 ·have f1:=mul_le_mul h (Std.le_refl (a:=q W)) (cv (r:=0) (t:=1/Z) |>.mpr (Rat.le_of_lt (RR.yp (by grind) p0))) (cv (r:=0) (t:=W) |>.mpr hW);have f2:q (1/Z)*q W<1:=by
   rw[<-fV,<-AJ,eA,Rat.div_def,Rat.one_mul];have:=(Rat.mul_lt_mul_left (Rat.inv_pos.mpr p0)).mpr b4;rw[Rat.inv_mul_cancel _ (by grind)] at this;exact this
  grind
 ·have f1:q W<=0:=cv (r:=W) (t:=0) |>.mpr (by grind);have f2:0<=Re.ab (y-x)*(-q W):=mul_nonneg (Re.aK _) (by grind);grind
end Po
end SF
namespace SF
open Lean.Grind
namespace Po
open Re
theorem Mh(t u:Int):hv t u []=0:=by simp[hv,aF]
theorem AX(t u:Int):∀xs:List Int,xs≠[]->∃w,hv t u xs=co xs (xs.length-1)*t^(xs.length-1)+u*w
 |[],h=>absurd rfl h
 |[x],_=>⟨0,by
  rw[sV,Mh]
  show 0*t+x*u^0=x*t^0+u*0
  rw[Int.pow_zero,Int.pow_zero];lia⟩
 |x::y::r,_=>by
  obtain⟨w,e⟩:=AX t u (y::r) (by simp);refine⟨w*t+x*u^r.length,?_⟩;rw[sV,e];have e1:(y::r).length-1=r.length:=by simp
  have e2:(x::y::r).length-1=r.length+1:=by simp
  have e3:co (x::y::r) (r.length+1)=co (y::r) r.length:=rfl;have e4:(y::r).length=r.length+1:=by simp
  rw[e1,e2,e3,e4,Int.pow_succ,Int.pow_succ];generalize co (y::r) r.length=l;generalize t^r.length=a;generalize u^r.length=b;grind
theorem kc{a b c:Int}(d:a∣b*c)(h:Int.gcd a b=1):a∣c:=by
 have d1:a.natAbs∣b.natAbs*c.natAbs:=by rw[<-Int.natAbs_mul];exact Int.natAbs_dvd_natAbs.mpr d
 have hc:Nat.Coprime a.natAbs b.natAbs:=h;exact Int.natAbs_dvd_natAbs.mp (hc.dvd_of_dvd_mul_left d1)
theorem AY{u t:Int}(h:Int.gcd u t=1){l:Int}:∀k:Nat,u∣l*t^k->u∣l
 |0,d=>by rw[Int.pow_zero,Int.mul_one] at d;exact d
 |k+1,d=>by
  rw[Int.pow_succ,<-Int.mul_assoc] at d;exact AY h k (kc (by rw[Int.mul_comm] at d;exact d) h)
theorem AZ{xs:List Int}(hx:xs≠[]){t u o:Int}(hg:Int.gcd t u=1)(ho:o∣u)(hn:¬o∣co xs (xs.length-1)):hv t u xs≠0:=fun z=>by
 obtain⟨w,e⟩:=AX t u xs hx;rw[z] at e;have d:u∣co xs (xs.length-1)*t^(xs.length-1):=⟨-w,by rw[Int.mul_neg];lia⟩;exact hn (Int.dvd_trans ho (AY (by rw[Int.gcd_comm];exact hg) _ d))
noncomputable def Pt(o:Int)(k:Nat)(m t u:Int):Prop:=t*(o*2^k)=(2^k+o*m)*u
theorem nO{o:Int}(h:Int.gcd o 2=1):∀k:Nat,Int.gcd o (2^k)=1
 |0=>by rw[Int.pow_zero];exact Int.gcd_one_right _
 |k+1=>by
  have i:=nO h k;rw[Int.pow_succ];rw[Int.gcd_eq_one_iff] at*
  ·intro c L7 AK;have g:Int.gcd c 2=1:=by
    have:(Int.gcd c 2:Int)∣1:=h _ (Int.dvd_trans (Int.gcd_dvd_left ..) L7) (Int.gcd_dvd_right ..);have h2:=Int.le_of_dvd (by decide) this;have h3:0<Int.gcd c 2:=Int.gcd_pos_of_ne_zero_right _ (by decide);lia
   exact i c L7 (kc (by rw[Int.mul_comm] at AK;exact AK) g)
theorem Pt.odd{o:Int}{k:Nat}{m t u:Int}(h:Pt o k m t u)(ho:Int.gcd o 2=1):o∣u:=by
 have d:o∣(2^k+o*m)*u:=⟨t*2^k,by rw[<-h];grind⟩;have g:Int.gcd o (2^k+o*m)=1:=by
  rw[Int.gcd_comm,Int.add_comm,Int.gcd_mul_left_add_left,Int.gcd_comm];exact nO ho k
 exact kc d g
theorem Pt.up{o:Int}{k:Nat}{m t u:Int}(h:Pt o k m t u):Pt o (k+1) (2*m) t u:=by
 unfold Pt at*;rw[Int.pow_succ];generalize (2:Int)^k=z at*;grind
theorem Pt.mid{o:Int}{k:Nat}{m t u m' t' u' c d:Int}(h:Pt o k m t u)(h':Pt o k m' t' u')(hu:0<u)(dS:0<u')(e:c*(2*u*u')=(t*u'+t'*u)*d):Pt o (k+1) (m+m') c d:=by
 unfold Pt at*;rw[Int.pow_succ];generalize (2:Int)^k=z at*;have hp:=Int.mul_pos hu dS;refine Int.eq_of_mul_eq_mul_right (Int.ne_of_gt hp) ?_;grind
theorem Pt.bits{o:Int}{k:Nat}{m t u b:Int}(h:Pt o k m t u)(ho:0<o)(hu:0<u)(hg:Int.gcd t u=1)(bo:Bd 102 o)(bb:0<b/\b<=2^102)(h1:-(b*2^k)<=m)(h2:m<=b*2^k):Bd (k+210) t/\Bd (k+210) u:=by
 have hz:(0:Int)<2^k:=Int.pow_pos (by decide);have ZK:0<o*2^k:=Int.mul_pos ho hz;have d:u∣o*2^k:=by
  have:u∣t*(o*2^k):=⟨2^k+o*m,by rw[show t*(o*2^k)=_ from h];grind⟩;exact kc this (by rw[Int.gcd_comm];exact hg)
 have hle:=Int.le_of_dvd ZK d;have bz:Bd (k+1) ((2:Int)^k):=by
  unfold Bd;rw[Int.natAbs_pow];exact Nat.pow_lt_pow_right (by decide) (by lia)
 have ZL:=bo.mul bz;have bu:Bd (k+103) u:=by
  unfold Bd at*;have e:102+(k+1)=k+103:=by lia
  rw[e] at ZL;lia
 refine⟨?_,bu.mono (by lia)⟩;have bm:Bd (k+105) m:=by
  have b3:Bd 103 b:=by unfold Bd;lia
  have:=b3.mul bz;unfold Bd at*;have e:103+(k+1)=k+104:=by lia
  rw[e] at this;have e2:(2:Nat)^(k+105)=2^(k+104)*2:=Nat.pow_succ ..;lia
 have bom:=bo.mul bm;have bs:Bd (k+209) (2^k+o*m):=((bz.mono (n:=k+207) (by lia)).add (bom.mono (n:=k+207) (by lia))).mono (by lia);have key:t.natAbs<=(2^k+o*m).natAbs:=by
  have e:t.natAbs*(o*2^k).natAbs=(2^k+o*m).natAbs*u.natAbs:=by rw[<-Int.natAbs_mul,<-Int.natAbs_mul,show t*(o*2^k)=_ from h]
  have h3:u.natAbs<=(o*2^k).natAbs:=by lia
  have h4:(2^k+o*m).natAbs*u.natAbs<=(2^k+o*m).natAbs*(o*2^k).natAbs:=Nat.mul_le_mul_left _ h3;have h5:t.natAbs*(o*2^k).natAbs<=(2^k+o*m).natAbs*(o*2^k).natAbs:=Nat.le_trans (Nat.le_of_eq e) h4;exact Nat.le_of_mul_le_mul_right h5 (by lia)
 unfold Bd at*;have e2:(2:Nat)^(k+210)=2^(k+209)*2:=Nat.pow_succ ..;lia
theorem Pt.val{o:Int}{k:Nat}{m t u:Int}(h:Pt o k m t u)(ho:0<o)(hu:0<u):(t:Rat)/(u:Rat)=1/(o:Rat)+(m:Rat)/2^k:=by
 have Df:(o:Rat)≠0:=fun z=>by
  have:=Rat.intCast_inj.mp (show(o:Rat)=((0:Int):Rat) from z);lia
 have dS:(u:Rat)≠0:=fun z=>by
  have:=Rat.intCast_inj.mp (show(u:Rat)=((0:Int):Rat) from z);lia
 have hz:(2:Rat)^k≠0:=fun z=>by
  have:(0:Rat)<2^k:=Rat.pow_pos (by grind);grind
 have e:(t:Rat)*((o:Rat)*2^k)=(2^k+(o:Rat)*(m:Rat))*(u:Rat):=by
  have:=congrArg (fun z:Int=>(z:Rat)) h;simp only[Rat.intCast_mul,Rat.intCast_add,Rat.intCast_pow] at this;exact this
 generalize (2:Rat)^k=z at*;generalize (o:Rat)=o' at*;generalize (u:Rat)=u' at*;generalize (t:Rat)=t' at*;generalize (m:Rat)=m' at*;grind
theorem pO:∀(l:List Int)(b:Int),b=1\/b=-1->(∀x∈l,x=0\/x=1\/x=-1)->(-1)^cg b l=b*l.foldl (fun b s=>if s≠0 then s else b) b
 |[],b,hb,_=>by
  show(-1:Int)^0=b*b;rcases hb with rfl|rfl<;>rfl
 |x::r,b,hb,h=>by
  have hx:=h x List.mem_cons_self;have hr:=fun y hy=>h y (List.mem_cons_of_mem _ hy);show(-1:Int)^((if x*b<0 then 1 else 0)+cg (if x≠0 then x else b) r)=b*r.foldl (fun b s=>if s≠0 then s else b) (if x≠0 then x else b);rcases hx with rfl|hx
  ·rw[if_neg (by lia),if_neg (by lia),Nat.zero_add];exact pO r b hb hr
  ·have Mi:x≠0:=by lia
   rw[if_pos Mi,Int.pow_add];rw[pO r x hx hr];have:(-1:Int)^(if x*b<0 then 1 else 0)=b*x:=by
    rcases hb with rfl|rfl<;>rcases hx with rfl|rfl<;>rfl
   rw[this];have:x*x=1:=by rcases hx with rfl|rfl<;>rfl
   generalize List.foldl _ x r=z;grind
theorem Cg{l:List Int}{s:Int}(hs:s≠0)(b:Int):(l++[s]).foldl (fun b s=>if s≠0 then s else b) b=s:=by
 rw[List.foldl_append];show(if s≠0 then s else _)=s;rw[if_pos hs]
theorem A0(x:Re):aU x=0\/aU x=1\/aU x=-1:=by
 rcases aR x with z|z|z
 ·exact .inr (.inr z.2)
 ·exact .inl z.2
 ·exact .inr (.inl z.2)
theorem vT{x:Re}:∀{ps:List Po}{l:Po},Cb x (ps++[l])->at' x l≠0
 |[],l,h=>h
 |[a],l,h=>h
 |a::b::[],l,h=>h.2
 |a::b::c::r,l,h=>vT (ps:=b::c::r) h.2
theorem HM{p0 l:Po}{r:List Po}(hc:∀x:Re,Cb x (p0::(r++[l]))){a b:Rat}(j_:a<=b)(ha:at' (q a) p0≠0)(hb:at' (q b) p0≠0):
 aU (at' (q a) p0)*aU (at' (q b) p0)=(-1)^cg 0 (eU (q a) (p0::(r++[l])))*(-1)^cg 0 (eU (q b) (p0::(r++[l]))):=by
 have hl:∀x:Re,at' x l≠0:=fun x=>vT (ps:=p0::r) (hc x);have A1:aU (at' (q a) l)=aU (at' (q b) l):=by
  refine jB (φ:=fun t=>aU (at' (q t) l)) (fun x=>?_) j_;obtain⟨d,hd,h⟩:=ka (hl x);exact⟨d,hd,fun s t hs ht=>by rw[h _ hs,h _ ht]⟩
 have key:∀c:Rat,at' (q c) p0≠0->(-1)^cg 0 (eU (q c) (p0::(r++[l])))=aU (at' (q c) p0)*aU (at' (q c) l):=fun c Gs=>by
  have h1:=tJ Gs;have e:eU (q c) (p0::(r++[l]))=aU (at' (q c) p0)::(eU (q c) r++[aU (at' (q c) l)]):=by
   unfold eU;rw[List.map_cons,List.map_append];rfl
  rw[e];have e2:cg 0 (aU (at' (q c) p0)::(eU (q c) r++[aU (at' (q c) l)]))=cg (aU (at' (q c) p0)) (eU (q c) r++[aU (at' (q c) l)]):=by
   show(if aU (at' (q c) p0)*0<0 then 1 else 0)+cg (if aU (at' (q c) p0)≠0 then aU (at' (q c) p0) else 0) _=_;rw[if_neg (by lia),if_pos (fun z=>Gs (bA z))];lia
  rw[e2,pO _ _ (h1.symm) (fun x hx=>?_),Cg (fun z=>hl _ (bA z))];rcases List.mem_append.mp hx with z|z
  ·obtain⟨y,_,rfl⟩:=List.mem_map.mp z;exact A0 _
  ·rw[List.mem_singleton.mp z];exact A0 _
 rw[key a ha,key b hb,A1];have:=tJ (hl (q b));have h2:aU (at' (q b) l)*aU (at' (q b) l)=1:=by rcases this with z|z<;>rw[z]<;>rfl
 generalize aU (at' (q b) l)=z at*;grind
end Po
end SF
namespace SF
open Lean.Grind
namespace Po
open Re
theorem Ew{x:Re}{L r:Rat}(hL:0<L)(hr:0<r)(hx:q (2*r)<=Re.ab x){e:Int}(he:RR.ra (e:Rat)=L):∀l:List Int,(∀k,k<l.length->RR.ra ((co l (l.length-1-k):Int):Rat)<=L*r^(k+1))->q (L*r^l.length)<=Re.ab (at' x (aw (l++[e])))
 |[],_=>by
  show q (L*r^0)<=Re.ab (at' x (aw [e]));have e1:at' x (aw [e])=(e:Re):=by rw[fN,dH,iX];grind
  have e2:L*r^0=L:=by rw[Rat.pow_zero];grind
  rw[e1,cS,HL,he,e2];exact Re.cv.mpr Rat.le_refl
 |a::l,h=>by
  have ih:=Ew hL hr hx he l fun k hk=>by
   have:=h k (by rw[List.length_cons];lia);have e1:(a::l).length-1-k=(l.length-1-k)+1:=by rw[List.length_cons];lia
   rw[e1] at this;exact this
  have ha:=h l.length (by rw[List.length_cons];lia);have e0:(a::l).length-1-l.length=0:=by rw[List.length_cons];lia
  rw[e0] at ha;have NK:Re.ab (a:Re)<=q (L*r^(l.length+1)):=by
   rw[cS,HL];exact Re.cv.mpr ha
  show q (L*r^(l.length+1))<=Re.ab (at' x (aw (a::(l++[e]))));rw[fN];generalize at' x (aw (l++[e]))=A at ih ⊢;have hp:0<=L*r^l.length:=Rat.le_of_lt (Rat.mul_pos hL (Rat.pow_pos hr));have uS:0<=2*r:=by grind
  have m1:q (2*r)*q (L*r^l.length)<=Re.ab x*Re.ab A:=Re.mul_le_mul hx ih (Re.aK x) (by rw[<-Re.gH];exact Re.cv.mpr hp);rw[<-Re.fV,<-Re.ck] at m1;have e3:2*r*(L*r^l.length)=L*r^(l.length+1)+L*r^(l.length+1):=by rw[Rat.pow_succ];grind
  rw[e3,Re.nL] at m1;have m2:=Re.gG ((a:Re)+x*A) (-(a:Re));rw[Re.yq] at m2;have e4:(a:Re)+x*A+-(a:Re)=x*A:=by grind
  rw[e4] at m2;grind
theorem Mj{xs:List Int}(hn:xs≠[]){r:Int}(hr:0<r)(hl:co xs (xs.length-1)≠0)(W:∀k,k<xs.length-1->ab (co xs (xs.length-2-k))<=ab (co xs (xs.length-1))*r^(k+1)){x:Re}(hx:q (2*(r:Rat))<=Re.ab x):at' x (aw xs)≠0:=by
 have JU:∀a:Int,RR.ra (a:Rat)=((ab a:Int):Rat):=fun a=>by
  unfold RR.ra ab;split
  ·rename_i h;have h2:a<0:=Rat.intCast_lt_intCast.mp h;have e:((a.natAbs:Nat):Int)=-a:=by lia
   rw[e,Rat.intCast_neg]
  ·rename_i h;have h2:¬a<0:=fun z=>h (Rat.intCast_lt_intCast.mpr z);have e:((a.natAbs:Nat):Int)=a:=by lia
   rw[e]
 have Ls:(0:Rat)<(r:Rat):=Rat.intCast_pos.mpr hr;have f9:=List.length_pos_iff.mpr hn;have Um:xs=xs.dropLast++[co xs (xs.length-1)]:=by
  have h1:=(List.dropLast_concat_getLast hn).symm;have h2:xs.getLast hn=co xs (xs.length-1):=by
   rw[List.getLast_eq_getElem,<-bY]
  rw[h2] at h1;exact h1
 have ZM:xs.dropLast.length=xs.length-1:=List.length_dropLast;have hL:(0:Rat)<((ab (co xs (xs.length-1)):Int):Rat):=Rat.intCast_pos.mpr (f7 hl);have key:=Ew (x:=x) hL Ls hx (e:=co xs (xs.length-1)) (JU _) xs.dropLast fun k hk=>by
  rw[ZM] at hk ⊢;have hi:xs.length-1-1-k<xs.length-1:=by lia
  have e1:co xs.dropLast (xs.length-1-1-k)=co xs (xs.length-2-k):=by
   have e2:xs.length-1-1-k=xs.length-2-k:=by lia
   rw[e2];have h3:xs.length-2-k<xs.dropLast.length:=by lia
   rw[bY h3,bY (by lia),List.getElem_dropLast]
  rw[e1,JU];have:=Rat.intCast_le_intCast.mpr (W k hk);rw[Rat.intCast_mul,Rat.intCast_pow] at this;exact this
 rw[<-Um] at key;intro z;rw[z] at key;have h0:Re.ab (0:Re)=0:=by unfold Re.ab;rw[if_neg (by grind)]
 rw[h0,<-Re.gH] at key;have h2:=Re.cv.mp key;have h3:(0:Rat)<((ab (co xs (xs.length-1)):Int):Rat)*(r:Rat)^xs.dropLast.length:=Rat.mul_pos hL (Rat.pow_pos Ls);grind
theorem ZN{z:Rat}(h:0<z):aU (q z)=1:=bK (by rw[<-Re.gH];exact Re.eA.mpr h)
theorem yz(a b:Rat):q (a-b)=q a-q b:=by
 have e:a-b=a+-b:=by grind
 rw[e,Re.nL,Re.rR];grind
theorem Ml{z n:Rat}(h1:1<=n)(h:n+1<=z\/z<=-(n+1)):n<z*z:=by
 rcases h with h|h
 ·have:=Rat.mul_le_mul_of_nonneg_left h (show(0:Rat)<=z by grind);have:=Rat.mul_le_mul_of_nonneg_left (show 1<=z by grind) (show(0:Rat)<=n+1 by grind);grind
 ·have:=Rat.mul_le_mul_of_nonneg_left (show n+1<=-z by grind) (show(0:Rat)<=-z by grind);have:=Rat.mul_le_mul_of_nonneg_left (show 1<=-z by grind) (show(0:Rat)<=n+1 by grind);grind
end Po
theorem vU{t u t' u':Int}(hu:0<u)(dS:0<u')(g:Int.gcd t u=1)(g':Int.gcd t' u'=1)(e:t*u'=t'*u):t=t'/\u=u':=by
 have d1:u∣u':=Po.kc (b:=t) ⟨t',by rw[e];grind⟩ (by rw[Int.gcd_comm];exact g);have d2:u'∣u:=Po.kc (b:=t') ⟨t,by rw[<-e];grind⟩ (by rw[Int.gcd_comm];exact g');have ed:u=u':=Int.le_antisymm (Int.le_of_dvd dS d1) (Int.le_of_dvd hu d2);subst ed;exact⟨Int.eq_of_mul_eq_mul_right (Int.ne_of_gt hu) e,rfl⟩
noncomputable abbrev Q4:=Int×Int×Int×Int
noncomputable def vV(t u t' u':Int):Int:=rt (t*u'+t'*u) (2*u*u')
noncomputable def tL(t u t' u':Int):Int:=ru (t*u'+t'*u) (2*u*u')
theorem Mm{t u t' u':Int}(hu:0<u)(dS:0<u'):0<tL t u t' u'/\Int.gcd (vV t u t' u') (tL t u t' u')=1/\vV t u t' u'*(2*u*u')=(t*u'+t'*u)*tL t u t' u':=by
 have hb:2*u*u'≠0:=Int.ne_of_gt (Int.mul_pos (by lia) dS);exact⟨Lz hb,O8 hb,Ha hb⟩
theorem Ey{t u t' u' c d:Int}(hu:0<u)(dS:0<u')(hd:0<d)(hg:Int.gcd c d=1)(e:c*(2*u*u')=(t*u'+t'*u)*d):c=vV t u t' u'/\d=tL t u t' u':=by
 obtain⟨h1,h2,h3⟩:=Mm (t:=t) (t':=t') hu dS;refine vU hd h1 hg h2 ?_;have hb:2*u*u'≠0:=Int.ne_of_gt (Int.mul_pos (by lia) dS);generalize 2*u*u'=b at*;generalize t*u'+t'*u=a at*;generalize vV t u t' u'=c' at*;generalize tL t u t' u'=d' at*;refine Int.eq_of_mul_eq_mul_right hb ?_;have:c*d'*b=c*b*d':=by grind
 rw[this,e];have:c'*d*b=c'*b*d:=by grind
 rw[this,h3];grind
noncomputable def kE(δ:Int->Int->Int->Int->Int):Nat->Int->Int->Int->Int->List Q4
 |0,_,_,_,_=>[]
 |n+1,t,u,t',u'=>
  if δ t u t' u'=1 then[(t,u,t',u')]
  else if 1<δ t u t' u' then kE δ n t u (vV t u t' u') (tL t u t' u')++kE δ n (vV t u t' u') (tL t u t' u') t' u'
  else[]
theorem Ez{δ:Int->Int->Int->Int->Int}{n:Nat}{t u t' u':Int}(h:δ t u t' u'=1):kE δ (n+1) t u t' u'=[(t,u,t',u')]:=if_pos h
theorem EA{δ:Int->Int->Int->Int->Int}{n:Nat}{t u t' u':Int}(h:1<δ t u t' u'):kE δ (n+1) t u t' u'=kE δ n t u (vV t u t' u') (tL t u t' u')++kE δ n (vV t u t' u') (tL t u t' u') t' u':=
 (if_neg (by lia)).trans (if_pos h)
theorem HN{δ:Int->Int->Int->Int->Int}{n:Nat}{t u t' u':Int}(h:¬δ t u t' u'=1)(h2:¬1<δ t u t' u'):kE δ (n+1) t u t' u'=[]:=(if_neg h).trans (if_neg h2)
end SF
namespace SF
open Lean.Grind
namespace Po
open Re
open Classical in
noncomputable def nR:List Re->Rat->Int
 |[],_=>0
 |x::r,t=>(if x<=q t then 1 else 0)+nR r t
open Classical in
theorem JV(x:Re):∀{rs:List Re},rs.Nodup->∃d:Rat,0<d/\∃n0:Int,∀t:Rat,Re.ab (q t-x)<q d->nR rs t=n0+(if x∈rs/\x<=q t then 1 else 0)
 |[],_=>⟨1,by decide,0,fun t _=>by
  rw[if_neg (fun z=>nomatch z.1)];rfl⟩
 |y::r,nd=>by
  rw[List.nodup_cons] at nd;obtain⟨d,hd,n0,h⟩:=JV x nd.2;by_cases e:y=x
  ·subst e;refine⟨d,hd,n0,fun t ht=>?_⟩;show(if y<=q t then 1 else 0)+nR r t=_;rw[h t ht,if_neg (c:=y∈r/\y<=q t) (fun z=>nd.1 z.1)];by_cases c:y<=q t
   ·rw[if_pos c,if_pos ⟨List.mem_cons_self,c⟩];lia
   ·rw[if_neg c,if_neg (fun z=>c z.2)];lia
  ·have hp:0<Re.ab (x-y):=by
    have:x-y≠0:=fun z=>e (by grind);unfold Re.ab;rcases aR (x-y) with w|w|w
    ·rw[if_pos w.1];grind
    ·exact absurd w.1 this
    ·rw[if_neg (by grind)];exact w.1
   obtain⟨e1,Ug,WR⟩:=Re.small hp;obtain⟨m,hm,m1,m2⟩:=lX hd Ug;refine⟨m,hm,n0+(if y<=x then 1 else 0),fun t ht=>?_⟩;show(if y<=q t then 1 else 0)+nR r t=_;have k:(y<=q t)↔(y<=x):=by
    have g1:=dC.mp ht;have g2:q m<Re.ab (x-y):=by grind
    unfold Re.ab at g2;split at g2<;>constructor<;>intro h<;>grind
   have k2:(x∈y::r/\x<=q t)↔(x∈r/\x<=q t):=by
    rw[List.mem_cons];constructor
    ·rintro⟨z|z,z2⟩
     ·exact absurd z.symm e
     ·exact⟨z,z2⟩
    ·rintro⟨z,z2⟩;exact⟨.inr z,z2⟩
   rw[h t (by grind)];simp only[k,k2];lia
open Classical in
theorem HP{f:Po}{rs:List Re}(nd:rs.Nodup)(hr:∀x,at' x f=0↔x∈rs)(x:Re):∃d:Rat,0<d/\∃n0:Int,∀t:Rat,Re.ab (q t-x)<q d->nR rs t=n0+(if at' x f=0/\x<=q t then 1 else 0):=by
 obtain⟨d,hd,n0,h⟩:=JV x nd;refine⟨d,hd,n0,fun t ht=>?_⟩;rw[h t ht];simp only[hr]
theorem tM{f:Po}{a b:Rat}(j_:a<=b)(h:aU (at' (q a) f)≠aU (at' (q b) f)):∃x:Re,at' x f=0:=by
 by_cases ex:∃x:Re,at' x f=0
 ·exact ex
 ·exfalso;refine h (jB (φ:=fun t=>aU (at' (q t) f)) (fun x=>?_) j_);obtain⟨d,hd,hn⟩:=ka (x:=x) (f:=f) (fun z=>ex ⟨x,z⟩);exact⟨d,hd,fun s t hs ht=>by rw[hn _ hs,hn _ ht]⟩
theorem A2{m:Int}(hm:0<m):∃s:Re,0<s/\s*s=(m:Re):=by
 have ev:∀x:Re,at' x (aw [0-m,0,1])=x*x-(m:Re):=fun x=>by
  rw[WW,kx,c0,c1];grind
 have PM:(1:Rat)<=(m:Rat):=by
  have:((1:Int):Rat)<=(m:Rat):=Rat.intCast_le_intCast.mpr (by lia);exact this
 have NF:=dz hm;have v0:aU (at' (q 0) (aw [0-m,0,1]))=-1:=by
  rw[ev,Re.gH];exact cI (by grind)
 have v1:aU (at' (q ((m:Rat)+1)) (aw [0-m,0,1]))=1:=by
  have e:at' (q ((m:Rat)+1)) (aw [0-m,0,1])=q (((m:Rat)+1)*((m:Rat)+1)-(m:Rat)):=by rw[ev,yz,Re.fV,cS]
  rw[e];exact ZN (by have:=Ml (z:=(m:Rat)+1) PM (.inl Rat.le_refl);grind)
 obtain⟨x,hx⟩:=tM (f:=aw [0-m,0,1]) (a:=0) (b:=(m:Rat)+1) (by grind) (by rw[v0,v1];decide);rw[ev] at hx;have Ci:x*x=(m:Re):=by grind
 rcases aR x with w|w|w
 ·exact⟨-x,by grind,by grind⟩
 ·exfalso;rw[w.1] at Ci;grind
 ·exact⟨x,w.1,Ci⟩
end Po
end SF
namespace SF
open Lean.Grind
namespace Po
open Re
noncomputable def pP(m:Int):Prop:=0<m/\∀k:Int,k*k≠m
theorem PN{m n:Int}(hn:0<=n)(h1:n*n<m)(h2:m<(n+1)*(n+1)):pP m:=by
 refine⟨Int.lt_of_le_of_lt (Int.mul_nonneg hn hn) h1,fun k e=>?_⟩;have e2:((k.natAbs:Nat):Int)*((k.natAbs:Nat):Int)=m:=by rw[<-e];exact Int.natAbs_mul_self
 have h0:0<=((k.natAbs:Nat):Int):=Int.natCast_nonneg _;generalize ((k.natAbs:Nat):Int)=j at*;rcases Int.lt_or_le n j with z|z
 ·have:=Int.mul_le_mul (show n+1<=j from z) (show n+1<=j from z) (by lia) h0;lia
 ·have:=Int.mul_le_mul z z h0 hn;lia
noncomputable def qd(p m d:Int):List Int:=[p*p-m,0-2*p*d,d*d]
theorem JW(x:Re)(p m d:Int):at' x (aw (qd p m d))=(x*(d:Re)-(p:Re))*(x*(d:Re)-(p:Re))-(m:Re):=by
 unfold qd;rw[WW,kx,kx,Ring.intCast_mul,Ring.intCast_mul,Ring.intCast_mul,Ring.intCast_mul,c0,c2];grind
theorem fW{p m d:Int}(hd:0<d):Tr (qd p m d):=HJ (xs:=[p*p-m,0-2*p*d]) (Int.ne_of_gt (Int.mul_pos hd hd))
theorem jC(p m d:Int):qd p m d≠[]:=by unfold qd;simp
theorem pQ{p m d:Int}(hm:pP m)(r:Rat):at' (q r) (aw (qd p m d))≠0:=fun z=>by
 have e0:at' (q r) (aw (qd p m d))=q ((r*(d:Rat)-(p:Rat))*(r*(d:Rat)-(p:Rat))-(m:Rat)):=by
  rw[JW,cS,cS,cS,yz,Re.fV,yz,Re.fV]
 rw[e0,<-Re.gH] at z;have z2:=vJ z;obtain⟨k,hk⟩:=Mc (s:=r*(d:Rat)-(p:Rat)) (n:=m) (by grind);exact hm.2 k hk
theorem A3{xs:List Int}(h:Tr xs)(x:Re):at' x (aw xs)=((cont xs:Int):Re)*at' x (aw (au xs)):=by
 rw[<-oB];congr 1;refine ext fun i=>?_;rw[a_,bC,bC];by_cases hi:i<xs.length
 ·rw[<-iu hi];exact Int.mul_comm _ _
 ·rw[cG (by lia),cG (by rw[aS];lia)];lia
theorem EB{xs:List Int}(h:Tr xs)(hn:xs≠[])(hl:0<co xs (xs.length-1)):0<cont xs:=by
 have hp:=List.length_pos_iff.mpr hn;have h1:=gE h hn;have h2:=iu (xs:=xs) (i:=xs.length-1) (by lia);rw[<-h2] at hl;exact Int.pos_of_mul_pos_right hl h1
section
variable {p m d:Int}
theorem tN(hd:0<d):0<cont (qd p m d):=EB (fW hd) (jC _ _ _) (Int.mul_pos hd hd)
theorem lZ(hd:0<d)(x:Re):at' x (aw (au (qd p m d)))=0↔at' x (aw (qd p m d))=0:=by
 rw[A3 (fW hd)];have hc:=dz (tN (p:=p) (m:=m) hd);constructor
 ·intro z;rw[z];grind
 ·intro z;by_cases w:at' x (aw (au (qd p m d)))=0
  ·exact w
  ·exact absurd z (Re.dP (by grind) w)
theorem Mn(hd:0<d)(x:Re):aU (at' x (aw (au (qd p m d))))=aU (at' x (aw (qd p m d))):=by
 rw[A3 (fW hd),gr,bK (dz (tN hd))];lia
theorem JX(hd:0<d)(hm:pP m):Fk (aw (au (qd p m d))):=by
 have ht:=bS (fW (p:=p) (m:=m) hd);refine⟨PJ (.inl ?_) fun r z=>?_,cO (fW hd) (jC _ _ _),eO (fW hd) (jC _ _ _)⟩
 ·rw[bO ht,aS];rfl
 ·exact pQ hm r ((lZ hd _).mp z)
theorem A4(hd:0<d)(hm:pP m):vD (qd p m d)=au (qd p m d):=by
 refine lN (LS _) (bS (fW hd)) ?_;have e1:cZ [aw (au (qd p m d))]=aw (au (qd p m d)):=by
  show aw (au (qd p m d))*1=_;grind
 have ez:aw (qd p m d)=K (cont (qd p m d))*aw (au (qd p m d)):=ext fun i=>by
  rw[a_,bC,bC];by_cases hi:i<(qd p m d).length
  ·rw[<-iu hi];exact Int.mul_comm _ _
  ·rw[cG (by lia),cG (by rw[aS];lia)];lia
 have hc:cont (qd p m d)≠0:=Int.ne_of_gt (tN hd);have:=yw (fW hd) (jC p m d) (gs:=[aw (au (qd p m d))]) (fun g hg=>by rw[List.mem_singleton.mp hg];exact JX hd hm) (List.nodup_cons.mpr ⟨by simp,List.nodup_nil⟩) (fun π hπ=>by
  rw[e1,ez]
  exact⟨fun z=>z.As hc,fun z=>z.mulL _⟩);rw[this,e1]
theorem Mo(hd:0<d)(hm:pP m):Gu (aw (au (qd p m d))) (aw (au (qd p m d))):=by
 have e1:cZ [aw (au (qd p m d))]=aw (au (qd p m d)):=by
  show aw (au (qd p m d))*1=_;grind
 have:=vQ (gs:=[aw (au (qd p m d))]) (fun g hg=>by rw[List.mem_singleton.mp hg];exact JX hd hm) (List.nodup_cons.mpr ⟨by simp,List.nodup_nil⟩);rw[e1] at this;exact this
end
noncomputable def ov(y:Re)(d:Int):Re:=y*q (1/(d:Rat))
theorem yA{d:Int}(hd:0<d)(y:Re):ov y d*(d:Re)=y:=by
 have Dg:(0:Rat)<(d:Rat):=Rat.intCast_pos.mpr hd;have e:q (1/(d:Rat))*(d:Re)=1:=by
  rw[cS,<-Re.fV,Rat.div_mul_cancel (by grind)];rfl
 unfold ov;have:y*q (1/(d:Rat))*(d:Re)=y*(q (1/(d:Rat))*(d:Re)):=by grind
 rw[this,e];grind
theorem mZ{d:Int}(hd:0<d)(y t:Re):aU (t*(d:Re)-y)=aU (t-ov y d):=by
 have e:t*(d:Re)-y=(t-ov y d)*(d:Re):=by
  have:=yA hd y;grind
 rw[e,gr,bK (dz hd)];lia
theorem PQ{d:Int}(hd:0<d){y z:Re}(h:y<z):ov y d<ov z d:=by
 have h1:=mZ hd z (ov y d);rw[yA hd,cI (show y-z<0 by grind)] at h1;have:=Me h1.symm;grind
section
variable {p m d:Int} {s:Re}
theorem A5(hd:0<d)(hs:s*s=(m:Re))(t:Re):aU (at' t (aw (au (qd p m d))))=aU (t-ov ((p:Re)-s) d)*aU (t-ov ((p:Re)+s) d):=by
 rw[Mn hd,JW,<-mZ hd,<-mZ hd,<-gr];congr 1;rw[<-hs];grind
theorem EC(hd:0<d)(hs:s*s=(m:Re))(t:Re):at' t (aw (au (qd p m d)))=0↔t∈[ov ((p:Re)-s) d,ov ((p:Re)+s) d]:=by
 have h:=A5 (p:=p) hd hs t;constructor
 ·intro z;rw[z,bP] at h;rcases Int.mul_eq_zero.mp h.symm with w|w
  ·have:=bA w;rw[show t=ov ((p:Re)-s) d by grind];exact List.mem_cons_self
  ·have:=bA w;rw[show t=ov ((p:Re)+s) d by grind];exact List.mem_cons_of_mem _ List.mem_cons_self
 ·intro z;refine bA ?_;rw[h];rcases List.mem_cons.mp z with w|w
  ·have:t-ov ((p:Re)-s) d=0:=by rw[w];grind
   rw[this,bP,Int.zero_mul]
  ·have:t-ov ((p:Re)+s) d=0:=by rw[List.mem_singleton.mp w];grind
   rw[this,bP,Int.mul_zero]
end
structure m5(zs:List Int)(x:Re)(lo hi:Rat):Prop where
 ge:q lo<=x
 le:x<=q hi
 st:lo<hi->q lo<x/\x<q hi
 sn:∃c:Int,(c=1\/c=-1)/\∀t:Rat,lo<=t->t<=hi->aU (at' (q t) (aw zs))=c*aU (q t-x)
theorem m5.ratio{t u:Int}(hu:0<u):m5 [-t,u] (q ((t:Rat)/(u:Rat))) ((t:Rat)/(u:Rat)) ((t:Rat)/(u:Rat)):=by
 refine⟨Re.cv.mpr Rat.le_refl,Re.cv.mpr Rat.le_refl,fun z=>?_,1,.inl rfl,fun z _ _=>?_⟩
 ·exfalso;grind
 ·have dS:(0:Rat)<(u:Rat):=Rat.intCast_pos.mpr hu;have e:-t=0-t:=by lia
  rw[e,Mg];have e2:(t:Re)=q ((t:Rat)/(u:Rat))*(u:Re):=by
   rw[cS,cS,<-Re.fV,Rat.div_mul_cancel (by grind)]
  have e3:q z*(u:Re)-(t:Re)=(q z-q ((t:Rat)/(u:Rat)))*(u:Re):=by
   generalize q ((t:Rat)/(u:Rat))=y at*;rw[e2];grind
  rw[e3,gr,bK (dz hu)];lia
theorem m5.part{zs:List Int}{x:Re}{lo hi Cj Gv:Rat}(h:m5 zs x lo hi)(h1:lo<=Cj)(h2:Gv<=hi)(ab:(Cj<Gv/\aU (at' (q Cj) (aw zs))*aU (at' (q Gv) (aw zs))=-1)\/(Cj=Gv/\at' (q Cj) (aw zs)=0)):m5 zs x Cj Gv:=by
 obtain⟨c,hc,hs⟩:=h.sn;have cc:c*c=1:=by rcases hc with rfl|rfl<;>decide
 rcases ab with⟨a1,a2⟩|⟨a1,a2⟩
 ·rw[hs Cj h1 (by grind),hs Gv (by grind) h2] at a2;have e:c*aU (q Cj-x)*(c*aU (q Gv-x))=c*c*(aU (q Cj-x)*aU (q Gv-x)):=by grind
  rw[e,cc,Int.one_mul] at a2;have hq:=Re.eA.mpr a1;have k:q Cj<x/\x<q Gv:=by
   rcases aR (q Cj-x) with w|w|w<;>rcases aR (q Gv-x) with v|v|v<;>rw[w.2,v.2] at a2<;>first|(exfalso;revert a2;decide)|(constructor<;>grind)|(exfalso;grind)
  exact⟨by grind,by grind,fun _=>k,c,hc,fun t t1 t2=>hs t (by grind) (by grind)⟩
 ·subst a1;have z:=hs Cj h1 h2;rw[a2,bP] at z;have z2:aU (q Cj-x)=0:=by
   rcases hc with rfl|rfl<;>lia
  have z3:=bA z2;exact⟨by grind,by grind,fun w=>by exfalso;grind,c,hc,fun t t1 t2=>hs t (by grind) (by grind)⟩
end Po
end SF
namespace SF
namespace Po
open Re
open Classical in
noncomputable def sq(m:Int):Re:=if h:0<m then Classical.choose (A2 h) else 0
theorem rY{m:Int}(h:0<m):0<sq m/\sq m*sq m=(m:Re):=by
 unfold sq;rw[dif_pos h];exact Classical.choose_spec (A2 h)
noncomputable def ms:List Int:=[2,3,5,6,7,8,10,18,99,1000003]
theorem PR:∀m∈ms,pP m/\Bd 24 m:=by
 intro m hm;unfold ms at hm;simp only[List.mem_cons,List.not_mem_nil,or_false] at hm;have one:∀n j:Int,0<=j->j*j<n->n<(j+1)*(j+1)->n<2^24->pP n/\Bd 24 n:=fun n j h1 h2 h3 h4=>⟨PN h1 h2 h3,by
  have:=(PN h1 h2 h3).1
  unfold Bd;lia⟩;rcases hm with rfl|rfl|rfl|rfl|rfl|rfl|rfl|rfl|rfl|rfl
 ·exact one 2 1 (by decide) (by decide) (by decide) (by decide)
 ·exact one 3 1 (by decide) (by decide) (by decide) (by decide)
 ·exact one 5 2 (by decide) (by decide) (by decide) (by decide)
 ·exact one 6 2 (by decide) (by decide) (by decide) (by decide)
 ·exact one 7 2 (by decide) (by decide) (by decide) (by decide)
 ·exact one 8 2 (by decide) (by decide) (by decide) (by decide)
 ·exact one 10 3 (by decide) (by decide) (by decide) (by decide)
 ·exact one 18 4 (by decide) (by decide) (by decide) (by decide)
 ·exact one 99 9 (by decide) (by decide) (by decide) (by decide)
 ·exact one 1000003 1000 (by decide) (by decide) (by decide) (by decide)
end Po
end SF
namespace L2
open PySem PySem.Spec PyProof.Rows
section
variable {X:Cx}
end
end L2
namespace SF
open PySem
noncomputable abbrev S(l:List Nat):Str:=⟨l.toArray⟩
end SF
namespace L2
open PySem PySem.Spec PyProof.Rows
section
variable {X:Cx}
end
end L2
namespace SF
open PySem
end SF
namespace SF
open PySem PySem.Spec PyProof.Rows L2 PySem.W
section
variable {P:Program} {w:World} {H H':Hp} {h h':Heap} {a:Addr} {o:HO}
theorem gz(x:cX P w H h a o):∃ob,h.get? a=some ob:=by
 cases o with
 |lst xs=>obtain⟨_,_,_,_,e⟩:=x;exact⟨_,e⟩
 |tup xs=>obtain⟨_,_,_,ob,e,_⟩:=x;exact⟨_,e⟩
 |dK iJ=>obtain⟨_,_,_,_,o,_,_,e,_⟩:=x;exact⟨_,e⟩
 |dT iJ=>obtain⟨_,_,_,_,o,_,_,e,_⟩:=x;exact⟨_,e⟩
 |set S n=>obtain⟨o,_,_,_,e,_⟩:=x;exact⟨_,e⟩
 |ins C dx fs=>obtain⟨_,_,_,e,_⟩:=x;exact⟨_,e⟩
 |own y=>obtain⟨_,e⟩:=x;exact⟨_,e⟩
 |xd fs=>obtain⟨_,⟨_,_,_,e,_⟩,_⟩:=x;exact⟨_,e⟩
 |Ro lo hi=>obtain⟨_,_,_,e⟩:=x;exact⟨_,e⟩
 |nA ob u=>obtain⟨e,_⟩:=x;exact⟨_,e⟩
 |oj ps=>exact⟨_,(show h.get? a=some _ from x)⟩
 |met f y=>exact⟨_,(show h.get? a=some _ from x)⟩
 |ext φ=>obtain⟨_,⟨_,e⟩,_⟩:=x;exact⟨_,e⟩
theorem l_(x:jY P w H h)(e:h.get? a=none):H a=none:=by
 cases q:H a with
 |none=>rfl
 |some u=>
  obtain⟨ob,z⟩:=gz (x a u q);rw[e] at z;cases z
theorem HQ{fs ex:List Addr}(x:jY P w H h)(k:∀b u,h.get? b=some u->h'.get? b=some u)(q:∀b u,h.get? b=some u->H' b=H b):Un fs ex H H' h h' where
 keep:=fun b u e _ _ _=>k b u e
 slot:=fun b u e _ _ _=>⟨u.slots,k b u e⟩
 free:=fun b u e n _=>(q b u e).trans n
 there:=fun b u e _=>⟨u,k b u e⟩
 qI:=fun b xs e=>by obtain⟨ob,z⟩:=gz (x b _ e);rw[q b ob z];exact e
 oF:=fun b u xs e=>by obtain⟨ob,z⟩:=gz (x b _ e);rw[q b ob z];exact e
 oG:=fun b ps e=>by obtain⟨ob,z⟩:=gz (x b _ e);exact⟨#[],by rw[q b ob z,e];simp⟩
theorem ED(x:jY P w H h)(k:∀b u,h.get? b=some u->h'.get? b=some u)(q:∀b u,h.get? b=some u->H' b=H b)(new:∀b o,h.get? b=none->H' b=some o->cX P w H' h' b o):jY P w H' h':=fun b o e=>by
 cases z:h.get? b with
 |none=>exact new b o z e
 |some u=>
  rw[q b u z] at e;refine(x b o e).qH (fun c v _ e=>k c v e) (fun c r=>?_) fun c xs r=>?_
  ·obtain⟨ob,z⟩:=gz (x c _ r);rw[q c ob z];exact r
  ·obtain⟨ob,z⟩:=gz (x c _ r);rw[q c ob z];exact r
end
theorem EE{X:Cx}{pins:List (Addr×Obj)}{σ:L2.St}{H H':Hp}{s:Shared}{h':Heap}{t':Nat}(I:Inv X pins σ H s)(k:∀b u,s.heap.get? b=some u->h'.get? b=some u)(q:∀b u,s.heap.get? b=some u->H' b=H b)(new:∀b o,s.heap.get? b=none->H' b=some o->cX X.prog X.w H' h' b o):Inv X pins σ H' {s with heap:=h',toks:=t'}:=I.un (HQ I.bT k q) (ED I.bT k q new)
noncomputable def dX(a C t:Addr)(tb:Value)(d:Option Addr):HO:=.ext fun h=>∃o vs,h.get? a=some o/\o.cls=.ref C/\o.dict=d/\o.data=.fields vs/\vs.size=6/\vs[0]?=some (.ref t)/\vs[1]?=some tb
theorem vW{a C t:Addr}{tb:Value}{d:Option Addr}{P:Program}{w:World}{H:Hp}{h:Heap}{o:Obj}{vs:Array Value}(e:h.get? a=some o)(hc:o.cls=.ref C)(hd:o.dict=d)(hf:o.data=.fields vs)(h6:vs.size=6)(h0:vs[0]?=some (.ref t))(h1:vs[1]?=some tb):
 cX P w H h a (dX a C t tb d):=
 ⟨⟨o,vs,e,hc,hd,hf,h6,h0,h1⟩,⟨o,e⟩,fun _ _ ⟨o,vs,e,r⟩ k=>⟨o,vs,k o e,r⟩⟩
noncomputable def Uo:List Value:=[.type "ValueError",.type "Exception",.type "BaseException",.type "object"]
noncomputable def EF(K:Frag)(C:Addr):Prop:=excIn K C Uo "ValueError.__new__"=true
section
variable {X:Cx} {C:Addr}
theorem HR{K:Frag}{h:Heap}(XK:K.In h)(q:EF K C):∃bm N nm qn bs hdct sn sub ab col dd k0 k1 k2 k3 k5 mN,h.get? C=some (excClassObj nm qn C N bs bm hdct sn sub ab col dd k0 k1 k2 k3 k5 "ValueError.__new__")/\h.Ns N mN/\mN "__init__"=none/\OwnTail h Uo bm:=by
 unfold EF excIn at q;split at q
 ·rename_i dd cd sl ho;split at q
  ·rename_i C' bm k0 k1 k2 k3 n k5 hm hs;simp only[Bool.and_eq_true,beq_iff_eq,Bool.not_eq_true'] at q;obtain⟨⟨⟨⟨⟨rfl,rfl⟩,PU⟩,ht⟩,bT⟩,RT⟩:=q;obtain⟨nm,bs,mro,ns,qn,hd,sn,sub,ab,col,del⟩:=cd
   dsimp only at hm PU bT RT
   subst hm PU;have JY:sl=#[k0,k1,k2,k3,some (.builtin "ValueError.__new__"),k5]:=by
    obtain⟨l⟩:=sl;simp only at hs;rw[hs]
   subst JY;exact⟨bm,ns,nm,qn,bs,hd,sn,sub,ab,col,dd,k0,k1,k2,k3,k5,_,XK _ _ ho,.of_isNs (isNs_of_in XK bT),nsMap_none_of_in XK bT RT,tail_of_in XK ht⟩
  ·cases q
 ·cases q
theorem EG{pins:List (Addr×Obj)}{σ:L2.St}{H:Hp}{s:Shared}{h':Heap}{e:Addr}{us:List Value}{vs:List V}{Q:VK}(I:Inv X pins σ H s)(r:Vals vs us)(hl:vs.length<=1000)(hm:Heap.MadeExcOf s.heap h' e (.ref C) us)(q:∀x tp,H x=none->H tp=none->x≠tp->Q (.ref x) (upd (upd H tp (.tup vs)) x (dX x C tp .none none))):EP X pins σ Q (.ref e) {s with heap:=h'}:=by
 obtain⟨t,he,WZ,ht⟩:=hm.there;have eE:e≠t:=fun z=>by subst z;rw[he] at ht;cases ht
 refine⟨.ref e,_,EE (t':=s.toks) I hm.keeps (fun b u z=>?_) (fun b o z zz=>?_),rfl,q e t (l_ I.bT hm.new) (l_ I.bT WZ) eE⟩
 ·rw[aq (fun y=>by subst y;rw[hm.new] at z;cases z),aq (fun y=>by subst y;rw[WZ] at z;cases z)]
 ·by_cases hb:b=e
  ·subst hb;rw[ai] at zz;cases zz;exact vW he rfl rfl rfl rfl rfl rfl
  ·rw[aq hb] at zz;by_cases JH:b=t
   ·subst JH;rw[ai] at zz;cases zz;exact⟨fw hl,us,r,_,ht,rfl,_,rfl⟩
   ·rw[aq JH] at zz;rw[l_ I.bT z] at zz;cases zz
end
end SF
namespace SF
open PySem PySem.Spec PyProof.Rows L2 PySem.W
section
variable {prog:Program} {w:World} {A:Around} {E:Value->Shared->Prop} {s:Shared} {K:Frag} {x C:Addr} {ox:Obj} {od:Option Obj} {name:Str} {tk:Tok}
theorem EH:builtinKind "BaseException.__getattribute__"=some .slot:=by decide +kernel
theorem Ck:splitId "BaseException.__getattribute__"=some ("BaseException","__getattribute__"):=by decide +kernel
theorem EI{R:Result->Shared->Prop}(XK:K.In s.heap)(I:InstAt s.heap x ox C od)(hb:subIn K (.ref C) (.type "BaseException")=some true)(h:wpAny (model prog w) A.in1 (Builtin.«object.__getattribute__» ⟨[.ref x,.str name tk],[]⟩) (fun fin s'=>match fin with|.done f=>R (.ok f) s'|.again c'=>c'.quiet=true/\codeAny (model prog w) A c' R s') (fun e s'=>R (.error e) s') s):
 codeAny (model prog w) A (.call (.builtin "BaseException.__getattribute__") ⟨[.ref x,.str name tk],[]⟩) R s:=by
 have sub:Looks (model prog w) s.heap (isInstance (.ref x) (.type "BaseException")) true:=I.type.andThen (looks_subIn XK hb);exact codeAny_call_builtin PySem.F.attr_ValueError.ga.plain PySem.F.entry_bexc_ga (@check_slot (model prog w) _ _ s "BaseException.__getattribute__" "BaseException" "__getattribute__" (.ref x) [.str name tk] [] _ EH Ck sub (PySem.F.args_bexc_ga (.ref x) (.str name tk)) h)
theorem Cm{Q:Fin->Shared->Prop}(XK:K.In s.heap)(I:InstAt s.heap x ox C od)(hf:findObj K C od "__class__"=some (.bind (.builtin "getset_descriptor.__get__") (.builtin "object.__class__")))(hm:mroIn K C (.type "object")=some true)(h:Q (.done (.ret (.ref C))) s):
 wpAny (model prog w) A (Builtin.«object.__getattribute__» ⟨[.ref x,.str "__class__" tk],[]⟩) Q E s:=by
 have L0:=I.type (M:=model prog w);have L1:=looks_find (M:=model prog w) XK I hf;refine wpAny_bind (wpAny_pure (wpAny_bind (wpAny_pure (wpAny_bind (L0.here (wpAny_bind (L1.here ?_)))))));show wpAny _ _ (holding [.builtin "object.__class__"] (call (.builtin "getset_descriptor.__get__") [.builtin "object.__class__",.ref x,.ref C]) >>= ret) _ _ _;exact wpAny_bind (wpAny_holding (wpAny_call (class_get XK I hm (wpAny_pure h))))
theorem Mp:(Value.builtin "BaseException.__getattribute__"==Value.builtin "object.__getattribute__")=false:=by decide +kernel
theorem ZO{fill expr:Bool}{Q:Value->Shared->Prop}(XK:K.In s.heap)(I:InstAt s.heap x ox C od)(ZP:findIn K (.ref C) "__getattribute__"=some (some (.builtin "BaseException.__getattribute__")))(ZQ:findIn K (.ref C) "__getattr__"=some none)(hb:subIn K (.ref C) (.type "BaseException")=some true)(h:∀A' E',wpAny (model prog w) A' (Builtin.«object.__getattribute__» ⟨[.ref x,.str name tk],[]⟩) (fun fin s'=>∃v,fin=.done (.ret v)/\handedIn v=true/\Q v s') E' s):
 wpAny (model prog w) A (getAttrBy (.ref x) (.str name tk) fill expr) Q E s:=by
 have L0:=I.type (M:=model prog w);have L1:=looks_findIn (M:=model prog w) XK ZP;have L2:=looks_findIn (M:=model prog w) XK ZQ;have Mi:(expr&&onTheHeap (Value.builtin "BaseException.__getattribute__"))=false:=by cases expr<;>rfl
 have nQ:(onTheHeap (Value.ref C)&&Value.builtin "BaseException.__getattribute__"==Value.builtin "object.__getattribute__")=false:=by rw[Mp];rfl
 unfold getAttrBy;refine wpAny_holding (wpAny_bind (L0.here (wpAny_bind (L1.here ?_))));show wpAny _ _ (if(onTheHeap (Value.ref C)&&Value.builtin "BaseException.__getattribute__"==Value.builtin "object.__getattribute__")=true then _ else _) _ _ _;rw[nQ,if_neg (by decide)];unfold getAttrByItsOwn;refine wpAny_bind ?_;show wpAny _ _ (typeLookup (.ref C) "__getattr__") _ _ _;refine L2.here (wpAny_bind (wpAny_attempt (wpAny_holding ?_)));unfold callGetattribute;rw[Mi,if_neg (by decide)];unfold boundAndCalled;rw[PySem.F.attr_ValueError.ga.bind (.ref x)];refine wpAny_bind (wpAny_pure (wpAny_call (EI XK I hb (wpAny_mono (h _ _) (fun fin s' z=>?_) fun _ _ z=>z))));obtain⟨v,rfl,hh,q⟩:=z;show wpAny _ _ (handedOut v) _ _ _;rw[handedOut_of hh];exact wpAny_pure q
end
end SF
namespace SF
open PySem PySem.Spec PyProof.Rows L2 PySem.W
structure HS(K:Frag)(D:Addr):Prop where
 ga:findIn K (.ref D) "__getattribute__"=some (some (.builtin "BaseException.__getattribute__"))
 gk:findIn K (.ref D) "__getattr__"=some none
 base:subIn K (.ref D) (.type "BaseException")=some true
 cls:findIn K (.ref D) "__class__"=some (some (.builtin "object.__class__"))
 Up:specialIn K (.builtin "object.__class__") "__get__"=some (some (.builtin "getset_descriptor.__get__"))
 PV:takesIn K (.builtin "object.__class__")=some true
 obj:mroIn K D (.type "object")=some true
 Uq:hasDictIn K D=true
 str:findIn K (.ref D) "__str__"=some (some (.builtin "BaseException.__str__"))
section
variable {prog:Program} {w:World} {A:Around} {E:Value->Shared->Prop} {s:Shared} {K:Frag} {x C D:Addr} {ox:Obj} {od:Option Obj} {name:Str} {tk:Tok}
theorem EJ(F:HS K D):KitX K (.ref x) (.ref D) (fun h=>∃ox od,InstAt h x ox D od) where
 ty:=fun _ _ _ ⟨_,_,I⟩=>I.type
 it:=fun _ _ X _=>by
  obtain⟨ZR,GW,_⟩:=any_some F.Uq;unfold clsIn at GW;split at GW
  ·rename_i c' d' ZS SQ ho;intro A' Q' E' s' k q;unfold isType loadHead;exact wpAny_bind (wpAny_loadPart (k _ _ (X _ _ ho)) (wpAny_pure q))
  ·cases GW
 ne:=fun h tp dd aX n sl X ZT=>by
  obtain⟨ZR,GW,_⟩:=any_some F.Uq;refine Bool.eq_false_iff.mpr fun q=>?_;have e:D=tp:=Value.ref.inj (beq_iff_eq.mp q);subst e;unfold clsIn at GW;split at GW
  ·rename_i c' d' ZS SQ ho;have z:=(X _ _ ho).symm.trans ZT;cases z
  ·cases GW
 ca:=fun{prog w A E Q s} X⟨ox,od,I⟩ k=>by
  have hf:findObj K D od "__class__"=some (.bind (.builtin "getset_descriptor.__get__") (.builtin "object.__class__")):=by
   obtain⟨cd,hc,_⟩:=any_some F.Uq;unfold findObj;simp only[hc,F.cls,F.Up,F.PV,Option.bind_some]
  unfold getAttr? getAttrBy?;refine wpAny_bind (wpAny_mkText (wpAny_bind (wpAny_attempt ?_)));refine ZO (s:={s with toks:=s.toks+1}) X I F.ga F.gk F.base fun A' E'=>?_;refine Cm (s:={s with toks:=s.toks+1}) X I hf F.obj ⟨_,rfl,rfl,?_⟩;exact wpAny_pure k
end
end SF
namespace SF
open PySem PySem.Spec PyProof.Rows L2 PySem.W
noncomputable def xu(T:Addr)(fl:Value):HO:=.ext fun h=>∃o ts,h.get? T=some o/\o.data=.fields ts/\ts[3]?=some fl
theorem JZ{T:Addr}{fl:Value}{P:Program}{w:World}{H:Hp}{h:Heap}{o:Obj}{ts:Array Value}(e:h.get? T=some o)(hd:o.data=.fields ts)(h3:ts[3]?=some fl):cX P w H h T (xu T fl):=
 ⟨⟨o,ts,e,hd,h3⟩,⟨o,e⟩,fun _ _ ⟨o,ts,e,r⟩ k=>⟨o,ts,k o e,r⟩⟩
section
variable {M:Model} {A:Around} {E:Value->Shared->Prop} {s:Shared} {base:Heap} {env:Env} {outer:List Env} {L e:Addr} {oe:Obj} {vs:Array Value} {head:Value} {Q:Unit->Shared->Prop}
structure J0(fs:List Addr)(e:Addr)(oe:Obj)(fl:Value)(h h':Heap)(T:Addr):Prop where
 new:h.get? T=none
 ent:∃oT ts,h'.get? T=some oT/\oT.data=.fields ts/\ts[3]?=some fl
 ne:T≠e
 exc:h'.get? e=some (Obj.mapFields (·.setIfInBounds 1 (.ref T)) oe)
 keep:∀b o,b≠e->b∉fs->h.get? b=some o->h'.get? b=some o
 slot:∀b o,b≠e->h.get? b=some o->∃sl,h'.get? b=some {o with slots:=sl}
theorem rZ{HU:Bool}(vb:A.frames=some (env::outer))(hl:s.heap.FunFrames base (env::outer))(hf:env.frame=some L)(he:s.heap.get? e=some oe)(hd:oe.data=.fields vs)(lr:1<vs.size)(h:∀h' T,J0 (uN (env::outer)) e oe (rawInt L) s.heap h' T->Q () {s with heap:=h'}):
 wpAny M A (do let a<-frameOf env;let pl<-entryPlaceOf L HU;let b<-EntryCells.newEntry head a .none (rawInt L) .none pl;setField (.ref e) 1 b) Q E s:=by
 have Ur:e∉(env::outer).filterMap (·.frame):=fun hm=>by
  obtain⟨_,o,ho,ZU⟩:=hl.mem hm;rw[he] at ho;injection ho with ho;subst ho;exact ZU vs hd
 refine wpAny_bind (wpAny_frameOf_fun vb hl hf fun jj A6=>?_);refine wpAny_bind (wpAny_entryPlaceOf fun pl mG=>?_);unfold EntryCells.newEntry newFields;refine wpAny_bind (wpAny_newObj_type ?_ (mG.sizeOk5 _ _ _ _ _));have J4:jj.get? e=some oe:=(A6.2.1 e Ur).trans he;generalize W0:({cls:=.type "traceback",dict:=none,data:=.fields ([head,.ref L,.none,rawInt L,.none]++(if pl.isEmpty then List.replicate 6 Value.none else pl)).toArray}:Obj)=oT;have J5:=Heap.get?_push_of_some (h:=jj) oT J4;refine wpAny_setField J5 hd lr ?_;have Us:jj.objs.size≠e:=Nat.ne_of_gt (Heap.lt_size J4);have PX:=Obj.data_mapFields hd (·.setIfInBounds 1 (Value.ref jj.objs.size));have PY:=Heap.get?_update_self (Obj.mapFields (·.setIfInBounds 1 (Value.ref jj.objs.size))) J5 (Obj.isFreed_of_fields PX);have PZ:=(Heap.get?_update_other (jj.push oT) (Obj.mapFields (·.setIfInBounds 1 (Value.ref jj.objs.size))) (Ne.symm Us)).trans (Heap.get?_push_size jj (by subst W0;rfl));have keep:∀b o,b≠e->jj.get? b=some o->((jj.push oT).update e (Obj.mapFields (·.setIfInBounds 1 (Value.ref jj.objs.size)))).get? b=some o:=fun b o uT hb=>by
  rw[Heap.get?_update_other _ _ (Ne.symm uT)];exact Heap.get?_push_of_some _ hb
 refine h _ jj.objs.size ⟨Heap.get?_none_of_le (by rw[A6.1];exact Nat.le_refl _),⟨oT,_,PZ,by subst W0;rfl,by first|(simp;done)|(rcases mG with rfl|⟨_,_,_,_,_,_,_,rfl⟩<;>simp)⟩,Us,PY,fun b o uT NL hb=>keep b o uT ((A6.2.1 b NL).trans hb),fun b o uT hb=>?_⟩;obtain⟨sl,q⟩:=A6.2.2 b o hb;exact⟨sl,keep b _ uT q⟩
theorem yB{o:Obj}{ts:Array Value}{i:Nat}{x:Value}(hd:o.data=.fields ts)(h3:ts[i]?=some x):Obj.mapFields (·.setIfInBounds i x) o=o:=by
 obtain⟨c,d,dt,sl⟩:=o;subst hd;have:ts.setIfInBounds i x=ts:=by
  apply Array.ext_getElem?;intro j;rw[Array.getElem?_setIfInBounds];by_cases q:i=j
  ·subst q;rw[if_pos rfl,h3];have:=(Array.getElem?_eq_some_iff.mp h3).1;simp[this]
  ·rw[if_neg q]
 simp only[Obj.mapFields,this]
theorem EK(vb:A.frames=some (env::outer))(hl:s.heap.FunFrames base (env::outer))(hf:env.frame=some L)(he:s.heap.get? e=some oe)(hd:oe.data=.fields vs)(h1:vs[1]?=some head)(hh:head=.none\/∃T oT ts,head=.ref T/\T≠e/\s.heap.get? T=some oT/\oT.data=.fields ts/\ts[3]?=some .none)(h:∀h' T,J0 (uN (env::outer)) e oe (rawInt L) s.heap h' T->Q () {s with heap:=h'}):wpAny M A (noteFrame (.ref e) env) Q E s:=by
 have lr:1<vs.size:=(Array.getElem?_eq_some_iff.mp h1).1;unfold noteFrame;simp only[hf];refine wpAny_bind (wpAny_field he hd h1 ?_);rcases hh with rfl|⟨T,oT,ts,rfl,Us,hT,J6,h3⟩
 ·rw[if_neg (by decide)];exact rZ vb hl hf he hd lr h
 ·rw[if_pos (show(Value.ref T !=Value.none)=true from by simp)];refine wpAny_bind (wpAny_field hT J6 h3 ?_);rw[if_neg (show ¬((Value.none==rawInt L)=true) from by simp[rawInt])];refine wpAny_bind (wpAny_setField hT J6 (Array.getElem?_eq_some_iff.mp h3).1 ?_);have same:∀b,(s.heap.update T (Obj.mapFields (·.setIfInBounds 3 Value.none))).get? b=s.heap.get? b:=fun b=>by
   by_cases q:b=T
   ·subst q;rw[Heap.get?_update_self _ hT (Obj.isFreed_of_fields (Obj.data_mapFields J6 _)),hT,yB J6 h3]
   ·exact Heap.get?_update_other _ _ (Ne.symm q)
  refine rZ (base:=base) vb (hl.of_keeps fun b o hb _=>⟨o,(same b).trans hb,rfl⟩) hf ((same e).trans he) hd lr fun h' T' N=>h h' T' ?_;exact⟨(same _).symm.trans N.new,N.ent,N.ne,N.exc,fun b o uT NL hb=>N.keep b o uT NL ((same b).trans hb),fun b o uT hb=>N.slot b o uT ((same b).trans hb)⟩
theorem yC{T:Addr}{oT:Obj}{ts:Array Value}{fl:Value}(he:s.heap.get? e=some oe)(hd:oe.data=.fields vs)(h1:vs[1]?=some (.ref T))(hT:s.heap.get? T=some oT)(J6:oT.data=.fields ts)(h3:ts[3]?=some fl)(h:∀h',(∃Ut Uu,h'.get? T=some Ut/\Ut.data=.fields Uu/\Uu[3]?=some .none)->(∀b,b≠T->h'.get? b=s.heap.get? b)->Q () {s with heap:=h'}):wpAny M A (setFlight (.ref e) none) Q E s:=by
 have lr:=(Array.getElem?_eq_some_iff.mp h3).1;unfold setFlight;refine wpAny_bind (wpAny_field he hd h1 ?_);rw[if_pos (show(Value.ref T !=Value.none)=true from by simp)];refine wpAny_setField hT J6 lr (h _ ⟨_,_,Heap.get?_update_self _ hT (Obj.isFreed_of_fields (Obj.data_mapFields J6 _)),Obj.data_mapFields J6 _,by simp[lr]⟩ fun b hb=>Heap.get?_update_other _ _ (Ne.symm hb))
end
noncomputable def Cn(H:Hp)(a:Addr)(tb:Value):Prop:=tb=.none\/∃T,tb=.ref T/\T≠a/\H T=some (xu T .none)
noncomputable def Sub(a:Addr)(H1 H':Hp):Prop:=∀b o,b≠a->H1 b=some o->H' b=some o
theorem Sub.refl{a:Addr}{H:Hp}:Sub a H H:=fun _ _ _ e=>e
theorem Sub.trans{a:Addr}{H1 H2 H3:Hp}(x:Sub a H1 H2)(y:Sub a H2 H3):Sub a H1 H3:=fun b o n e=>y b o n (x b o n e)
section
variable {X:Cx} {pins:List (Addr×Obj)} {σ:L2.St} {H:Hp} {s:Shared} {a C t T:Addr} {tb fl:Value} {d:Option Addr} {E:Value->Shared->Prop} {Q:Unit->Shared->Prop}
theorem oC{P:Program}{w:World}{h:Heap}(x:jY P w H h)(ha:H a=some (dX a C t tb d)):∃o vs,h.get? a=some o/\o.cls=.ref C/\o.dict=d/\o.data=.fields vs/\vs.size=6/\vs[0]?=some (.ref t)/\vs[1]?=some tb:=(x a _ ha).1
theorem EL{P:Program}{w:World}{h:Heap}(x:jY P w H h)(ha:H T=some (xu T fl)):∃o ts,h.get? T=some o/\o.data=.fields ts/\ts[3]?=some fl:=(x T _ ha).1
theorem vX(uX:X.stack=X.env::X.outer)(vb:X.env.frame=some X.env.locals)(I:Inv X pins σ H s)(ha:H a=some (dX a C t tb d))(ht:Cn H a tb)(k:∀s' T,H T=none->T≠a->Inv X pins σ (upd (upd H a (dX a C t (.ref T) d)) T (xu T (rawInt X.env.locals))) s'->Q () s'):wpAny (model X.prog X.w) X.A (noteFrame (.ref a) X.env) Q E s:=by
 obtain⟨o,vs,e,hc,hd,hf,h6,h0,h1⟩:=oC I.bT ha;have Uv:X.A.frames=some (X.env::X.outer):=by rw[<-uX];exact I.ok.frames
 have Uw:s.heap.FunFrames X.base (X.env::X.outer):=by rw[<-uX];exact I.stack
 have free:∀b∈uN (X.env::X.outer),H b=none:=by rw[<-uX];exact I.sG
 refine EK Uv Uw vb e hf h1 ?_ fun h' T N=>?_
 ·rcases ht with rfl|⟨T,rfl,n,q⟩
  ·exact .inl rfl
  ·obtain⟨oT,ts,x,y,z⟩:=EL I.bT q;exact .inr ⟨T,oT,ts,rfl,n,x,y,z⟩
 ·have NM:H T=none:=l_ I.bT N.new;obtain⟨oT,ts,x1,x2,x3⟩:=N.ent;have NN:∀b u,H b=some u->(∀φ,u≠.ext φ)->b≠a:=fun b u q n z=>by subst z;rw[ha] at q;cases q;exact n _ rfl
  have neT:∀b u,H b=some u->b≠T:=fun b u q z=>by subst z;rw[NM] at q;cases q
  have Mq:∀b,H b=none->b≠a:=fun b q z=>by subst z;rw[ha] at q;cases q
  have un:Un (uN X.stack) [] H (upd (upd H a (dX a C t (.ref T) d)) T (xu T (rawInt X.env.locals))) s.heap h':=by
   rw[uX];exact⟨fun b ob q n hb _=>N.keep b ob (Mq b n) hb q,fun b ob q n _ _=>N.slot b ob (Mq b n) q,fun b ob q n _=>by rw[aq (fun z=>by subst z;rw[N.new] at q;cases q),aq (Mq b n)];exact n,
    fun b ob q _=>by
     by_cases z:b=a
     ·subst z;exact⟨_,N.exc⟩
     ·obtain⟨sl,q⟩:=N.slot b ob z q;exact⟨_,q⟩,
    fun b xs q=>by rw[aq (neT b _ q),aq (NN b _ q (fun _ z=>nomatch z))];exact q,fun b u xs q=>by rw[aq (neT b _ q),aq (NN b _ q (fun _ z=>nomatch z))];exact q,
    fun b ps q=>⟨#[],by rw[aq (neT b _ q),aq (NN b _ q (fun _ z=>nomatch z)),q];simp⟩⟩
  have bT:jY X.prog X.w (upd (upd H a (dX a C t (.ref T) d)) T (xu T (rawInt X.env.locals))) h':=fun b u q=>by
   by_cases W2:b=T
   ·subst W2;rw[ai] at q;cases q;exact JZ x1 x2 x3
   ·rw[aq W2] at q;by_cases rK:b=a
    ·subst rK;rw[ai] at q;cases q;refine vW N.exc ((Obj.cls_mapFields _ _).trans hc) ?_ (Obj.data_mapFields hf _) (by simp[h6]) (by rw[Array.getElem?_setIfInBounds_ne (by decide)];exact h0) (by simp[h6]);obtain⟨cc,dd,dt,sl⟩:=o;simp only at hf;subst hf;exact hd
    ·rw[aq rK] at q;refine(I.bT b u q).qH (fun c v hc e=>?_) (fun c r=>by rw[aq (neT c _ r),aq (NN c _ r (fun _ z=>nomatch z))];exact r) fun c xs r=>by rw[aq (neT c _ r),aq (NN c _ r (fun _ z=>nomatch z))];exact r
     refine N.keep c v ?_ (fun z=>?_) e
     ·rcases hc with rfl|hc
      ·exact rK
      ·exact NN c _ hc (fun _ z=>nomatch z)
     ·have:=free c z;rcases hc with rfl|hc
      ·rw[this] at q;cases q
      ·rw[this] at hc;cases hc
  exact k _ T NM N.ne (I.call (g':=s.gens) (d':=s.drawn) (t':=s.toks) (ch:=[]) un bT I.bare (fun b z=>absurd z (by simp)))
theorem Mr:Nr (some (xu T fl)):=trivial
theorem pR(I:Inv X pins σ H s)(ha:H a=some (dX a C t (.ref T) d))(hT:H T=some (xu T fl))(k:∀s',Inv X pins σ (upd H T (xu T .none)) s'->Q () s'){A:Around}:wpAny (model X.prog X.w) A (setFlight (.ref a) none) Q E s:=by
 obtain⟨o,vs,e,hc,hd,hf,h6,h0,h1⟩:=oC I.bT ha;obtain⟨oT,ts,x,y,z⟩:=EL I.bT hT;refine yC e hf h1 x y z fun h'⟨Ut,Uu,p,q,r⟩ other=>?_;have keep:∀b u,b≠T->s.heap.get? b=some u->h'.get? b=some u:=fun b u n e=>(other b n).trans e;have mu:Nr (H T):=by rw[hT];exact Mr
 exact k _ (I.un (t':=s.toks) (Un.write mu (.inl rfl) keep ⟨_,p⟩) (I.bT.write mu (.inl rfl) keep ⟨_,p⟩ (JZ p q r)))
theorem r_(uX:X.stack=X.env::X.outer)(vb:X.env.frame=some X.env.locals)(I:Inv X pins σ H s)(ha:H a=some (dX a C t tb d))(ht:Cn H a tb)(k:∀s' H' T,Inv X pins σ H' s'->H' a=some (dX a C t (.ref T) d)->Cn H' a (.ref T)->Sub a H H'->Q () s'):wpAny (model X.prog X.w) X.A (leaving X.env (.ref a)) Q E s:=by
 unfold leaving;refine wpAny_bind (vX uX vb I ha ht fun s1 T NM eE I1=>?_);refine pR (T:=T) (fl:=rawInt X.env.locals) (C:=C) (t:=t) (d:=d) I1 (by rw[aq (Ne.symm eE),ai]) (by rw[ai]) fun s2 I2=>?_;rw[zQ] at I2;refine k s2 _ T I2 (by rw[aq (Ne.symm eE),ai]) (.inr ⟨T,rfl,eE,by rw[ai]⟩) fun b o n e=>?_;rw[aq (fun z=>by subst z;rw[NM] at e;cases e),aq n];exact e
end
noncomputable def Gw(P:Program)(w:World):oP:=fun outer H s E e s'=>∃a C t tb d H1 H' qP,e=.ref a/\s'.os=s.os/\AllBare s'.gens/\Un (uN outer) [] H H' s.heap s'.heap/\jY P w H' s'.heap/\
 H' a=some (dX a C t tb d)/\Cn H' a tb/\Sub a H1 H'/\H1 a=some (dX a C t qP d)/\E (.ref C) d H1
noncomputable def iC(X:Cx)(E:XK):Prop:=∀pins σ H' s' a C t tb d H1 qP,Inv X pins σ H' s'->H' a=some (dX a C t tb d)->Cn H' a tb->Sub a H1 H'->H1 a=some (dX a C t qP d)->E (.ref C) d H1->X.xe (.ref a) s'
theorem iC.passes{X:Cx}{E:XK}(h:iC X E):Passes (Gw X.prog X.w) X E:=fun pins σ H s e s' I⟨a,C,t,tb,d,H1,H',qP,r,os,bare,un,bT,ha,ht,hs,h1,hE⟩=>by
 subst r;exact h pins σ H' s' a C t tb d H1 qP (I.Jf (ch:=[]) os un bT bare fun b z=>absurd z (by simp)) ha ht hs h1 hE
noncomputable def Ms(C:Addr)(E:XK)(t:TA):TS:=fun _ σ H=>t σ H fun vs H1=>vs.length<=1000/\∀x tp,H1 x=none->H1 tp=none->x≠tp->E (.ref C) none (upd (upd H1 tp (.tup vs)) x (dX x C tp .none none))
theorem Co{X:Cx}{C:Addr}{pins:List (Addr×Obj)}{σ:L2.St}{H:Hp}{s:Shared}{h':Heap}{e:Addr}{us:List Value}{vs:List V}(I:Inv X pins σ H s)(r:Vals vs us)(hl:vs.length<=1000)(hm:Heap.MadeExcOf s.heap h' e (.ref C) us):
 ∃tp,H e=none/\H tp=none/\e≠tp/\Inv X pins σ (upd (upd H tp (.tup vs)) e (dX e C tp .none none)) {s with heap:=h'}:=by
 obtain⟨v,H',I',rv,x,tp,e1,e2,e3,rfl,e4⟩:=EG (Q:=fun v H'=>∃x tp,H x=none/\H tp=none/\x≠tp/\v=.ref x/\H'=upd (upd H tp (.tup vs)) x (dX x C tp .none none)) I r hl hm fun x tp a b c=>⟨x,tp,a,b,c,rfl,rfl⟩;have:e=x:=Value.ref.inj rv;subst this e4;exact⟨tp,e1,e2,e3,I'⟩
theorem EM{X:Cx}{C:Addr}{E:XK}{x:Str}{p mM pos:Pos}{e:Expr}{es:List Expr}{t:TA}(hE:iC X E)(P0:X.calm=true)(hg:Gl X x)(hm:X.mg x=some (.ref C))(hc:EF X.K C)(ha:PA X (e::es) t)(uY:(x==("__debug__":Str))=false:=by decide)(he:starEach (e::es) X.env=(false,eval e X.env)::starEach es X.env:=by rfl)(mG:(backTo mM (starEach (e::es) X.env)).any (·.1)=false:=by rfl):
 L2.PS X (.Raise (some (.Call (.Name x p) (e::es) [] mM)) none pos) (Ms C E t):=by
 intro pins s σ H D I h;obtain⟨bm,N,nm,qn,bs,hdct,sn,sub,ab,col,dd,k0,k1,k2,k3,k5,mN,hC,hN,RT,TL⟩:=HR I.ok.mod.Jc hc;refine wpAny_Raise_call_subU (N:=N) (bm:=bm) (nm:=nm) (q:=qn) (bs:=bs) (hdct:=hdct) (sn:=sn) (sub:=sub) (ab:=ab) (col:=col) (dd:=dd) (k0:=k0) (k1:=k1) (k2:=k2) (k3:=k3) (k5:=k5) (C:=C) (mN:=mN) PySem.F.excBase_ValueError (by decide) PySem.F.excBase_ValueError (TL.hasType (by decide)) (I.ok.hd P0) mG RT
  (iL I hg hm ⟨rfl,?_⟩ uY)
 rw[he];refine Calls.evalArgs_plain ?_;have W3:=ha mM pins s σ H _ I h;rw[he] at W3;refine dr W3 fun us s1⟨vs,H1,I1,r,hl,q⟩=>?_;have ZV:us.length<=1000:=by rw[<-r.length];exact hl
 refine⟨rfl,fw ZV,I1.bk _ _ hC,hN.keeps I1.bk,TL.keeps I1.bk,fun h' x hm=>?_⟩;obtain⟨tp,e1,e2,e3,I2⟩:=Co I1 r hl hm;exact hE pins σ _ _ x C tp .none none _ .none I2 (by rw[ai]) (.inl rfl) Sub.refl (by rw[ai]) (q x tp e1 e2 e3)
end SF
namespace SF
open PySem PySem.Spec PyProof.Rows L2 PySem.W
structure d9(cm:Bool)(k:Nat)(A:Around):Prop where
 hd:cm=true->A.handled=none
 dp:A.depth+3*k+5<recursionLimit
 un:A.units+16*k+200<cLine
section
variable {cm:Bool} {j k:Nat} {A:Around}
theorem J7(r:fj k A):d9 cm k A:=⟨fun _=>r.hd,r.dp,r.un⟩
theorem d9.calm(r:d9 true k A):fj k A:=⟨r.hd rfl,r.dp,r.un⟩
theorem d9.deeper(r:d9 cm (k+1) A)(env:Env):d9 cm k (A.deeper env):=
 ⟨r.hd,by have:=r.dp;show A.depth+1+3*k+5<_;lia,by have:=r.un;show A.units+3+16*k+200<_;lia⟩
theorem d9.mono(r:d9 cm k A)(h:j<=k):d9 cm j A:=⟨r.hd,by have:=r.dp;lia,by have:=r.un;lia⟩
theorem d9.mark{v:Option Value}(r:d9 cm k A):d9 false k (A.mark v):=⟨nofun,r.dp,r.un⟩
theorem d9.depth(r:d9 cm k A):A.depth<recursionLimit:=by have:=r.dp;lia
end
section
variable {X:Cx} {pins:List (Addr×Obj)} {σ:L2.St} {H:Hp} {s:Shared}
noncomputable abbrev Ux(X:Cx)(A:Around)(cm:Bool)(E:Value->Shared->Prop):Cx:={X with A:=A,calm:=cm,xe:=E}
theorem EN{A:Around}{cm:Bool}{E:Value->Shared->Prop}(I:Inv X pins σ H s)(hf:A.frames=some X.stack)(hh:cm=true->A.handled=none):Inv (Ux X A cm E) pins σ H s:=
 ⟨⟨I.ok.mod,I.ok.kind,I.ok.glob,I.ok.blt,I.ok.above,I.ok.inj,I.ok.has,I.ok.Jd,hh,hf,I.ok.KR,I.ok.N8,I.ok.bs,I.ok.zR,I.ok.uV,I.ok.xy,I.ok.jk,I.ok.C5⟩,I.os,I.bare,I.base,I.loc,I.cell,I.free,I.fO,I.pin,I.bT,I.len⟩
theorem md{A:Around}{cm:Bool}{E:Value->Shared->Prop}(ok:X.Ok)(I:Inv (Ux X A cm E) pins σ H s):Inv X pins σ H s:=⟨ok,I.os,I.bare,I.base,I.loc,I.cell,I.free,I.fO,I.pin,I.bT,I.len⟩
noncomputable abbrev vY(X:Cx)(pins:List (Addr×Obj))(E:XK):Cx:={X with pn:=X.pn++pins,xe:=fun e s'=>∃a C t tb d σ H1 H' qP,e=.ref a/\Inv X pins σ H' s'/\H' a=some (dX a C t tb d)/\Cn H' a tb/\Sub a H1 H'/\H1 a=some (dX a C t qP d)/\E (.ref C) d H1}
theorem pS{E:XK}{oI:List (Addr×Obj)}(I:Inv (vY X pins E) oI σ H s):Inv X pins σ H s:=
 ⟨⟨I.ok.mod,I.ok.kind,I.ok.glob,I.ok.blt,I.ok.above,I.ok.inj,I.ok.has,I.ok.Jd,I.ok.hd,I.ok.frames,I.ok.KR,I.ok.N8,I.ok.bs,I.ok.zR,I.ok.uV,I.ok.xy,I.ok.jk,I.ok.C5⟩,I.os,I.bare,I.base,I.loc,I.cell,I.free,I.fO,
  fun p hp=>I.pin p (List.mem_append_left _ hp),I.bT,I.len⟩
theorem Mt{E:XK}(I:Inv X pins σ H s):Inv (vY X pins E) [] σ H s:=
 ⟨⟨I.ok.mod,I.ok.kind,I.ok.glob,I.ok.blt,I.ok.above,I.ok.inj,I.ok.has,I.ok.Jd,I.ok.hd,I.ok.frames,I.ok.KR,I.ok.N8,I.ok.bs,I.ok.zR,I.ok.uV,I.ok.xy,I.ok.jk,I.ok.C5⟩,I.os,I.bare,I.base,I.loc,I.cell,I.free,I.fO,
  fun p hp=>I.pin p (by rcases List.mem_append.mp hp with z|z;exact z;cases z),I.bT,I.len⟩
theorem yD{E:XK}:iC (vY X pins E) E:=fun _ σ H' _ a C t tb d H1 qP I ha ht hs h1 hE=>⟨a,C,t,tb,d,σ,H1,H',qP,rfl,pS I,ha,ht,hs,h1,hE⟩
noncomputable abbrev kd(X:Cx)(a:Addr):Cx:=Ux X (X.A.mark (some (.ref a))) false fun _ _=>False
theorem EO{a:Addr}(I:Inv X pins σ H s):Inv (kd X a) pins σ H s:=EN I I.ok.frames nofun
theorem ER{i:Nat}{n:Str}{h':Heap}{v:Option Value}{m:Str->Option Value}{tk:Nat}(I:Inv X pins σ H s)(hN:X.N.Nodup)(hi:X.N[i]?=some n)(hl:X.env.kindOf n=some .local)(hm:∀(j:Nat)(x:Str)(v:V),X.N[j]?=some x->σ[j]?=some (some v)->N7 X.env.scope x->∃u,RelV v u/\Look X.env s.heap m x u)(hn:h'.Ns X.env.locals (fun x=>if x=n then v else m x))(hs:Heap.SameBut X.env.locals s.heap h'):Inv X pins (σ.set i none) H {s with heap:=h',toks:=tk}:=by
 have GK:i<σ.length:=by rw[I.len];exact(List.getElem?_eq_some_iff.mp hi).1
 have old:∀b o,X.fY.heap.get? b=some o->b≠X.env.locals:=fun b o e=>Nat.ne_of_lt (Nat.lt_of_lt_of_le (Heap.lt_size e) I.ok.above);refine⟨I.ok,I.os,I.bare,⟨fun b o e n hb hx=>(hs.2 b (old b o e)).trans (I.base.keep b o e n hb hx),fun b o e n hb hx=>?_,I.base.free,fun b o e hx=>?_,I.base.qI,I.base.oF,I.base.oG⟩,⟨_,hn,fun j y v' e1 e2 e3=>?_⟩,fun y c e=>?_,I.free,I.fO,fun p hp=>?_,fun b o e=>?_,by simpa using I.len⟩
 ·obtain⟨sl,e1⟩:=I.base.slot b o e n hb hx;exact⟨sl,(hs.2 b (old b o e)).trans e1⟩
 ·obtain⟨o',e1⟩:=I.base.there b o e hx;exact⟨o',(hs.2 b (old b o e)).trans e1⟩
 ·by_cases hj:j=i
  ·subst hj;rw[List.getElem?_set_self GK] at e2;cases e2
  ·rw[List.getElem?_set_ne (Ne.symm hj)] at e2;obtain⟨u',r',q⟩:=hm j y v' e1 e2 e3;refine⟨u',r',?_⟩;rcases q with⟨k,e⟩|⟨k,c,e,z⟩
   ·have ne:y≠n:=fun e=>hj (oJ hN e1 (e▸hi));exact .inl ⟨k,(show(if y=n then v else m y)=some u' from(if_neg ne).trans e)⟩
   ·exact .inr ⟨k,c,e,z.sameBut hs (I.GJ y c e)⟩
 ·obtain⟨w',z⟩:=I.cell y c e;exact⟨w',z.sameBut hs (I.GJ y c e)⟩
 ·obtain⟨e,n,ne,nf,d⟩:=I.pin p hp;exact⟨(hs.2 p.1 ne).trans e,n,ne,nf,d⟩
 ·refine(I.bT b o e).qH (fun c v hc q=>(hs.2 c ?_).trans q) (fun _ q=>q) fun _ _ q=>q;rintro rfl;rcases hc with z|z
  ·rw[<-z,I.free] at e;cases e
  ·rw[I.free] at z;cases z
theorem name_goes{M:Model}{A:Around}{E:Value->Shared->Prop}{i:Nat}{n:Str}{pos:Pos}{Q:Unit->Shared->Prop}(I:Inv X pins σ H s)(hN:X.N.Nodup)(hi:X.N[i]?=some n)(hl:X.env.kindOf n=some .local)(h:∀s',Inv X pins (σ.set i none) H s'->Q () s'):
 wpAny M A (do bindName X.env n .none;unbindBehindTheSuite X.env n pos) Q E s:=by
 obtain⟨m,hn,hm⟩:=id I.loc;have KS:(X.env.scope.kind==.class||(X.env.scope.kind==.module&&X.env.locals !=X.env.globals))=false:=by rw[I.ok.kind];rfl
 exact wpAny_nameGoes_keeps hl hn KS fun h' v N' hs=>h _ (ER I hN hi hl hm N' hs)
end
noncomputable def Uy(E:XK)(i:Nat)(tb ts:TS):TS:=fun D σ H=>tb D σ H/\∀(bJ:L2.St)(H':Hp)(a C t:Addr)(tb:Value)(d:Option Addr)(H1:Hp)(qP:Value),bJ.length=σ.length->H' a=some (dX a C t tb d)->Sub a H1 H'->H1 a=some (dX a C t qP d)->E (.ref C) d H1->
 ts {nx:=fun fP H2=>D.nx (fP.set i none) H2,rt:=D.rt,bk:=fun fP H2=>D.bk (fP.set i none) H2,ct:=fun fP H2=>D.ct (fP.set i none) H2} (bJ.set i (some (.ref a))) H'
theorem Mu{X:Cx}{E:XK}{body J8:List Stmt}{P1:Stmt}{tb ts:TS}{c:Addr}{x n:Str}{i:Nat}{p hp pos:Pos}(uX:X.stack=X.env::X.outer)(vb:X.env.frame=some X.env.locals)(hb:∀pins,qJ (vY X pins E) body tb)(hs:∀a,qJ (kd X a) (P1::J8) ts)(hg:Gl X x)(hm:X.mg x=some (.ref c))(hE:∀C d H,E (.ref C) d H->exmOne X.K (.ref C) (.ref c)=some true)(hN:X.N.Nodup)(hi:X.N[i]?=some n)(hl:X.env.kindOf n=some .local)(uY:(x==("__debug__":Str))=false:=by decide):
 L2.PS X (.Try body [.ExceptHandler (some (.Name x p)) (some n) (P1::J8) hp] [] [] pos) (Uy E i tb ts):=by
 intro pins s σ H D I h;refine wpAny_Try_except (wpAny_mono (hb pins [] s σ H D (Mt I) h.1) (fun f s1 q=>?_) fun e s1 q=>?_)
 ·cases f with
  |next=>obtain⟨bJ,H',J,q⟩:=q;exact wpAny_execs_nil ⟨bJ,H',pS J,q⟩
  |brk=>obtain⟨bJ,H',J,q⟩:=q;exact⟨bJ,H',pS J,q⟩
  |cont=>obtain⟨bJ,H',J,q⟩:=q;exact⟨bJ,H',pS J,q⟩
  |ret u=>obtain⟨v,bJ,H',J,r,q⟩:=q;exact⟨v,bJ,H',pS J,r,q⟩
 ·obtain⟨a,C,t,tbv,d,bJ,H1,H',qP,rfl,J,ha,ht,Mv,ZW,W4⟩:=q;refine vX uX vb J ha ht fun s2 T NM eE J2=>?_;have NK:upd (upd H' a (dX a C t (.ref T) d)) T (xu T (rawInt X.env.locals)) a=some (dX a C t (.ref T) d):=by rw[aq (Ne.symm eE),ai]
  refine pR (T:=T) (fl:=rawInt X.env.locals) (C:=C) (t:=t) (d:=d) J2 NK (by rw[ai]) fun s3 J3=>?_;rw[zQ] at J3;have RU:upd (upd H' a (dX a C t (.ref T) d)) T (xu T .none) a=some (dX a C t (.ref T) d):=by rw[aq (Ne.symm eE),ai]
  have Uz:upd (upd H' a (dX a C t (.ref T) d)) T (xu T .none) T=some (xu T .none):=by rw[ai]
  have hs3:Sub a H1 (upd (upd H' a (dX a C t (.ref T) d)) T (xu T .none)):=Mv.trans fun b o n e=>by
   rw[aq (fun z=>by subst z;rw[NM] at e;cases e),aq n];exact e
  generalize upd (upd H' a (dX a C t (.ref T) d)) T (xu T .none)=H3 at J3 RU Uz hs3;have K3:Inv (kd X a) pins bJ H3 s3:=EO J3;refine wpAny_handleBy_cons (codeAny_handlers_test ?_) (by intro q;cases q);refine iL (X:=kd X a) K3 hg hm ?_ uY;obtain⟨o,vs,e,hc,hd,hf,h6,h0,h1⟩:=oC J3.bT RU;have LT:Looks (model X.prog X.w) s3.heap (typeOf (.ref a)) (.ref C):=fun A' Q' E' s' k q=>by
   unfold typeOf
   dsimp only
   exact wpAny_bind (wpAny_loadPart (k _ _ e) (wpAny_pure (by rw[hc];exact q)))
  refine(exm_one J3.mH LT (hE _ _ _ W4)).here ?_;refine codeAny_handlers_suite_as (pR (X:=kd X a) (T:=T) (fl:=.none) (C:=C) (t:=t) (d:=d) K3 RU Uz fun s4 K4=>?_);have e4:upd H3 T (xu T .none)=H3:=by
   funext b;unfold upd;by_cases z:b=T
   ·rw[if_pos z,z,Uz]
   ·rw[if_neg z]
  rw[e4] at K4;refine oK (X:=kd X a) (v:=.ref a) K4 hN hi (.inl hl) rfl (fun s5 K5=>?_) (.inr hl);have hlen:bJ.length=σ.length:=by rw[J.len,I.len]
  refine wpAny_mono (hs a pins s5 _ H3 _ K5 (h.2 bJ H3 a C t (.ref T) d H1 qP hlen RU hs3 ZW W4)) (fun f s6 q=>?_) fun _ _ z=>z.elim;cases f with
  |next=>obtain⟨Ot,H6,K6,q⟩:=q;exact name_goes (md J.ok K6) hN hi hl fun s7 K7=>⟨_,H6,K7,q⟩
  |brk=>obtain⟨Ot,H6,K6,q⟩:=q;exact name_goes (md J.ok K6) hN hi hl fun s7 K7=>⟨_,H6,K7,q⟩
  |cont=>obtain⟨Ot,H6,K6,q⟩:=q;exact name_goes (md J.ok K6) hN hi hl fun s7 K7=>⟨_,H6,K7,q⟩
  |ret u=>obtain⟨v,Ot,H6,K6,r,q⟩:=q;exact name_goes (md J.ok K6) hN hi hl fun s7 K7=>⟨v,_,H6,K7,r,q⟩
structure J9(P:Program)(w:World)(K:Frag)(mg:Str->Option Value)(base:Heap)(CX:oP)(cm:Bool)(k:Nat)(f:Addr)(fd:FuncData)(ps:List Str)(sp:Shared->Sp):Prop where
 len:∀s vs H Q E,sp s vs H Q E->vs.length=ps.length
 run:∀(A:Around)(outer:List Env)(s:Shared)(H:Hp)(args:Args)(us:List Value)(vs:List V)(Q:VK)(E:XK),d9 cm k A->oQ P w K mg base A outer s H->BindsTo s fd args (ps.zip us)->Vals vs us->sp s vs H Q E->
  codeAny (model P w) A (.call (.ref f) args) (CR CX outer P w H s Q E) s
noncomputable abbrev Mw(CX:oP)(cm:Bool)(P:Program)(w:World)(K:Frag)(mg:Str->Option Value)(base:Heap)(N:List Str)(qual:Str)(scope:Scope)(f:Addr)(cd:Value)(A:Around)(outer:List Env)(s:Shared)(H:Hp)(E:XK):Cx:=
 {qL CX P w K mg base N qual scope f cd A outer s H E with calm:=cm}
section
variable {P:Program} {w:World} {K:Frag} {mg:Str->Option Value} {base:Heap} {CX:oP} {cm:Bool} {k:Nat}
theorem yE{N ps:List Str}{qual:Str}{scope:Scope}{f:Addr}{cd:Value}{A:Around}{outer:List Env}{s s1:Shared}{H:Hp}{E:XK}{us:List Value}{vs:List V}(S:aB N ps scope)(hd:cm=true->A.handled=none)(e0:oQ P w K mg base A outer s H)(hl:vs.length=ps.length)(r:Vals vs us)(x:InCallC s s.heap.objs.size (bindL (envOfC qual scope s.heap.objs.size f cd).kindOf (ps.zip us) fun _=>none) (cellsFrom (s.heap.objs.size+1) scope.names []) (bindC (envOfC qual scope s.heap.objs.size f cd).kindOf (ps.zip us) fun _=>none) s1):
 Inv (Mw CX cm P w K mg base N qual scope f cd A outer s H E) [] (start N vs) H s1:=by
 have e1:oQ P w K mg base {A with handled:=none} outer s H:=⟨e0.frames,e0.mod,e0.bs,e0.zR,e0.jk,e0.C5,e0.bT,e0.bare⟩;have I:=rB (CX:=CX) (E:=E) S (A:={A with handled:=none}) rfl e1 hl r x;exact EN (X:=qL CX P w K mg base N qual scope f cd {A with handled:=none} outer s H E) (A:=A.deeper (envOfC qual scope s.heap.objs.size f cd)) (cm:=cm) (E:=(qL CX P w K mg base N qual scope f cd A outer s H E).xe) I (Around.frames_deeper e0.frames) hd
theorem _root_.L2.DB.NO{x qual:Str}{st:Stmt}{f:Addr}{fd:FuncData}{N ps:List Str}{sp:Shared->Sp}(F:DB K x qual st f fd)(S:aB N ps (ak st))(len:∀s vs H Q E,sp s vs H Q E->vs.length=ps.length)(js:∀(bM:Value)(A:Around)(outer:List Env)(s:Shared)(H:Hp)(vs:List V)(Q:VK)(E:XK),codeIn K bM qual=true->fd.code=bM->d9 cm k (A.deeper (envOfC qual (ak st) s.heap.objs.size f bM))->sp s vs H Q E->
 ∃t,qJ (Mw CX cm P w K mg base N qual (ak st) f bM A outer s H E) (dG st) t/\t {nx:=fun _ H'=>Q .dU H',rt:=Q} (start N vs) H):J9 P w K mg base CX cm (k+1) f fd ps sp:=by
 obtain⟨oc,od,kV,doc,pm,an,bM,ct,xP,rfl,lk,ko⟩:=F.ex;refine⟨len,fun A outer s H args us vs Q E hr e0 hb r u5=>?_⟩;have KX:K.In s.heap:=e0.mod.Jc.keeps fun b o e=>(e0.bs b o e).1;have lim:s.heap.NoLimit:=e0.mod.nolimit.keeps fun b o e=>(e0.bs b o e).1;refine codeAny_call_function hr.depth (KX _ _ lk) rfl S.co S.gen rfl (codeRec_of KX ko) (hb _ _ _ _ ?_);refine wpAny_newFunctionEnv_cells S.kind (fun⟨n,v⟩ hy=>?_) fun env he s1 x=>?_
 ·rcases S.par n (List.of_mem_zip hy).1 with q|q
  ·exact .inl q
  ·exact .inr ⟨q,cellsFrom_some _ _ _ (.inl q)⟩
 ·subst he;refine⟨lim.keeps x.toInCall.keep,codeAny_func ?_⟩;obtain⟨t,ht,hq⟩:=js bM A outer s H vs Q E ko rfl (hr.deeper _) u5;have I:Inv (Mw CX cm P w K mg base N qual (ak st) f bM A outer s H E) [] (start N vs) H s1:=yE S hr.hd e0 (len _ _ _ _ _ u5) r x;refine wpAny_mono (ht [] s1 _ H _ I hq) (fun fl s' hs=>?_) fun e s' hs=>hs;cases fl with
  |ret u=>obtain⟨v,bJ,H',J,rv,q⟩:=hs;exact⟨v,H',J.os,J.bare,J.base,J.bT,rv,q⟩
  |next=>obtain⟨bJ,H',J,q⟩:=hs;exact⟨.dU,H',J.os,J.bare,J.base,J.bT,rfl,q⟩
  |brk=>obtain⟨_,_,_,q⟩:=hs;exact q.elim
  |cont=>obtain⟨_,_,_,q⟩:=hs;exact q.elim
end
structure pT(P:Program)(w:World)(K:Frag)(mg:Str->Option Value)(base:Heap)(CX:oP)(cm:Bool)(k:Nat)(x:Str)(ps:List Str)(sp:Shared->Sp):Prop where
 ex:∃f fd,J9 P w K mg base CX cm k f fd ps sp/\mg x=some (.ref f)/\keepIn K (.ref f)=true/\Binds K fd ps []
theorem _root_.L2.aH.NO{P:Program}{w:World}{K:Frag}{mg:Str->Option Value}{base:Heap}{CX:oP}{cm:Bool}{k:Nat}{x:Str}{st:Stmt}{N ps:List Str}{sp:Shared->Sp}(D:aH K mg x st ps)(S:aB N ps (ak st))(len:∀s vs H Q E,sp s vs H Q E->vs.length=ps.length)(js:∀(f:Addr)(bM:Value)(A:Around)(outer:List Env)(s:Shared)(H:Hp)(vs:List V)(Q:VK)(E:XK),codeIn K bM x=true->d9 cm k (A.deeper (envOfC x (ak st) s.heap.objs.size f bM))->sp s vs H Q E->
 ∃t,qJ (Mw CX cm P w K mg base N x (ak st) f bM A outer s H E) (dG st) t/\t {nx:=fun _ H'=>Q .dU H',rt:=Q} (start N vs) H):pT P w K mg base CX cm (k+1) x ps sp:=
 let⟨f,fd,a,b,c⟩:=D.ex
 ⟨f,fd,a.NO S len fun bM A outer s H vs Q E hc _=>js f bM A outer s H vs Q E hc,b,a.kp,c⟩
theorem yF{cm:Bool}{P:Program}{w:World}{K:Frag}{mg:Str->Option Value}{base:Heap}{N:List Str}{qual:Str}{scope:Scope}{f:Addr}{cd:Value}{A:Around}{outer:List Env}{s:Shared}{H:Hp}{E:XK}:
 iC (Mw (Gw P w) cm P w K mg base N qual scope f cd A outer s H E) E:=fun pins σ H' s' a C t tb d H1 qP I ha ht hs h1 hE=>by
 show wpAny _ _ (leaving _ _) _ _ _;exact r_ (X:=Mw (Gw P w) cm P w K mg base N qual scope f cd A outer s H E) rfl rfl I ha ht fun s2 H2 T J NK UA Ds=>
  ⟨a,C,t,_,d,H1,H2,qP,rfl,J.os,J.bare,J.base,J.bT,NK,UA,hs.trans Ds,h1,hE⟩
section
variable {X:Cx} {CX:oP} {cm:Bool} {k:Nat} {f:Addr} {fd:FuncData} {ps:List Str} {E:XK} {x:Str} {p pos:Pos} {e:Expr} {es:List Expr} {t:TA}
theorem A7{sp:Shared->Sp}{pins:List (Addr×Obj)}{σ:L2.St}{H:Hp}{s:Shared}{Q:VK}{us:List Value}{vs:List V}(F:J9 X.prog X.w X.K X.mg X.base CX cm k f fd ps sp)(hr:d9 cm k X.A)(hb:Binds X.K fd ps [])(hx:Passes CX X E)(I:Inv X pins σ H s)(r:Vals vs us)(h:sp s vs H Q E):wpAny (model X.prog X.w) X.A (call (.ref f) us) (EP X pins σ Q) X.xe s:=by
 have hl:us.length=ps.length:=by rw[<-r.length];exact F.len _ _ _ _ _ h
 have NP:BindsTo s fd ⟨us,[]⟩ (ps.zip us):=by
  have:=hb s us I.mH (by rw[List.append_nil];exact hl);rw[List.append_nil] at this;exact this
 refine wpAny_call (codeAny_mono (F.run X.A X.stack s H ⟨us,[]⟩ us vs Q E hr I.GZ NP r h) fun r s' hq=>?_);cases r with
 |error e=>exact hx pins σ H s e s' I hq
 |ok fl=>
  cases fl with
  |ret u=>exact I.after hq
  |next=>exact False.elim hq
  |brk=>exact False.elim hq
  |cont=>exact False.elim hq
theorem ES{sp:Sp}(F:pT X.prog X.w X.K X.mg X.base CX cm k x ps fun _=>sp)(hr:d9 cm k X.A)(hx:Passes CX X E)(ha:PA X (e::es) t)(hg:Gl X x:=by rfl)(uY:(x==("__debug__":Str))=false:=by decide)(he:starEach (e::es) X.env=(false,eval e X.env)::starEach es X.env:=by rfl)(mG:(backTo pos (starEach es X.env)).any (·.1)=false:=by rfl):PE X (.Call (.Name x p) (e::es) [] pos) (zY sp [] E t):=by
 obtain⟨f,fd,a,b,c,d⟩:=F.ex;intro pins s σ H Q I h;refine wpAny_Call_Name_kw (iL I hg b ?_ uY);refine callWith_K (h₀:=X.base) I.ok.mod.Jc c (dr (ha pos pins s σ H _ I h) fun us s1⟨vs,H1,I1,r,q⟩=>⟨I1.mH,?_⟩) he mG;have q':sp (vs++[]) H1 Q E:=q;rw[List.append_nil] at q';exact A7 a hr d hx I1 r q'
end
end SF
namespace SF
open PySem PySem.Spec PyProof.Rows L2 PySem.W
noncomputable def qQ(f:Addr)(name qual:Str)(params:Arguments)(body:Expr)(scope:Scope)(cl:List (Str×Addr))(c':Addr):HO:=.ext fun h=>∃pm A8,h.get? f=some (kla_obj name qual params body scope cl pm c' A8)
noncomputable def BMain(base:Heap)(mg:Str->Option Value):Prop:=∃bm ob,mg "__builtins__"=some (.ref bm)/\bm≠builtinsNs/\bm≠mainGlobals/\base.get? bm=some ob/\ob.cls=.type "module"/\ob.dict=some builtinsNs/\ob.data=.plain
structure vZ(N ps:List Str)(sc:Scope):Prop where
 kind:sc.kind=.function
 co:sc.isCoroutine=false
 gen:sc.isGenerator=false
 par:∀x∈ps,sc.names.lookup x=some .local
 ju:∀y∈sc.names,y.2≠.cell
noncomputable def P2(CX:oP)(cm:Bool)(P:Program)(w:World)(K:Frag)(mg:Str->Option Value)(base:Heap)(N:List Str)(qual:Str)(scope:Scope)(f:Addr)(cd:Value)(cl:List (Str×Addr))(A:Around)(outer:List Env)(s:Shared)(H:Hp)(E:XK):Cx where
 prog:=P
 w:=w
 K:=K
 mg:=mg
 base:=base
 A:=A.deeper (envX qual scope s.heap.objs.size f cd cl)
 N:=N
 fY:=s
 BA:=H
 env:=envX qual scope s.heap.objs.size f cd cl
 outer:=outer
 stack:=envX qual scope s.heap.objs.size f cd cl::outer
 ex:=[]
 calm:=cm
 fn:=fun _=>false
 pn:=[]
 xe:=fun e s'=>wpAny (model P w) (A.deeper (envX qual scope s.heap.objs.size f cd cl)) (leaving (envX qual scope s.heap.objs.size f cd cl) e) (fun _ K_=>CX outer H s E e K_) (fun e' K_=>CX outer H s E e' K_) s'
section
variable {P:Program} {w:World} {K:Frag} {mg:Str->Option Value} {base:Heap} {CX:oP} {cm:Bool} {k:Nat} {N ps:List Str} {name qual:Str} {params:Arguments} {body:Expr} {scope:Scope} {f c':Addr} {cl:List (Str×Addr)} {A:Around} {outer:List Env} {s:Shared} {H:Hp} {E:XK} {Q:VK} {pm A8:Value}
theorem yG{cd:Value}:iC (P2 (Gw P w) cm P w K mg base N qual scope f cd cl A outer s H E) E:=fun pins σ H' s' a C t tb d H1 qP I ha ht hs h1 hE=>by
 show wpAny _ _ (leaving _ _) _ _ _;exact r_ (X:=P2 (Gw P w) cm P w K mg base N qual scope f cd cl A outer s H E) rfl rfl I ha ht fun s2 H2 T J NK UA Ds=>
  ⟨a,C,t,_,d,H1,H2,qP,rfl,J.os,J.bare,J.base,J.bT,NK,UA,hs.trans Ds,h1,hE⟩
theorem HV{args:Args}{us:List Value}(S:vZ N ps scope)(ho:s.heap.get? f=some (kla_obj name qual params body scope cl pm c' A8))(ko:s.heap.CodeRec (.ref c') qual)(e0:oQ P w K mg base A outer s H)(hr:d9 cm (k+1) A)(ET:bindArgs (kla_fn name qual params body scope cl pm (.ref c') A8) args=pure (ps.zip us))(C9:∀x c,cl.lookup x=some c->(∃v,s.heap.IsCell c v)/\H c=none)(UB:∀x y c,cl.lookup x=some c->cl.lookup y=some c->x=y)(UC:∀x,scope.names.lookup x=some .free->∃c,cl.lookup x=some c){σ:L2.St}(Ma:σ.length=N.length)(hv:∀(i:Nat)(x:Str)(v:V),N[i]?=some x->σ[i]?=some (some v)->(scope.names.lookup x=some .local/\∃u,RelV v u/\(ps.zip us).reverse.lookup x=some u)\/(scope.names.lookup x=some .free/\∃c u,cl.lookup x=some c/\s.heap.IsCell c (some u)/\RelV v u))(js:d9 cm k (A.deeper (envX qual scope s.heap.objs.size f (.ref c') cl))->∃t,PE (P2 CX cm P w K mg base N qual scope f (.ref c') cl A outer s H E) body t/\t σ H Q):
 codeAny (model P w) A (.call (.ref f) args) (CR CX outer P w H s Q E) s:=by
 have lim:s.heap.NoLimit:=e0.mod.nolimit.keeps fun b o e=>(e0.bs b o e).1;refine kla_callFunE hr.depth ho rfl S.co S.gen rfl ko ?_;rw[ET];refine wpAny_pure (wpAny_newFunctionEnv S.ju (fun x hx=>S.par _ (List.of_mem_zip (show(x.1,x.2)∈ps.zip us from hx)).1) (fun jj C7 Jx=>⟨lim.fresh _ Jx,?_⟩) S.kind);show codeAny _ _ (.expr body (envX qual scope s.heap.objs.size f (.ref c') cl)) _ _;have EU:∀b o,s.heap.get? b=some o->jj.get? b=some o:=fun b o e=>Jx.extBut b o (Nat.ne_of_lt (Heap.lt_size e)) (Heap.get?_push_of_some _ e);obtain⟨t,ht,hq⟩:=js (hr.deeper _);have cK:∀c v,s.heap.IsCell c v->jj.IsCell c v:=fun c v⟨o,e,d⟩=>⟨o,EU _ _ e,d⟩;have I:Inv (P2 CX cm P w K mg base N qual scope f (.ref c') cl A outer s H E) [] σ H {s with heap:=jj,toks:=s.toks+(ps.zip us).length}:=by
  have Dw:∀b:Addr,b∉(P2 CX cm P w K mg base N qual scope f (.ref c') cl A outer s H E).ex:=fun b z=>absurd (show b∈([]:List Addr) from z) (by simp);refine⟨⟨e0.mod,S.kind,rfl,rfl,Nat.le_refl _,UB,fun y hy=>?_,fun y c z=>Bool.noConfusion (show false=true from z),hr.hd,Around.frames_deeper e0.frames,.inr ⟨rfl,rfl⟩,fun b z=>absurd z (Dw b),e0.bs,e0.zR,fun b _ _=>Dw b,fun b z=>absurd z (Dw b),e0.jk,e0.C5⟩,
   rfl,e0.bare,Un.kept EU,⟨_,C7,fun i x v h1 h2 h3=>?_⟩,fun y c e=>?_,e0.bT.fresh (Nat.le_refl _),fun y c e=>(C9 y c e).2,fun p hp=>absurd (show p∈([]:List (Addr×Obj)) from hp) (by simp),e0.bT.kept EU,Ma⟩
  ·have hy:scope.names.lookup y=some .cell\/scope.names.lookup y=some .free:=hy;rcases hy with hy|hy
   ·exact absurd rfl (S.ju _ (PySem.mem_of_lookup hy))
   ·exact UC y hy
  ·rcases hv i x v h1 h2 with⟨k,u,r,e⟩|⟨k,c,u,e,z,r⟩
   ·exact⟨u,r,.inl ⟨k,e⟩⟩
   ·exact⟨u,r,.inr ⟨.inr k,c,e,cK _ _ z⟩⟩
  ·obtain⟨v,z⟩:=(C9 y c e).1;exact⟨v,cK _ _ z⟩
 refine kla_codeExpr (wpAny_mono (ht [] _ σ H Q I hq) (fun u s'⟨v,H',J,rv,q⟩=>⟨v,H',J.os,J.bare,J.base,J.bT,rv,q⟩) fun e s' hs=>hs)
end
noncomputable def UD(i:Nat)(R:Addr->Hp->VK->Prop):TE:=fun σ H Q=>∃f,σ[i]?=some (some (.ref f))/\R f H Q
theorem Mx{X:Cx}{CX:oP}{E:XK}{i:Nat}{x:Str}{p pos:Pos}{R:Addr->Hp->VK->Prop}(hN:X.N[i]?=some x)(hv:N7 X.env.scope x)(hx:Passes CX X E)(hR:∀pins σ H s f Q,Inv X pins σ H s->R f H Q->FnAt f s.heap/\codeAny (model X.prog X.w) X.A (.call (.ref f) ⟨[],[]⟩) (CR CX X.stack X.prog X.w H s Q E) s)(hd:(x==("__debug__":Str))=false:=by decide)(ko:(x==("__classdict__":Str))=false:=by decide):PE X (.Call (.Name x p) [] [] pos) (UD i R):=by
 intro pins s σ H Q I ⟨f,e,h⟩;refine wpAny_Call_Name_kw (dr (Di (X:=X) (pos:=p) hN hv hd ko pins s σ H (fun v H1=>v=.ref f/\H1=H) I ⟨_,e,rfl,rfl⟩) fun u s1⟨v,H1,I1,r,ev,eh⟩=>?_);subst ev eh;cases r;obtain⟨a,b⟩:=hR pins σ _ s1 f Q I1 h;refine callWith_F0 a (wpAny_call (codeAny_mono b fun r s' hq=>?_));cases r with
 |error e=>exact hx pins σ _ s1 e s' I1 hq
 |ok fl=>
  cases fl with
  |ret u=>exact I1.after hq
  |next=>exact False.elim hq
  |brk=>exact False.elim hq
  |cont=>exact False.elim hq
end SF
namespace SF
open PySem PySem.Spec PyProof.Rows L2 PySem.W
noncomputable def sf(H:Hp)(d:Option Addr):Prop:=d=none\/∃dx fs,d=some dx/\H dx=some (.xd fs)
theorem sf.same{H H':Hp}{d:Option Addr}(h:sf H d)(s:av H H'):sf H' d:=by
 rcases h with rfl|⟨dx,fs,rfl,e⟩
 ·exact .inl rfl
 ·exact .inr ⟨dx,fs,rfl,s _ _ e⟩
noncomputable def My:V->Value
 |.ref a=>.ref a
 |.ty n=>.type n
 |_=>.none
theorem EV{P:Program}{w:World}{H:Hp}{h:Heap}{a C t:Addr}{tb:Value}{d:Option Addr}(x:jY P w H h)(ha:H a=some (dX a C t tb d))(hd:sf H d):∃ox od vs,InstAt h a ox C od/\ox.dict=d/\ox.data=.fields vs/\vs[0]?=some (.ref t):=by
 obtain⟨o,vs,e,hc,Dg,hf,h6,h0,h1⟩:=oC x ha;have no:notCls o=true:=by
  obtain⟨cc,dd,dt,sl⟩:=o;simp only at hf;subst hf;rfl
 rcases hd with rfl|⟨dx,fs,rfl,hx⟩
 ·exact⟨o,none,vs,⟨e,hc,no,by rw[Dg];trivial⟩,Dg,hf,h0⟩
 ·obtain⟨mA,⟨od,es,ep,e2,r⟩,_⟩:=(show cX P w H h dx (.xd fs) from x dx _ hx);exact⟨o,some od,vs,⟨e,hc,no,by rw[Dg];exact e2⟩,Dg,hf,h0⟩
section
variable {X:Cx}
noncomputable def HW(K:Frag):List V->Hp->VK->Prop:=fun xs H Q=>∃a C t tb d c b,xs=[.ref a,c]/\H a=some (dX a C t tb d)/\sf H d/\HS K C/\My c≠.none/\kitOne K (.ref C) (My c)=some b/\Q (.bl b) H
theorem gJ:jf X (.builtin "isinstance") (HW X.K):=by
 intro pins s σ H xs us Q I r h;obtain⟨a,C,t,tb,d,c,b,rfl,ha,hd,F,hc,e,q⟩:=h;obtain⟨u,v,rfl,ru,rv⟩:=Vals.two r;cases ru;have ev:v=My c:=by
  cases c<;>first|exact rv|exact absurd rfl hc
 subst ev;obtain⟨ox,od,vs,J,_⟩:=EV I.bT ha hd;exact kia_one (EJ F) I.mH ⟨ox,od,J⟩ e (fun z=>nomatch z) fun tk=>⟨.bl b,H,I.tok _,rfl,q⟩
theorem pU(k:Bool):∀{bs:List Bool}{us:List Value},Vals (bs.map V.bl) us->∀y,y∈us->∀(A:Around)(s:Shared),SeqAt.EqAt A s y (.bool k) (isBoolOf k y)
 |[],_,.nil,_,hy,_,_=>absurd hy (by simp)
 |b::bs,_,.cons r t,y,hy,A,s=>by
  rcases List.mem_cons.mp hy with e|hy
  ·subst e;cases r;exact SeqAt.EqAt.bool_bool b k
  ·exact pU k t y hy A s
theorem nS(k:Bool):∀{bs:List Bool}{us:List Value},Vals (bs.map V.bl) us->us.countP (isBoolOf k)=bs.countP (·==k)
 |[],_,.nil=>rfl
 |b::bs,_,.cons r t=>by
  cases r;rw[List.countP_cons,List.countP_cons,nS k t];rfl
theorem m7(k:Bool):∀{bs:List Bool}{us:List Value}(i:Nat)(h:i<us.length),Vals (bs.map V.bl) us->isBoolOf k us[i]=(bs.getD i (!k)==k)
 |[],_,i,h,.nil=>absurd h (by simp)
 |_::_,_,0,_,.cons r t=>by cases r;rfl
 |b::bs,_::us,i+1,h,.cons r t=>by
  have:=m7 k (bs:=bs) i (Nat.lt_of_succ_lt_succ h) t;simpa using this
noncomputable def P4(K:Frag):V->List V->Hp->VK->Prop:=fun x vs H Q=>∃(p:Addr)(bs:List Bool)(k:Bool),x=.ref p/\vs=[.bl k]/\aW K H p (bs.map V.bl)/\Q (.int (bs.countP (·==k):Nat)) H
theorem HX:Rw X "list.count" (P4 X.K):=by
 intro pins s σ H x xs v us Q I rx r h;obtain⟨p,bs,k,rfl,rfl,hs,q⟩:=h;cases rx;obtain⟨u,rfl,ru⟩:=Vals.one r;cases ru;obtain⟨aX,rv,⟨o,n,e1,e2,e3,e4⟩,hz⟩:=I.list hs;obtain⟨cls,dd,data,sl⟩:=o;simp only at e2 e3 e4;subst e2 e3 e4;refine call_meets PySem.F.slot_list_count ⟨_,e1,rfl⟩ PySem.F.entry_list_count (PySem.F.args_list_count_2 _ _) (SeqAt.list_countAt p aX.toArray n none sl (.bool k) (isBoolOf k)) ⟨e1,fun y hy=>pU k rv y (by simpa using hy) _ _,?_⟩;rw[show aX.toArray.toList=aX from rfl,nS k rv];exact⟨.int _,H,I.tok _,⟨_,rfl⟩,q⟩
noncomputable def P5(K:Frag):V->List V->Hp->VK->Prop:=fun x vs H Q=>∃(p:Addr)(bs:List Bool)(k:Bool)(i:Nat),x=.ref p/\vs=[.bl k]/\aW K H p (bs.map V.bl)/\i<bs.length/\bs.getD i (!k)=k/\(∀j,j<i->bs.getD j (!k)=(!k))/\Q (.int (i:Nat)) H
theorem HY:Rw X "list.index" (P5 X.K):=by
 intro pins s σ H x xs v us Q I rx r h;obtain⟨p,bs,k,i,rfl,rfl,hs,hi,hh,EW,q⟩:=h;cases rx;obtain⟨u,rfl,ru⟩:=Vals.one r;cases ru;obtain⟨aX,rv,⟨o,n,e1,e2,e3,e4⟩,hz⟩:=I.list hs;obtain⟨cls,dd,data,sl⟩:=o;simp only at e2 e3 e4;subst e2 e3 e4;have hl:aX.length=bs.length:=by rw[<-rv.length];simp
 have RV:bs.length<=sizeLine:=by simpa using hz
 have lr:sizeLine<2^62:=by decide
 refine call_meets PySem.F.slot_list_index ⟨_,e1,rfl⟩ PySem.F.entry_list_index (PySem.F.args_list_index_2 _ _) (SeqAt.list_indexAt p aX.toArray n none sl (.bool k) (isBoolOf k) i (by simpa[hl] using hi) (by lia) ?_ fun m hm ZX=>?_) ⟨e1,fun y hy=>pU k rv y (by simpa using hy) _ _,?_⟩
 ·have:=m7 k i (by rw[hl];exact hi) rv;rw[hh] at this;simpa using this
 ·have:=m7 k m (by simpa using hm) rv;rw[EW m ZX] at this;simp only[List.getElem_toArray];rw[this];cases k<;>rfl
 ·exact⟨.int _,H,I.tok _,⟨_,rfl⟩,q⟩
end
end SF
namespace SF
open PySem PySem.W PySem.Builtin PySem.Builtin.ObjectAttr
section
variable {prog:Program} {w:World} {A:Around} {E:Value->Shared->Prop} {h:Heap} {g:Array GenState} {d:Drawn} {t:Nat} {os:OsState}
variable {nm q:Str} {C N:Addr} {bs bm bmB:List Value} {hdct:Bool} {sn:List Str} {sub:List Value} {ab:Bool} {col:Option Bool} {dd:Option Addr} {k0 k1 k2 k3 k5:Option Value} {B Bn newId nid UE inN:String} {bmN:List Value}
end
section
variable {prog:Program} {w:World} {A:Around} {E:Value->Shared->Prop} {s:Shared} {K:Frag} {x C:Addr} {ox:Obj} {vs:Array Value} {name:Str} {v:Value} {Q:Unit->Shared->Prop}
end
end SF
namespace SF
open PySem PySem.Spec PyProof.Rows L2 PySem.W
section
variable {X:Cx} {C fI:Addr}
end
end SF
namespace SF
open PySem PySem.Spec PyProof.Rows L2 PySem.W
theorem Cp{P:Program}{w:World}{K:Frag}{mg mb:Str->Option Value}{k:Nat}{fa a c Pt:Addr}{fd:FuncData}{x:Str}{sp:Sp}{bW:Shared}{vs:List Value}{ns:List Int}(KX:K.In bW.heap)(C7:bW.heap.Ns mainGlobals mg)(hb:bW.heap.Ns builtinsNs mb)(NP:∀x:Str,x≠"__name__"->mb x=bootBuiltins x)(UG:bW.heap.NoLimit)(A9:bW.heap.NoSeer)(hg:bW.gens=#[])(ha:bW.heap.get? a=some {cls:=.type "list",data:=.seq vs.toArray})(hi:IntsAre vs ns)(hl:ns.length<=sizeLine)(hr:fj k callerA)(ko:CodeHd bW.heap c Pt)(NQ:bW.heap.get? Pt=some (tabObj #[]))(P6:noTabs K=true)(BM:BMain bW.heap mg)(F:∀base:Heap,K.In base->base.Ns mainGlobals mg->BMain base mg->CodeHd base c Pt->J9 P w K mg base uQ true k fa fd [x] fun _=>sp)(ET:∀(s:Shared)(u:Value),BindsTo s fd ⟨[u],[]⟩ [(x,u)])(u5:∀H:Hp,aW K H a (ns.map V.int)->H Pt=some (.oj #[])->sp [.ref a] H (fun v _=>v=.bl true) E0):
 codeAny (model P w) callerA (.call (.ref fa) ⟨[.ref a],[]⟩) (fun r s'=>r=.ok (.ret (.bool true))/\OldK bW.heap s'.heap/\s'.os=bW.os/\AllBare s'.gens) bW:=by
 have rv:=rD hi;have UH:=hi.length;have RW:a≠Pt:=fun z=>by rw[z,NQ] at ha;cases ha
 have core:∀H:Hp,aW K H a (ns.map V.int)->H Pt=some (.oj #[])->jY P w H bW.heap->(∀b,H b≠none->b=a\/b=Pt)->(H a=none\/∃o xs,H a=some (.nA o (.lst xs)))->(H a≠none->K.lookup a=none)->
  codeAny (model P w) callerA (.call (.ref fa) ⟨[.ref a],[]⟩) (fun r s'=>r=.ok (.ret (.bool true))/\OldK bW.heap s'.heap/\s'.os=bW.os/\AllBare s'.gens) bW:=by
  intro H hS hP bT hA hO hK;have Dw:∀{b:Addr}{o:Obj},bW.heap.get? b=some o->(o.cls≠.type "list"\/∀xs n,o.data≠.seq xs n)->o≠tabObj #[]->H b=none:=fun{b o} e d d2=>by
   cases q:H b with
   |none=>rfl
   |some u=>
    rcases hA b (by rw[q];simp) with z|z
    ·subst z;rw[ha] at e;cases e;rcases d with d|d
     ·exact absurd rfl d
     ·exact absurd rfl (d _ _)
    ·subst z;rw[NQ] at e;cases e;exact absurd rfl d2
  have J_:∀{b:Addr}{m:Str->Option Value},bW.heap.Ns b m->(oH bW.heap H).Ns b m:=fun{b m}⟨o,es,ep,e,d,r⟩=>⟨o,es,ep,lA e (Dw e (.inr fun xs n z=>by rw[d] at z;cases z) fun z=>by rw[z] at d;cases d),d,r⟩;have W5:K.In (oH bW.heap H):=fun b o e=>lA (KX b o e) (by
   cases q:H b with
   |none=>rfl
   |some u=>
    rcases hA b (by rw[q];simp) with z|z
    ·subst z
     rw[hK (by rw[q];simp)] at e;cases e
    ·subst z
     have h2:=List.all_eq_true.mp P6 (b,o) (mem_of_lookupK e)
     have:=KX b o e
     rw[NQ] at this;cases this
     exact absurd (show false=true from h2) Bool.false_ne_true);have W6:∀{b:Addr}{o:Obj},bW.heap.get? b=some o->o.cls=.type "module"->(oH bW.heap H).get? b=some o:=fun{b o} e c=>lA e (Dw e (.inl (by rw[c];intro z;exact absurd (Value.type.inj z) (by decide))) fun z=>by rw[z] at c;cases c);have hM:Mod K mg (oH bW.heap H):=⟨W5,J_ C7,⟨mb,J_ hb,NP⟩,(let⟨mc,h1,h2⟩:=UG;⟨mc,J_ h1,h2⟩),(let⟨mc,h1,h2⟩:=A9.statics;⟨mc,J_ h1,h2⟩),(let⟨mc,h1,h2⟩:=A9.mods;⟨mc,J_ h1,h2⟩),(let⟨mc,h1,h2⟩:=A9.imp;⟨mc,J_ h1,h2⟩),
   (let⟨g,bm,ob,h1,h2,h3,h4,h5⟩:=A9.main;⟨g,bm,ob,J_ h1,h2,W6 h3 h4,h4,h5⟩)⟩;have ZY:BMain (oH bW.heap H) mg:=let⟨bm,ob,b1,b2,b3,b4,b5,b6⟩:=BM;⟨bm,ob,b1,b2,b3,W6 b4 b5,b5,b6⟩;have UI:CodeHd (oH bW.heap H) c Pt:=by
   obtain⟨o,ws,file,tf,flags,tg,ZZ,text,tt,e1,r1,r2⟩:=ko;exact⟨o,ws,file,tf,flags,tg,ZZ,text,tt,lA e1 (Dw e1 (.inl (by rw[r1];intro z;exact absurd (Value.type.inj z) (by decide))) fun z=>by rw[z] at r1;cases r1),r1,r2⟩
  have e0:oQ P w K mg (oH bW.heap H) callerA [] bW H:=⟨rfl,hM,fun b o e=>GH e,Nat.le_of_eq (By _ _),trivial,fun b hb=>absurd (show b∈([]:List Addr) from hb) (by simp),bT,.of_eq hg⟩;refine codeAny_mono ((F _ W5 (J_ C7) ZY UI).run callerA [] bW H ⟨[.ref a],[]⟩ [.ref a] [.ref a] _ _ (J7 hr) e0 (ET bW (.ref a)) (.cons rfl .nil) (u5 H hS hP)) fun r s' h=>?_;cases r with
  |error e=>exact h.elim
  |ok fl=>
   cases fl with
   |next=>exact False.elim h
   |brk=>exact False.elim h
   |cont=>exact False.elim h
   |ret u=>
    obtain⟨v,H',os,bare,un,P7,r',q⟩:=h;have q':v=.bl true:=q;subst q';obtain rfl:u=Value.bool true:=r';obtain⟨more,eP⟩:=un.oG Pt #[] hP;have W7:s'.heap.get? Pt=some (tabObj (#[]++more)):=P7 Pt _ eP;have kp:∀b o,b≠Pt->bW.heap.get? b=some o->s'.heap.get? b=some o:=fun b o nb e=>by
     cases q:H b with
     |none=>exact un.keep b o e q (by intro z;exact absurd (show b∈([]:List Addr) from z) (by simp)) (by simp)
     |some u=>
      have rK:b=a:=(hA b (by rw[q];simp)).resolve_right nb;subst rK;rcases hO with z|⟨ob,xs,z⟩
      ·rw[q] at z;cases z
      ·have z2:=un.oF b ob _ z;obtain⟨e1,_⟩:=bT b _ z;obtain⟨e2,_⟩:=P7 b _ z2;rw[e] at e1;cases e1;exact e2
    refine⟨rfl,⟨fun b o e=>?_,fun b o e=>?_⟩,os,bare⟩
    ·by_cases HZ:b=Pt
     ·subst HZ;have eo:o=tabObj #[]:=Option.some.inj (e.symm.trans NQ);subst eo;exact .inr (.inl ⟨(ko.tab NQ).isCodeTable,rfl,#[],more,rfl,W7⟩)
     ·exact .inl (kp b o HZ e)
    ·by_cases HZ:b=Pt
     ·subst HZ;exact⟨_,W7⟩
     ·exact⟨o,kp b o HZ e⟩
 have J':∀H,cX P w H bW.heap Pt (.oj #[]):=fun _=>NQ;cases hk:K.lookup a with
 |some o=>
  have e:=KX a o hk;rw[ha] at e;cases e;refine core (fun b=>if b=Pt then some (.oj #[]) else none) (.inr ⟨_,vs.toArray,_,hk,rfl,rfl,rfl,by rw[List.size_toArray,UH];exact hl,by simpa using rv⟩) (if_pos rfl) (fun b u z=>?_) (fun b z=>?_) (.inl (if_neg RW)) fun z=>absurd (if_neg RW) z
  ·by_cases hb:b=Pt
   ·have z':=(if_pos hb).symm.trans z;cases z';subst hb;exact J' _
   ·have z':=(if_neg hb).symm.trans z;cases z'
  ·by_cases hb:b=Pt
   ·exact .inr hb
   ·exact absurd (if_neg hb) z
 |none=>
  refine core (fun b=>if b=Pt then some (.oj #[]) else if b=a then some (.nA {cls:=.type "list",data:=.seq vs.toArray} (.lst (ns.map V.int))) else none) (.inl (.inr ⟨{cls:=.type "list",data:=.seq vs.toArray},by show(if a=Pt then _ else _)=_;rw[if_neg RW,if_pos rfl]⟩)) (if_pos rfl) (fun b u z=>?_) (fun b z=>?_) (.inr ⟨_,_,by show(if a=Pt then _ else _)=_;rw[if_neg RW,if_pos rfl]⟩) fun _=>hk
  ·have z:(if b=Pt then some (.oj #[]) else if b=a then some (.nA {cls:=.type "list",data:=.seq vs.toArray} (.lst (ns.map V.int))) else none:Option HO)=some u:=z;by_cases hb:b=Pt
   ·rw[if_pos hb] at z;cases z;subst hb;exact J' _
   ·rw[if_neg hb] at z;by_cases rK:b=a
    ·rw[if_pos rK] at z;cases z;subst rK;exact⟨ha,by rw[List.length_map];exact hl,vs,_,rv,ha⟩
    ·rw[if_neg rK] at z;cases z
  ·by_cases hb:b=Pt
   ·exact .inr hb
   ·rw[if_neg hb] at z;by_cases rK:b=a
    ·exact .inl rK
    ·rw[if_neg rK] at z;exact absurd rfl z
theorem walk2{l:OpenLaw}{n k j:Nat}{q:Program}{loose:List Str}{XP:(Str->Option Value)->Heap->Prop}{YP:World->Heap->Prop}{d:DefRec}{K:Params->Frag}{sp:Frag->Addr->Sp}{x:Str}(hn:l.most=some n)(K2:n<=sizeLine)(OJ:d.params.defaults=[])(hr:fj k callerA)(EX:(recsOf q)[j]?=some d)(hY:∀(w:World)(h:Heap),YP w h->(K w.params).In h)(P6:∀w:World,noTabs (K w.params)=true)(F:∀(w:World)(mg:Str->Option Value)(fa:Addr)(h:Heap),(K w.params).In h->h.Ns mainGlobals mg->mg d.name=some (.ref fa)->
 ∃fd:FuncData,(∃oc od sl,(K w.params).lookup fa=some ⟨oc,od,.func fd,sl⟩)/\(∀(s:Shared)(u:Value),BindsTo s fd ⟨[u],[]⟩ [(x,u)])/\
  ∀(base:Heap)(c Pt:Addr),fd.code=.ref c->(K w.params).In base->base.Ns mainGlobals mg->BMain base mg->CodeHd base c Pt->J9 l.prog w (K w.params) mg base uQ true k fa fd [x] fun _=>sp (K w.params) Pt)(u5:∀(K:Frag)(Pt:Addr)(H:Hp)(a:Addr)(ns:List Int),ns.length<=n->aW K H a (ns.map V.int)->H Pt=some (.oj #[])->sp K Pt [.ref a] H (fun v _=>v=.bl true) E0)(hi:importsNone q=true):
 WalkO q loose XP YP l.row.toRowW d [] (fun f vs=>PySem.call f vs):=by
 refine Wz.u7 hn OJ fun w fY bW mg mb fa o pm cd doc a vs ns G Y ho hd ko NA Le hints hlen hg=>?_;have KX:=hY w _ Y;obtain⟨fd,⟨oc,od,sl,lk⟩,hb,hF⟩:=F w mg fa _ KX G.T.g NA;obtain⟨a2,o2,Z0,c,Pt,t1,t2,t3,t4,t5,t6⟩:=G.T.tab d (List.mem_of_getElem? EX);have ea:a2=fa:=Value.ref.inj (Option.some.inj (t1.symm.trans NA));subst ea;have eo:=Option.some.inj (t2.symm.trans (KX _ _ lk));subst eo;have Z1:fd=Z0:=by injection t3
 subst Z1;have BM:BMain bW.heap mg:=by
  obtain⟨bm,ob,b1,b2,b3,b4,b5,b6⟩:=G.T.bmain;refine⟨bm,ob,b1,b2,fun z=>?_,b3,b4,b5,b6⟩;obtain⟨o',es,ep,e,dd,_⟩:=G.T.g;rw[z,e] at b3;cases b3;rw[dd] at b6;cases b6
 exact Cp KX G.T.g G.T.b G.T.builtins G.T.nolimit (G.T.seer hi) hg Le hints (Nat.le_trans hlen K2) hr (CodeHd.of t5 t6) t6.2 (P6 w) BM (fun base b1 b2 b3 b4=>hF base c Pt t4 b1 b2 b3 b4) hb fun H hS hP=>u5 _ Pt H a ns hlen hS hP
end SF
namespace SF
open PySem PySem.Spec PyProof.Rows L2 PySem.W
section
variable {M:Model} {A:Around} {E:Value->Shared->Prop} {env:Env}
variable {nm q:Str} {C N:Addr} {bs bm:List Value} {hdct:Bool} {sn:List Str} {sub:List Value} {ab:Bool} {col:Option Bool} {dd:Option Addr} {k0 k1 k2 k3 k5:Option Value} {newId:String}
end
noncomputable def P8(oc:Obj)(q:Str):Prop:=∃vs t,oc.data=.fields vs/\vs[1]?=some (.str q t)
noncomputable def Ka(P:Addr)(pos:Pos)(qual:Str)(params:Arguments)(body:Expr)(scope:Scope)(cl:List (Str×Addr)):TE:=fun _ H Q=>∃ps,H P=some (.oj ps)/\TriplesOk ps.toList/\codeAmong pos ps.toList=none/\
 ∀f c' oc,P8 oc qual->H f=none->H c'=none->f≠c'->Q (.ref f) (upd (upd (upd H P (.oj (ps++#[rawInt pos.line,rawInt pos.col,.ref c']))) c' (.nA oc (.own 0))) f (qQ f "<lambda>" qual params body scope cl c'))
theorem H0{X:Cx}{params:Arguments}{body:Expr}{scope:Scope}{pos:Pos}{c P:Addr}{cl:List (Str×Addr)}(A_:X.env.code=.ref c)(C:CodeHd X.base c P)(C9:closureFor scope X.env=pure cl)(H_:defaultsOf params X.env=([],[]))(B:BMain X.base X.mg):
 PE X (.Lambda params body scope pos) (Ka P pos (X.env.qual++"<lambda>") params body scope cl):=by
 intro pins s σ H Q I h;obtain⟨ps,hP,ht,hn,q⟩:=h;have UJ:s.heap.get? P=some (tabObj ps):=I.bT P _ hP;have hg:=I.mod.glob.keeps I.bk;have RX:∀b o,X.base.get? b=some o->b≠P:=fun b o e z=>by subst z;have:=(I.bs b o e).2;rw[hP] at this;cases this
 have Z2:mainGlobals≠P:=by obtain⟨o,_,_,e,_⟩:=I.mod.glob;exact RX _ o e
 obtain⟨bm,ob,b1,b2,b3,b4,b5,b6,b7⟩:=B;refine kla_eval H_ (kla_makeFunction (mg:=X.mg) C9 I.ok.glob hg A_ (C.keeps I.bk) UJ ht hn Z2 ⟨bm,ob,b1,b2,b3,RX _ _ b4,I.bk _ _ b4,b5,b6,b7⟩ fun c' A8 h' tk hx NR eM EX W8=>?_);obtain⟨c2,oc,vs,t2,e2,Nu,hd,hv⟩:=EX;cases e2;have lr:s.heap.objs.size<=h'.objs.size:=Nat.le_of_lt (Nat.lt_of_le_of_lt NR eM);have P9:H c'=none:=I.bT.fresh NR;have Dh:H h'.objs.size=none:=I.bT.fresh lr;have Z3:h'.objs.size≠c':=Nat.ne_of_gt eM;have old:∀b o,s.heap.get? b=some o->b≠c'/\b≠h'.objs.size:=fun b o e=>⟨Nat.ne_of_lt (Nat.lt_of_lt_of_le (Heap.lt_size e) NR),Nat.ne_of_lt (Nat.lt_of_lt_of_le (Heap.lt_size e) lr)⟩;have nP:∀b u,H b=some u->(∀z,u≠.oj z)->b≠P:=fun b u e n z=>by subst z;rw[hP] at e;cases e;exact n _ rfl
 have UK:∀b,H b=none->b≠P:=fun b e z=>by subst z;rw[hP] at e;cases e
 have uU:∀b u,H b=some u->b≠c'/\b≠h'.objs.size:=fun b u e=>⟨fun z=>(by rw[z,P9] at e;cases e),fun z=>(by rw[z,Dh] at e;cases e)⟩;have hPc:P≠c':=(uU P _ hP).1;have hPf:P≠h'.objs.size:=(uU P _ hP).2;generalize RY:kla_obj "<lambda>" (X.env.qual++"<lambda>") params body scope cl ((X.mg "__name__").getD .none) c' A8=obj;have keep:∀b o,b≠P->s.heap.get? b=some o->(h'.push obj).get? b=some o:=fun b o n e=>Heap.get?_push_of_some _ (hx b o n e);have P_:(h'.push obj).get? h'.objs.size=some obj:=Heap.get?_push_size _ (by subst RY;rfl);refine⟨.ref h'.objs.size,_,I.un (t':=tk) (H':=upd (upd (upd H P (.oj (ps++#[rawInt pos.line,rawInt pos.col,.ref c']))) c' (.nA oc (.own 0))) h'.objs.size (qQ h'.objs.size "<lambda>" (X.env.qual++"<lambda>") params body scope cl c')) ⟨fun b o e n _ _=>keep b o (UK b n) e,fun b o e n _ _=>⟨o.slots,keep b o (UK b n) e⟩,fun b o e n _=>?_,fun b o e _=>?_,fun b xs e=>?_,fun b u xs e=>?_,fun b pz e=>?_⟩ fun b u e=>?_,rfl,q _ c' oc ⟨vs,t2,hd,hv⟩ Dh P9 Z3⟩
 ·rw[aq (old b o e).2,aq (old b o e).1,aq (UK b n)];exact n
 ·by_cases z:b=P
  ·subst z;exact⟨_,Heap.get?_push_of_some _ W8⟩
  ·exact⟨o,keep b o z e⟩
 ·rw[aq (uU b _ e).2,aq (uU b _ e).1,aq (nP b _ e nofun)];exact e
 ·rw[aq (uU b _ e).2,aq (uU b _ e).1,aq (nP b _ e nofun)];exact e
 ·rw[aq (uU b _ e).2,aq (uU b _ e).1];by_cases z:b=P
  ·subst z;rw[hP] at e;cases e;exact⟨_,ai⟩
  ·exact⟨#[],by rw[aq z,e];simp⟩
 ·by_cases NL:b=h'.objs.size
  ·subst NL;rw[ai] at e;cases e;subst RY;exact⟨⟨_,_,P_⟩,⟨_,P_⟩,fun _ _ ⟨pm,A8,e⟩ k=>⟨pm,A8,k _ e⟩⟩
  ·rw[aq NL] at e;by_cases W9:b=c'
   ·subst W9;rw[ai] at e;cases e;have:=Heap.get?_push_of_some obj Nu;exact⟨this,_,this⟩
   ·rw[aq W9] at e;by_cases HZ:b=P
    ·subst HZ;rw[ai] at e;cases e;exact Heap.get?_push_of_some obj W8
    ·rw[aq HZ] at e;refine(I.bT b u e).qH (fun c v hc e=>keep c v ?_ e) (fun c r=>?_) fun c xs r=>?_
     ·rcases hc with rfl|hc
      ·exact HZ
      ·exact nP c _ hc nofun
     ·rw[aq (uU c _ r).2,aq (uU c _ r).1,aq (nP c _ r nofun)];exact r
     ·rw[aq (uU c _ r).2,aq (uU c _ r).1,aq (nP c _ r nofun)];exact r
noncomputable def Kb(P:Addr)(pos:Pos)(qual:Str)(params:Arguments)(body:Expr)(scope:Scope)(cl:List (Str×Addr)):TE:=fun σ H Q=>Ka P pos qual params body scope cl σ H Q\/
 ∃ps c',H P=some (.oj ps)/\TriplesOk ps.toList/\codeAmong pos ps.toList=some (.ref c')/\∀f,H f=none->Q (.ref f) (upd H f (qQ f "<lambda>" qual params body scope cl c'))
theorem Ia{X:Cx}{params:Arguments}{body:Expr}{scope:Scope}{pos:Pos}{c P:Addr}{cl:List (Str×Addr)}(A_:X.env.code=.ref c)(C:CodeHd X.base c P)(C9:closureFor scope X.env=pure cl)(H_:defaultsOf params X.env=([],[]))(B:SF.BMain X.base X.mg):
 PE X (.Lambda params body scope pos) (Kb P pos (X.env.qual++"<lambda>") params body scope cl):=by
 intro pins s σ H Q I h;rcases h with h|⟨ps,c',hP,ht,hn,q⟩
 ·exact H0 A_ C C9 H_ B pins s σ H Q I h
 have UJ:s.heap.get? P=some (tabObj ps):=I.bT P _ hP;have hg:=I.mod.glob.keeps I.bk;have RX:∀b o,X.base.get? b=some o->b≠P:=fun b o e z=>by subst z;have:=(I.bs b o e).2;rw[hP] at this;cases this
 obtain⟨bm,ob,b1,b2,b3,b4,b5,b6,b7⟩:=B;refine kla_eval H_ (kla_makeFunctionHit (mg:=X.mg) C9 I.ok.glob hg A_ (C.keeps I.bk) UJ ht hn ⟨bm,ob,b1,b2,b3,RX _ _ b4,I.bk _ _ b4,b5,b6,b7⟩ fun A8 h' tk hk lr=>?_);have Dh:H h'.objs.size=none:=I.bT.fresh lr;have P_:(h'.push {cls:=.type "function",data:=.func (kla_fn "<lambda>" (X.env.qual++"<lambda>") params body scope cl ((X.mg "__name__").getD .none) (.ref c') A8)}).get? h'.objs.size=some (kla_obj "<lambda>" (X.env.qual++"<lambda>") params body scope cl ((X.mg "__name__").getD .none) c' A8):=Heap.get?_push_size _ rfl;exact⟨.ref h'.objs.size,_,I.laid (t':=tk) (o:=qQ h'.objs.size "<lambda>" (X.env.qual++"<lambda>") params body scope cl c') (fun b o e=>Heap.get?_push_of_some _ (hk b o e)) lr ⟨⟨_,_,P_⟩,⟨_,P_⟩,fun _ _ ⟨pm,A8,e⟩ k=>⟨pm,A8,k _ e⟩⟩,rfl,q _ Dh⟩
end SF
namespace L2
open PySem PySem.Spec PyProof.Rows
inductive yH:List Expr->List Str->Prop
 |nil:yH [] []
 |cons {x:Str} {j:Nat} {p:Pos} {es:List Expr} {ns:List Str} (h:yH es ns):yH (.Constant (.str x) j p::es) (x::ns)
end L2
local macro_rules|`(tactic| walk_at "sf")=>`(tactic| (repeat first
 |((with_reducible apply L2.OP);exact rfl)
 |with_reducible apply L2.YK|with_reducible apply L2.OL|with_reducible apply L2.OM|with_reducible apply L2.OO|with_reducible apply L2.Tf|with_reducible apply L2.Tg
 |with_reducible apply L2.Th|with_reducible apply L2.YL|with_reducible apply L2.Ll|with_reducible apply L2.Ti|with_reducible apply L2.Tj|with_reducible apply L2.OR|with_reducible apply L2.OS
 |with_reducible apply L2.OT|with_reducible apply L2.OU|with_reducible apply L2.OV|with_reducible apply L2.Tn|with_reducible apply L2.OW|with_reducible apply L2.Lm|with_reducible apply L2.OX|with_reducible apply L2.Ln
 |with_reducible apply L2.OY|with_reducible apply L2.Lo|with_reducible apply L2.Lp|with_reducible apply L2.To|with_reducible apply L2.OZ|with_reducible apply L2.O0|with_reducible apply L2.Lh|with_reducible apply L2.Li
 |with_reducible apply L2.O1|with_reducible apply L2.OQ|with_reducible apply L2.Lj|with_reducible apply L2.G5|with_reducible apply L2.G6|with_reducible apply L2.Lk|with_reducible apply L2.ON
 |with_reducible apply L2.G8|with_reducible apply L2.Lu|with_reducible apply L2.Lv|with_reducible apply L2.G9|with_reducible apply L2.Lw|with_reducible apply L2.Lx|with_reducible apply L2.DK|with_reducible apply L2.G_|with_reducible apply L2.O6
 |((with_reducible show(_<=PySem.sizeLine)/\_);refine And.intro (L2.fw (Nat.le_of_ble_eq_true rfl)) ?_)))
namespace cW
open PySem PyProof.Rows L2 SF
noncomputable def top(i:Nat):Stmt:=PySem.Challenge.pw_surefoot_k17_whole_roots_and_ratios.main.body.getD i (.Pass ⟨0,0,0,0⟩)
noncomputable abbrev fC:Stmt:=top 8
theorem bZ:aB ["one","other","greater","lesser","rest"] ["one","other"] (ak fC):=⟨rfl,rfl,rfl,by decide +kernel,rfl,by decide +kernel,by decide +kernel⟩
noncomputable abbrev yI:Stmt:=top 9
theorem Ib:aB ["number"] ["number"] (ak yI):=⟨rfl,rfl,rfl,by decide +kernel,rfl,by decide +kernel,by decide +kernel⟩
noncomputable abbrev tO:Stmt:=top 10
theorem gK:aB ["number","many","product","square","left"] ["number","many"] (ak tO):=⟨rfl,rfl,rfl,by decide +kernel,rfl,by decide +kernel,by decide +kernel⟩
noncomputable abbrev tP:Stmt:=top 11
theorem pV:aB ["top","under","shared"] ["top","under"] (ak tP):=⟨rfl,rfl,rfl,by decide +kernel,rfl,by decide +kernel,by decide +kernel⟩
noncomputable abbrev tQ:Stmt:=top 12
theorem EY:aB ["one","other"] ["one","other"] (ak tQ):=⟨rfl,rfl,rfl,by decide +kernel,rfl,by decide +kernel,by decide +kernel⟩
noncomputable abbrev pW:Stmt:=top 13
theorem Cq:aB ["one","other"] ["one","other"] (ak pW):=⟨rfl,rfl,rfl,by decide +kernel,rfl,by decide +kernel,by decide +kernel⟩
noncomputable abbrev kG:Stmt:=top 14
theorem v5:aB ["one","other"] ["one","other"] (ak kG):=⟨rfl,rfl,rfl,by decide +kernel,rfl,by decide +kernel,by decide +kernel⟩
noncomputable abbrev m8:Stmt:=top 16
theorem kH:aB ["row","length"] ["row"] (ak m8):=⟨rfl,rfl,rfl,by decide +kernel,rfl,by decide +kernel,by decide +kernel⟩
noncomputable abbrev pY:Stmt:=top 17
theorem Cr:aB ["poly"] ["poly"] (ak pY):=⟨rfl,rfl,rfl,by decide +kernel,rfl,by decide +kernel,by decide +kernel⟩
noncomputable abbrev iZ:Stmt:=top 18
theorem qR:aB ["poly"] ["poly"] (ak iZ):=⟨rfl,rfl,rfl,by decide +kernel,rfl,by decide +kernel,by decide +kernel⟩
noncomputable abbrev m9:Stmt:=top 19
theorem i7:aB ["poly","shared","number"] ["poly"] (ak m9):=⟨rfl,rfl,rfl,by decide +kernel,rfl,by decide +kernel,by decide +kernel⟩
noncomputable abbrev jD:Stmt:=top 20
theorem me:aB ["poly","shared"] ["poly"] (ak jD):=⟨rfl,rfl,rfl,by decide +kernel,rfl,by decide +kernel,by decide +kernel⟩
noncomputable abbrev kI:Stmt:=top 21
theorem gW:aB ["poly","point","value","number"] ["poly","point"] (ak kI):=⟨rfl,rfl,rfl,by decide +kernel,rfl,by decide +kernel,by decide +kernel⟩
noncomputable abbrev pZ:Stmt:=top 22
theorem gA:aB ["value","point","poly","rest","number"] ["value","point"] (ak pZ):=⟨rfl,rfl,rfl,by decide +kernel,rfl,by decide +kernel,by decide +kernel⟩
noncomputable abbrev m_:Stmt:=top 23
theorem eI:aB ["poly","divisor","rest","factors","factor","shift","power","number"] ["poly","divisor"] (ak m_):=⟨rfl,rfl,rfl,by decide +kernel,rfl,by decide +kernel,by decide +kernel⟩
noncomputable abbrev nc:Stmt:=top 24
theorem yJ:aB ["poly"] ["poly"] (ak nc):=⟨rfl,rfl,rfl,by decide +kernel,rfl,by decide +kernel,by decide +kernel⟩
noncomputable abbrev i8:Stmt:=top 25
theorem cT:aB ["one","other","first","second","point","shared","found"] ["one","other"] (ak i8):=⟨rfl,rfl,rfl,by decide +kernel,rfl,by decide +kernel,by decide +kernel⟩
noncomputable abbrev kJ:Stmt:=top 26
theorem v7:aB ["one","other"] ["one","other"] (ak kJ):=⟨rfl,rfl,rfl,by decide +kernel,rfl,by decide +kernel,by decide +kernel⟩
noncomputable abbrev g8:Stmt:=top 27
theorem p_:aB ["poly"] ["poly"] (ak g8):=⟨rfl,rfl,rfl,by decide +kernel,rfl,by decide +kernel,by decide +kernel⟩
noncomputable abbrev jE:Stmt:=top 28
theorem dY:aB ["poly","top","under","height","scale","number"] ["poly","top","under"] (ak jE):=⟨rfl,rfl,rfl,by decide +kernel,rfl,by decide +kernel,by decide +kernel⟩
noncomputable abbrev ng:Stmt:=top 29
theorem yK:aB ["poly","given"] ["poly","given"] (ak ng):=⟨rfl,rfl,rfl,by decide +kernel,rfl,by decide +kernel,by decide +kernel⟩
noncomputable abbrev i9:Stmt:=top 31
theorem dD:aB ["row","many","before","number"] ["row"] (ak i9):=⟨rfl,rfl,rfl,by decide +kernel,rfl,by decide +kernel,by decide +kernel⟩
noncomputable abbrev jF:Stmt:=top 32
theorem cz:aB ["one","other","size","turn","rest","shift","factor","power_of_x","number"] ["one","other"] (ak jF):=⟨rfl,rfl,rfl,by decide +kernel,rfl,by decide +kernel,by decide +kernel⟩
noncomputable abbrev kK:Stmt:=top 33
theorem cA:aB ["free","chain","size","scale","one","other","gap","shared"] ["free"] (ak kK):=⟨rfl,rfl,rfl,by decide +kernel,rfl,by decide +kernel,by decide +kernel⟩
noncomputable abbrev i_:Stmt:=top 34
theorem qS:aB ["chain","given"] ["chain","given"] (ak i_):=⟨rfl,rfl,rfl,by decide +kernel,rfl,by decide +kernel,by decide +kernel⟩
noncomputable abbrev jG:Stmt:=top 37
theorem gu:aB ["free","reach","bound","number"] ["free","reach"] (ak jG):=⟨rfl,rfl,rfl,by decide +kernel,rfl,by decide +kernel,by decide +kernel⟩
noncomputable abbrev kL:Stmt:=top 38
theorem jH:aB ["free","reach"] ["free"] (ak kL):=⟨rfl,rfl,rfl,by decide +kernel,rfl,by decide +kernel,by decide +kernel⟩
noncomputable abbrev fg:Stmt:=top 39
theorem dn:aB ["free","odd","bound"] ["free"] (ak fg):=⟨rfl,rfl,rfl,by decide +kernel,rfl,by decide +kernel,by decide +kernel⟩
noncomputable abbrev qa:Stmt:=top 40
theorem Cs:aB ["chain","given"] ["chain","given"] (ak qa):=⟨rfl,rfl,rfl,by decide +kernel,rfl,by decide +kernel,by decide +kernel⟩
noncomputable abbrev kM:Stmt:=top 41
theorem bX:aB ["poly","free","chain","around","waiting","found","stretch","low","high","many","cut"] ["poly"] (ak kM):=⟨rfl,rfl,rfl,by decide +kernel,rfl,by decide +kernel,by decide +kernel⟩
noncomputable abbrev i':Stmt:=top 42
theorem g9:aB ["pair","low","high"] ["pair"] (ak i'):=⟨rfl,rfl,rfl,by decide +kernel,rfl,by decide +kernel,by decide +kernel⟩
noncomputable abbrev gL:Stmt:=top 43
theorem jh:aB ["stretch","width","room"] ["stretch","width"] (ak gL):=⟨rfl,rfl,rfl,by decide +kernel,rfl,by decide +kernel,by decide +kernel⟩
noncomputable abbrev gM:Stmt:=top 44
theorem dA:aB ["free","stretch","parts","near","far","under","start","at_near","at_far"] ["free","stretch","parts","near","far"] (ak gM):=⟨rfl,rfl,rfl,by decide +kernel,rfl,by decide +kernel,by decide +kernel⟩
noncomputable abbrev nh:Stmt:=top 45
theorem fD:aB ["free","stretch","parts","step","at_low","at_high","part","near"] ["free","stretch","parts"] (ak nh):=⟨rfl,rfl,rfl,by decide +kernel,rfl,by decide +kernel,by decide +kernel⟩
noncomputable abbrev qb:Stmt:=top 46
theorem ni:aB ["free","stretch","cut","lower"] ["free","stretch"] (ak qb):=⟨rfl,rfl,rfl,by decide +kernel,rfl,by decide +kernel,by decide +kernel⟩
noncomputable abbrev kN:Stmt:=top 47
theorem da:aB ["free","pair","width","stretch","parts","needed","found"] ["free","pair","width"] (ak kN):=⟨rfl,rfl,rfl,by decide +kernel,rfl,by decide +kernel,by decide +kernel⟩
noncomputable abbrev kO:Stmt:=top 50
theorem v8:aB ["given"] ["given"] (ak kO):=⟨rfl,rfl,rfl,by decide +kernel,rfl,by decide +kernel,by decide +kernel⟩
noncomputable abbrev jI:Stmt:=top 51
theorem dZ:aB ["free","pair","weight","last","narrow","low","high","given"] ["free","pair","weight"] (ak jI):=⟨rfl,rfl,rfl,by decide +kernel,rfl,by decide +kernel,by decide +kernel⟩
noncomputable abbrev tR:Stmt:=top 52
theorem qc:aB ["poly","pairs","free"] ["poly"] (ak tR):=⟨rfl,rfl,rfl,by decide +kernel,rfl,by decide +kernel,by decide +kernel⟩
noncomputable abbrev EZ:Stmt:=top 53
theorem yL:aB ["poly","k","pairs","free"] ["poly","k"] (ak EZ):=⟨rfl,rfl,rfl,by decide +kernel,rfl,by decide +kernel,by decide +kernel⟩
noncomputable abbrev kP:Stmt:=top 54
theorem v9:aB ["number"] ["number"] (ak kP):=⟨rfl,rfl,rfl,by decide +kernel,rfl,by decide +kernel,by decide +kernel⟩
noncomputable abbrev jJ:Stmt:=top 55
theorem tS:aB ["number"] ["number"] (ak jJ):=⟨rfl,rfl,rfl,by decide +kernel,rfl,by decide +kernel,by decide +kernel⟩
noncomputable abbrev nj:Stmt:=top 56
theorem kQ:aB ["number","given","low","side"] ["number","given"] (ak nj):=⟨rfl,rfl,rfl,by decide +kernel,rfl,by decide +kernel,by decide +kernel⟩
noncomputable abbrev kR:Stmt:=top 57
theorem gX:aB ["one","other","low","high","shared"] ["one","other"] (ak kR):=⟨rfl,rfl,rfl,by decide +kernel,rfl,by decide +kernel,by decide +kernel⟩
noncomputable abbrev qe:Stmt:=top 58
theorem iD:aB ["one","other","pair","width"] ["one","other"] (ak qe):=⟨rfl,rfl,rfl,by decide +kernel,rfl,by decide +kernel,by decide +kernel⟩
noncomputable abbrev kS:Stmt:=top 59
theorem v_:aB ["one","other"] ["one","other"] (ak kS):=⟨rfl,rfl,rfl,by decide +kernel,rfl,by decide +kernel,by decide +kernel⟩
noncomputable abbrev nk:Stmt:=top 60
theorem yM:aB ["number"] ["number"] (ak nk):=⟨rfl,rfl,rfl,by decide +kernel,rfl,by decide +kernel,by decide +kernel⟩
noncomputable abbrev g_:Stmt:=top 61
theorem gN:aB ["number","scale","low","whole"] ["number","scale"] (ak g_):=⟨rfl,rfl,rfl,by decide +kernel,rfl,by decide +kernel,by decide +kernel⟩
noncomputable abbrev kT:Stmt:=top 62
theorem wa:aB ["number"] ["number"] (ak kT):=⟨rfl,rfl,rfl,by decide +kernel,rfl,by decide +kernel,by decide +kernel⟩
noncomputable abbrev yN:Stmt:=top 64
theorem Ic:aB ["number","width"] ["number","width"] (ak yN):=⟨rfl,rfl,rfl,by decide +kernel,rfl,by decide +kernel,by decide +kernel⟩
noncomputable abbrev kU:Stmt:=top 66
theorem wb:aB ["_law_script","_law_k"] ["_law_script","_law_k"] (ak kU):=⟨rfl,rfl,rfl,by decide +kernel,rfl,by decide +kernel,by decide +kernel⟩
noncomputable abbrev jK:Stmt:=top 67
theorem mi:aB ["_law_cell_here","_law_k","_law_more"] ["_law_cell_here","_law_k"] (ak jK):=⟨rfl,rfl,rfl,by decide +kernel,rfl,by decide +kernel,by decide +kernel⟩
noncomputable abbrev kW:Stmt:=top 68
theorem jL:aB ["_law_e","_law_flags"] ["_law_e"] (ak kW):=⟨rfl,rfl,rfl,by decide +kernel,rfl,by decide +kernel,by decide +kernel⟩
noncomputable abbrev fE:Stmt:=top 69
theorem nT:aB ["_law_rule","_law_e"] ["_law_rule"] (ak fE):=⟨rfl,rfl,rfl,by decide +kernel,rfl,by decide +kernel,by decide +kernel⟩
noncomputable abbrev ja:Stmt:=top 70
theorem dE:aB ["_law_one","_law_other","_law_left"] ["_law_one","_law_other"] (ak ja):=⟨rfl,rfl,rfl,by decide +kernel,rfl,by decide +kernel,by decide +kernel⟩
noncomputable abbrev jM:Stmt:=top 71
theorem mj:aB ["_law_top","_law_under","_law_divisor"] ["_law_top","_law_under"] (ak jM):=⟨rfl,rfl,rfl,by decide +kernel,rfl,by decide +kernel,by decide +kernel⟩
noncomputable abbrev jN:Stmt:=top 72
theorem mn:aB ["_law_one","_law_other","_law_gap"] ["_law_one","_law_other"] (ak jN):=⟨rfl,rfl,rfl,by decide +kernel,rfl,by decide +kernel,by decide +kernel⟩
noncomputable abbrev fF:Stmt:=top 74
theorem b_:aB ["_law_whole","_law_low","_law_high","_law_half"] ["_law_whole"] (ak fF):=⟨rfl,rfl,rfl,by decide +kernel,rfl,by decide +kernel,by decide +kernel⟩
noncomputable abbrev kX:Stmt:=top 75
theorem fX:aB ["_law_cell_here","_law_k","_law_more","_law_m","_law_p","_law_d"] ["_law_cell_here","_law_k"] (ak kX):=⟨rfl,rfl,rfl,by decide +kernel,rfl,by decide +kernel,by decide +kernel⟩
noncomputable abbrev jb:Stmt:=top 76
theorem dF:aB ["_law_surd_here","_law_p","_law_s","_law_m","_law_d","_law_pair"] ["_law_surd_here"] (ak jb):=⟨rfl,rfl,rfl,by decide +kernel,rfl,by decide +kernel,by decide +kernel⟩
noncomputable abbrev kY:Stmt:=top 77
theorem dc:aB ["_law_surd_here","_law_given","_law_p","_law_s","_law_m","_law_d","_law_gap","_law_left","_law_right"] ["_law_surd_here","_law_given"] (ak kY):=⟨rfl,rfl,rfl,by decide +kernel,rfl,by decide +kernel,by decide +kernel⟩
noncomputable abbrev jO:Stmt:=top 78
theorem fh:aB ["_law_surd_here","_law_p","_law_s","_law_m","_law_d"] ["_law_surd_here"] (ak jO):=⟨rfl,rfl,rfl,by decide +kernel,rfl,by decide +kernel,by decide +kernel⟩
noncomputable abbrev eJ:Stmt:=top 79
theorem aZ:aB ["_law_number_here","_law_surd_here","_law_more","_law_whole","_law_given","_law_side_here","_law_low","_law_high","_law_gap"] ["_law_number_here","_law_surd_here","_law_more"] (ak eJ):=⟨rfl,rfl,rfl,by decide +kernel,rfl,by decide +kernel,by decide +kernel⟩
noncomputable abbrev iE:Stmt:=top 80
theorem fG:aB ["_law_script","_law_k","_law_cell_here","_law_surd_here","_law_p","_law_s","_law_m","_law_d","_law_number_here","_law_poly","_law_pair","_law_at","_law_told_here"] ["_law_script"] (ak iE):=⟨rfl,rfl,rfl,by decide +kernel,rfl,by decide +kernel,by decide +kernel⟩
structure Nm(mg:Str->Option Value):Prop where
 ji:mg "abs"=none
 gf:mg "len"=none
 qg:mg "int"=none
 Kc:mg "max"=none
 E2:mg "min"=none
 W_:mg "sum"=none
 P':mg "any"=none
 W':mg "all"=none
 yO:mg "list"=none
 Ba:mg "range"=none
 jP:mg "enumerate"=none
 jc:mg "reversed"=none
 cP:mg "isinstance"=none
 tT:mg "ValueError"=none
noncomputable abbrev IL(H:Hp)(a:Addr)(xs:List Int):Prop:=H a=some (.lst (xs.map V.int))
noncomputable def Ab(n:Nat)(xs:List Int):Prop:=∀x∈xs,Bd n x
theorem Ab.co{n:Nat}{xs:List Int}(h:Ab n xs)(i:Nat):Bd n (SF.co xs i):=by
 by_cases hi:i<xs.length
 ·rw[bY hi];exact h _ (List.getElem_mem _)
 ·rw[cG (by lia)];show(0:Int).natAbs<2^n;exact Nat.two_pow_pos n
theorem Ab.mono{m n:Nat}{xs:List Int}(h:Ab m xs)(hm:m<=n):Ab n xs:=fun x hx=>(h x hx).mono hm
theorem aP{i j:Int}{m n:Nat}(hi:Bd m i)(hj:Bd n j)(h:m+n<=134217728):IntMulOk i j:=by
 have bits:∀{k:Nat}{x:Int},Bd k x->Builtin.Int.intBits x<=k:=fun{k x} hx=>PySem.intBits_le_iff.mpr hx;exact PySem.IntMulOk.of_le (bits hi) (bits hj) (by lia)
theorem Bb{xs:List Int}{n:Nat}(h:n<xs.length):nD (xs.map V.int) (n:Int)=some (.int (SF.co xs n)):=
 iQ (by rw[List.getElem?_map,List.getElem?_eq_getElem h,bY h]<;>rfl)
theorem nq{xs:List Int}{n:Nat}{x:V}(h:(xs.map V.int)[n]?=some x):n<xs.length/\x=.int (SF.co xs n):=by
 have hn:n<xs.length:=by
  have:=(List.getElem?_eq_some_iff.mp h).1
  rwa [List.length_map] at this
 rw[List.getElem?_map,List.getElem?_eq_getElem hn] at h;rw[bY hn];exact⟨hn,(Option.some.inj h).symm⟩
theorem E3(xs:List Int)(n:Nat):ie (xs.map V.int) none (some (n:Int))=(xs.take n).map V.int:=by
 unfold ie;rw[HT.oR,HT.z_,List.length_map,List.drop_zero,Nat.sub_zero,List.map_take];rcases Nat.le_total n xs.length with h|h
 ·rw[Nat.min_eq_left h]
 ·rw[Nat.min_eq_right h,List.take_of_length_le (by simp),List.take_of_length_le (by simpa using h)]
theorem E4(xs:List Int)(k:Nat):ie (xs.map V.int) (some (k:Int)) none=(xs.drop k).map V.int:=by
 unfold ie;rw[HT.oR,HT.z_,List.length_map,List.map_drop];rcases Nat.le_total k xs.length with h|h
 ·rw[Nat.min_eq_left h,List.take_of_length_le (by simp)]
 ·rw[Nat.min_eq_right h,Nat.sub_self,List.take_zero,List.drop_of_length_le (by simpa using h)]
theorem wc(xs:List Int):ie (xs.map V.int) none (some (-1))=xs.dropLast.map V.int:=by
 unfold ie;rw[HT.oR,List.drop_zero,Nat.sub_zero,List.length_map,List.dropLast_eq_take,List.map_take];have e:HT.uP xs.length xs.length (some (-1))=xs.length-1:=by
  show(if(-1:Int)<0 then((-1:Int)+(xs.length:Int)).toNat else min (-1:Int).toNat xs.length)=xs.length-1;rw[if_pos (by decide)];lia
 rw[e]
theorem E5{n i:Nat}(h:i<n):xQ n (i:Int)=some i:=by
 unfold xQ;rw[if_pos (by lia),if_pos (by lia)];simp
theorem gv{xs:List Int}(h:xs≠[]):nD (xs.map V.int) (-1)=some (.int (SF.co xs (xs.length-1))):=by
 have hl:0<xs.length:=List.length_pos_iff.mpr h;unfold nD;have e:xQ (xs.map V.int).length (-1)=some (xs.length-1):=by
  unfold xQ;rw[List.length_map,if_neg (by decide),if_pos (by lia)];congr 1;lia
 rw[e];show(xs.map V.int)[xs.length-1]?=_;rw[List.getElem?_map,List.getElem?_eq_getElem (by lia),bY (by lia)];rfl
noncomputable def Bc:Sp:=fun vs H Q _=>∃a b:Int,vs=[.int a,.int b]/\Q (.int ((Int.gcd a b:Nat):Int)) H
noncomputable def C_(f:List Int->List Int)(Pr:List Int->Prop):Sp:=fun vs H Q _=>∃(a:Addr)(xs:List Int),vs=[.ref a]/\IL H a xs/\Pr xs/\∀(p:Addr)(H':Hp),av H H'->IL H' p (f xs)->Q (.ref p) H'
noncomputable def E6(f:List Int->List Int->List Int)(Pr:List Int->List Int->Prop):Sp:=fun vs H Q _=>∃(a b:Addr)(xs ys:List Int),vs=[.ref a,.ref b]/\IL H a xs/\IL H b ys/\Pr xs ys/\∀(p:Addr)(H':Hp),av H H'->IL H' p (f xs ys)->Q (.ref p) H'
noncomputable def Xa(f:List Int->Int)(Pr:List Int->Prop):Sp:=fun vs H Q _=>∃(a:Addr)(xs:List Int),vs=[.ref a]/\IL H a xs/\Pr xs/\Q (.int (f xs)) H
noncomputable abbrev E7(xs:List Int):Prop:=xs.length<=1000
noncomputable abbrev ke:Nat:=60000000
section
variable {P:Program} {w:World} {K:PySem.W.Frag} {mg:Str->Option Value} {base:Heap}
theorem mq(T:Nm mg)(D:aH K mg "common_divisor" fC ["one","other"]):aT P w K mg base 1 "common_divisor" ["one","other"] Bc:=by
 refine D.ok bZ (fun vs H Q E h=>?_) (fun f bM A outer s H vs Q E hr h=>?_)
 ·obtain⟨a,b,rfl,_⟩:=h;rfl
 obtain⟨a,b,rfl,q⟩:=h;refine⟨_,(ae (aj (i:=2) bZ.nd rfl (Or.inl rfl) (aI dw rfl T.ji boot_abs (aa (pv 0) ag)))
  (ae (aj (i:=3) bZ.nd rfl (Or.inl rfl) (aI dw rfl T.ji boot_abs (aa (pv 1) ag)))
  (ae (cN PassesOwn.never (fQ (pv 3) (fun _=>rfl))
  (ae (aj (i:=4) bZ.nd rfl (Or.inl rfl) (ao cH (pv 2) (pv 3)))
  (ae (aj (i:=2) bZ.nd rfl (Or.inl rfl) (pv 3))
  (ah (aj (i:=3) bZ.nd rfl (Or.inl rfl) (pv 4))))))
  (ah (ax (pv 2)))))),?_⟩;walk_at "sf";refine⟨_,rfl,?_⟩;walk_at "sf";refine⟨_,rfl,?_⟩;walk_at "sf";refine cC (fun m σ H'=>∃(g l:Int)(r:Option V),m=l.toNat/\σ=[some (.int a),some (.int b),some (.int g),some (.int l),r]/\H'=H/\0<=g/\0<=l/\Int.gcd g l=Int.gcd a b)
  ⟨_,_,_,_,rfl,rfl,rfl,by split<;>lia,by split<;>lia,Aj⟩ ?_
 rintro m σ H' ⟨g,l,r,rfl,rfl,rfl,hg,hl,e⟩;walk_at "sf";refine dI (fun c=>?_) (fun c=>?_)
 ·have yk:l≠0:=by simpa using c
  have hp:0<l:=by lia
  refine⟨_,fun bJ H' h=>h,?_⟩;walk_at "sf";refine bN yk ?_;walk_at "sf";have h1:=Int.emod_nonneg g yk;have h2:=Int.emod_lt_of_pos g hp;rw[fT hp];exact⟨_,by lia,_,_,_,rfl,rfl,rfl,hl,h1,by rw[vg hg hp,e]⟩
 ·have yk:l=0:=by simpa using c
  subst yk;walk_at "sf";have e':((Int.gcd a b:Nat):Int)=g:=by rw[<-e];exact Ak hg
  rw[e'] at q;exact q
theorem Ct(xs:List Int):au xs=gx (fun i=>(co xs i).fdiv (cont xs)) xs.length:=by
 unfold au;refine List.ext_getElem (by rw[List.length_map,aQ]) fun i h1 h2=>?_;simp only[gx,List.getElem_map,List.getElem_range];rw[bY (by simpa using h1)]
theorem qT(T:Nm mg)(D:aH K mg "derivative" iZ ["poly"]):aT P w K mg base 1 "derivative" ["poly"] (C_ cb (fun xs=>E7 xs/\Ab ke xs)):=by
 refine D.ok qR (fun vs H Q E h=>?_) (fun f bM A outer s H vs Q E hr h=>?_)
 ·obtain⟨a,xs,rfl,_⟩:=h;rfl
 obtain⟨a,xs,rfl,ha,⟨hx,bx⟩,q⟩:=h;refine⟨_,(ah (ax (lD oq (j4 rfl rfl (kC (own:=["power","number"]) (fr:=[]) (fs:=[]) (by with_unfolding_all rfl) rfl (by decide +kernel) (by decide +kernel) (by exact trivial) (by with_unfolding_all rfl) (by exact trivial)) (sP rfl T.jP (aa (pv 0) ag)) (fun _ _ _ _ _=>(Hd (K:=K) (n:=2) rfl rfl (bc (aO (i:=0) (show List.Nodup (["power","number"]:List Str) by decide +kernel) rfl (Or.inl rfl) (Or.inr rfl)) (bc (aO (i:=1) (show List.Nodup (["power","number"]:List Str) by decide +kernel) rfl (Or.inl rfl) (Or.inr rfl)) gR)) rfl rfl)) (fun _ _ _ _ _=>(ao aC (pv 0) (pv 1)))) (oo af) om))),?_⟩;walk_at "sf";refine j6 (H1:=H) (DF K a) (fun R hR=>?_) (x6 (xs:=xs) (aW.of ha) (fun i=>(i:Int)*co xs i) hx ?_ ?_)
 ·walk_at "sf";exact⟨a,rfl,⟨_,aW.of ha⟩,hR⟩
 ·intro i p r H2 hi hr eT hp Z hZ;obtain⟨x0,x1,rfl⟩:=TV hr;refine jt (bL.of hp) rfl ?_;walk_at "sf";refine bN (aP (m:=10) (Bd.gB (by lia) (by have:xs.length<=1000:=hx;lia)) (bx.co i) (by decide)) ?_;exact hZ _ _ (av.refl _) ⟨[_,_],rfl,rfl⟩
 ·intro D H2 hD eT h2;walk_at "sf";refine⟨_,rfl,?_⟩;walk_at "sf";refine⟨D,_,rfl,aW.of h2,fun p hp=>q p _ (eT.trans (av.new hp _)) ?_⟩;show upd H2 p _ p=_;rw[ai];have e:ie ((gx (fun i=>(i:Int)*co xs i) xs.length).map V.int) (some 1) none=((gx (fun i=>(i:Int)*co xs i) xs.length).drop 1).map V.int:=E4 _ 1;rw[e,BW]
theorem yP{xs:List Int}{i:Nat}(h:i<xs.length):lK 0 (xs.take (i+1))=Int.gcd ((lK 0 (xs.take i):Nat):Int) (co xs i):=by
 rw[List.take_add_one,List.getElem?_eq_getElem h,Option.toList_some];unfold lK;rw[List.foldl_append,bY h];rfl
theorem yQ(cY:aT P w K mg base 1 "common_divisor" ["one","other"] Bc)(D:aH K mg "content" m9 ["poly"]):aT P w K mg base 2 "content" ["poly"] (Xa cont E7):=by
 refine D.ok i7 (fun vs H Q E h=>?_) (fun f bM A outer s H vs Q E hr h=>?_)
 ·obtain⟨a,xs,rfl,_⟩:=h;rfl
 obtain⟨a,xs,rfl,ha,hx,q⟩:=h;refine⟨_,(ae (aj (i:=1) i7.nd rfl (Or.inl rfl) af)
  (ae (f6 PassesOwn.never rfl (eZ (pv 0)) (aO (i:=2) i7.nd rfl (Or.inl rfl))
  (ah (aj (i:=1) i7.nd rfl (Or.inl rfl) (ar cY hr (aa (pv 1) (aa (pv 2) ag))))))
  (ah (ax (dJ (PW.pt (kz (fQ (pv 0) (fun _=>rfl)) (iN (ay gS (aD bE (pv 0) (cU bR af) (fun _ _=>rfl)) af (aE _))))) (cU bR (pv 1)) (pv 1)))))),?_⟩;walk_at "sf";refine⟨a,rfl,⟨_,aW.of ha⟩,?_⟩;refine jr (xs:=xs.map V.int) (fun i σ H'=>(∃r,σ=[some (.ref a),some (.int ((lK 0 (xs.take i):Nat):Int)),r])/\H'=H) ⟨⟨_,rfl⟩,rfl⟩ (fun i σ H' _ z=>by rw[z.2];exact aW.of ha) ?_ ?_
 ·rintro i x σ H' hi ⟨⟨r,rfl⟩,rfl⟩;obtain⟨NS,rfl⟩:=nq hi;walk_at "sf";refine⟨_,_,rfl,?_⟩;walk_at "sf";exact⟨⟨_,by rw[yP NS];rfl⟩,rfl⟩
 ·rintro σ H' ⟨⟨r,rfl⟩,rfl⟩;have e:lK 0 (xs.take (xs.map V.int).length)=fq xs:=by rw[List.length_map,List.take_length];rfl
  rw[e];walk_at "sf";refine xY (aW.of ha) ?_
  dsimp only
  unfold cont at q;by_cases Mi:xs=[]
  ·subst Mi;rw[if_neg (by decide),if_neg (by decide)];walk_at "sf";exact q
  ·have e1:(!(xs.map V.int).isEmpty)=true:=by
    cases xs with
    |nil=>exact absurd rfl Mi
    |cons x r=>rfl
   rw[e1,if_pos rfl];walk_at "sf";refine cV (aW.of ha) (gv Mi) ?_;walk_at "sf";refine dI (fun c=>?_) (fun c=>?_)
   ·rw[if_pos (by simpa using c)] at q;walk_at "sf";exact q
   ·rw[if_neg (by simpa using c)] at q;walk_at "sf";exact q
theorem tU(hT:P.given.tree=none)(Cu:aT P w K mg base 33 "content" ["poly"] (Xa cont E7))(D:aH K mg "primitive" jD ["poly"]):aT P w K mg base 34 "primitive" ["poly"] (C_ au (fun xs=>E7 xs/\Tr xs)):=by
 refine D.ok me (fun vs H Q E h=>?_) (fun f bM A outer s H vs Q E hr h=>?_)
 ·obtain⟨a,xs,rfl,_⟩:=h;rfl
 obtain⟨a,xs,rfl,ha,⟨hx,tx⟩,q⟩:=h;refine⟨_,(ae (aj (i:=1) me.nd rfl (Or.inr rfl) (ar Cu hr (aa (pv 0) ag)))
  (ah (ax (j4 rfl rfl (kC (own:=["number"]) (fr:=[1]) (fs:=["shared"]) (by with_unfolding_all rfl) rfl (by decide +kernel) (by decide +kernel) (by exact⟨rfl,trivial⟩) (by with_unfolding_all rfl) (by exact⟨⟨rfl,rfl,rfl,Or.inl rfl⟩,trivial⟩)) (eZ (pv 0)) (fun _ _ _ _ _=>(aO (i:=0) (show List.Nodup (["number","shared"]:List Str) by decide +kernel) rfl (Or.inl rfl) (Or.inr rfl))) (fun _ _ _ _ _=>(ao (dO ⟨hT,⟨_,_,rfl,rfl,rfl,rfl,rfl⟩,hr.py⟩) (pv 0) (pv 1))))))),?_⟩;walk_at "sf";refine⟨a,xs,rfl,ha,hx,?_⟩;walk_at "sf";refine j6 (H1:=H) (uO K a) (fun R hR=>?_) (iU (xs:=xs) (aW.of ha) (fun i=>(co xs i).fdiv (cont xs)) hx ?_ ?_)
 ·walk_at "sf";exact⟨a,rfl,⟨_,aW.of ha⟩,hR⟩
 ·intro i r H2 hi hr eT Z hZ;have hn:xs≠[]:=by rintro rfl;exact absurd hi (Nat.not_lt_zero _)
  obtain⟨x0,rfl⟩:=x5 hr;walk_at "sf";refine bN (fK tx hn) ?_;exact hZ _ _ (av.refl _) ⟨[_],rfl,rfl⟩
 ·intro D H2 hD eT h2;refine q D H2 eT ?_;show H2 D=some (.lst ((au xs).map V.int));rw[Ct];exact h2
end
end cW
namespace cW
open PySem PyProof.Rows L2 SF
noncomputable def E8(K:PySem.W.Frag):Sp:=fun vs H Q _=>∃(a:Addr)(ns:List Int)(k:Int),vs=[.ref a,.int k]/\aW K H a (ns.map V.int)/\ns.length<=63/\0<=k/\∀(c:Int)(H':Hp),av H H'->Q (.int c) H'
noncomputable def tV:Sp:=fun vs H Q _=>∃c k:Int,vs=[.int c,.int k]/\∀m:Int,0<=m->Bd 128 m->Q (.int m) H
theorem fm{x:Int}{m:Int}(hm:0<m):x.fmod m=x%m/\0<=x%m/\x%m<m:=⟨fT hm,Int.emod_nonneg x (Int.ne_of_gt hm),Int.emod_lt_of_pos x hm⟩
theorem E9(n:Int)(h1:0<n)(h2:n<2^64):(n≠0/\n.natAbs.log2<9000):=⟨Int.ne_of_gt h1,(Bd.gB (n:=64) (by lia) h2).log2 (by decide)⟩
section
variable {P:Program} {w:World} {K:PySem.W.Frag} {mg:Str->Option Value} {base:Heap}
theorem we(T:Nm mg)(D:aH K mg "_law_cell" kU ["_law_script","_law_k"]):aT P w K mg base 1 "_law_cell" ["_law_script","_law_k"] (E8 K):=by
 refine D.ok wb (fun vs H Q E h=>?_) (fun f bM A outer s H vs Q E hr h=>?_)
 ·obtain⟨a,ns,k,rfl,_⟩:=h;rfl
 obtain⟨a,ns,k,rfl,hS,hl,hk,q⟩:=h;refine⟨_,(ae (bB (ay (Lg hr.sL) (pv 0) (cQ ag) (aE _))
  (ah (ax (ao aC (pv 1) af)))
  aM)
  (ah (ax (ao bH (aD bE (pv 0) (ao cH (pv 1) (aI aV rfl T.gf boot_len (aa (pv 0) ag))) (fun _ _=>rfl)) (ao aC (ao cq (pv 1) (aI aV rfl T.gf boot_len (aa (pv 0) ag))) af))))),?_⟩;walk_at "sf";intro p hp;have g1:av H (upd H p (.lst [])):=av.new hp _;refine⟨a,p,ns,[],rfl,rfl,g1.seq hS,aW.of ai,?_⟩;walk_at "sf";refine dI (fun c=>?_) (fun c=>?_)
 ·walk_at "sf";refine bN (IntMulOk.of_right (by decide)) ?_;exact q _ _ g1
 ·have eE:ns≠[]:=by simpa using c
  have ow:0<ns.length:=List.length_pos_iff.mpr eE;have em:(ns.map V.int).length=ns.length:=List.length_map _;have Qa:(0:Int)<((ns.map V.int).length:Nat):=by rw[em];lia
  walk_at "sf";refine⟨a,_,rfl,.inl (g1.seq hS),?_⟩;refine bN (Int.ne_of_gt Qa) ?_;rw[fT Qa];have h1:=Int.emod_nonneg k (Int.ne_of_gt Qa);have h2:=Int.emod_lt_of_pos k Qa;obtain⟨j,ej⟩:=Int.eq_ofNat_of_zero_le h1;rw[ej] at h2 ⊢;have hj:j<ns.length:=by rw[em] at h2;lia
  refine cV (g1.seq hS) (iQ (v:=V.int ns[j]) (by rw[List.getElem?_map,List.getElem?_eq_getElem hj]<;>rfl)) ?_;walk_at "sf";refine⟨a,_,rfl,.inl (g1.seq hS),?_⟩;refine bN ⟨Int.ne_of_gt Qa,(Bd.gB (n:=64) (by lia) (by rw[em];lia)).log2 (by decide)⟩ ?_;walk_at "sf";refine bN (IntMulOk.of_right (by decide)) ?_;walk_at "sf";exact q _ _ g1
theorem tW(D:aH K mg "_law_drawn" jK ["_law_cell_here","_law_k"]):aT P w K mg base 1 "_law_drawn" ["_law_cell_here","_law_k"] tV:=by
 refine D.ok mi (fun vs H Q E h=>?_) (fun f bM A outer s H vs Q E hr h=>?_)
 ·obtain⟨c,k,rfl,_⟩:=h;rfl
 obtain⟨c,k,rfl,q⟩:=h;refine⟨_,(ae (aj (i:=2) mi.nd rfl (Or.inl rfl) (ao cH (ao bH (ao aC (pv 0) af) (ao aC (ao bH (pv 1) af) af)) af))
  (ah (ax (ao cH (ao aC (pv 2) (pv 2)) af)))),?_⟩;walk_at "sf";refine bN (IntMulOk.of_right (by decide)) ?_;walk_at "sf";refine bN (IntMulOk.of_right (by decide)) ?_;walk_at "sf";refine bN (by decide) ?_;rw[fT (by decide)];generalize hm:(c*6364136223846793005+(k+1)*1442695040888963407)%340282366920938463463374607431768211507=m;have m1:0<=m:=by rw[<-hm];exact Int.emod_nonneg _ (by decide)
 have m2:m<340282366920938463463374607431768211507:=by rw[<-hm];exact Int.emod_lt_of_pos _ (by decide)
 have mz:Bd 129 m:=Bd.gB m1 (Int.lt_of_lt_of_le m2 (by decide));walk_at "sf";refine bN (aP mz mz (by decide)) ?_;walk_at "sf";refine bN (by decide) ?_;rw[fT (by decide)];exact q _ (Int.emod_nonneg _ (by decide)) (Bd.gB (Int.emod_nonneg _ (by decide)) (Int.lt_of_lt_of_le (Int.emod_lt_of_pos _ (by decide)) (by decide)))
end
end cW
namespace cW
open PySem PyProof.Rows L2 SF SF.Po
theorem E_{p:Int}{P b:Nat}(hb:Bd P p){xs:List Int}(hx:Ab b xs):∀i,i<=xs.length->Bd (b+(P+1)*i) (eX p (xs.drop (xs.length-i)))
 |0,_=>by rw[vH];show(0:Int).natAbs<_;exact Nat.two_pow_pos _
 |i+1,h=>by
  rw[vG p xs (by lia)];have ih:=E_ hb hx i (by lia);have h1:Bd (b+(P+1)*i+P) (eX p (xs.drop (xs.length-i))*p):=ih.mul hb;have h2:Bd (b+(P+1)*i+P) (co xs (xs.length-1-i)):=(hx.co _).mono (by lia);have e:b+(P+1)*(i+1)=b+(P+1)*i+P+1:=by rw[Nat.mul_add];lia
  rw[e];exact h1.add h2
noncomputable def Kd:Sp:=fun vs H Q _=>∃(a:Addr)(xs:List Int)(p:Int)(P:Nat),vs=[.ref a,.int p]/\IL H a xs/\(∃b,xs.length<=40/\Ab b xs/\Bd P p/\P<=1400000/\b<=1000000)/\Q (.int (eX p xs)) H
noncomputable def wg:Sp:=fun vs H Q _=>∃(v p:Int)(n:Nat),vs=[.int v,.int p]/\(3<=p/\0<=v/\v<=p^n/\n<=50)/\∀(a:Addr)(xs:List Int)(H':Hp),av H H'->IL H' a xs->JI p v xs->xs.length<=n+1->Q (.ref a) H'
noncomputable def sh:Sp:=fun vs H Q _=>∃(a:Addr)(xs:List Int),vs=[.ref a]/\IL H a xs/\(xs≠[]/\E7 xs)/\∀(m:Int)(H':Hp),av H H'->(∃x∈xs,m=ab x)->(∀x∈xs,ab x<=m)->Q (.int m) H'
section
variable {P:Program} {w:World} {K:PySem.W.Frag} {mg:Str->Option Value} {base:Heap}
theorem wj(T:Nm mg)(D:aH K mg "value_at" kI ["poly","point"]):aT P w K mg base 1 "value_at" ["poly","point"] Kd:=by
 refine D.ok gW (fun vs H Q E h=>?_) (fun f bM A outer s H vs Q E hr h=>?_)
 ·obtain⟨a,xs,p,P,rfl,_⟩:=h;rfl
 obtain⟨a,xs,p,P,rfl,ha,⟨b,hx,UL,hb,hP,Z4⟩,q⟩:=h;refine⟨_,(ae (aj (i:=2) gW.nd rfl (Or.inl rfl) af)
  (ae (f6 PassesOwn.never rfl (xX rfl T.jc (aa (pv 0) ag)) (aO (i:=3) gW.nd rfl (Or.inl rfl))
  (ah (aj (i:=2) gW.nd rfl (Or.inl rfl) (ao bH (ao aC (pv 2) (pv 1)) (pv 3)))))
  (ah (ax (pv 2))))),?_⟩;walk_at "sf";refine⟨a,_,rfl,aW.of ha,?_⟩;refine sQ (xs:=xs.map V.int) (fun i σ H'=>(∃r,σ=[some (.ref a),some (.int p),some (.int (eX p (xs.drop (xs.length-i)))),r])/\H'=H) ⟨⟨_,by rw[vH];rfl⟩,rfl⟩ (fun i σ H' _ z=>by rw[z.2];exact aW.of ha) ?_ ?_
 ·rintro i x σ H' hi Ci ⟨⟨r,rfl⟩,rfl⟩;rw[List.length_map] at hi Ci;obtain⟨NS,rfl⟩:=nq Ci;have h1:=E_ hb UL i (by lia);have h2:(P+1)*i<=1400001*40:=Nat.mul_le_mul (by lia) (by lia);walk_at "sf";refine bN (aP h1 hb (by lia)) ?_;walk_at "sf";exact⟨⟨_,by rw[vG p xs hi];rfl⟩,rfl⟩
 ·rintro σ H' ⟨⟨r,rfl⟩,rfl⟩;rw[List.length_map,D9];walk_at "sf";exact q
theorem Cv(hT:P.given.tree=none)(D:aH K mg "spread" pZ ["value","point"]):aT P w K mg base 33 "spread" ["value","point"] wg:=by
 refine D.ok gA (fun vs H Q E h=>?_) (fun f bM A outer s H vs Q E hr h=>?_)
 ·obtain⟨v,p,n,rfl,_⟩:=h;rfl
 obtain⟨v,p,n,rfl,⟨Fb,hv,Mz,hn⟩,q⟩:=h;have hp:0<p:=by lia
 have Hm:p≠0:=by lia
 refine⟨_,(ae (aj (i:=2) gA.nd rfl (Or.inl rfl) (cQ ag))
  (ae (aj (i:=3) gA.nd rfl (Or.inl rfl) (pv 0))
  (ae (cN PassesOwn.never (fQ (pv 3) (fun _=>rfl))
  (ae (aj (i:=4) gA.nd rfl (Or.inl rfl) (ao cH (pv 3) (pv 1)))
  (ae (bB (ay fo (ao aC af (pv 4)) (pv 1) (aE _))
  (ah (aj (i:=4) gA.nd rfl (Or.inl rfl) (ao bq (pv 4) (pv 1))))
  aM)
  (ae (jZ (nF PySem.F.plainAttrs_list PySem.F.slot_list_append PySem.F.type_list_append fv (pv 2) (aa (pv 4) ag)))
  (ah (aj (i:=3) gA.nd rfl (Or.inl rfl) (ao (dO ⟨hT,⟨_,_,rfl,rfl,rfl,rfl,rfl⟩,hr.py⟩) (ao bq (pv 3) (pv 4)) (pv 1))))))))
  (ah (ax (pv 2)))))),?_⟩;walk_at "sf";intro p1 ow;walk_at "sf";refine cC (fun m σ H'=>∃(xs:List Int)(r:Int)(z:Option V),m=r.toNat/\σ=[some (.int v),some (.int p),some (.ref p1),some (.int r),z]/\av H H'/\IL H' p1 xs/\0<=r/\
  eX p xs+p^xs.length*r=v/\(∀x∈xs,-p<2*x/\2*x<=p)/\(r=0->Tr xs)/\((xs.length<=n/\r<=p^(n-xs.length))\/(xs.length<=n+1/\r=0)))
  ⟨_,[],v,_,rfl,rfl,av.new ow _,ai,hv,by show 0+p^0*v=v;rw[Int.pow_zero];lia,fun x hx=>by simp at hx,fun _=>Tr.nil,.inl ⟨Nat.zero_le _,Mz⟩⟩ ?_
 rintro m σ H' ⟨xs,r,z,rfl,rfl,s1,h1,Ke,e,LQ,Z5,lr⟩;walk_at "sf";refine dI (fun c=>?_) (fun c=>?_)
 ·have Fc:r≠0:=by simpa using c
  have Xb:0<r:=by lia
  have hlen:xs.length<=n/\r<=p^(n-xs.length):=by
   rcases lr with h|h
   ·exact h
   ·exact absurd h.2 Fc
  have fin:∀d:Int,d=digit p r->∀H2:Hp,av H H2->IL H2 p1 (xs++[d])->∃m',m'<r.toNat/\∃(xs:List Int)(t:Int)(z:Option V),m'=t.toNat/\[some (.int v),some (.int p),some (.ref p1),some (.int ((jA p r))),some (V.int d)]=[some (.int v),some (.int p),some (.ref p1),some (.int t),z]/\av H H2/\IL H2 p1 xs/\0<=t/\
   eX p xs+p^xs.length*t=v/\(∀x∈xs,-p<2*x/\2*x<=p)/\(t=0->Tr xs)/\((xs.length<=n/\t<=p^(n-xs.length))\/(xs.length<=n+1/\t=0)):=by
   intro d hd H2 s2 h2;have q0:=vF hp Ke;have q1:=HC Fb Xb;refine⟨_,by lia,xs++[d],jA p r,_,rfl,rfl,s2,h2,q0,?_,?_,?_,?_⟩
   ·rw[AG,List.length_append,List.length_singleton,Int.pow_succ];show eX p xs+p^xs.length*(d+p*0)+p^xs.length*p*jA p r=v;have e2:=pk (v:=r) hp;rw[<-e,hd]
    conv=>rhs;rw[<-e2]
    grind
   ·intro x hx;rcases List.mem_append.mp hx with hx|hx
    ·exact LQ x hx
    ·rw[List.mem_singleton.mp hx,hd];exact oz hp
   ·intro hz y hy;rw[List.getLast?_append,List.getLast?_singleton] at hy;have:d=y:=by simpa using hy
    rw[<-this,hd];exact ym hp Fc hz
   ·rw[List.length_append,List.length_singleton];by_cases hl:xs.length=n
    ·right;have h3:=hlen.2;rw[hl,Nat.sub_self,Int.pow_zero] at h3;have h4:r=1:=by lia
     rw[h4];exact⟨by lia,(D8 (by lia)).1⟩
    ·left;refine⟨by lia,HB hp ?_⟩;have e3:n-xs.length=n-(xs.length+1)+1:=by lia
     have h3:=hlen.2;rw[e3,Int.pow_succ] at h3;rw[Int.mul_comm];exact h3
  have Qb:∀d:Int,IL (upd H' p1 (.lst (xs.map V.int++[V.int d]))) p1 (xs++[d]):=fun d=>by
   show upd H' p1 _ p1=_;rw[ai,List.map_append];rfl
  have A1:∀o:HO,av H (upd H' p1 o):=fun o c u z=>by
   rw[aq (aL z ow)];exact s1 _ _ z
  refine⟨_,fun bJ H' h=>h,?_⟩;walk_at "sf";refine bN Hm ?_;rw[fT hp];walk_at "sf";have b1:IntMulOk 2 (r%p):=IntMulOk.of_left (by decide);refine bN b1 ?_;walk_at "sf";refine dI (fun c2=>?_) (fun c2=>?_)
  ·have h2:2*(r%p)>p:=by simpa using c2
   have ed:r%p-p=digit p r:=by unfold digit;rw[if_pos h2]
   walk_at "sf";refine⟨_,rfl,.inl ⟨rfl,_,aW.of h1⟩,?_⟩;walk_at "sf";refine⟨p1,_,_,rfl,rfl,h1,?_,?_⟩
   ·rw[List.length_map];exact Nat.lt_of_lt_of_le (Nat.lt_of_le_of_lt hlen.1 (by lia:n<1000)) (fw (Nat.le_refl _))
   ·walk_at "sf";refine bN Hm ?_;rw[ed,dy hp];exact fin _ rfl _ (A1 _) (Qb _)
  ·have h2:¬2*(r%p)>p:=by simpa using c2
   have ed:r%p=digit p r:=by unfold digit;rw[if_neg h2]
   walk_at "sf";refine⟨_,rfl,.inl ⟨rfl,_,aW.of h1⟩,?_⟩;walk_at "sf";refine⟨p1,_,_,rfl,rfl,h1,?_,?_⟩
   ·rw[List.length_map];exact Nat.lt_of_lt_of_le (Nat.lt_of_le_of_lt hlen.1 (by lia:n<1000)) (fw (Nat.le_refl _))
   ·walk_at "sf";refine bN Hm ?_;rw[ed,dy hp];exact fin _ rfl _ (A1 _) (Qb _)
 ·have Fc:r=0:=by simpa using c
  subst Fc;walk_at "sf";refine q p1 xs H' s1 h1 ⟨by rw[<-e];lia,LQ,Z5 rfl⟩ ?_;rcases lr with h|h<;>lia
theorem yR(T:Nm mg)(D:aH K mg "largest" nc ["poly"]):aT P w K mg base 1 "largest" ["poly"] sh:=by
 refine D.ok yJ (fun vs H Q E h=>?_) (fun f bM A outer s H vs Q E hr h=>?_)
 ·obtain⟨a,xs,rfl,_⟩:=h;rfl
 obtain⟨a,xs,rfl,ha,⟨hn,hf⟩,q⟩:=h;have Gx:∀i,(if co xs i<0 then-co xs i else co xs i)=ab (co xs i):=fun i=>by unfold ab;split<;>lia
 refine⟨_,(ah (ax (aI (BZ rfl) rfl T.Kc boot_max (aa (j4 rfl rfl (kC (own:=["number"]) (fr:=[]) (fs:=[]) (by with_unfolding_all rfl) rfl (by decide +kernel) (by decide +kernel) (by exact trivial) (by with_unfolding_all rfl) (by exact trivial)) (eZ (pv 0)) (fun _ _ _ _ _=>(aO (i:=0) (show List.Nodup (["number"]:List Str) by decide +kernel) rfl (Or.inl rfl) (Or.inr rfl))) (fun _ _ _ _ _=>(aI dw rfl T.ji boot_abs (aa (pv 0) ag)))) ag)))),?_⟩;walk_at "sf";refine j6 (H1:=H) (uO K a) (fun R hR=>?_) (iU (xs:=xs) (aW.of ha) (fun i=>ab (co xs i)) hf ?_ ?_)
 ·walk_at "sf";exact⟨a,rfl,⟨_,aW.of ha⟩,hR⟩
 ·intro i r H2 hi hr eT Z hZ;obtain⟨x0,rfl⟩:=x5 hr;walk_at "sf";refine⟨_,rfl,?_⟩;rw[Gx];exact hZ _ _ (av.refl _) ⟨[_],rfl,rfl⟩
 ·intro D H2 hD eT h2;walk_at "sf";have hl:=List.length_pos_iff.mpr hn;refine⟨D,_,rfl,aW.of h2,fun z=>?_,fun m hm UM=>q m H2 eT ?_ fun x hx=>?_⟩
  ·have:=congrArg List.length z;rw[aQ] at this;simp at this;exact hn this
  ·obtain⟨i,hi,e⟩:=List.mem_map.mp hm;have hi:=List.mem_range.mp hi;exact⟨co xs i,by rw[bY hi];exact List.getElem_mem hi,e.symm⟩
  ·obtain⟨i,hi,e⟩:=List.getElem_of_mem hx;refine UM _ (List.mem_map.mpr ⟨i,List.mem_range.mpr hi,?_⟩);rw[bY hi,e]
end
end cW
namespace cW
open PySem PyProof.Rows L2 SF SF.Po
noncomputable def yS:Sp:=fun vs H Q _=>∃(a d:Addr)(xs ds:List Int)(b c:Nat),vs=[.ref a,.ref d]/\IL H a xs/\IL H d ds/\(ds≠[]/\Tr ds/\xs.length<=40/\ds.length<=60/\Ab b xs/\Ab c ds/\b+41*(c+1)<=ke)/\
 (∀H',av H H'->(∀s,aw xs≠aw ds*s)->Q .dU H')/\
 (∀(a':Addr)(qs:List Int)(H':Hp),av H H'->IL H' a' qs->aw xs=aw ds*aw qs->(ds.length<=xs.length->qs.length+ds.length=xs.length+1)->Q (.ref a') H')
theorem Ie{rs ds:List Int}{t:Int}{k r c:Nat}(hk:k+ds.length<=rs.length)(b1:Ab r rs)(b2:Ab c ds)(bt:Bd r t):Ab (r+(c+1)) (jz rs ds t k):=fun x hx=>by
 obtain⟨j,e⟩:=mU hx;rw[<-e,pj hk];have h1:Bd (r+c) (co rs j):=(b1.co j).mono (by lia);have h2:Bd (r+c) (if k<=j then t*co ds (j-k) else 0):=by
  split
  ·exact bt.mul (b2.co _)
  ·show(0:Int).natAbs<_;exact Nat.two_pow_pos _
 exact h1.sub h2
theorem wk{xs:List Int}(h:xs≠[]):(xs.map V.int)[(xs.map V.int).length-1]?=some (.int (SF.co xs (xs.length-1))):=by
 have hl:0<xs.length:=List.length_pos_iff.mpr h;rw[List.length_map,List.getElem?_map,List.getElem?_eq_getElem (by lia),bY (by lia)];rfl
section
variable {P:Program} {w:World} {K:PySem.W.Frag} {mg:Str->Option Value} {base:Heap}
theorem yT(T:Nm mg)(hT:P.given.tree=none)(D:aH K mg "divided" m_ ["poly","divisor"]):aT P w K mg base 33 "divided" ["poly","divisor"] yS:=by
 refine D.ok eI (fun vs H Q E h=>?_) (fun f bM A outer s H vs Q E hr h=>?_)
 ·obtain⟨a,d,xs,ds,b,c,rfl,_⟩:=h;rfl
 obtain⟨a,d,xs,ds,b,c,rfl,ha,hd,⟨yj,td,hx,hdl,bx,bd,lr⟩,qn,qs⟩:=h;have ed:(ds.map V.int).length=ds.length:=List.length_map _;have hdp:=List.length_pos_iff.mpr yj;have Kf:=td.last yj;have iF:ke=60000000:=rfl;refine⟨_,(ae (aj (i:=2) eI.nd rfl (Or.inl rfl) (dW lE rfl T.yO boot_list (aa (pv 0) ag)))
  (ae (aj (i:=3) eI.nd rfl (Or.inl rfl) (cQ ag))
  (ae (cN PassesOwn.never (ay Dr (aI aV rfl T.gf boot_len (aa (pv 2) ag)) (aI aV rfl T.gf boot_len (aa (pv 1) ag)) (aE _))
  (ae (aj (i:=4) eI.nd rfl (Or.inl rfl) (ao (dO ⟨hT,⟨_,_,rfl,rfl,rfl,rfl,rfl⟩,hr.py⟩) (aD bE (pv 2) (cU bR af) (fun _ _=>rfl)) (aD bE (pv 1) (cU bR af) (fun _ _=>rfl))))
  (ae (aj (i:=5) eI.nd rfl (Or.inl rfl) (ao bq (aI aV rfl T.gf boot_len (aa (pv 2) ag)) (aI aV rfl T.gf boot_len (aa (pv 1) ag))))
  (ae (f6 PassesOwn.never rfl (sP rfl T.jP (aa (pv 1) ag)) (jq rfl (bc (aO (i:=6) eI.nd rfl (Or.inl rfl)) (bc (aO (i:=7) eI.nd rfl (Or.inl rfl)) gR)))
  (ah (kB (ao bq (aD bE (pv 2) (ao bH (pv 5) (pv 6)) (fun _ _=>rfl)) (ao aC (pv 4) (pv 7))) (Dj (pv 2) (ao bH (pv 5) (pv 6)) set_list))))
  (ae (bB (ay gb (xT PySem.F.plainAttrs_list PySem.F.slot_list_pop PySem.F.type_list_pop xV (pv 2)) af (aE _))
  (ah (ax fZ))
  aM)
  (ah (jZ (nF PySem.F.plainAttrs_list PySem.F.slot_list_append PySem.F.type_list_append fv (pv 3) (aa (pv 4) ag)))))))))
  (ae (bB (ky (aI (BY rfl) rfl T.P' boot_any (aa (pv 2) ag)))
  (ah (ax fZ))
  aM)
  (ah (ax (Hg rfl rfl T.jc rfl T.yO (aa (pv 3) ag)))))))),?_⟩;walk_at "sf";refine⟨a,_,rfl,.inl (aW.of ha),fun p1 ow=>?_⟩;have s1:=av.new ow (.lst (xs.map V.int));walk_at "sf";intro p2 uS;have s2:=s1.trans (av.new uS (.lst []));have UN:H p2=none:=s1.free uS;have RZ:p1≠p2:=fun z=>by rw[<-z,ai] at uS;cases uS
 walk_at "sf";refine cC (fun m σ H'=>∃(rs fs:List Int)(z1 z2 z3 z4:Option V),m=rs.length/\σ=[some (.ref a),some (.ref d),some (.ref p1),some (.ref p2),z1,z2,z3,z4]/\av H H'/\IL H' p1 rs/\IL H' p2 fs/\
  aw xs=aw rs+aw ds*(X (rs.length+1-ds.length)*aw fs.reverse)/\rs.length+fs.length=xs.length/\(ds.length<=rs.length+1\/fs=[])/\Ab (b+fs.length*(c+1)) rs)
  ⟨_,xs,[],_,_,_,_,rfl,rfl,s2,by show upd _ p2 _ p1=_;rw[aq RZ,ai],ai,?_,by simp,.inr rfl,bx.mono (by simp)⟩ ?_
 ·rw[List.reverse_nil,dH];grind
 rintro m σ H' ⟨rs,fs,z1,z2,z3,z4,rfl,rfl,s3,h1,h2,e,hlen,Z6,Ig⟩;have er:(rs.map V.int).length=rs.length:=List.length_map _;have hfl:fs.length*(c+1)<=40*(c+1):=Nat.mul_le_mul_right _ (by lia);walk_at "sf";refine⟨p1,_,rfl,.inl (aW.of h1),?_⟩;walk_at "sf";refine⟨d,_,rfl,.inl (aW.of (s3 _ _ hd)),?_⟩;walk_at "sf";rw[er,ed];refine dI (fun cc=>?_) (fun cc=>?_)
 ·have NR:ds.length<=rs.length:=by simpa using cc
  have Fc:rs≠[]:=List.length_pos_iff.mp (by lia);refine⟨_,fun bJ H' h=>h,?_⟩;walk_at "sf";refine cV (aW.of h1) (gv Fc) ?_;walk_at "sf";refine cV (aW.of (s3 _ _ hd)) (gv yj) ?_;refine bN Kf ?_;generalize ht:(co rs (rs.length-1)).fdiv (co ds (ds.length-1))=t;have bt:Bd (b+fs.length*(c+1)) t:=(Ig.co (rs.length-1)).of_le (by rw[<-ht];exact AF _ _);walk_at "sf";refine⟨p1,_,rfl,.inl (aW.of h1),?_⟩;walk_at "sf";refine⟨d,_,rfl,.inl (aW.of (s3 _ _ hd)),?_⟩;walk_at "sf";rw[er,ed];have ek:(rs.length:Int)-(ds.length:Int)=((rs.length-ds.length:Nat):Int):=by lia
  rw[ek];generalize hk:rs.length-ds.length=k;have hkl:k+ds.length=rs.length:=by lia
  refine⟨d,rfl,⟨_,aW.of (s3 _ _ hd)⟩,?_⟩;refine ve (xs:=ds.map V.int) (fun i σ H'=>(∃r1 r2,σ=[some (.ref a),some (.ref d),some (.ref p1),some (.ref p2),some (.int t),some (.int (k:Int)),r1,r2])/\av H H'/\IL H' p2 fs/\
   IL H' p1 (gx (fun j=>co rs j-if k<=j/\j<k+i then t*co ds (j-k) else 0) rs.length))
   ⟨⟨_,_,rfl⟩,s3,h2,?_⟩ (fun i σ H' _ z=>aW.of (z.2.1 _ _ hd)) ?_ ?_
  ·show H' p1=_;rw[h1];refine congrArg (fun l:List Int=>some (HO.lst (l.map V.int))) ?_
   conv=>lhs;rw[<-LB rs]
   exact gy fun j _=>by rw[if_neg (by lia)];lia
  ·rintro i x pp σ H4 hi x8 ⟨⟨r1,r2,rfl⟩,s4,h4,h5⟩;obtain⟨TX,rfl⟩:=nq hi;have s5:=av.new x8 (.tup [.int (i:Int),.int (co ds i)]);have h6:=s5 _ _ h5;have ei:(k:Int)+(i:Int)=((k+i:Nat):Int):=by lia
   refine jt (bL.of ai) rfl ?_;walk_at "sf";rw[ei];refine cV (aW.of h6) (Bb (by rw[aQ];lia)) ?_;walk_at "sf";refine bN (aP bt (bd.co i) (by lia)) ?_;walk_at "sf";rw[ei];refine⟨p1,_,_,k+i,rfl,rfl,h6,E5 (by rw[List.length_map,aQ];lia),?_⟩;refine⟨⟨_,_,rfl⟩,fun c o z=>?_,?_,?_⟩
   ·rw[aq (aL z ow)];exact s5 _ _ (s4 _ _ z)
   ·show upd _ p1 _ p2=_;rw[aq RZ.symm];exact s5 _ _ h4
   ·show upd _ p1 _ p1=_;rw[ai,mO,if_pos (by lia),<-List.map_set,Al (by lia)];refine congrArg (fun l=>some (HO.lst (l.map V.int))) (gy fun j hj=>?_);show(if j=k+i then _ else _)=_;by_cases e:j=k+i
    ·subst e;have e3:k+i-k=i:=by lia
     rw[if_pos rfl,if_neg (by lia),if_pos ⟨by lia,by lia⟩,e3];lia
    ·rw[if_neg e];by_cases e4:k<=j/\j<k+i
     ·rw[if_pos e4,if_pos ⟨e4.1,by lia⟩]
     ·rw[if_neg e4,if_neg (by lia)]
  ·rintro σ H4 ⟨⟨r1,r2,rfl⟩,s4,h4,h5⟩;rw[ed] at h5;have es:gx (fun j=>co rs j-if k<=j/\j<k+ds.length then t*co ds (j-k) else 0) rs.length=jz rs ds t k:=gy fun j hj=>by
    by_cases e:k<=j
    ·rw[if_pos e,if_pos ⟨e,by lia⟩]
    ·rw[if_neg e,if_neg (fun z=>e z.1)]
   rw[es] at h5;have JY:=B5 rs ds t k;have Z7:jz rs ds t k≠[]:=List.length_pos_iff.mp (by rw[JY];lia);have etop:co (jz rs ds t k) ((jz rs ds t k).length-1)=co rs (rs.length-1)-t*co ds (ds.length-1):=by
    rw[JY,pj (by lia),if_pos (by lia)];have e3:rs.length-1-k=ds.length-1:=by lia
    rw[e3]
   have s6:∀o:HO,av H (upd H4 p1 o):=fun o c u z=>by
    rw[aq (aL z ow)];exact s4 _ _ z
   walk_at "sf";refine⟨_,rfl,.inl ⟨rfl,_,aW.of h5⟩,p1,_,_,rfl,rfl,h5,wk Z7,?_⟩;walk_at "sf";rw[etop];refine dI (fun c2=>?_) (fun c2=>?_)
   ·have eE:co rs (rs.length-1)-t*co ds (ds.length-1)≠0:=by simpa using c2
    walk_at "sf";refine qn _ (s6 _) fun s hs=>eE ?_;have e2:aw rs=aw ds*(s-X (rs.length+1-ds.length)*aw fs.reverse):=by
     rw[e] at hs;grind
    have:=B7 td yj NR e2;rw[ht] at this;exact this
   ·have hz:co rs (rs.length-1)-t*co ds (ds.length-1)=0:=by simpa using c2
    walk_at "sf";have h7:upd H4 p1 (.lst ((jz rs ds t k).map V.int).dropLast) p2=some (.lst (fs.map V.int)):=by rw[aq RZ.symm];exact h4
    refine⟨_,rfl,.inl ⟨rfl,_,aW.of h7⟩,?_⟩;walk_at "sf";refine⟨p2,_,_,rfl,rfl,h7,?_,?_⟩
    ·rw[List.length_map];exact Nat.lt_of_lt_of_le (by lia:fs.length<1000) (fw (Nat.le_refl _))
    ·refine⟨_,?_,(jz rs ds t k).dropLast,fs++[t],_,_,_,_,rfl,rfl,fun c o z=>?_,?_,?_,?_,?_,?_,?_⟩
     ·rw[List.length_dropLast,JY];lia
     ·rw[aq (aL z UN)];exact s6 _ _ _ z
     ·show upd _ p2 _ p1=_;rw[aq RZ,ai,List.map_dropLast]
     ·show upd _ p2 _ p2=_;rw[ai,List.map_append];rfl
     ·rw[D7 (by rw[etop];exact hz),B6 (by lia),List.length_dropLast,JY,List.reverse_append,List.reverse_singleton,List.singleton_append,pb];have e3:rs.length+1-ds.length=k+1:=by lia
      have e4:rs.length-1+1-ds.length=k:=by lia
      rw[e3] at e;rw[e4,e,JJ];grind
     ·rw[List.length_dropLast,JY,List.length_append,List.length_singleton];lia
     ·left;rw[List.length_dropLast,JY];lia
     ·rw[List.length_append,List.length_singleton];have:=Ie (k:=k) (by lia) Ig bd bt;have e5:b+(fs.length+1)*(c+1)=b+fs.length*(c+1)+(c+1):=by rw[Nat.add_mul];lia
      rw[e5];exact fun x hx=>this x (List.mem_of_mem_take (by rw[List.dropLast_eq_take] at hx;exact hx))
 ·have eM:rs.length<ds.length:=by
   have:¬ds.length<=rs.length:=by simpa using cc
   lia
  have e0:rs.length+1-ds.length=0:=by lia
  rw[e0,tj] at e;have e1:aw xs=aw rs+aw ds*aw fs.reverse:=by rw[e];grind
  walk_at "sf";refine⟨p1,_,rfl,aW.of h1,?_⟩;walk_at "sf";cases Qc:rs.any (·!=0) with
  |true=>
   rw[if_pos rfl];walk_at "sf";refine qn H' s3 fun s hs=>?_;have e2:aw rs=aw ds*(s-aw fs.reverse):=by rw[e1] at hs;grind
   have:=any_zero.mpr (B8 td eM e2);rw[Qc] at this;cases this
  |false=>
   have hz:=any_zero.mp Qc;rw[hz] at e1;have e2:aw xs=aw ds*aw fs.reverse:=by rw[e1];grind
   rw[if_neg (by decide)];walk_at "sf";refine⟨_,rfl,p2,_,rfl,aW.of h2,fun l hl=>?_⟩;refine qs l fs.reverse _ (s3.trans (av.new hl _)) ?_ e2 fun NR=>?_
   ·show upd H' l _ l=_;rw[ai,List.map_reverse]
   ·rw[List.length_reverse];rcases Z6 with h|h
    ·lia
    ·rw[h,List.length_nil] at hlen;lia
end
end cW
namespace cW
open PySem PyProof.Rows L2 SF SF.Po
theorem dB{xs:List Int}{n:Nat}(h:Tr xs)(hn:xs≠[])(b:Ab n xs):Ab n (au xs):=fun x hx=>by
 obtain⟨i,hi,e⟩:=List.getElem_of_mem hx;rw[aS] at hi;have e2:=iu hi;have hc:=fK h hn;rw[<-e,<-bY];refine(b.co i).of_le ?_;rw[<-e2,Int.natAbs_mul];exact Nat.le_mul_of_pos_right _ (Int.natAbs_pos.mpr hc)
theorem wm{b:Nat}{x:Int}(h:Bd b x):ab x<=((2^b:Nat):Int):=by
 unfold Bd at h;unfold ab;lia
theorem Qe{b:Nat}{x:Int}{B:Nat}(h:ab x<=(B:Int))(hB:B<2^b):Bd b x:=by
 unfold Bd;unfold ab at h;lia
noncomputable def MA(xs ys:List Int):Prop:=Tr xs/\Tr ys/\xs.length<=40/\ys.length<=40/\xs.length+ys.length<=62/\∃b,b<=10000/\Ab b xs/\Ab b ys
theorem Qf{xs:List Int}:(!(xs.map V.int).isEmpty)=decide (xs≠[]):=by cases xs<;>rfl
theorem Ih{xs ys:List Int}{b:Nat}(hx:Tr xs)(hy:Tr ys)(hl:xs.length+ys.length<=62)(b1:Ab b xs)(b2:Ab b ys):Ab (61*b+427) (dj xs ys):=by
 by_cases eY:xs=[]
 ·subst eY;rw[rQ,lT hy];by_cases iK:ys=[]
  ·subst iK;intro x hx;exact absurd hx (by simp[au])
  ·exact(dB hy iK b2).mono (by lia)
 by_cases iK:ys=[]
 ·subst iK;rw[lT hx];exact(dB hx eY b1).mono (by lia)
 intro x Ci;obtain⟨i,e⟩:=mU Ci;have h1:=HA hx hy eY iK (A:=60) (M:=2^b) (by lia) (fun i=>wm ((dB hx eY b1).co i)) (fun i=>wm ((dB hy iK b2).co i)) i;rw[e] at h1;have h2:=AH b;exact Qe h1 (by lia)
section
variable {P:Program} {w:World} {K:PySem.W.Frag} {mg:Str->Option Value} {base:Heap}
theorem qU(T:Nm mg)(cY:aT P w K mg base 34 "common_divisor" ["one","other"] Bc)(eQ:aT P w K mg base 34 "primitive" ["poly"] (C_ au (fun xs=>E7 xs/\Tr xs)))(qh:aT P w K mg base 34 "value_at" ["poly","point"] Kd)(Fd:aT P w K mg base 34 "spread" ["value","point"] wg)(si:aT P w K mg base 34 "largest" ["poly"] sh)(kf:aT P w K mg base 34 "divided" ["poly","divisor"] yS)(D:aH K mg "divisor_of" i8 ["one","other"]):aT P w K mg base 35 "divisor_of" ["one","other"] (E6 dj MA):=by
 refine D.ok cT (fun vs H Q E h=>?_) (fun f bM A outer s H vs Q E hr h=>?_)
 ·obtain⟨a,b,xs,ys,rfl,_⟩:=h;rfl
 obtain⟨a,b,xs,ys,rfl,ha,hb,⟨tx,ty,lx,ly,lxy,bb,NP,bx,MB⟩,q⟩:=h;refine⟨_,(ae (aj (i:=2) cT.nd rfl (Or.inl rfl) (ar eQ hr (aa (pv 0) ag)))
  (ae (aj (i:=3) cT.nd rfl (Or.inl rfl) (ar eQ hr (aa (pv 1) ag)))
  (ae (bB (kA (fQ (pv 2) (fun _=>rfl)))
  (ah (ax (pv 3)))
  aM)
  (ae (bB (kA (fQ (pv 3) (fun _=>rfl)))
  (ah (ax (pv 2)))
  aM)
  (ae (aj (i:=4) cT.nd rfl (Or.inl rfl) (ao aC (ao aC af (ao bH (aI (mJ rfl) rfl T.E2 boot_min (aa (ar si hr (aa (pv 2) ag)) (aa (ar si hr (aa (pv 3) ag)) ag))) af)) (ao K0 af af)))
  (ah (cN PassesOwn.never (fQ fk (fun _=>rfl))
  (ae (aj (i:=5) cT.nd rfl (Or.inl rfl) (ar cY hr (aa (ar qh hr (aa (pv 2) (aa (pv 4) ag))) (aa (ar qh hr (aa (pv 3) (aa (pv 4) ag))) ag))))
  (ae (aj (i:=6) cT.nd rfl (Or.inl rfl) (ar eQ hr (aa (ar Fd hr (aa (pv 5) (aa (pv 4) ag))) ag)))
  (ae (bB (PW.pt (kz (ay lC (ar kf hr (aa (pv 2) (aa (pv 6) ag))) fZ (aE _)) (iN (ay lC (ar kf hr (aa (pv 3) (aa (pv 6) ag))) fZ (aE _)))))
  (ah (ax (pv 6)))
  aM)
  (ah (aj (i:=4) cT.nd rfl (Or.inl rfl) (ao aC (pv 4) (pv 4)))))))))))))),?_⟩;walk_at "sf";refine⟨a,xs,rfl,ha,⟨by show xs.length<=1000;lia,tx⟩,fun p1 H1 s1 h1=>?_⟩;walk_at "sf";refine⟨b,ys,rfl,s1 _ _ hb,⟨by show ys.length<=1000;lia,ty⟩,fun p2 H2 s2 h2=>?_⟩;have eT:=s1.trans s2;walk_at "sf";refine xY (aW.of (s2 _ _ h1)) ?_
 dsimp only
 rw[Qf];by_cases eY:xs=[]
 ·subst eY;have e1:au []=[]:=rfl;rw[if_pos (by rw[e1];rfl)];walk_at "sf";refine q p2 H2 eT ?_;rw[rQ,lT ty];exact h2
 have R0:au xs≠[]:=fun z=>eY (by have:=congrArg List.length z;rw[aS] at this;exact List.length_eq_zero_iff.mp this);rw[if_neg (by simpa using R0)];walk_at "sf";refine xY (aW.of h2) ?_
 dsimp only
 rw[Qf];by_cases iK:ys=[]
 ·subst iK;have e1:au []=[]:=rfl;rw[if_pos (by rw[e1];rfl)];walk_at "sf";refine q p1 H2 eT ?_;rw[lT tx];exact s2 _ _ h1
 have R1:au ys≠[]:=fun z=>iK (by have:=congrArg List.length z;rw[aS] at this;exact List.length_eq_zero_iff.mp this);rw[if_neg (by simpa using R1)];have UO:=s2 _ _ h1;have Z8:=aS xs;have Z9:=aS ys;have R3:=dB tx eY bx;have UP:=dB ty iK MB;walk_at "sf";refine⟨p1,_,rfl,UO,⟨R0,by show(au xs).length<=1000;lia⟩,fun m1 H3 s3⟨x1,nQ,Xc⟩ PM=>?_⟩;walk_at "sf";refine⟨p2,_,rfl,s3 _ _ h2,⟨R1,by show(au ys).length<=1000;lia⟩,fun m2 H4 s4⟨x2,NT,Z_⟩ UQ=>?_⟩;walk_at "sf";refine⟨_,_,rfl,?_⟩;walk_at "sf";have Qg:=s3.trans s4;have MC:=eT.trans Qg;have UR:ab m1<=((2^bb:Nat):Int):=by
  rw[Xc,nK (aK _)];exact wm (R3 _ nQ)
 have Qh:0<=m1:=by rw[Xc];exact aK _
 have US:0<=m2:=by rw[Z_];exact aK _
 have key:∀M:Int,M=(if m2<m1 then m2 else m1)->0<=M/\M<=((2^bb:Nat):Int)/\((∀x∈au xs,ab x<=M)\/(∀y∈au ys,ab y<=M)):=fun M e=>by
  rw[nK Qh] at UR;rw[e];split
  ·exact⟨US,by lia,.inr UQ⟩
  ·exact⟨Qh,by lia,.inl PM⟩
 generalize hM:(if m2<m1 then m2 else m1)=M at*;obtain⟨LL,hMb,Qi⟩:=key M rfl;refine bN (IntMulOk.of_left (by decide)) ?_;walk_at "sf";refine bN ⟨by decide,by decide,by decide⟩ ?_;refine bN (IntMulOk.of_right (by decide)) ?_;walk_at "sf";have Z':(2:Int)^(32:Int).toNat=4294967296:=by decide
 rw[Z']
 dsimp only
 let PB:Nat:=122*bb+860;have hPB:PB=122*bb+860:=rfl;have nbb:=AH bb;have R4:Pr (aw (au xs)):=cO tx eY;have UT:Pr (aw (au ys)):=cO ty iK;have Qj:(∀i,ab ((aw (au xs)).c i)<=M)\/(∀i,ab ((aw (au ys)).c i)<=M):=by
  rcases Qi with h|h
  ·exact .inl fun i=>mem_co h LL i
  ·exact .inr fun i=>mem_co h LL i
 have Hm:Bd PB (2*(M+1)*4294967296):=by
  unfold Bd;have e3:(2*(M+1)*4294967296).natAbs=(2*(M+1)*4294967296).toNat:=by lia
  have e4:2^(bb+35)=2^bb*34359738368:=by rw[Nat.pow_add]
  have e5:2^(bb+35)<=2^PB:=Nat.pow_le_pow_right (by decide) (by lia);have e6:0<2^bb:=Nat.two_pow_pos bb;lia
 refine cC (fun m σ H'=>∃(p:Int)(z1 z2:Option V),m=(2*((NB 60 (2^bb):Nat):Int)+1-p).toNat/\σ=[some (.ref a),some (.ref b),some (.ref p1),some (.ref p2),some (.int p),z1,z2]/\av H2 H'/\2*(M+1)<p/\Bd PB p)
  ⟨_,_,_,_,rfl,rfl,Qg,by lia,Hm⟩ ?_
 rintro m σ H5 ⟨p,z1,z2,rfl,rfl,s5,hp,bp⟩;have Qk:=B9 R4.ne UT.ne Qi LL hp 40 (by lia) (by lia);have NU:=eT.trans s5;walk_at "sf";refine⟨true,rfl,?_⟩
 dsimp only
 rw[if_pos rfl];refine⟨_,fun bJ H' h=>h,?_⟩;walk_at "sf";refine⟨p1,_,p,PB,rfl,s5 _ _ UO,⟨bb,by lia,R3,bp,by lia,by lia⟩,?_⟩;walk_at "sf";refine⟨p2,_,p,PB,rfl,s5 _ _ h2,⟨bb,by lia,UP,bp,by lia,by lia⟩,?_⟩;walk_at "sf";refine⟨_,_,rfl,?_⟩;walk_at "sf";refine⟨_,_,40,rfl,⟨by lia,by lia,Qk.2,by decide⟩,fun p6 G H6 s6 h6 NV hGl=>?_⟩;walk_at "sf";refine⟨p6,G,rfl,h6,⟨by show G.length<=1000;lia,NV.tr⟩,fun p7 H7 s7 h7=>?_⟩;have UU:=(s5.trans s6).trans s7;have Hw:G≠[]:=by
  rintro rfl;have:=NV.val;have e0:eX p []=0:=rfl;rw[e0] at this;lia
 have Xd:au G≠[]:=fun z=>Hw (by have:=congrArg List.length z;rw[aS] at this;exact List.length_eq_zero_iff.mp this);have lpG:=aS G;have bG:Ab PB G:=fun x hx=>by
  have h8:=NV.LQ x hx;unfold Bd at bp ⊢;lia
 have Xe:=dB NV.tr Hw bG;have UW:=bS NV.tr;have Ql:JI p ((Int.gcd (ev p (aw (au xs))) (ev p (aw (au ys))):Nat):Int) G:=by rw[jy,jy];exact NV
 have small:(∀s,aw (au xs)≠aw (au G)*s)\/(∀s,aw (au ys)≠aw (au G)*s)->p<=2*((NB 60 (2^bb):Nat):Int):=fun EW=>by
  rcases Int.lt_or_le (2*((NB 60 (2^bb):Nat):Int)) p with eM|hle
  ·exfalso;have gc:=dm (xs:=au xs) (ys:=au ys) (.inl R4.ne);have ef:=B0 R4 UT (fun i=>wm (R3.co i)) (fun i=>wm (UP.co i)) gc (A:=60) (by rw[bO (bS tx),bO (bS ty)];lia) eM Ql (by rw[jy,jy];exact Qk.1);obtain⟨f1,e1⟩:=gc.pr.div gc.df;obtain⟨g1,e2⟩:=gc.pr.div gc.dg;rcases EW with h|h
   ·exact h f1 (by rw[ef];exact e1)
   ·exact h g1 (by rw[ef];exact e2)
  ·exact hle
 have again:∀H8:Hp,av H2 H8->p<=2*((NB 60 (2^bb):Nat):Int)->IntMulOk p p/\∃m',m'<(2*((NB 60 (2^bb):Nat):Int)+1-p).toNat/\∃(p':Int)(z1 z2:Option V),m'=(2*((NB 60 (2^bb):Nat):Int)+1-p').toNat/\
  [some (V.ref a),some (V.ref b),some (V.ref p1),some (V.ref p2),some (V.int (p*p)),some (V.int ((Int.gcd (eX p (au xs)) (eX p (au ys)):Nat):Int)),some (V.ref p7)]=[some (.ref a),some (.ref b),some (.ref p1),some (.ref p2),some (.int p'),z1,z2]/\av H2 H8/\2*(M+1)<p'/\Bd PB p':=fun H8 s8 hle=>by
  have x8:p*2<=p*p:=Int.mul_le_mul_of_nonneg_left (by lia) (by lia);refine⟨aP bp bp (by lia),_,?_,p*p,_,_,rfl,rfl,s8,by lia,?_⟩
  ·lia
  ·have h9:Bd (61*bb+427) p:=by unfold Bd;lia
   exact(h9.mul h9).mono (by lia)
 walk_at "sf";refine⟨p1,p7,_,_,bb,PB,rfl,UU _ _ UO,h7,⟨Xd,UW,by lia,by lia,R3,Xe,by show bb+41*(PB+1)<=60000000;lia⟩,fun H8 s8 EW=>?_,fun p8 q1 H8 s8 h8 e8 _=>?_⟩
 ·obtain⟨UX,fin⟩:=again H8 (UU.trans s8) (small (.inl EW));walk_at "sf";refine⟨rfl,false,rfl,?_⟩;rw[if_neg (by decide),if_neg (by decide)];walk_at "sf";refine bN UX ?_;walk_at "sf";exact fin
 ·walk_at "sf";refine⟨rfl,true,rfl,?_⟩;rw[if_pos rfl];walk_at "sf";have UY:=UU.trans s8;refine⟨p2,p7,_,_,bb,PB,rfl,UY _ _ h2,s8 _ _ h7,⟨Xd,UW,by lia,by lia,UP,Xe,by show bb+41*(PB+1)<=60000000;lia⟩,fun H9 s9 EW=>?_,fun p9 q2 H9 s9 h9 e9 _=>?_⟩
  ·obtain⟨UX,fin⟩:=again H9 (UY.trans s9) (small (.inr EW));walk_at "sf";refine⟨rfl,false,rfl,?_⟩;rw[if_neg (by decide)];walk_at "sf";refine bN UX ?_;walk_at "sf";exact fin
  ·walk_at "sf";refine⟨rfl,true,rfl,?_⟩;rw[if_pos rfl];walk_at "sf";refine q p7 H9 (eT.trans (UY.trans s9)) ?_;have gc:GC (aw (au xs)) (aw (au ys)) (aw (au G)):=gcd_right R4 UT Qj hp Ql (by rw[e8];exact Po.D.mul _ _) (by rw[e9];exact Po.D.mul _ _);rw[<-pe tx ty eY iK,<-lS UW gc];exact s9 _ _ (s8 _ _ h7)
noncomputable def Qm(xs ys:List Int):Prop:=Tr xs/\Tr ys/\xs≠[]/\ys≠[]/\xs.length<=40/\ys.length<=40/\Po.D (aw ys) (aw xs)/\∃b c,b<=1000000/\c<=1000000/\Ab b xs/\Ab c ys
theorem wo(eQ:aT P w K mg base 34 "primitive" ["poly"] (C_ au (fun xs=>E7 xs/\Tr xs)))(kf:aT P w K mg base 34 "divided" ["poly","divisor"] yS)(D:aH K mg "quotient" kJ ["one","other"]):aT P w K mg base 35 "quotient" ["one","other"] (E6 lW Qm):=by
 refine D.ok v7 (fun vs H Q E h=>?_) (fun f bM A outer s H vs Q E hr h=>?_)
 ·obtain⟨a,b,xs,ys,rfl,_⟩:=h;rfl
 obtain⟨a,b,xs,ys,rfl,ha,hb,⟨tx,ty,eY,iK,lx,ly,hd,bb,cc,NP,SV,bx,MB⟩,q⟩:=h;have R0:au xs≠[]:=fun z=>eY (by have:=congrArg List.length z;rw[aS] at this;exact List.length_eq_zero_iff.mp this);have R1:au ys≠[]:=fun z=>iK (by have:=congrArg List.length z;rw[aS] at this;exact List.length_eq_zero_iff.mp this);have Z8:=aS xs;have Z9:=aS ys;have eq:=tG tx ty eY iK hd;refine⟨_,(ah (ax (ar kf hr (aa (ar eQ hr (aa (pv 0) ag)) (aa (ar eQ hr (aa (pv 1) ag)) ag))))),?_⟩;walk_at "sf";refine⟨a,xs,rfl,ha,⟨by show xs.length<=1000;lia,tx⟩,fun p1 H1 s1 h1=>?_⟩;walk_at "sf";refine⟨b,ys,rfl,s1 _ _ hb,⟨by show ys.length<=1000;lia,ty⟩,fun p2 H2 s2 h2=>?_⟩;have eT:=s1.trans s2;walk_at "sf";refine⟨p1,p2,_,_,bb,cc,rfl,s2 _ _ h1,h2,⟨R1,bS ty,by lia,by lia,dB tx eY bx,dB ty iK MB,by show bb+41*(cc+1)<=60000000;lia⟩,fun H3 s3 EW=>?_,fun p3 qs H3 s3 h3 e3 hl=>?_⟩
 ·exact absurd eq (EW _)
 ·refine q p3 H3 (eT.trans s3) ?_;have sO:(au ys).length<=(au xs).length:=by
   have h0:=(cO tx eY).ne;rw[eq] at h0;have:=len_mul (s_ h0) (iw h0);rw[<-eq,bO (bS tx),bO (bS ty)] at this;have:=len_pos (iw h0);lia
  have tq:Tr qs:=LV (bS tx) R0 (bS ty) e3 (hl sO);rw[<-Hy ty iK tq e3];exact h3
noncomputable def Cw(xs:List Int):Prop:=Tr xs/\xs≠[]/\xs.length<=31/\∃b,b<=9990/\Ab b xs
theorem Be{xs:List Int}{b:Nat}(h:Ab b xs)(hl:xs.length<=31):Ab (b+5) (cb xs):=fun x hx=>by
 obtain⟨i,hi,e⟩:=List.getElem_of_mem hx;have Ua:i<xs.length-1:=by rw[show(cb xs).length=xs.length-1 from aQ _ _] at hi;exact hi
 rw[<-e,<-bY,lJ];show Bd (b+5) (((i+1:Nat):Int)*co xs (i+1));have h1:Bd 5 (((i+1:Nat):Int)):=Bd.gB (by lia) (by lia);have h2:=h1.mul (h.co (i+1));rw[Nat.add_comm] at h2;exact h2
theorem wq(xs:List Int):(cb xs).length=xs.length-1:=aQ _ _
theorem qi(yU:aT P w K mg base 35 "quotient" ["one","other"] (E6 lW Qm))(jd:aT P w K mg base 35 "divisor_of" ["one","other"] (E6 dj MA))(je:aT P w K mg base 35 "derivative" ["poly"] (C_ cb (fun xs=>E7 xs/\Ab ke xs)))(D:aH K mg "square_free" g8 ["poly"]):aT P w K mg base 36 "square_free" ["poly"] (C_ vD Cw):=by
 refine D.ok p_ (fun vs H Q E h=>?_) (fun f bM A outer s H vs Q E hr h=>?_)
 ·obtain⟨a,xs,rfl,_⟩:=h;rfl
 obtain⟨a,xs,rfl,ha,⟨tx,eY,lx,bb,NP,bx⟩,q⟩:=h;have iF:ke=60000000:=rfl;have ld:=wq xs;have td:=Am tx;have bd:=Be bx lx;have h0:aw xs≠0\/aw (cb xs)≠0:=.inl (iW tx eY);refine⟨_,(ah (ax (ar yU hr (aa (pv 0) (aa (ar jd hr (aa (pv 0) (aa (ar je hr (aa (pv 0) ag)) ag))) ag))))),?_⟩;walk_at "sf";refine⟨a,xs,rfl,ha,⟨by show xs.length<=1000;lia,bx.mono (by lia)⟩,fun p1 H1 s1 h1=>?_⟩;walk_at "sf";refine⟨a,p1,xs,_,rfl,s1 _ _ ha,h1,⟨tx,td,by lia,by lia,by lia,bb+5,by lia,bx.mono (by lia),bd⟩,fun p2 H2 s2 h2=>?_⟩;have eT:=s1.trans s2;have hgl:(dj xs (cb xs)).length<=xs.length:=by
  have:=(dm h0).df.len (iW tx eY);rw[bO (gU _ _),bO tx] at this;exact this
 walk_at "sf";refine⟨a,p2,xs,_,rfl,eT _ _ ha,h2,⟨tx,gU _ _,eY,AD h0,by lia,by lia,Pl tx eY,bb,61*(bb+5)+427,by lia,by lia,bx,Ih tx td (by lia) (bx.mono (by lia)) bd⟩,fun p3 H3 s3 h3=>?_⟩;exact q p3 H3 (eT.trans s3) h3
end
end cW
namespace cW
open PySem PyProof.Rows L2 SF
noncomputable def sg(a:Int):Int:=if a<0 then -1 else if 0<a then 1 else 0
noncomputable def nt:Sp:=fun vs H Q _=>∃a:Int,vs=[.int a]/\Q (.int (sg a)) H
noncomputable def mr:Sp:=fun vs H Q _=>∃(a:Addr)(xs:List Int)(t u:Int)(b p:Nat),vs=[.ref a,.int t,.int u]/\IL H a xs/\(xs.length<=100/\Ab b xs/\Bd p t/\Bd p u/\(b+(p+1)*101<=ke\/(xs.length<=13/\b+(p+1)*14<=ke)))/\Q (.int (hv t u xs)) H
noncomputable def Fe:Sp:=fun vs H Q _=>∃(a g:Addr)(xs:List Int)(t u:Int)(b p:Nat),vs=[.ref a,.ref g]/\IL H a xs/\H g=some (.tup [.int t,.int u])/\(xs.length<=100/\Ab b xs/\Bd p t/\Bd p u/\(b+(p+1)*101<=ke\/(xs.length<=13/\b+(p+1)*14<=ke)))/\Q (.int (sg (hv t u xs))) H
theorem yV{t u:Int}{xs:List Int}{j b p:Nat}(bt:Bd p t)(bu:Bd p u)(hb:Ab b xs):j<=xs.length->Bd (b+(p+1)*j+1) (DQ t u xs j).1/\Bd (p*j+1) (DQ t u xs j).2:=by
 induction j with
 |zero=>
  intro _;rw[DR];exact⟨by show(0:Int).natAbs<_;exact Nat.two_pow_pos _,Bd.mono (m:=1) (by show(1:Int).natAbs<2^1;decide) (by lia)⟩
 |succ j ih=>
  intro hj;obtain⟨h1,h2⟩:=ih (by lia);rw[vo t u xs j (by lia)];unfold jv;have e1:(p+1)*(j+1)=(p+1)*j+(p+1):=by rw[Nat.mul_add];lia
  have e2:p*(j+1)=p*j+p:=by rw[Nat.mul_add];lia
  have e3:(p+1)*j=p*j+j:=by rw[Nat.add_mul];lia
  refine⟨?_,(h2.mul bu).mono (by lia)⟩;have z1:=(h1.mul bt);have z2:=((hb.co (xs.length-1-j)).mul h2);exact((z1.mono (by lia:b+(p+1)*j+1+p<=b+(p+1)*j+1+p)).add (z2.mono (by lia))).mono (by lia)
section
variable {P:Program} {w:World} {K:PySem.W.Frag} {mg:Str->Option Value} {base:Heap}
theorem Ii(D:aH K mg "sign" yI ["number"]):aT P w K mg base 1 "sign" ["number"] nt:=by
 refine D.ok Ib (fun vs H Q E h=>?_) (fun f bM A outer s H vs Q E hr h=>?_)
 ·obtain⟨a,rfl,_⟩:=h;rfl
 obtain⟨a,rfl,q⟩:=h;refine⟨_,(ae (bB (ay gS (pv 0) af (aE _))
  (ah (ax (cU bR af)))
  aM)
  (ah (ax (dJ (ay fo (pv 0) af (aE _)) af af)))),?_⟩;walk_at "sf";unfold sg at q;refine dI (fun c=>?_) (fun c=>?_)
 ·walk_at "sf";rw[if_pos (by simpa using c)] at q;exact q
 ·rw[if_neg (by simpa using c)] at q;walk_at "sf";refine dI (fun c2=>?_) (fun c2=>?_)
  ·walk_at "sf";rw[if_pos (by simpa using c2)] at q;exact q
  ·walk_at "sf";rw[if_neg (by simpa using c2)] at q;exact q
theorem yW(T:Nm mg)(D:aH K mg "trimmed" m8 ["row"]):aT P w K mg base 1 "trimmed" ["row"] (C_ dN E7):=by
 refine D.ok kH (fun vs H Q E h=>?_) (fun f bM A outer s H vs Q E hr h=>?_)
 ·obtain⟨a,xs,rfl,_⟩:=h;rfl
 obtain⟨a,xs,rfl,ha,hl,q⟩:=h;have em:(xs.map V.int).length=xs.length:=List.length_map _;refine⟨_,(ae (aj (i:=1) kH.nd rfl (Or.inl rfl) (aI aV rfl T.gf boot_len (aa (pv 0) ag)))
  (ae (cN PassesOwn.never (PW.pt (kz (ay fo (pv 1) af (aE _)) (iN (ay f_ (aD bE (pv 0) (ao bq (pv 1) af) (fun _ _=>rfl)) af (aE _)))))
  (ah (aj (i:=1) kH.nd rfl (Or.inl rfl) (ao bq (pv 1) af))))
  (ah (ax (lD oq (pv 0) om (oo (pv 1))))))),?_⟩;walk_at "sf";refine⟨a,_,rfl,.inl (aW.of ha),?_⟩;walk_at "sf";rw[em];refine cC (fun m σ H'=>∃n:Nat,n=m/\σ=[some (.ref a),some (.int (n:Int))]/\H'=H/\n<=xs.length/\dN (xs.take n)=dN xs) ⟨_,xs.length,rfl,rfl,rfl,Nat.le_refl _,by rw[List.take_length]⟩ ?_;rintro m σ H' ⟨n,rfl,rfl,rfl,hn,e⟩;have fin:(n=0\/SF.co xs (n-1)≠0)->∀p,H' p=none->Q (.ref p) (upd H' p (.lst (ie (xs.map V.int) none (some (n:Int))))):=fun hz p hp=>by
  have e2:dN xs=xs.take n:=by rw[<-e];exact DO (Hb hn hz)
  exact q p _ (av.new hp _) (by show upd H' p _ p=_;rw[ai,E3,e2])
 walk_at "sf";refine dI (fun c=>?_) (fun c=>?_)
 ·have hp:0<n:=by simpa using c
  have ei:((n:Int)-1)=((n-1:Nat):Int):=by lia
  walk_at "sf";rw[ei];refine cV (aW.of ha) (Bb (by lia)) ?_;walk_at "sf";refine dI (fun c2=>?_) (fun c2=>?_)
  ·have hz:SF.co xs (n-1)=0:=by simpa using c2
   refine⟨_,fun bJ H' h=>h,?_⟩;walk_at "sf";rw[ei];refine⟨n-1,by lia,n-1,rfl,rfl,rfl,by lia,?_⟩;have:=x4 (xs:=xs) hz;rw[Nat.sub_add_cancel hp] at this;rw[<-this,e]
  ·have hz:SF.co xs (n-1)≠0:=by simpa using c2
   walk_at "sf";refine⟨_,rfl,?_⟩;exact⟨a,_,rfl,aW.of ha,fin (.inr hz)⟩
 ·have hp:n=0:=by simpa using c
  rw[if_neg (by decide)];walk_at "sf";refine⟨_,rfl,?_⟩;exact⟨a,_,rfl,aW.of ha,fin (.inl hp)⟩
theorem tX(T:Nm mg)(D:aH K mg "height_at" jE ["poly","top","under"]):aT P w K mg base 1 "height_at" ["poly","top","under"] mr:=by
 refine D.ok dY (fun vs H Q E h=>?_) (fun f bM A outer s H vs Q E hr h=>?_)
 ·obtain⟨a,xs,t,u,b,p,rfl,_⟩:=h;rfl
 obtain⟨a,xs,t,u,b,p,rfl,ha,⟨hx,bx,bt,bu,lr⟩,q⟩:=h;have iF:ke=60000000:=rfl;refine⟨_,(ae (aj (i:=3) dY.nd rfl (Or.inl rfl) af)
  (ae (aj (i:=4) dY.nd rfl (Or.inl rfl) af)
  (ae (f6 PassesOwn.never rfl (xX rfl T.jc (aa (pv 0) ag)) (aO (i:=5) dY.nd rfl (Or.inl rfl))
  (ae (aj (i:=3) dY.nd rfl (Or.inl rfl) (ao bH (ao aC (pv 3) (pv 1)) (ao aC (pv 5) (pv 4))))
  (ah (aj (i:=4) dY.nd rfl (Or.inl rfl) (ao aC (pv 4) (pv 2))))))
  (ah (ax (pv 3)))))),?_⟩;walk_at "sf";refine⟨a,_,rfl,aW.of ha,?_⟩;refine sQ (xs:=xs.map V.int) (fun i σ H'=>(∃r,σ=[some (.ref a),some (.int t),some (.int u),some (.int (DQ t u xs i).1),some (.int (DQ t u xs i).2),r])/\H'=H) ⟨⟨_,rfl⟩,rfl⟩ (fun i σ H' _ z=>by rw[z.2];exact aW.of ha) ?_ ?_
 ·rintro i x σ H' hi Ci ⟨⟨r,rfl⟩,rfl⟩;rw[List.length_map] at hi Ci;obtain⟨NS,rfl⟩:=nq Ci;obtain⟨b1,b2⟩:=yV bt bu bx (j:=i) (by lia);have k1:b+((p+1)*i+(p+1))<=ke:=by
   rcases lr with z|⟨z1,z2⟩
   ·have:=Nat.mul_le_mul_left (p+1) (show i<=100 by lia);lia
   ·have:=Nat.mul_le_mul_left (p+1) (show i<=13 by lia);lia
  have k2:p*i<=(p+1)*i:=Nat.mul_le_mul_right _ (by lia);walk_at "sf";refine bN (aP b1 bt (by lia)) ?_;walk_at "sf";refine bN (aP (bx.co _) b2 (by lia)) ?_;walk_at "sf";refine bN (aP b2 bu (by lia)) ?_;walk_at "sf";exact⟨⟨_,by rw[vo t u xs i hi];rfl⟩,rfl⟩
 ·rintro σ H' ⟨⟨r,rfl⟩,rfl⟩;rw[List.length_map];walk_at "sf";rw[o7];exact q
theorem yX(gO:aT P w K mg base 1 "sign" ["number"] nt)(de:aT P w K mg base 1 "height_at" ["poly","top","under"] mr)(D:aH K mg "sign_at" ng ["poly","given"]):aT P w K mg base 2 "sign_at" ["poly","given"] Fe:=by
 refine D.ok yK (fun vs H Q E h=>?_) (fun f bM A outer s H vs Q E hr h=>?_)
 ·obtain⟨a,g,xs,t,u,b,p,rfl,_⟩:=h;rfl
 obtain⟨a,g,xs,t,u,b,p,rfl,ha,hg,BN,q⟩:=h;refine⟨_,(ah (ax (ar gO hr (aa (ar de hr (aa (pv 0) (aa (aD aA (pv 1) af (fun _ _=>rfl)) (aa (aD aA (pv 1) af (fun _ _=>rfl)) ag)))) ag)))),?_⟩;walk_at "sf";refine aG (bL.of hg) rfl ?_;walk_at "sf";refine aG (bL.of hg) rfl ?_;walk_at "sf";refine⟨a,xs,t,u,b,p,rfl,ha,BN,?_⟩;walk_at "sf";exact⟨_,rfl,q⟩
end
end cW
namespace cW
open PySem PyProof.Rows L2 SF SF.Po
theorem Bd.pow{b:Nat}{x:Int}(h:Bd b x):∀k:Nat,Bd (b*k+1) (x^k)
 |0=>Bd.mono (m:=1) (by rw[Int.pow_zero];show(1:Int).natAbs<2^1;decide) (by lia)
 |k+1=>by
  rw[Int.pow_succ];have e:b*(k+1)=b*k+b:=by rw[Nat.mul_add];lia
  exact((Bd.pow h k).mul h).mono (by lia)
noncomputable def Kg:Sp:=fun vs H Q _=>∃(x:Int)(k b:Nat),vs=[.int x,.int (k:Int)]/\(Bd b x/\k<=100/\b*k<=ke/\b<=ke)/\Q (.int (x^k)) H
noncomputable def Kh:Sp:=fun vs H Q _=>∃(a d:Addr)(xs ys:List Int)(b c:Nat),vs=[.ref a,.ref d]/\IL H a xs/\IL H d ys/\(ys≠[]/\Tr ys/\ys.length<=xs.length/\xs.length<=60/\Ab b xs/\Ab c ys/\b+(xs.length-ys.length+1)*(c+1)<=ke)/\
 ∀(p:Addr)(rs:List Int)(H':Hp),av H H'->IL H' p rs->WV xs ys rs->Ab (b+(xs.length-ys.length+1)*(c+1)) rs->Q (.ref p) H'
theorem smD{d:Nat}(h:d<=60):Builtin.Range.small (d:Int) (-1) (-1)=true:=by
 revert d;decide
theorem UZ{d:Nat}:Builtin.Range.rangeSize (d:Int) (-1) (-1)=((d+1:Nat):Int):=by
 unfold Builtin.Range.rangeSize;rw[if_neg (by decide),if_pos (by lia)];have:((d:Int)- -1-1)=(d:Int):=by lia
 rw[this];simp
section
variable {P:Program} {w:World} {K:PySem.W.Frag} {mg:Str->Option Value} {base:Heap}
theorem Ff(T:Nm mg)(D:aH K mg "power" tO ["number","many"]):aT P w K mg base 1 "power" ["number","many"] Kg:=by
 refine D.ok gK (fun vs H Q E h=>?_) (fun f bM A outer s H vs Q E hr h=>?_)
 ·obtain⟨x,k,b,rfl,_⟩:=h;rfl
 obtain⟨x,k,b,rfl,⟨bx,hk,hbk,hb⟩,q⟩:=h;have iF:ke=60000000:=rfl;refine⟨_,(ae (aj (i:=2) gK.nd rfl (Or.inl rfl) af)
  (ae (aj (i:=3) gK.nd rfl (Or.inl rfl) (pv 0))
  (ae (aj (i:=4) gK.nd rfl (Or.inl rfl) (pv 1))
  (ae (cN PassesOwn.never (ay fo (pv 4) af (aE _))
  (ae (bB (ay f_ (ao cH (pv 4) af) af (aE _))
  (ah (aj (i:=2) gK.nd rfl (Or.inl rfl) (ao aC (pv 2) (pv 3))))
  aM)
  (ae (aj (i:=4) gK.nd rfl (Or.inl rfl) (ao cq (pv 4) af))
  (ah (bB (ay fo (pv 4) af (aE _))
  (ah (aj (i:=3) gK.nd rfl (Or.inl rfl) (ao aC (pv 3) (pv 3))))
  aM)))))
  (ah (ax (pv 2))))))),?_⟩;walk_at "sf";refine cC (fun m σ H'=>∃(j s:Nat),σ=[some (.int x),some (.int (k:Int)),some (.int (x^j)),some (.int (x^s)),some (.int (m:Int))]/\H'=H/\j+s*m=k)
  ⟨k,0,1,by rw[Int.pow_zero,Int.pow_succ,Int.pow_zero,Int.one_mul];rfl,rfl,by lia⟩ ?_
 rintro m σ H' ⟨j,s,rfl,rfl,e⟩;walk_at "sf";refine dI (fun c=>?_) (fun c=>?_)
 ·have hm:0<m:=by
   have:(0:Int)<(m:Int):=by simpa using c
   lia
  have hs:s<=k:=by
   have:=Nat.mul_le_mul_left s hm;lia
  have h1:b*j<=b*k:=Nat.mul_le_mul_left _ (by lia);have h2:b*s<=b*k:=Nat.mul_le_mul_left _ hs;have ef:(m:Int).fmod 2=((m%2:Nat):Int):=by rw[fT (by decide)];rfl
  have ed:(m:Int).fdiv 2=((m/2:Nat):Int):=by rw[Int.fdiv_eq_ediv_of_nonneg _ (by decide)];rfl
  have hmd:=Nat.div_add_mod m 2;have Xf:s*m=s*(2*(m/2))+s*(m%2):=by rw[<-Nat.mul_add,hmd]
  have aaa:s*(2*(m/2))=(s+s)*(m/2):=by rw[<-Nat.mul_assoc,Nat.mul_two]
  refine⟨_,fun bJ H' h=>h,?_⟩;walk_at "sf";refine bN (by decide) ?_;rw[ef];walk_at "sf";refine dI (fun c1=>?_) (fun c1=>?_)
  case' refine_1=>
   have e1:m%2=1:=by
    have:((m%2:Nat):Int)=1:=by simpa using c1
    lia
   walk_at "sf";refine bN (aP (Bd.pow bx j) (Bd.pow bx s) (by lia)) ?_;rw[<-Int.pow_add];have e2:(j+s)+(s+s)*(m/2)=k:=by
    rw[e1,Nat.mul_one] at Xf;lia
   generalize hj':j+s=j' at e2 ⊢
  case' refine_2=>
   have e1:m%2=0:=by
    have:¬((m%2:Nat):Int)=1:=by simpa using c1
    lia
   have e2:j+(s+s)*(m/2)=k:=by
    rw[e1,Nat.mul_zero] at Xf;lia
   generalize hj':j=j' at e2 ⊢
  all_goals
   walk_at "sf";refine bN ⟨by decide,by decide⟩ ?_;rw[ed];have eM:m/2<m:=Nat.div_lt_self hm (by decide);walk_at "sf";generalize m/2=d at e2 eM ⊢;refine dI (fun c2=>?_) (fun c2=>?_)
   ·have hd:0<d:=by
     have:(0:Int)<(d:Int):=by simpa using c2
     lia
    have h3:(s+s)<=k:=by
     have:=Nat.mul_le_mul_left (s+s) hd;lia
    have h4:b*(s+s)<=b*k:=Nat.mul_le_mul_left _ h3;rw[Nat.mul_add] at h4;walk_at "sf";refine bN (aP (Bd.pow bx s) (Bd.pow bx s) (by lia)) ?_;rw[<-Int.pow_add];walk_at "sf";exact⟨d,eM,j',s+s,rfl,rfl,e2⟩
   ·have hd:d=0:=by
     have:¬(0:Int)<(d:Int):=by simpa using c2
     lia
    walk_at "sf";exact⟨d,eM,j',s,rfl,rfl,by rw[hd,Nat.mul_zero] at e2 ⊢;exact e2⟩
 ·have hm:m=0:=by
   have:¬(0:Int)<(m:Int):=by simpa using c
   lia
  subst hm;have ej:j=k:=by lia
  subst ej;walk_at "sf";exact q
theorem tY(T:Nm mg)(gO:aT P w K mg base 1 "sign" ["number"] nt)(Cy:aT P w K mg base 1 "trimmed" ["row"] (C_ dN E7))(D:aH K mg "remainder" jF ["one","other"]):
 aT P w K mg base 2 "remainder" ["one","other"] Kh:=by
 refine D.ok cz (fun vs H Q E h=>?_) (fun f bM A outer s H vs Q E hr h=>?_)
 ·obtain⟨a,d,xs,ys,b,c,rfl,_⟩:=h;rfl
 obtain⟨a,d,xs,ys,b,c,rfl,ha,hd,⟨iK,ty,hl,hx,bx,MB,lr⟩,q⟩:=h;have iF:ke=60000000:=rfl;have ex:(xs.map V.int).length=xs.length:=List.length_map _;have ey:(ys.map V.int).length=ys.length:=List.length_map _;have hyp:=List.length_pos_iff.mpr iK;have Kf:=ty.last iK;refine⟨_,(ae (aj (i:=2) cz.nd rfl (Or.inr rfl) (aI dw rfl T.ji boot_abs (aa (aD bE (pv 1) (cU bR af) (fun _ _=>rfl)) ag)))
  (ae (aj (i:=3) cz.nd rfl (Or.inl rfl) (ar gO hr (aa (aD bE (pv 1) (cU bR af) (fun _ _=>rfl)) ag)))
  (ae (aj (i:=4) cz.nd rfl (Or.inl rfl) (dW lE rfl T.yO boot_list (aa (pv 0) ag)))
  (ae (f6 PassesOwn.never rfl (BR rfl T.Ba (aa (ao bq (aI aV rfl T.gf boot_len (aa (pv 0) ag)) (aI aV rfl T.gf boot_len (aa (pv 1) ag))) (aa (cU bR af) (aa (cU bR af) ag)))) (aO (i:=5) cz.nd rfl (Or.inl rfl))
  (ae (aj (i:=6) cz.nd rfl (Or.inl rfl) (ao aC (xT PySem.F.plainAttrs_list PySem.F.slot_list_pop PySem.F.type_list_pop xV (pv 4)) (pv 3)))
  (ae (G7 (i:=4) cz.nd rfl rfl rfl (kC (own:=["number"]) (fr:=[2]) (fs:=["size"]) (by with_unfolding_all rfl) rfl (by decide +kernel) (by decide +kernel) (by exact⟨rfl,trivial⟩) (by with_unfolding_all rfl) (by exact⟨⟨rfl,rfl,rfl,Or.inl rfl⟩,trivial⟩)) (eZ (pv 4)) (fun _ _ _ _ _=>(aO (i:=0) (show List.Nodup (["number","size"]:List Str) by decide +kernel) rfl (Or.inl rfl) (Or.inr rfl))) (fun _ _ _ _ _=>(ao aC (pv 0) (pv 1))) rfl)
  (ah (f6 PassesOwn.never rfl (sP rfl T.jP (aa (lD oq (pv 1) om (oo (cU bR af))) ag)) (jq rfl (bc (aO (i:=7) cz.nd rfl (Or.inl rfl)) (bc (aO (i:=8) cz.nd rfl (Or.inl rfl)) gR)))
  (ah (kB (ao bq (aD bE (pv 4) (ao bH (pv 5) (pv 7)) (fun _ _=>rfl)) (ao aC (pv 6) (pv 8))) (Dj (pv 4) (ao bH (pv 5) (pv 7)) set_list))))))))
  (ah (ax (ar Cy hr (aa (pv 4) ag)))))))),?_⟩;walk_at "sf";refine cV (aW.of hd) (gv iK) ?_;walk_at "sf";refine⟨_,rfl,?_⟩;walk_at "sf";refine cV (aW.of hd) (gv iK) ?_;walk_at "sf";refine⟨_,rfl,?_⟩;walk_at "sf";have Gx:(if co ys (ys.length-1)<0 then -co ys (ys.length-1) else co ys (ys.length-1))=ab (co ys (ys.length-1)):=by unfold ab;split<;>lia
 rw[Gx];have Ma:sg (co ys (ys.length-1))*co ys (ys.length-1)=ab (co ys (ys.length-1)):=PH _;have R5:Bd 1 (sg (co ys (ys.length-1))):=by unfold sg Bd;split<;>(try split)<;>decide
 have bl:Bd c (ab (co ys (ys.length-1))):=by
  have:=MB.co (ys.length-1);unfold Bd at*;unfold ab;lia
 generalize sg (co ys (ys.length-1))=σs at Ma R5 ⊢;generalize hle:ab (co ys (ys.length-1))=l at Ma bl ⊢;refine⟨a,_,rfl,.inl (aW.of ha),fun p1 ow=>?_⟩;have s1:=av.new ow (.lst (xs.map V.int));walk_at "sf";refine⟨a,_,rfl,.inl (aW.of (s1 _ _ ha)),?_⟩;walk_at "sf";refine⟨d,_,rfl,.inl (aW.of (s1 _ _ hd)),?_⟩;walk_at "sf";rw[ex,ey];have ek:(xs.length:Int)-(ys.length:Int)=((xs.length-ys.length:Nat):Int):=by lia
 rw[ek];generalize JQ:xs.length-ys.length=δ at lr ⊢;refine⟨_,_,_,δ+1,rfl,by decide,by decide,smD (by lia),UZ,?_⟩;refine xW (fun i σ H'=>∃(p:Addr)(rs:List Int)(q:Po)(z5 z6 z7 z8:Option V),σ=[some (.ref a),some (.ref d),some (.int l),some (.int σs),some (.ref p),z5,z6,z7,z8]/\av H H'/\IL H' p rs/\H p=none/\
  rs.length+i=xs.length/\Po.K (l^i)*aw xs=q*aw ys+aw rs/\len q<=δ+1/\Ab (b+i*(c+1)) rs)
  ⟨p1,xs,0,_,_,_,_,rfl,s1,ai,ow,by lia,by rw[Int.pow_zero,Po.cu];grind,by rw[fU];lia,bx.mono (by lia)⟩ ?_ ?_
 ·rintro i σ H2 hi ⟨p,rs,qq,z5,z6,z7,z8,rfl,s2,h2,tZ,hlen,eq,hq,Ig⟩;have Xg:ys.length<=rs.length:=by lia
  have Fc:rs≠[]:=List.length_pos_iff.mp (by lia);have hk:rs.length-ys.length=δ-i:=by lia
  have hib:i*(c+1)<=(δ+1)*(c+1):=Nat.mul_le_mul_right _ (by lia);have aab:(i+1)*(c+1)<=(δ+1)*(c+1):=Nat.mul_le_mul_right _ (by lia);have aac:(i+1)*(c+1)=i*(c+1)+(c+1):=by rw[Nat.add_mul];lia
  walk_at "sf";refine⟨_,rfl,.inl ⟨rfl,_,aW.of h2⟩,p,_,_,rfl,rfl,h2,wk Fc,?_⟩;walk_at "sf";refine bN (aP (Ig.co _) R5 (by lia)) ?_;walk_at "sf";have em:(rs.map V.int).dropLast=rs.dropLast.map V.int:=(List.map_dropLast ..).symm;have h3:IL (upd H2 p (.lst (rs.map V.int).dropLast)) p rs.dropLast:=by show upd _ p _ p=_;rw[ai,em]
  have s3:av H (upd H2 p (.lst (rs.map V.int).dropLast)):=fun c o z=>by
   rw[aq (aL z tZ)];exact s2 _ _ z
  generalize upd H2 p (.lst (rs.map V.int).dropLast)=H3 at h3 s3 ⊢;have ld:rs.dropLast.length=rs.length-1:=List.length_dropLast;have cd:∀j,j<rs.length-1->co rs.dropLast j=co rs j:=fun j hj=>by rw[List.dropLast_eq_take,iT,if_pos hj]
  refine j6 (H1:=H3) (uO K p) (fun R hR=>?_) (iU (xs:=rs.dropLast) (aW.of h3) (fun i=>co rs.dropLast i*l) (by lia) ?_ ?_)
  ·walk_at "sf";exact⟨p,rfl,⟨_,aW.of h3⟩,hR⟩
  ·intro j r H4 hj hr Qg Z hZ;obtain⟨x0,rfl⟩:=x5 hr;walk_at "sf";have bj:Bd (b+i*(c+1)) (co rs.dropLast j):=by rw[cd j (by lia)];exact Ig.co j
   refine bN (aP bj bl (by lia)) ?_;exact hZ _ _ (av.refl _) ⟨[_],rfl,rfl⟩
  ·intro D2 H4 R6 Qg h4;have s4:=s3.trans Qg;have U0:H D2=none:=s3.free R6;have e4:gx (fun i=>co rs.dropLast i*l) rs.dropLast.length=gx (fun j=>co rs j*l) (rs.length-1):=by
    rw[ld];exact gy fun j hj=>by rw[cd j hj]
   rw[e4] at h4;walk_at "sf";refine⟨_,rfl,?_⟩;walk_at "sf";refine⟨d,_,rfl,aW.of (s4 _ _ hd),fun p5 MD=>?_⟩;have e5:ie (ys.map V.int) none (some (-1))=ys.dropLast.map V.int:=wc ys;have Qn:=av.new MD (.lst (ie (ys.map V.int) none (some (-1))));have h5:IL (upd H4 p5 (.lst (ie (ys.map V.int) none (some (-1))))) p5 ys.dropLast:=by show upd _ p5 _ p5=_;rw[ai,e5]
   have Xh:=Qn _ _ h4;have s5:=s4.trans Qn;have hD5:p5≠D2:=fun z=>by rw[z,h4] at MD;cases MD
   generalize upd H4 p5 (.lst (ie (ys.map V.int) none (some (-1))))=H5 at h5 Xh s5 ⊢;have Xi:ys.dropLast.length=ys.length-1:=List.length_dropLast;have Xj:∀j,j<ys.length-1->co ys.dropLast j=co ys j:=fun j hj=>by rw[List.dropLast_eq_take,iT,if_pos hj]
   have eyd:(ys.dropLast.map V.int).length=ys.length-1:=by rw[List.length_map,Xi]
   generalize TK:rs.length-ys.length=kk at hk;have eδ:(δ:Int)+(i:Int)*-1=(kk:Int):=by lia
   rw[eδ];generalize ht:co rs (rs.length-1)=t;have bt:Bd (b+i*(c+1)) t:=by rw[<-ht];exact Ig.co _
   walk_at "sf";refine⟨p5,rfl,⟨_,aW.of h5⟩,?_⟩;refine ve (xs:=ys.dropLast.map V.int) (fun e σ H'=>(∃r1 r2,σ=[some (.ref a),some (.ref d),some (.int l),some (.int σs),some (.ref D2),some (.int (kk:Int)),some (.int (t*σs)),r1,r2])/\av H H'/\IL H' p5 ys.dropLast/\
    IL H' D2 (gx (fun j=>co rs j*l-if kk<=j/\j<kk+e then t*σs*co ys (j-kk) else 0) (rs.length-1)))
    ⟨⟨_,_,rfl⟩,s5,h5,?_⟩ (fun e σ H' _ z=>aW.of z.2.2.1) ?_ ?_
   ·show H5 D2=_;rw[Xh];exact congrArg (fun l:List Int=>some (HO.lst (l.map V.int))) (gy fun j _=>by rw[if_neg (by lia)];lia)
   ·rintro e x pp σ H6 hee x8 ⟨⟨r1,r2,rfl⟩,s6,h6,h7⟩;obtain⟨U1,rfl⟩:=nq hee;rw[Xi] at U1;have U2:=av.new x8 (.tup [.int (e:Int),.int (co ys.dropLast e)]);have h8:=U2 _ _ h7;have ei:(kk:Int)+(e:Int)=((kk+e:Nat):Int):=by lia
    refine jt (bL.of ai) rfl ?_;walk_at "sf";rw[ei];refine cV (aW.of h8) (Bb (by rw[aQ];lia)) ?_;walk_at "sf";have be:Bd c (co ys.dropLast e):=by rw[Xj e U1];exact MB.co e
    refine bN (aP (bt.mul R5) be (by lia)) ?_;walk_at "sf";rw[ei];refine⟨D2,_,_,kk+e,rfl,rfl,h8,E5 (by rw[List.length_map,aQ];lia),?_⟩;refine⟨⟨_,_,rfl⟩,fun c o z=>?_,?_,?_⟩
    ·rw[aq (aL z U0)];exact U2 _ _ (s6 _ _ z)
    ·show upd _ D2 _ p5=_;rw[aq hD5];exact U2 _ _ h6
    ·show upd _ D2 _ D2=_;rw[ai,mO,if_pos (by lia),Xj e U1,<-List.map_set,Al (by lia)];refine congrArg (fun l=>some (HO.lst (l.map V.int))) (gy fun j hj=>?_);show(if j=kk+e then _ else _)=_;by_cases e2:j=kk+e
     ·subst e2;have e3:kk+e-kk=e:=by lia
      rw[if_pos rfl,if_neg (by lia),if_pos ⟨by lia,by lia⟩,e3];lia
     ·rw[if_neg e2];by_cases e4:kk<=j/\j<kk+e
      ·rw[if_pos e4,if_pos ⟨e4.1,by lia⟩]
      ·rw[if_neg e4,if_neg (by lia)]
   ·rintro σ H6 ⟨⟨r1,r2,rfl⟩,s6,h6,h7⟩;rw[eyd] at h7;have es:=El (rs:=rs) iK Xg Ma;rw[TK,ht] at es;have JH:Ab (b+(i+1)*(c+1)) (gx (fun j=>co rs j*l-if kk<=j/\j<kk+(ys.length-1) then t*σs*co ys (j-kk) else 0) (rs.length-1)):=fun x hx=>by
     obtain⟨j,hj,rfl⟩:=List.mem_map.mp hx;have g1:Bd (b+i*(c+1)+c) (co rs j*l):=(Ig.co j).mul bl;have g2:Bd (b+i*(c+1)+c) (if kk<=j/\j<kk+(ys.length-1) then t*σs*co ys (j-kk) else 0):=by
      split
      ·have e5:(t*σs*co ys (j-kk)).natAbs<=(t*co ys (j-kk)).natAbs:=by
        rw[Int.natAbs_mul,Int.natAbs_mul,Int.natAbs_mul];have:σs.natAbs<=1:=by unfold Bd at R5;lia
        have h9:t.natAbs*σs.natAbs<=t.natAbs*1:=Nat.mul_le_mul_left _ this;rw[Nat.mul_one] at h9;exact Nat.mul_le_mul_right _ h9
       exact(bt.mul (MB.co (j-kk))).of_le e5
      ·show(0:Int).natAbs<_;exact Nat.two_pow_pos _
     have e6:b+(i+1)*(c+1)=b+i*(c+1)+c+1:=by lia
     rw[e6];exact g1.sub g2
    refine⟨D2,_,Po.K l*qq+Po.K (t*σs)*X kk,_,_,_,_,rfl,s6,h7,U0,by rw[aQ];lia,?_,?_,JH⟩
    ·rw[es,Int.pow_succ,Po.bQ];have e7:Po.K (l^i)*Po.K l*aw xs=Po.K l*(Po.K (l^i)*aw xs):=by grind
     rw[e7,eq];grind
    ·refine Nat.le_trans (sZ _ _) (Nat.max_le.mpr ⟨?_,Nat.le_trans (Mb _ _) (by lia)⟩);refine Nat.le_trans (cJ fun j hj=>?_) hq;rw[a_,eF hj];grind
 ·rintro σ H2 ⟨p,rs,qq,z5,z6,z7,z8,rfl,s2,h2,tZ,hlen,eq,hq,Ig⟩;walk_at "sf";refine⟨p,_,rfl,h2,by show rs.length<=1000;lia,fun p3 H3 s3 h3=>?_⟩;refine q p3 _ H3 (s2.trans s3) h3 ⟨iq _,HH (by lia),qq,?_,by rw[JQ];exact hq⟩ ?_
  ·rw[JQ,hle,DW];exact eq
  ·intro x hx;obtain⟨j,e⟩:=mU hx;rw[<-e,gD,JQ];exact Ig.co j
end
end cW
namespace cW
open PySem PyProof.Rows L2 SF SF.Po
noncomputable def sj(H:Hp):List Addr->List (List Int)->Prop
 |[],[]=>True
 |a::as,p::ps=>IL H a p/\sj H as ps
 |_,_=>False
theorem sj.len{H:Hp}:∀{as:List Addr}{ps:List (List Int)},sj H as ps->as.length=ps.length
 |[],[],_=>rfl
 |_::_,_::_,h=>by rw[List.length_cons,List.length_cons,h.2.len]
theorem sj.map{H H':Hp}(f:∀a(p:List Int),IL H a p->IL H' a p):∀{as:List Addr}{ps:List (List Int)},sj H as ps->sj H' as ps
 |[],[],_=>trivial
 |_::_,_::_,h=>⟨f _ _ h.1,h.2.map f⟩
theorem sj.snoc{H:Hp}{a:Addr}{p:List Int}(ha:IL H a p):∀{as:List Addr}{ps:List (List Int)},sj H as ps->sj H (as++[a]) (ps++[p])
 |[],[],_=>⟨ha,trivial⟩
 |_::_,_::_,h=>⟨h.1,h.2.snoc ha⟩
theorem sj.get{H:Hp}:∀{as:List Addr}{ps:List (List Int)}(i:Nat){a:Addr},sj H as ps->as[i]?=some a->∃p,ps[i]?=some p/\IL H a p
 |[],[],i,a,_,e=>by simp at e
 |b::as,p::ps,0,a,h,e=>by
  have:b=a:=by simpa using e
  subst this;exact⟨p,rfl,h.1⟩
 |b::as,p::ps,i+1,a,h,e=>sj.get i h.2 (by simpa using e)
theorem nu{as:List Addr}{u v:Addr}:nD ((as++[u,v]).map V.ref) (-1)=some (.ref v):=by
 unfold nD;have e:xQ ((as++[u,v]).map V.ref).length (-1)=some (as.length+1):=by
  unfold xQ;rw[List.length_map,List.length_append,if_neg (by decide),if_pos (by simp;lia)];congr 1;simp;lia
 rw[e];show((as++[u,v]).map V.ref)[as.length+1]?=_;rw[List.getElem?_map,List.getElem?_append_right (by lia)];have e2:as.length+1-as.length=1:=by lia
 rw[e2];rfl
theorem yY{as:List Addr}{u v:Addr}:nD ((as++[u,v]).map V.ref) (-2)=some (.ref u):=by
 unfold nD;have e:xQ ((as++[u,v]).map V.ref).length (-2)=some as.length:=by
  unfold xQ;rw[List.length_map,List.length_append,if_neg (by decide),if_pos (by simp;lia)];congr 1;simp;lia
 rw[e];show((as++[u,v]).map V.ref)[as.length]?=_;rw[List.getElem?_map,List.getElem?_append_right (by lia)];have e2:as.length-as.length=0:=by lia
 rw[e2];rfl
theorem Ij{H:Hp}{c a:Addr}{as:List Addr}{p:List Int}(hc:H c=some (.lst (as.map V.ref)))(hn:as≠[])(ha:IL H a p):a≠c:=fun z=>by
 subst z;have:some (HO.lst (as.map V.ref))=some (HO.lst (p.map V.int)):=hc.symm.trans ha;injection this with e;injection e with e;cases as with
 |nil=>exact hn rfl
 |cons x r=>
  cases p with
  |nil=>simp at e
  |cons y t=>simp at e
noncomputable abbrev BM:Nat:=56332746
structure Gy(xs:List Int)(ps:List (List Int)):Prop where
 shape:∃rest,ps=xs::cb xs::rest
 L_:2<=xs.length->∀x:Re,Cb x (ps.map aw)
 one:xs.length=1->ps=[xs,[]]
 Gz:∀p∈ps,p.length<=13/\Ab BM p
 cnt:ps.length<=60
noncomputable def wu(xs:List Int):Prop:=Tr xs/\xs≠[]/\xs.length<=13/\Ab 100 xs/\Gu (aw xs) (aw xs)
noncomputable def Bf:Sp:=fun vs H Q _=>∃(a:Addr)(xs:List Int),vs=[.ref a]/\IL H a xs/\wu xs/\∀(c:Addr)(as:List Addr)(ps:List (List Int))(H':Hp),av H H'->H' c=some (.lst (as.map V.ref))->sj H' as ps->Gy xs ps->Q (.ref c) H'
theorem U3{δ:Nat}(h:1<=δ):δ+2<=3^δ:=by
 induction δ with
 |zero=>lia
 |succ δ ih=>
  by_cases h0:δ=0
  ·subst h0;decide
  ·have:=ih (by lia);rw[Nat.pow_succ];lia
theorem Ki{k:Nat}(h:k<=12):3^k*106<=BM:=by
 have:3^k<=3^12:=Nat.pow_le_pow_right (by decide) h;have e:3^12*106=BM:=by decide
 lia
theorem Fg{k δ:Nat}(h:1<=δ):3^k*106-2+(δ+1)*(3^k*106-2+1)<=3^(k+δ)*106-2/\δ*(3^k*106)<=3^(k+δ)*106/\106<=3^k*106:=by
 have h1:=U3 h;have h2:0<3^k:=Nat.pow_pos (by decide);have h3:(δ+2)*(3^k*106)<=3^δ*(3^k*106):=Nat.mul_le_mul_right _ h1;have h4:3^(k+δ)*106=3^δ*(3^k*106):=by rw[Nat.pow_add];grind
 have h5:(δ+2)*(3^k*106)=δ*(3^k*106)+2*(3^k*106):=by rw[Nat.add_mul]
 have h6:(δ+1)*(3^k*106-2+1)<=(δ+1)*(3^k*106)-(δ+1):=by
  have:3^k*106-2+1=3^k*106-1:=by lia
  rw[this,Nat.mul_sub,Nat.mul_one];exact Nat.le_refl _
 have h7:(δ+1)*(3^k*106)=δ*(3^k*106)+3^k*106:=by rw[Nat.add_mul];lia
 refine⟨?_,?_,?_⟩<;>lia
theorem Ik{σ:L2.St}{H:Hp}{Q:VK}{own:List Str}{fr:List Nat}{wi:TI}{g:TG}{te:TE}(Pj:It->Hp->Prop)(h:∀R:It->Hp->Prop,(∀J H1,Pj J H1->R J H1)->wi σ H R)(h2:∀J H1,Pj J H1->mR J own fr σ g te H1 Q):Ag own fr wi g te σ H Q:=h _ h2
section
variable {P:Program} {w:World} {K:PySem.W.Frag} {mg:Str->Option Value} {base:Heap}
theorem wx(T:Nm mg)(hT:P.given.tree=none)(je:aT P w K mg base 33 "derivative" ["poly"] (C_ cb (fun xs=>E7 xs/\Ab ke xs)))(t_:aT P w K mg base 33 "power" ["number","many"] Kg)(wy:aT P w K mg base 33 "remainder" ["one","other"] Kh)(D:aH K mg "chain_of" kK ["free"]):aT P w K mg base 34 "chain_of" ["free"] Bf:=by
 refine D.ok cA (fun vs H Q E h=>?_) (fun f bM A outer s H vs Q E hr h=>?_)
 ·obtain⟨a,xs,rfl,_⟩:=h;rfl
 obtain⟨a,xs,rfl,ha,⟨tx,eY,lx,bx,Xk⟩,q⟩:=h;have iF:ke=60000000:=rfl;have hBM:BM=56332746:=rfl;have ld:=wq xs;have bd:=Be bx (by lia);have td:=Am tx;refine⟨_,(ae (aj (i:=1) cA.nd rfl (Or.inl rfl) (cQ (aa (pv 0) (aa (ar je hr (aa (pv 0) ag)) ag))))
  (ae (aj (i:=2) cA.nd rfl (Or.inl rfl) af)
  (ae (aj (i:=3) cA.nd rfl (Or.inl rfl) af)
  (ae (cN PassesOwn.never (ay fo (aI aV rfl T.gf boot_len (aa (aD bE (pv 1) (cU bR af) (fun _ _=>rfl)) ag)) af (aE _))
  (ae (aj (i:=4) cA.nd rfl (Or.inl rfl) (aD bE (pv 1) (cU bR af) (fun _ _=>rfl)))
  (ae (aj (i:=5) cA.nd rfl (Or.inl rfl) (aD bE (pv 1) (cU bR af) (fun _ _=>rfl)))
  (ae (aj (i:=6) cA.nd rfl (Or.inl rfl) (ao bq (aI aV rfl T.gf boot_len (aa (pv 4) ag)) (aI aV rfl T.gf boot_len (aa (pv 5) ag))))
  (ae (aj (i:=7) cA.nd rfl (Or.inr rfl) (ao aC (pv 2) (ar t_ hr (aa (pv 3) (aa (pv 6) ag)))))
  (ae (jZ (nF PySem.F.plainAttrs_list PySem.F.slot_list_append PySem.F.type_list_append fv (pv 1) (aa (j4 rfl rfl (kC (own:=["number"]) (fr:=[7]) (fs:=["shared"]) (by with_unfolding_all rfl) rfl (by decide +kernel) (by decide +kernel) (by exact⟨rfl,trivial⟩) (by with_unfolding_all rfl) (by exact⟨⟨rfl,rfl,rfl,Or.inl rfl⟩,trivial⟩)) (eZ (ar wy hr (aa (pv 4) (aa (pv 5) ag)))) (fun _ _ _ _ _=>(aO (i:=0) (show List.Nodup (["number","shared"]:List Str) by decide +kernel) rfl (Or.inl rfl) (Or.inr rfl))) (fun _ _ _ _ _=>(ao (dO ⟨hT,⟨_,_,rfl,rfl,rfl,rfl,rfl⟩,hr.py⟩) (cU bR (pv 0)) (pv 1)))) ag)))
  (ae (aj (i:=2) cA.nd rfl (Or.inl rfl) (aI dw rfl T.ji boot_abs (aa (aD bE (pv 5) (cU bR af) (fun _ _=>rfl)) ag)))
  (ah (aj (i:=3) cA.nd rfl (Or.inl rfl) (ao (dO ⟨hT,⟨_,_,rfl,rfl,rfl,rfl,rfl⟩,hr.py⟩) (ar t_ hr (aa (pv 2) (aa (pv 6) ag))) (ar t_ hr (aa (pv 3) (aa (ao bq (pv 6) af) ag)))))))))))))
  (ah (ax (pv 1))))))),?_⟩;walk_at "sf";refine⟨a,xs,rfl,ha,⟨by show xs.length<=1000;lia,bx.mono (by lia)⟩,fun p1 H1 s1 h1=>?_⟩;walk_at "sf";intro pc U4;have U5:H pc=none:=s1.free U4;have s2:=s1.trans (av.new U4 (.lst [.ref a,.ref p1]));have AK:upd H1 pc (.lst [.ref a,.ref p1]) pc=some (.lst (([]++[a,p1]).map V.ref)):=ai;have i2:sj (upd H1 pc (.lst [.ref a,.ref p1])) ([]++[a,p1]) ([]++[xs,cb xs]):=⟨s2 _ _ ha,(av.new U4 _) _ _ h1,trivial⟩;generalize upd H1 pc (.lst [.ref a,.ref p1])=H2 at s2 AK i2 ⊢;walk_at "sf";have Xl:Ab 104 (cb xs):=fun x hx=>by
  obtain⟨i,hi,e⟩:=List.getElem_of_mem hx;have Ua:i<xs.length-1:=by rw[ld] at hi;exact hi
  rw[<-e,<-bY,lJ];show Bd 104 (((i+1:Nat):Int)*co xs (i+1));have h1:Bd 4 (((i+1:Nat):Int)):=Bd.gB (by lia) (by lia);exact(h1.mul (bx.co (i+1))).mono (by lia)
 by_cases NT:2<=xs.length
 ·
  have yj:cb xs≠[]:=List.length_pos_iff.mp (by lia);obtain⟨n',N'⟩:∃n',xs.length=n'+2:=⟨xs.length-2,by lia⟩;have lF:len (aw xs)=n'+2:=by rw[bO tx];exact N'
  have lG:len (aw (cb xs))=n'+1:=by rw[bO td,ld];lia
  have gc:=dm (xs:=xs) (ys:=cb xs) (.inl Xk.pr.ne);have g1:=yi tx Xk;have o1:aw [1]=1:=Po.ext fun i=>by
   rw[bC,rJ];cases i with
   |zero=>rfl
   |succ i=>rfl
  rw[g1,o1] at gc;obtain⟨bu,bv,ba,rK,PL⟩:=gc.bz;have Eu:bu*aw xs+bv*aw (cb xs)=Po.K ba:=by rw[PL];grind
  refine cC (fun m σ H'=>∃(hs:List (List Int))(us vs:List Int)(has:List Addr)(pu pv:Addr)(g0 h0:Int)(k:Nat)(z4 z5 z6 z7:Option V),m=vs.length/\
   σ=[some (.ref a),some (.ref pc),some (.int g0),some (.int h0),z4,z5,z6,z7]/\av H H'/\H' pc=some (.lst ((has++[pu,pv]).map V.ref))/\sj H' (has++[pu,pv]) (hs++[us,vs])/\(∃rest,hs++[us,vs]=xs::cb xs::rest)/\
   Tr us/\Tr vs/\us≠[]/\vs≠[]/\IL H' pu us/\IL H' pv vs/\us.length<=xs.length/\us.length+k=xs.length/\xt (aw xs) (aw (cb xs)) (aw us) (aw vs) (n'+1) n' (us.length-1) (vs.length-1) g0 h0/\
   (∀x:Re,oa x ((hs++[us,vs]).map aw))/\(∀x:Re,¬(at' x (aw us)=0/\at' x (aw vs)=0))/\(∀d,Po.D d (aw us)->Po.D d (aw vs)->Po.D d (aw xs)/\Po.D d (aw (cb xs)))/\
   Ab (3^k*106-2) us/\Ab (3^k*106-2) vs/\Bd (3^k*106) g0/\Bd (3^k*106) h0/\(∀p∈hs++[us,vs],p.length<=13/\Ab BM p)/\hs.length+vs.length<=xs.length)
   ⟨_,[],xs,cb xs,[],a,p1,1,1,0,_,_,_,_,rfl,rfl,s2,AK,i2,⟨[],rfl⟩,tx,td,eY,yj,i2.1,i2.2.1,Nat.le_refl _,rfl,?_,fun x=>trivial,fun x=>rW rK Eu,fun d h1 h2=>⟨h1,h2⟩,bx.mono (by decide),Xl.mono (by decide),?_,?_,?_,by show 0+(cb xs).length<=xs.length;lia⟩ ?_
  ·have e1:xs.length-1=n'+1:=by lia
   have e2:(cb xs).length-1=n':=by lia
   rw[e1,e2];exact xt.start lF lG
  ·exact Bd.mono (m:=1) (by show(1:Int).natAbs<2^1;decide) (by decide)
  ·exact Bd.mono (m:=1) (by show(1:Int).natAbs<2^1;decide) (by decide)
  ·intro p hp;rcases List.mem_cons.mp hp with z|z
   ·rw[z];exact⟨lx,bx.mono (by lia)⟩
   ·rw[List.mem_singleton.mp z];exact⟨by lia,Xl.mono (by lia)⟩
  rintro m σ H' ⟨hs,us,vs,has,pu,pv,g0,h0,k,z4,z5,z6,z7,rfl,rfl,s3,AL,i3,Rx,tu,tv,U6,Mz,hu,hv,lu,lk,Kj,Qo,nz,ic,wz,U7,bg,bh,Gz,hlen⟩;have eu:(us.map V.int).length=us.length:=List.length_map _;have ev:(vs.map V.int).length=vs.length:=List.length_map _;have qO:=List.length_pos_iff.mpr U6;have DQ:=List.length_pos_iff.mpr Mz;have JO:=Kj.nm;walk_at "sf";refine cV (aW.of AL) nu ?_;refine⟨pv,_,rfl,.inl (aW.of hv),?_⟩;walk_at "sf";rw[ev];refine dI (fun cc=>?_) (fun cc=>?_)
  ·have Xm:2<=vs.length:=by
    have:(1:Int)<(vs.length:Int):=by simpa using cc
    lia
   refine⟨_,fun bJ H' h=>h,?_⟩;walk_at "sf";refine cV (aW.of AL) yY ?_;walk_at "sf";refine cV (aW.of AL) nu ?_;walk_at "sf";refine⟨pu,_,rfl,.inl (aW.of hu),?_⟩;walk_at "sf";refine⟨pv,_,rfl,.inl (aW.of hv),?_⟩;walk_at "sf";rw[eu,ev];generalize JQ:us.length-vs.length=δ;have U8:1<=δ:=by lia
   have ek:(us.length:Int)-(vs.length:Int)=(δ:Int):=by lia
   rw[ek];obtain⟨p3a,p3b,p3c⟩:=Fg (k:=k) U8;have p3d:=Ki (k:=k+δ) (by lia);have p3e:=Ki (k:=k) (by lia);have R7:δ*(3^k*106)=3^k*106*δ:=Nat.mul_comm _ _;refine⟨h0,δ,3^k*106,rfl,⟨bh,by lia,by lia,by lia⟩,?_⟩;have U9:=Bd.pow bh δ;refine bN (aP bg U9 (by lia)) ?_;have dd:us.length-1-(vs.length-1)=δ:=by lia
   have L':0<g0*h0^δ:=Int.mul_pos Kj.RQ (cw Kj.NI _);walk_at "sf";refine⟨_,rfl,.inl ⟨rfl,_,aW.of AL⟩,?_⟩;walk_at "sf";refine Ik (fun J H4=>∃(p:Addr)(rs:List Int),J=uO K p/\av H' H4/\IL H4 p rs/\WV us vs rs/\Ab (3^k*106-2+(us.length-vs.length+1)*(3^k*106-2+1)) rs) (fun R hR=>?_) ?_
   ·walk_at "sf";refine⟨pu,pv,us,vs,_,_,rfl,hu,hv,⟨Mz,tv,by lia,by lia,wz,U7,by rw[JQ];lia⟩,fun p rs H4 s4 h4 yZ hb=>?_⟩;exact⟨p,rfl,⟨_,aW.of h4⟩,hR _ _ ⟨p,rs,rfl,s4,h4,yZ,hb⟩⟩
   rintro J H4 ⟨pr,rs,rfl,s4,h4,yZ,Xn⟩;rw[JQ] at Xn;obtain⟨qq,eq,hq⟩:=yZ.eq;rw[JQ] at eq hq;have hl:=Kj.lead;have Bg:(aw vs).c (vs.length-1)=co vs (vs.length-1):=rfl;rw[Bg] at hl;have eq1:Po.K (ab ((aw vs).c (vs.length-1))^(us.length-1-(vs.length-1)+1))*aw us=qq*aw vs+aw rs:=by rw[dd];exact eq
   obtain⟨hh,R8⟩:=Kj.rem (by lia) eq1 (by rw[dd];exact hq) (Nat.le_trans (by rw[bO yZ.tr];exact Nat.le_refl _) (by have:=yZ.lt;lia));rw[dd] at R8;have Xg:=yZ.lt;have Qp:=neg_fdiv L' R8;refine iU (xs:=rs) (aW.of h4) (fun i=>(-(co rs i)).fdiv (g0*h0^δ)) (by lia) ?_ ?_
   ·intro i r H5 hi hr Qn Z hZ;obtain⟨x0,rfl⟩:=x5 hr;walk_at "sf";refine bN (Int.ne_of_gt L') ?_;exact hZ _ _ (av.refl _) ⟨[_],rfl,rfl⟩
   intro D2 H5 R6 Qn h5;have DJ:=s4.trans Qn;have s5:=s3.trans DJ;have Xo:=DJ _ _ AL;have i5:sj H5 (has++[pu,pv]) (hs++[us,vs]):=i3.map fun a p z=>DJ _ _ z;have U0:H D2=none:=(s3.trans s4).free R6;have Fc:rs≠[]:=fun z=>by
    subst z;have e1:Po.K (ab (co vs (vs.length-1))^(δ+1))*aw us=aw vs*qq:=by rw[eq,dH];grind
    have d1:Po.D (aw vs) (aw us):=⟨_,Int.ne_of_gt (cw hl _),qq,e1⟩;obtain⟨d2,d3⟩:=ic _ d1 (Po.D.refl _);have d4:=gc.RL d2 d3;have l1:len (1:Po)=1:=by rw[<-Po.cu];exact len_K (by decide)
    have:=d4.len (cB (by lia));rw[bO tv] at this;lia
   have Xb:=List.length_pos_iff.mpr Fc;have tw:Tr (gx (fun i=>(-(co rs i)).fdiv (g0*h0^δ)) rs.length):=by
    refine Tr.lI fun _=>?_;rw[aQ];have e1:(aw (gx (fun i=>(-(co rs i)).fdiv (g0*h0^δ)) rs.length)).c (rs.length-1)=(-hh).c (rs.length-1):=by rw[Qp]
    rw[bC,JD] at e1;rw[e1];have e2:(aw rs).c (rs.length-1)=(Po.K (g0*h0^δ)*hh).c (rs.length-1):=by rw[R8]
    rw[bC,a_] at e2;have e3:=yZ.tr.last Fc;rw[e2] at e3;intro z;have:hh.c (rs.length-1)=0:=by lia
    rw[this] at e3;exact e3 (by simp)
   have bw:Ab (3^(k+δ)*106-2) (gx (fun i=>(-(co rs i)).fdiv (g0*h0^δ)) rs.length):=fun x hx=>by
    obtain⟨i,hi,rfl⟩:=List.mem_map.mp hx;have h6:Bd (3^(k+δ)*106-2) (co rs i):=(Xn.co i).mono p3a;refine h6.of_le ?_;have:=AF (-(co rs i)) (g0*h0^δ);rw[Int.natAbs_neg] at this;exact this
   have lw:(gx (fun i=>(-(co rs i)).fdiv (g0*h0^δ)) rs.length).length=rs.length:=aQ _ _;have eqw:Po.K (ab ((aw vs).c (vs.length-1))^(us.length-1-(vs.length-1)+1))*aw us=qq*aw vs+Po.K (-(g0*h0^(us.length-1-(vs.length-1))))*aw (gx (fun i=>(-(co rs i)).fdiv (g0*h0^δ)) rs.length):=by
    rw[eq1,dd,Qp,R8,Po.DV];grind
   generalize gx (fun i=>(-(co rs i)).fdiv (g0*h0^δ)) rs.length=ws at h5 tw bw lw eqw;have hwn:ws≠[]:=List.length_pos_iff.mp (by lia);walk_at "sf";refine⟨pc,_,_,rfl,rfl,Xo,?_,?_⟩
   ·rw[List.length_map];have e1:=i5.len;have e2:(hs++[us,vs]).length<=200:=by rw[List.length_append];simp;lia
    exact Nat.lt_of_lt_of_le (by lia:(has++[pu,pv]).length<1000) (fw (Nat.le_refl _))
   have U_:has++[pu,pv]≠[]:=by simp
   have keep:∀(a:Addr)(p:List Int),IL H5 a p->IL (upd H5 pc (.lst ((has++[pu,pv]).map V.ref++[V.ref D2]))) a p:=fun a p z=>by
    show upd H5 pc _ a=_;rw[aq (Ij Xo U_ z)];exact z
   have s6:av H (upd H5 pc (.lst ((has++[pu,pv]).map V.ref++[V.ref D2]))):=fun c o z=>by
    rw[aq (aL z U5)];exact s5 _ _ z
   have Xp:upd H5 pc (.lst ((has++[pu,pv]).map V.ref++[V.ref D2])) pc=some (.lst (((has++[pu])++[pv,D2]).map V.ref)):=by
    rw[ai];simp
   have i6:sj (upd H5 pc (.lst ((has++[pu,pv]).map V.ref++[V.ref D2]))) ((has++[pu])++[pv,D2]) ((hs++[us])++[vs,ws]):=by
    have z:=(i5.map keep).snoc (keep _ _ h5);simpa using z
   have ME:=keep _ _ (DJ _ _ hv);have Qq:=keep _ _ h5;generalize upd H5 pc (.lst ((has++[pu,pv]).map V.ref++[V.ref D2]))=H6 at s6 Xp i6 ME Qq ⊢;walk_at "sf";refine cV (aW.of ME) (gv Mz) ?_;walk_at "sf";refine⟨_,rfl,?_⟩;have Gx:(if co vs (vs.length-1)<0 then -co vs (vs.length-1) else co vs (vs.length-1))=ab (co vs (vs.length-1)):=by unfold ab;split<;>lia
   rw[Gx];have bl:Bd (3^k*106-2) (ab (co vs (vs.length-1))):=by
    have:=U7.co (vs.length-1);unfold Bd at*;unfold ab;lia
   have RM:=Kj.scale;rw[dd,Bg] at RM;walk_at "sf";have aad:(3^k*106-2)*δ<=3^k*106*δ:=Nat.mul_le_mul_right _ (by lia);refine⟨ab (co vs (vs.length-1)),δ,3^k*106-2,rfl,⟨bl,by lia,by lia,by lia⟩,?_⟩;walk_at "sf";have ed1:(δ:Int)-1=((δ-1:Nat):Int):=by lia
   have aae:3^k*106*(δ-1)<=3^k*106*δ:=Nat.mul_le_mul_left _ (by lia);refine⟨h0,δ-1,3^k*106,by rw[ed1];rfl,⟨bh,by lia,by lia,by lia⟩,?_⟩;have eE:h0^(δ-1)≠0:=Int.ne_of_gt (cw Kj.NI _);refine bN eE ?_;have U':=Int.fdiv_mul_cancel RM;have Va:=Int.ne_of_gt (cw hl δ);generalize (ab (co vs (vs.length-1))^δ).fdiv (h0^(δ-1))=h1 at U' ⊢;have bh1:Bd (3^(k+δ)*106) h1:=by
    have:=(Bd.pow bl δ).of_dvd ⟨h0^(δ-1),U'.symm⟩ Va;refine this.mono ?_;have:(3^k*106-2)*δ+2*δ=3^k*106*δ:=by
     rw[Nat.sub_mul];have:2*δ<=3^k*106*δ:=Nat.mul_le_mul_right _ (by lia);lia
    lia
   have Vb:xt (aw xs) (aw (cb xs)) (aw vs) (aw ws) (n'+1) n' (vs.length-1) (ws.length-1) (ab (co vs (vs.length-1))) h1:=by
    refine Kj.next eqw (by rw[dd];exact hq) (by rw[bO tw];lia) (by lia) ?_
    rw[dd,Bg];exact U'
   have Xq:∀x:Re,(at' x (aw vs)=0->aU (at' x (aw us))*aU (at' x (aw ws))<0)/\¬(at' x (aw vs)=0/\at' x (aw ws)=0):=fun x=>by
    rw[dd] at eqw;exact Ce (cw hl _) L' eqw (nz x)
   walk_at "sf";refine⟨ws.length,by lia,hs++[us],vs,ws,has++[pu],pv,D2,_,h1,k+δ,_,_,_,_,rfl,rfl,s6,Xp,i6,?_,tv,tw,Mz,hwn,ME,Qq,by lia,by lia,Vb,fun x=>?_,fun x=>(Xq x).2,fun d d1 d2=>?_,?_,bw,?_,bh1,?_,?_⟩
   ·obtain⟨rest,er⟩:=Rx;refine⟨rest++[ws],?_⟩;have e1:hs++[us]++[vs,ws]=(hs++[us,vs])++[ws]:=by simp
    rw[e1,er];rfl
   ·have t1:=Qo x;have e1:(hs++[us,vs]).map aw=hs.map aw++[aw us,aw vs]:=by simp
    have e2:(hs++[us]++[vs,ws]).map aw=hs.map aw++[aw us,aw vs,aw ws]:=by simp
    rw[e1] at t1;rw[e2];exact oa.snoc (Xq x).1 _ t1
   ·refine ic d (Po.D.As (Int.ne_of_gt (cw hl (δ+1))) ?_) d1;have Qr:=eqw;rw[dd,Bg] at Qr;rw[Qr];exact(d1.mulL _).add (d2.mulL _)
   ·exact U7.mono (by lia)
   ·exact bl.mono (by lia)
   ·intro p hp;have e1:hs++[us]++[vs,ws]=(hs++[us,vs])++[ws]:=by simp
    rw[e1] at hp;rcases List.mem_append.mp hp with z|z
    ·exact Gz p z
    ·rw[List.mem_singleton.mp z];exact⟨by lia,bw.mono (by lia)⟩
   ·rw[List.length_append];simp;lia
  ·have Dc:vs.length=1:=by
    have:¬(1:Int)<(vs.length:Int):=by simpa using cc
    lia
   walk_at "sf";refine q pc _ _ H' s3 AL i3 ⟨Rx,fun _ x=>?_,fun h1=>by lia,Gz,by rw[List.length_append];show hs.length+2<=60;lia⟩;have e1:(hs++[us,vs]).map aw=(hs.map aw++[aw us])++[aw vs]:=by simp
   have t1:=Qo x;rw[e1] at t1 ⊢;refine oa.L_ ?_ _ t1;have ek:=cj (f:=aw vs) (by rw[bO tv];lia);have eE:(aw vs).c 0≠0:=fun z=>iW tv Mz (by rw[ek,z,Po.cR]);rw[ek,Ec];intro z;have z2:Re.q (((aw vs).c 0:Int):Rat)=Re.q 0:=z;have z3:(((aw vs).c 0:Int):Rat)=((0:Int):Rat):=Re.vJ z2;exact eE (Rat.intCast_inj.mp z3)
 ·have nQ:xs.length=1:=by have:=List.length_pos_iff.mpr eY;lia
  have yj:cb xs=[]:=List.length_eq_zero_iff.mp (by lia);rw[yj] at i2;refine cC (fun m σ H'=>σ=[some (.ref a),some (.ref pc),some (.int 1),some (.int 1),none,none,none,none]/\H'=H2) ⟨0,rfl,rfl⟩ ?_;rintro m σ H' ⟨rfl,rfl⟩;walk_at "sf";refine cV (aW.of AK) (nu (as:=[])) ?_;refine⟨p1,_,rfl,.inl (aW.of i2.2.1),?_⟩;walk_at "sf";rw[if_neg (by decide)];walk_at "sf";refine q pc _ _ H' s2 AK i2 ⟨⟨[],by rw[yj];rfl⟩,fun h=>absurd h NT,fun _=>rfl,fun p hp=>?_,show 2<=60 by decide⟩;rcases List.mem_cons.mp hp with z|z
  ·rw[z];exact⟨lx,bx.mono (by lia)⟩
  ·rw[List.mem_singleton.mp z];exact⟨by simp,fun x hx=>nomatch hx⟩
end
end cW
namespace cW
open PySem PyProof.Rows L2 SF SF.Po
noncomputable def eV(t u:Int)(ps:List (List Int)):List Int:=ps.map fun p=>sg (hv t u p)
theorem wA(b:Int):∀(l:List Int)(s:Int),cg b (l++[s])=cg b l+(if s*(l.foldl (fun b s=>if s≠0 then s else b) b)<0 then 1 else 0)
 |[],s=>by
  show(if s*b<0 then 1 else 0)+0=0+_;simp
 |x::l,s=>by
  show(if x*b<0 then 1 else 0)+cg (if x≠0 then x else b) (l++[s])=(if x*b<0 then 1 else 0)+cg (if x≠0 then x else b) l+_;rw[wA _ l s,List.foldl_cons];lia
noncomputable def jQ(l:List Int):Int:=l.foldl (fun b s=>if s≠0 then s else b) 0
theorem y4(l:List Int)(s:Int):jQ (l++[s])=if s≠0 then s else jQ l:=by
 unfold jQ;rw[List.foldl_append];rfl
noncomputable def Bh:Sp:=fun vs H Q _=>∃(a:Addr)(xs:List Int)(b:Nat),vs=[.ref a]/\IL H a xs/\(Ab b xs/\b<=ke/\xs.length<=100)/\Q (.int ((cg 0 (xs.map sg):Nat):Int)) H
noncomputable def Kk:Sp:=fun vs H Q _=>∃(c g:Addr)(as:List Addr)(ps:List (List Int))(t u:Int)(p:Nat),vs=[.ref c,.ref g]/\H c=some (.lst (as.map V.ref))/\sj H as ps/\H g=some (.tup [.int t,.int u])/\
 ((∀q∈ps,q.length<=13/\Ab BM q)/\ps.length<=60/\Bd p t/\Bd p u/\p<=30000)/\∀H',av H H'->Q (.int ((cg 0 (eV t u ps):Nat):Int)) H'
theorem y6{K:PySem.W.Frag}{own:List Str}{fr:List Nat}{g:TG}{te:TE}{σ:L2.St}{H1:Hp}{Q:VK}{a:Addr}{xs:List V}(hS:aW K H1 a xs)(Pv:List V->Prop)(hz:xs.length<=sizeLine)(p0:Pv [])(hs:∀(i:Nat)(x:V)(r:L2.St)(ys:List V)(H2:Hp),xs[i]?=some x->r.length=own.length->ys.length=i->Pv ys->av H1 H2->∀Z:V->L2.St->Hp->Prop,(∀y d_ H5,av H2 H5->Pv (ys++[y])->(∃r':L2.St,r'.length=own.length/\d_=r'++vd fr σ)->Z y d_ H5)->g x (r++vd fr σ) H2 fun d_ H4=>te d_ H4 fun y H5=>Z y d_ H5)(hq:∀D H2 ys,H1 D=none->av H1 H2->H2 D=some (.lst ys)->ys.length=xs.length->Pv ys->Q (.ref D) H2):mR (uO K a) own fr σ g te H1 Q:=rE hS Pv hz p0 hs hq
theorem sk(x:Int):Bd 2 (sg x):=by unfold sg Bd;split<;>(try split)<;>decide
theorem Il:∀(l:List Int),(∀x∈l,Bd 2 x)->Bd 2 (jQ l):=by
 intro l hl;unfold jQ;have key:∀(l:List Int)(b:Int),Bd 2 b->(∀x∈l,Bd 2 x)->Bd 2 (l.foldl (fun b s=>if s≠0 then s else b) b):=by
  intro l
  induction l with
  |nil=>exact fun b hb _=>hb
  |cons x l ih=>
   intro b hb h;rw[List.foldl_cons];refine ih _ ?_ fun y hy=>h y (List.mem_cons_of_mem _ hy);split
   ·exact h x List.mem_cons_self
   ·exact hb
 exact key l 0 (by show(0:Int).natAbs<2^2;decide) hl
section
variable {P:Program} {w:World} {K:PySem.W.Frag} {mg:Str->Option Value} {base:Heap}
theorem Qs(x:Int):sg (sg x)=sg x:=by
 rcases Int.lt_trichotomy x 0 with h|h|h
 ·have:sg x=-1:=if_pos h;rw[this];rfl
 ·rw[h];rfl
 ·have:sg x=1:=by unfold sg;rw[if_neg (by lia),if_pos h]
  rw[this];rfl
theorem qj(x y:Int):x*y<0↔sg x*y<0:=by
 have hp:=fun a b:Int=>Int.mul_neg_of_pos_of_neg (a:=a) (b:=b);unfold sg;split
 ·rename_i h;constructor
  ·intro z;have:0<y:=by
    rcases Int.lt_trichotomy y 0 with h'|h'|h'
    ·have:=Int.mul_pos_of_neg_of_neg h h';lia
    ·rw[h',Int.mul_zero] at z;lia
    ·exact h'
   lia
  ·intro z;exact Int.mul_neg_of_neg_of_pos h (by lia)
 ·split
  ·rename_i h;constructor
   ·intro z;have:y<0:=by
     rcases Int.lt_trichotomy y 0 with h'|h'|h'
     ·exact h'
     ·rw[h',Int.mul_zero] at z;lia
     ·have:=Int.mul_pos h h';lia
    lia
   ·intro z;exact Int.mul_neg_of_pos_of_neg h (by lia)
  ·have:x=0:=by lia
   subst this;simp
theorem qk{x:Int}:sg x≠0↔x≠0:=by
 unfold sg;split<;>(try split)<;>constructor<;>intro h<;>lia
theorem qV(gO:aT P w K mg base 1 "sign" ["number"] nt)(D:aH K mg "changes_in" i9 ["row"]):aT P w K mg base 2 "changes_in" ["row"] Bh:=by
 refine D.ok dD (fun vs H Q E h=>?_) (fun f bM A outer s H vs Q E hr h=>?_)
 ·obtain⟨a,xs,b,rfl,_⟩:=h;rfl
 obtain⟨a,xs,b,rfl,ha,⟨bx,hb,hl⟩,q⟩:=h;have iF:ke=60000000:=rfl;refine⟨_,(ae (aj (i:=1) dD.nd rfl (Or.inl rfl) af)
  (ae (aj (i:=2) dD.nd rfl (Or.inl rfl) af)
  (ae (f6 PassesOwn.never rfl (eZ (pv 0)) (aO (i:=3) dD.nd rfl (Or.inl rfl))
  (ae (bB (ay gS (ao aC (pv 3) (pv 2)) af (aE _))
  (ah (aj (i:=1) dD.nd rfl (Or.inl rfl) (ao bH (pv 1) af)))
  aM)
  (ah (bB (ay gb (pv 3) af (aE _))
  (ah (aj (i:=2) dD.nd rfl (Or.inl rfl) (ar gO hr (aa (pv 3) ag))))
  aM))))
  (ah (ax (pv 1)))))),?_⟩;walk_at "sf";refine⟨a,rfl,⟨_,aW.of ha⟩,?_⟩;refine jr (xs:=xs.map V.int) (fun i σ H'=>(∃r1,σ=[some (.ref a),some (.int ((cg 0 ((xs.take i).map sg):Nat):Int)),some (.int (jQ ((xs.take i).map sg))),r1])/\H'=H) ⟨⟨_,rfl⟩,rfl⟩ (fun i σ H' _ z=>by rw[z.2];exact aW.of ha) ?_ ?_
 ·rintro i x σ H' hx ⟨⟨r1,rfl⟩,rfl⟩;obtain⟨hi,rfl⟩:=sW hx;have exi:xs[i]?=some (co xs i):=by
   rw[List.getElem?_eq_getElem hi,bY hi]
  have et:(xs.take (i+1)).map sg=(xs.take i).map sg++[sg (co xs i)]:=by
   rw[List.take_add_one,exi,List.map_append];rfl
  have bl:Bd 2 (jQ ((xs.take i).map sg)):=Il _ fun y hy=>by
   obtain⟨z,_,rfl⟩:=List.mem_map.mp hy;exact sk _
  have ec:cg 0 ((xs.take (i+1)).map sg)=cg 0 ((xs.take i).map sg)+(if sg (co xs i)*jQ ((xs.take i).map sg)<0 then 1 else 0):=by rw[et];exact wA 0 _ _
  have el:jQ ((xs.take (i+1)).map sg)=if sg (co xs i)≠0 then sg (co xs i) else jQ ((xs.take i).map sg):=by rw[et];exact y4 _ _
  walk_at "sf";refine bN (aP (bx.co i) bl (by lia)) ?_;walk_at "sf";generalize jQ ((xs.take i).map sg)=lb at bl ec el ⊢;generalize cg 0 ((xs.take i).map sg)=cn at ec ⊢;refine dI (fun c1=>?_) (fun c1=>?_)
  case' refine_1=>
   have h1:co xs i*lb<0:=by simpa using c1
   rw[if_pos ((qj _ _).mp h1)] at ec
  case' refine_2=>
   have h1:¬co xs i*lb<0:=by simpa using c1
   rw[if_neg (fun z=>h1 ((qj _ _).mpr z))] at ec
  all_goals
   walk_at "sf";refine dI (fun c2=>?_) (fun c2=>?_)
   ·have h2:co xs i≠0:=by simpa using c2
    rw[if_pos (qk.mpr h2)] at el;walk_at "sf";refine⟨_,rfl,?_⟩;walk_at "sf";refine⟨⟨some (.int (co xs i)),?_⟩,rfl⟩;rw[ec,el];rfl
   ·have h2:¬co xs i≠0:=by simpa using c2
    rw[if_neg (fun z=>h2 (qk.mp z))] at el;walk_at "sf";refine⟨⟨some (.int (co xs i)),?_⟩,rfl⟩;rw[ec,el];rfl
 ·rintro σ H' ⟨⟨r1,rfl⟩,rfl⟩;have e:xs.take (xs.map V.int).length=xs:=by rw[List.length_map,List.take_length]
  rw[e];walk_at "sf";exact q
theorem qW(ub:aT P w K mg base 2 "changes_in" ["row"] Bh)(d7:aT P w K mg base 2 "sign_at" ["poly","given"] Fe)(D:aH K mg "changes_at" i_ ["chain","given"]):aT P w K mg base 3 "changes_at" ["chain","given"] Kk:=by
 refine D.ok qS (fun vs H Q E h=>?_) (fun f bM A outer s H vs Q E hr h=>?_)
 ·obtain⟨c,g,as,ps,t,u,p,rfl,_⟩:=h;rfl
 obtain⟨c,g,as,ps,t,u,p,rfl,hc,hi,hg,⟨Gz,hn,bt,bu,hp⟩,q⟩:=h;have iF:ke=60000000:=rfl;have hBM:BM=56332746:=rfl;have hlen:=hi.len;refine⟨_,(ah (ax (ar ub hr (aa (j4 rfl rfl (kC (own:=["poly"]) (fr:=[1]) (fs:=["given"]) (by with_unfolding_all rfl) rfl (by decide +kernel) (by decide +kernel) (by exact⟨rfl,trivial⟩) (by with_unfolding_all rfl) (by exact⟨⟨rfl,rfl,rfl,Or.inl rfl⟩,trivial⟩)) (eZ (pv 0)) (fun _ _ _ _ _=>(aO (i:=0) (show List.Nodup (["poly","given"]:List Str) by decide +kernel) rfl (Or.inl rfl) (Or.inr rfl))) (fun _ _ _ _ _=>(ar d7 hr (aa (pv 0) (aa (pv 1) ag))))) ag)))),?_⟩;walk_at "sf";refine j6 (H1:=H) (uO K c) (fun R hR=>?_) (y6 (xs:=as.map V.ref) (aW.of hc) (fun ys=>ys=(eV t u (ps.take ys.length)).map V.int) (fw (by rw[List.length_map];lia)) rfl ?_ ?_)
 ·walk_at "sf";exact⟨c,rfl,⟨_,aW.of hc⟩,hR⟩
 ·intro i x r ys H2 hx Im sO NW eT Z hZ;rw[List.getElem?_map] at hx;cases ea:as[i]? with
  |none=>rw[ea] at hx;cases hx
  |some a=>
   rw[ea] at hx;have hx':V.ref a=x:=by simpa using hx
   subst hx';obtain⟨xs,R9,Um⟩:=(hi.map fun a p z=>eT _ _ z).get i ea;obtain⟨f1,f2⟩:=Gz xs (List.mem_of_getElem? R9);obtain⟨x0,rfl⟩:=x5 Im;walk_at "sf";refine⟨a,g,xs,t,u,_,p,rfl,Um,eT _ _ hg,⟨by lia,f2,bt,bu,by lia⟩,?_⟩;walk_at "sf";refine hZ _ _ _ (av.refl _) ?_ ⟨[_],rfl,rfl⟩;have el:(ys++[V.int (sg (hv t u xs))]).length=ys.length+1:=by simp
   unfold eV at NW ⊢;rw[el,List.take_add_one,sO,R9,List.map_append,List.map_append,<-sO,<-NW];rfl
 intro D2 H2 ys R6 s2 Vc hyl NW;have hE:ys=(eV t u ps).map V.int:=by
  rw[NW,hyl,List.length_map,hlen,List.take_length]
 walk_at "sf";have lsg:(eV t u ps).length=ps.length:=List.length_map _;refine⟨D2,eV t u ps,2,rfl,by show H2 D2=_;rw[Vc,hE],⟨?_,by lia,by lia⟩,?_⟩
 ·intro y hy;obtain⟨z,_,rfl⟩:=List.mem_map.mp hy;exact sk _
 have e2:(eV t u ps).map sg=eV t u ps:=by
  unfold eV;rw[List.map_map];exact List.map_congr_left fun z _=>Qs _
 rw[e2];walk_at "sf";exact q H2 s2
end
end cW
namespace cW
open PySem PyProof.Rows L2 SF SF.Po
noncomputable def wB:Sp:=fun vs H Q _=>∃a b:Int,vs=[.int a,.int b]/\Bd 8000 a/\Bd 8000 b/\Q (.int ((Int.gcd a b:Nat):Int)) H
noncomputable def uc:Sp:=fun vs H Q _=>∃(a b:Int)(n:Nat),vs=[.int a,.int b]/\Bd n a/\Bd n b/\n<=8000/\0<b/\∀(p:Addr)(t u:Int),H p=none->Bd n t->Bd n u->0<u->Int.gcd t u=1->t*b=a*u->Q (.ref p) (upd H p (.tup [.int t,.int u]))
noncomputable def Fh:Sp:=fun vs H Q _=>∃(g h:Addr)(t u t' u':Int),vs=[.ref g,.ref h]/\H g=some (.tup [.int t,.int u])/\H h=some (.tup [.int t',.int u'])/\(Bd 100000 t/\Bd 100000 u/\Bd 100000 t'/\Bd 100000 u')/\Q (.int (sg (t*u'-t'*u))) H
theorem oE{a g:Int}{n:Nat}(hd:g∣a)(hg:g≠0)(b:Bd n a):Bd n (a.fdiv g):=by
 have e:=gC hd;refine b.of_le ?_;have h1:a.natAbs=(a.fdiv g).natAbs*g.natAbs:=by rw[<-Int.natAbs_mul,e]
 rw[h1];exact Nat.le_mul_of_pos_right _ (Int.natAbs_pos.mpr hg)
theorem Qt{L:List Int}{i:Int}(h0:0<=i)(h1:i<(L.length:Int)):∃n∈L,nD (L.map V.int) i=some (.int n):=by
 obtain⟨k,rfl⟩:=Int.eq_ofNat_of_zero_le h0;have hk:k<L.length:=by lia
 exact⟨co L k,by rw[bY hk];exact List.getElem_mem hk,Bb hk⟩
theorem Io(z:Int):sg z=(if decide (0<z)=true then(1:Int) else 0)-(if decide (z<0)=true then 1 else 0):=by
 unfold sg;simp only[decide_eq_true_eq];split<;>split<;>first|lia|(split<;>lia)
section
variable {P:Program} {w:World} {K:PySem.W.Frag} {mg:Str->Option Value} {base:Heap}
theorem qX(T:Nm mg)(D:aH K mg "_law_common" ja ["_law_one","_law_other"]):aT P w K mg base 1 "_law_common" ["_law_one","_law_other"] wB:=by
 refine D.ok dE (fun vs H Q E h=>?_) (fun f bM A outer s H vs Q E hr h=>?_)
 ·obtain⟨a,b,rfl,_⟩:=h;rfl
 obtain⟨a,b,rfl,ha,hb,q⟩:=h;refine⟨_,(ae (aj (i:=0) dE.nd rfl (Or.inl rfl) (aI dw rfl T.ji boot_abs (aa (pv 0) ag)))
  (ae (aj (i:=1) dE.nd rfl (Or.inl rfl) (aI dw rfl T.ji boot_abs (aa (pv 1) ag)))
  (ae (cN PassesOwn.never (ay gb (pv 1) af (aE _))
  (ae (aj (i:=2) dE.nd rfl (Or.inl rfl) (ao bq (pv 0) (ao aC (ao cq (pv 0) (pv 1)) (pv 1))))
  (ae (aj (i:=0) dE.nd rfl (Or.inl rfl) (pv 1))
  (ah (aj (i:=1) dE.nd rfl (Or.inl rfl) (pv 2))))))
  (ah (ax (pv 0)))))),?_⟩;walk_at "sf";refine⟨_,rfl,?_⟩;walk_at "sf";refine⟨_,rfl,?_⟩;walk_at "sf";refine cC (fun m σ H'=>∃(g l:Int)(r:Option V),m=l.toNat/\σ=[some (.int g),some (.int l),r]/\H'=H/\0<=g/\0<=l/\Bd 8000 g/\Bd 8000 l/\Int.gcd g l=Int.gcd a b)
  ⟨_,_,_,_,rfl,rfl,rfl,by split<;>lia,by split<;>lia,ha.of_le (by split<;>lia),hb.of_le (by split<;>lia),Aj⟩ ?_
 rintro m σ H' ⟨g,l,r,rfl,rfl,rfl,hg,hl,hgz,R_,e⟩;walk_at "sf";refine dI (fun c=>?_) (fun c=>?_)
 ·have yk:l≠0:=by simpa using c
  have hp:0<l:=by lia
  refine⟨_,fun bJ H' h=>h,?_⟩;walk_at "sf";refine bN ⟨yk,R_.log2 (by decide)⟩ ?_;walk_at "sf";have h1:=Int.emod_nonneg g yk;have h2:=Int.emod_lt_of_pos g hp;have ed:g.fdiv l=g/l:=dy hp;have hdz:Bd 8000 (g/l):=hgz.of_le (by
   have h3:=Int.ediv_nonneg hg hl
   have h4:=Int.ediv_le_self l hg
   lia);rw[ed];refine bN (aP hdz R_ (by decide)) ?_;walk_at "sf";have em:g-g/l*l=g%l:=by
   have:=Int.emod_add_mul_ediv g l;rw[Int.mul_comm] at this;lia
  rw[em];exact⟨_,by lia,_,_,_,rfl,rfl,rfl,hl,h1,R_,R_.of_le (by lia),by rw[vg hg hp,e]⟩
 ·have yk:l=0:=by simpa using c
  subst yk;walk_at "sf";have e':((Int.gcd a b:Nat):Int)=g:=by rw[<-e];exact Ak hg
  rw[e'] at q;exact q
theorem ud(ue:aT P w K mg base 1 "_law_common" ["_law_one","_law_other"] wB)(D:aH K mg "_law_ratio" jM ["_law_top","_law_under"]):aT P w K mg base 2 "_law_ratio" ["_law_top","_law_under"] uc:=by
 refine D.ok mj (fun vs H Q E h=>?_) (fun f bM A outer s H vs Q E hr h=>?_)
 ·obtain⟨a,b,n,rfl,_⟩:=h;rfl
 obtain⟨a,b,n,rfl,ha,hb,hn,Uc,q⟩:=h;have hg:0<Int.gcd a b:=Int.gcd_pos_of_ne_zero_right a (by lia);have Ip:((Int.gcd a b:Nat):Int)≠0:=by lia
 have bg:Bd n ((Int.gcd a b:Nat):Int):=hb.of_dvd (Int.gcd_dvd_right ..) (by lia);refine⟨_,(ae (aj (i:=2) mj.nd rfl (Or.inl rfl) (ar ue hr (aa (pv 0) (aa (pv 1) ag))))
  (ah (ax (cy (aa (ao cq (pv 0) (pv 2)) (aa (ao cq (pv 1) (pv 2)) ag)))))),?_⟩;walk_at "sf";refine⟨_,_,rfl,ha.mono (by lia),hb.mono (by lia),?_⟩;walk_at "sf";refine bN ⟨Ip,(bg.mono (by lia:n<=9000)).log2 (by decide)⟩ ?_;walk_at "sf";refine bN ⟨Ip,(bg.mono (by lia:n<=9000)).log2 (by decide)⟩ ?_;walk_at "sf";intro p hp;have e1:=gC (Int.gcd_dvd_left (a:=a) (b:=b));have e2:=gC (Int.gcd_dvd_right (a:=a) (b:=b));refine q p _ _ hp (oE (Int.gcd_dvd_left ..) Ip ha) (oE (Int.gcd_dvd_right ..) Ip hb) ?_ ?_ ?_
 ·have xr:(0:Int)<((Int.gcd a b:Nat):Int):=by lia
  rcases Int.lt_or_le 0 (b.fdiv ((Int.gcd a b:Nat):Int)) with z|z
  ·exact z
  ·have:=Int.mul_nonpos_of_nonpos_of_nonneg z (Int.le_of_lt xr);lia
 ·have h3:Int.gcd (a.fdiv ((Int.gcd a b:Nat):Int)*((Int.gcd a b:Nat):Int)) (b.fdiv ((Int.gcd a b:Nat):Int)*((Int.gcd a b:Nat):Int))=Int.gcd (a.fdiv ((Int.gcd a b:Nat):Int)) (b.fdiv ((Int.gcd a b:Nat):Int))*(((Int.gcd a b:Nat):Int)).natAbs:=Int.gcd_mul_right ..;rw[e1,e2,Int.natAbs_natCast] at h3;have h4:1*Int.gcd a b=Int.gcd (a.fdiv ((Int.gcd a b:Nat):Int)) (b.fdiv ((Int.gcd a b:Nat):Int))*Int.gcd a b:=by lia
  exact(Nat.eq_of_mul_eq_mul_right hg h4).symm
 ·generalize a.fdiv ((Int.gcd a b:Nat):Int)=x at*;generalize b.fdiv ((Int.gcd a b:Nat):Int)=y at*;generalize ((Int.gcd a b:Nat):Int)=z at*;rw[<-e1,<-e2];grind
theorem uf(T:Nm mg)(D:aH K mg "_law_order" jN ["_law_one","_law_other"]):aT P w K mg base 1 "_law_order" ["_law_one","_law_other"] Fh:=by
 refine D.ok mn (fun vs H Q E h=>?_) (fun f bM A outer s H vs Q E hr h=>?_)
 ·obtain⟨g,h,t,u,t',u',rfl,_⟩:=h;rfl
 obtain⟨g,h,t,u,t',u',rfl,hg,hh,⟨b1,b2,b3,b4⟩,q⟩:=h;refine⟨_,(ae (aj (i:=2) mn.nd rfl (Or.inl rfl) (ao bq (ao aC (aD aA (pv 0) af (fun _ _=>rfl)) (aD aA (pv 1) af (fun _ _=>rfl))) (ao aC (aD aA (pv 1) af (fun _ _=>rfl)) (aD aA (pv 0) af (fun _ _=>rfl)))))
  (ah (ax (ao bq (dW fu rfl T.qg boot_int (aa (gp fo (pv 2) af (aE _)) ag)) (dW fu rfl T.qg boot_int (aa (gp gS (pv 2) af (aE _)) ag)))))),?_⟩;walk_at "sf";refine aG (bL.of hg) rfl ?_;walk_at "sf";refine aG (bL.of hh) rfl ?_;refine bN (aP b1 b4 (by lia)) ?_;walk_at "sf";refine aG (bL.of hh) rfl ?_;walk_at "sf";refine aG (bL.of hg) rfl ?_;refine bN (aP b3 b2 (by lia)) ?_;walk_at "sf";refine .inr ⟨_,rfl,?_⟩;walk_at "sf";refine .inr ⟨_,rfl,?_⟩;walk_at "sf";rw[Io] at q;exact q
end
end cW
namespace cW
open PySem PyProof.Rows L2 SF SF.Po
theorem ql{xs:List Int}(tx:Tr xs)(h:Gu (aw xs) (aw xs))(x:Re):¬(at' x (aw xs)=0/\at' x (aY (aw xs))=0):=by
 have gc:=dm (xs:=xs) (ys:=cb xs) (.inl h.pr.ne);have o1:aw [1]=1:=Po.ext fun i=>by
  rw[bC,rJ];cases i with
  |zero=>rfl
  |succ i=>rfl
 rw[yi tx h,o1] at gc;obtain⟨bu,bv,ba,rK,PL⟩:=gc.bz;have Eu:bu*aw xs+bv*aw (cb xs)=Po.K ba:=by rw[PL];grind
 rw[<-fe];exact rW rK Eu
theorem gi{t u:Int}(hu:0<u)(xs:List Int):sg (hv t u xs)=aU (at' (Re.q ((t:Rat)/(u:Rat))) (aw xs)):=Md hu xs
theorem gY{t u:Int}(hu:0<u)(ps:List (List Int)):eU (Re.q ((t:Rat)/(u:Rat))) (ps.map aw)=eV t u ps:=by
 unfold eU eV;rw[List.map_map];exact List.map_congr_left fun p _=>(gi hu p).symm
end cW
namespace cW
open PySem PyProof.Rows L2 SF SF.Po
noncomputable def Rt(H:Hp)(g:Addr)(t u:Int):Prop:=H g=some (.tup [.int t,.int u])/\0<u/\Int.gcd t u=1
theorem Rt.same{H H':Hp}{g:Addr}{t u:Int}(h:Rt H g t u)(s:av H H'):Rt H' g t u:=⟨s _ _ h.1,h.2⟩
noncomputable def sr:Sp:=fun vs H Q _=>∃(a b:Int)(n:Nat),vs=[.int a,.int b]/\Bd n a/\Bd n b/\n<=1000000/\0<b/\∀(p:Addr)(t u:Int),H p=none->Bd n t->Bd n u->0<u->Int.gcd t u=1->t*b=a*u->Q (.ref p) (upd H p (.tup [.int t,.int u]))
noncomputable def Km:Sp:=fun vs H Q _=>∃(g h:Addr)(t u t' u':Int)(n:Nat),vs=[.ref g,.ref h]/\H g=some (.tup [.int t,.int u])/\H h=some (.tup [.int t',.int u'])/\(Bd n t/\Bd n u/\Bd n t'/\Bd n u')/\n<=100000/\0<u/\0<u'/\
 ∀(p:Addr)(c d:Int),H p=none->0<d->Int.gcd c d=1->c*(2*u*u')=(t*u'+t'*u)*d->Q (.ref p) (upd H p (.tup [.int c,.int d]))
noncomputable def Kn(xs:List Int)(r:Int):Prop:=∀k,k<xs.length-1->ab (co xs (xs.length-2-k))<=ab (co xs (xs.length-1))*r^(k+1)
noncomputable def MF(xs:List Int):Prop:=Tr xs/\xs≠[]/\xs.length<=13/\Ab 100 xs
noncomputable def wC:Sp:=fun vs H Q _=>∃(a:Addr)(xs:List Int)(r:Int),vs=[.ref a,.int r]/\IL H a xs/\MF xs/\Bd 110 r/\(Kn xs r->∀H',av H H'->Q (.bl true) H')/\(¬Kn xs r->∀H',av H H'->Q (.bl false) H')
noncomputable def Bi:Sp:=fun vs H Q _=>∃(a:Addr)(xs:List Int),vs=[.ref a]/\IL H a xs/\MF xs/\∀(r:Int)(H':Hp),av H H'->0<r->r<=2^100->Kn xs r->(∃j:Nat,r=2^j/\∀i,i<j->¬Kn xs (2^i))->Q (.int (2*r)) H'
structure Ends(xs:List Int)(o b t u t' u':Int):Prop where
 odd:Int.gcd o 2=1
 three:3<=o
 nd:¬o∣co xs (xs.length-1)
 bo:Bd 102 o
 bb:0<b/\b<=2^102
 win:∃r,0<r/\b=2*r+1/\Kn xs r/\∃j:Nat,r=2^j/\∀i,i<j->¬Kn xs (2^i)
 lo:t*o=(1-o*b)*u
 hi:t'*o=(1+o*b)*u'
 least:∀k,3<=k->k<o->Int.gcd k 2=1->k∣co xs (xs.length-1)
theorem Bj{o:Int}(h:Int.gcd o 2=1):o%2=1:=by
 rcases Int.emod_two_eq o with z|z
 ·exfalso;have:=Int.dvd_coe_gcd (Int.dvd_of_emod_eq_zero z) (Int.dvd_refl 2);rw[h] at this;exact absurd this (by decide)
 ·exact z
noncomputable def wD:Sp:=fun vs H Q _=>∃(a:Addr)(xs:List Int),vs=[.ref a]/\IL H a xs/\MF xs/\∀(p g h:Addr)(o b t u t' u':Int)(H':Hp),av H H'->H' p=some (.tup [.ref g,.ref h])->Rt H' g t u->Rt H' h t' u'->Ends xs o b t u t' u'->Q (.ref p) H'
noncomputable def Fi:Sp:=fun vs H Q _=>∃(c g:Addr)(as:List Addr)(ps:List (List Int))(t u:Int)(p:Nat),vs=[.ref c,.ref g]/\H c=some (.lst (as.map V.ref))/\sj H as ps/\H g=some (.tup [.int t,.int u])/\
 ((∀q∈ps,q.length<=13/\Ab BM q)/\ps.length<=60/\Bd p t/\Bd p u/\p<=30000)/\∀(m:Addr)(H':Hp),av H H'->H' m=some (.tup [.ref g,.int ((cg 0 (eV t u ps):Nat):Int)])->Q (.ref m) H'
section
variable {P:Program} {w:World} {K:PySem.W.Frag} {mg:Str->Option Value} {base:Heap}
theorem Fj(hT:P.given.tree=none)(cY:aT P w K mg base 33 "common_divisor" ["one","other"] Bc)(D:aH K mg "ratio" tP ["top","under"]):aT P w K mg base 34 "ratio" ["top","under"] sr:=by
 refine D.ok pV (fun vs H Q E h=>?_) (fun f bM A outer s H vs Q E hr h=>?_)
 ·obtain⟨a,b,n,rfl,_⟩:=h;rfl
 obtain⟨a,b,n,rfl,ha,hb,hn,Uc,q⟩:=h;have hg:0<Int.gcd a b:=Int.gcd_pos_of_ne_zero_right a (by lia);have Ip:((Int.gcd a b:Nat):Int)≠0:=by lia
 refine⟨_,(ae (bB (ay f_ (pv 1) af (aE _))
  (ah uW)
  aM)
  (ae (aj (i:=2) pV.nd rfl (Or.inl rfl) (ar cY hr (aa (pv 0) (aa (pv 1) ag))))
  (ae (bB (ay gS (pv 1) af (aE _))
  (ah (aj (i:=2) pV.nd rfl (Or.inl rfl) (cU bR (pv 2))))
  aM)
  (ah (ax (cy (aa (ao (dO ⟨hT,⟨_,_,rfl,rfl,rfl,rfl,rfl⟩,hr.py⟩) (pv 0) (pv 2)) (aa (ao (dO ⟨hT,⟨_,_,rfl,rfl,rfl,rfl,rfl⟩,hr.py⟩) (pv 1) (pv 2)) ag)))))))),?_⟩;walk_at "sf";rw[if_neg (by simp;lia)];walk_at "sf";refine⟨_,_,rfl,?_⟩;walk_at "sf";rw[if_neg (by simp;lia)];walk_at "sf";refine bN Ip ?_;walk_at "sf";refine bN Ip ?_;walk_at "sf";intro p hp;have e1:=gC (Int.gcd_dvd_left (a:=a) (b:=b));have e2:=gC (Int.gcd_dvd_right (a:=a) (b:=b));refine q p _ _ hp (oE (Int.gcd_dvd_left ..) Ip ha) (oE (Int.gcd_dvd_right ..) Ip hb) ?_ ?_ ?_
 ·have xr:(0:Int)<((Int.gcd a b:Nat):Int):=by lia
  rcases Int.lt_or_le 0 (b.fdiv ((Int.gcd a b:Nat):Int)) with z|z
  ·exact z
  ·have:=Int.mul_nonpos_of_nonpos_of_nonneg z (Int.le_of_lt xr);lia
 ·have h3:Int.gcd (a.fdiv ((Int.gcd a b:Nat):Int)*((Int.gcd a b:Nat):Int)) (b.fdiv ((Int.gcd a b:Nat):Int)*((Int.gcd a b:Nat):Int))=Int.gcd (a.fdiv ((Int.gcd a b:Nat):Int)) (b.fdiv ((Int.gcd a b:Nat):Int))*(((Int.gcd a b:Nat):Int)).natAbs:=Int.gcd_mul_right ..;rw[e1,e2,Int.natAbs_natCast] at h3;have h4:1*Int.gcd a b=Int.gcd (a.fdiv ((Int.gcd a b:Nat):Int)) (b.fdiv ((Int.gcd a b:Nat):Int))*Int.gcd a b:=by lia
  exact(Nat.eq_of_mul_eq_mul_right hg h4).symm
 ·generalize a.fdiv ((Int.gcd a b:Nat):Int)=x at*;generalize b.fdiv ((Int.gcd a b:Nat):Int)=y at*;generalize ((Int.gcd a b:Nat):Int)=z at*;rw[<-e1,<-e2];grind
theorem Cz(fi:aT P w K mg base 34 "ratio" ["top","under"] sr)(D:aH K mg "middle" pW ["one","other"]):aT P w K mg base 35 "middle" ["one","other"] Km:=by
 refine D.ok Cq (fun vs H Q E h=>?_) (fun f bM A outer s H vs Q E hr h=>?_)
 ·obtain⟨g,h,t,u,t',u',n,rfl,_⟩:=h;rfl
 obtain⟨g,h,t,u,t',u',n,rfl,hg,hh,⟨b1,b2,b3,b4⟩,hn,hu,dS,q⟩:=h;have iF:ke=60000000:=rfl;refine⟨_,(ah (ax (ar fi hr (aa (ao bH (ao aC (aD aA (pv 0) af (fun _ _=>rfl)) (aD aA (pv 1) af (fun _ _=>rfl))) (ao aC (aD aA (pv 1) af (fun _ _=>rfl)) (aD aA (pv 0) af (fun _ _=>rfl)))) (aa (ao aC (ao aC af (aD aA (pv 0) af (fun _ _=>rfl))) (aD aA (pv 1) af (fun _ _=>rfl))) ag))))),?_⟩;walk_at "sf";refine aG (bL.of hg) rfl ?_;walk_at "sf";refine aG (bL.of hh) rfl ?_;refine bN (aP b1 b4 (by lia)) ?_;walk_at "sf";refine aG (bL.of hh) rfl ?_;walk_at "sf";refine aG (bL.of hg) rfl ?_;refine bN (aP b3 b2 (by lia)) ?_;walk_at "sf";refine aG (bL.of hg) rfl ?_;have b22:Bd 3 (2:Int):=Bd.of_two (by decide) (by decide);refine bN (aP b22 b2 (by lia)) ?_;walk_at "sf";refine aG (bL.of hh) rfl ?_;refine bN (aP (b22.mul b2) b4 (by lia)) ?_;walk_at "sf";have p1:=Int.mul_pos (Int.mul_pos (show(0:Int)<2 by decide) hu) dS;refine⟨_,_,n+n+3,rfl,((b1.mul b4).add (b3.mul b2)).mono (by lia),((b22.mul b2).mul b4).mono (by lia),by lia,p1,fun p c d hp _ _ hd hc e=>?_⟩;walk_at "sf";exact q p c d hp hd hc e
theorem uh(T:Nm mg)(D:aH K mg "is_within" jG ["free","reach"]):aT P w K mg base 1 "is_within" ["free","reach"] wC:=by
 refine D.ok gu (fun vs H Q E h=>?_) (fun f bM A outer s H vs Q E hr h=>?_)
 ·obtain⟨a,xs,r,rfl,_⟩:=h;rfl
 obtain⟨a,xs,r,rfl,ha,⟨tx,eY,hx,bx⟩,br,qt,qf⟩:=h;have iF:ke=60000000:=rfl;have f9:=List.length_pos_iff.mpr eY;refine⟨_,(ae (aj (i:=2) gu.nd rfl (Or.inl rfl) (aI dw rfl T.ji boot_abs (aa (aD bE (pv 0) (cU bR af) (fun _ _=>rfl)) ag)))
  (ae (f6 PassesOwn.never rfl (xX rfl T.jc (aa (lD oq (pv 0) om (oo (cU bR af))) ag)) (aO (i:=3) gu.nd rfl (Or.inl rfl))
  (ae (aj (i:=2) gu.nd rfl (Or.inl rfl) (ao aC (pv 2) (pv 1)))
  (ah (bB (ay fo (aI dw rfl T.ji boot_abs (aa (pv 3) ag)) (pv 2) (aE _))
  (ah (ax fk))
  aM))))
  (ah (ax fk)))),?_⟩;walk_at "sf";refine cV (aW.of ha) (gv eY) ?_;walk_at "sf";refine⟨_,rfl,?_⟩;walk_at "sf";refine⟨_,rfl,?_⟩;refine⟨a,_,rfl,aW.of ha,fun p5 MD=>?_⟩;have e5:ie (xs.map V.int) none (some (-1))=xs.dropLast.map V.int:=wc xs;have s5:=av.new MD (.lst (ie (xs.map V.int) none (some (-1))));have h5:IL (upd H p5 (.lst (ie (xs.map V.int) none (some (-1))))) p5 xs.dropLast:=by show upd _ p5 _ p5=_;rw[ai,e5]
 generalize upd H p5 (.lst (ie (xs.map V.int) none (some (-1))))=H5 at h5 s5 ⊢;walk_at "sf";refine⟨p5,_,rfl,aW.of h5,?_⟩;have Gx:(if co xs (xs.length-1)<0 then -co xs (xs.length-1) else co xs (xs.length-1))=ab (co xs (xs.length-1)):=by unfold ab;split<;>lia
 rw[Gx];have ld:xs.dropLast.length=xs.length-1:=List.length_dropLast;have cd:∀j,j<xs.length-1->co xs.dropLast j=co xs j:=fun j hj=>by rw[List.dropLast_eq_take,iT,if_pos hj]
 have bl:Bd 100 (ab (co xs (xs.length-1))):=by
  have:=bx.co (xs.length-1);unfold Bd at*;unfold ab;lia
 refine sQ (xs:=xs.dropLast.map V.int) (fun i σ H'=>(∃z,σ=[some (.ref a),some (.int r),some (.int (ab (co xs (xs.length-1))*r^i)),z])/\H'=H5/\∀k,k<i->ab (co xs (xs.length-2-k))<=ab (co xs (xs.length-1))*r^(k+1))
  ⟨⟨_,by rw[Int.pow_zero,Int.mul_one];rfl⟩,rfl,fun k hk=>absurd hk (Nat.not_lt_zero _)⟩ (fun i σ H' _ z=>by rw[z.2.1];exact aW.of h5) ?_ ?_
 ·rintro i x σ H' hi Ci ⟨⟨z,rfl⟩,rfl,oU⟩;rw[List.length_map] at hi Ci;obtain⟨NS,rfl⟩:=nq Ci;have ei:xs.dropLast.length-1-i=xs.length-2-i:=by lia
  rw[ei,cd _ (by lia)];have NJ:=Bd.pow br i;have aaf:110*i<=110*12:=Nat.mul_le_mul_left _ (by lia);walk_at "sf";refine bN (aP (bl.mul NJ) br (by lia)) ?_;walk_at "sf";refine⟨_,rfl,?_⟩;walk_at "sf";have eb2:(if co xs (xs.length-2-i)<0 then -co xs (xs.length-2-i) else co xs (xs.length-2-i))=ab (co xs (xs.length-2-i)):=by unfold ab;split<;>lia
  rw[eb2];have ep:ab (co xs (xs.length-1))*r^i*r=ab (co xs (xs.length-1))*r^(i+1):=by rw[Int.mul_assoc,<-Int.pow_succ]
  rw[ep];refine dI (fun c=>?_) (fun c=>?_)
  ·have eM:ab (co xs (xs.length-1))*r^(i+1)<ab (co xs (xs.length-2-i)):=by simpa using c
   walk_at "sf";refine qf (fun W=>?_) H' s5;have:=W i (by lia);lia
  ·have hle:ab (co xs (xs.length-2-i))<=ab (co xs (xs.length-1))*r^(i+1):=by simpa using c
   walk_at "sf";refine⟨⟨_,rfl⟩,rfl,fun k hk=>?_⟩;by_cases hk2:k<i
   ·exact oU k hk2
   ·have:k=i:=by lia
    subst this;exact hle
 ·rintro σ H' ⟨⟨z,rfl⟩,rfl,oU⟩;walk_at "sf";refine qt (fun k hk=>oU k ?_) H' s5;rw[List.length_map,ld];exact hk
theorem MG{xs:List Int}(tx:Tr xs)(eY:xs≠[])(bx:Ab 100 xs):Kn xs (2^100):=fun k hk=>by
 have h1:=bx.co (xs.length-2-k);have h2:=f7 (tx.last eY);have h3:(1:Int)<=(2^100)^k:=by
  rw[<-Int.pow_mul];exact Int.add_one_le_of_lt (Int.pow_pos (by decide))
 rw[Int.pow_succ];have h4:(2:Int)^100<=(2^100)^k*2^100:=by
  have:=Int.mul_le_mul_of_nonneg_right h3 (show(0:Int)<=2^100 by decide);lia
 have h5:(2^100)^k*2^100<=ab (co xs (xs.length-1))*((2^100)^k*2^100):=by
  have:=Int.mul_le_mul_of_nonneg_right (show(1:Int)<=ab (co xs (xs.length-1)) by lia) (show(0:Int)<=(2^100)^k*2^100 by lia);lia
 unfold Bd at h1;unfold ab at h5 ⊢;lia
theorem wF(wG:aT P w K mg base 1 "is_within" ["free","reach"] wC)(D:aH K mg "bound_of" kL ["free"]):aT P w K mg base 2 "bound_of" ["free"] Bi:=by
 refine D.ok jH (fun vs H Q E h=>?_) (fun f bM A outer s H vs Q E hr h=>?_)
 ·obtain⟨a,xs,rfl,_⟩:=h;rfl
 obtain⟨a,xs,rfl,ha,hp,q⟩:=h;have iF:ke=60000000:=rfl;have b22:Bd 3 (2:Int):=Bd.of_two (by decide) (by decide);refine⟨_,(ae (aj (i:=1) jH.nd rfl (Or.inl rfl) af)
  (ae (cN PassesOwn.never (kA (ky (ar wG hr (aa (pv 0) (aa (pv 1) ag)))))
  (ah (aj (i:=1) jH.nd rfl (Or.inl rfl) (ao aC af (pv 1)))))
  (ah (ax (ao aC af (pv 1)))))),?_⟩;walk_at "sf";refine cC (fun m σ H'=>∃j:Nat,m=100-j/\j<=100/\σ=[some (.ref a),some (.int ((2:Int)^j))]/\av H H'/\∀i,i<j->¬Kn xs (2^i)) ⟨_,0,rfl,by decide,rfl,av.refl _,fun i hi=>absurd hi (Nat.not_lt_zero i)⟩ ?_;rintro m σ H1 ⟨j,rfl,hj,rfl,s1,Ht⟩;have bj:Bd (j+1) ((2:Int)^j):=by
  unfold Bd;rw[Int.natAbs_pow];exact Nat.pow_lt_pow_right (by decide) (by lia)
 walk_at "sf";refine⟨a,xs,_,rfl,s1 _ _ ha,hp,bj.mono (by lia),fun W H2 s2=>?_,fun W H2 s2=>?_⟩
 ·walk_at "sf";rw[if_neg (by decide)];walk_at "sf";refine bN (aP b22 bj (by lia)) ?_;walk_at "sf";refine q _ H2 (s1.trans s2) (Int.pow_pos (by decide)) ?_ W ⟨j,rfl,Ht⟩;have e1:((2^j:Nat):Int)<=((2^100:Nat):Int):=Int.ofNat_le.mpr (Nat.pow_le_pow_right (by decide) hj);rw[Int.natCast_pow,Int.natCast_pow] at e1;exact e1
 ·have Xr:j≠100:=fun z=>by
   subst z;exact W (MG hp.1 hp.2.1 hp.2.2.2)
  walk_at "sf";rw[if_pos (by decide)];refine⟨_,fun bJ H' h=>h,?_⟩;walk_at "sf";refine bN (aP b22 bj (by lia)) ?_;walk_at "sf";exact⟨_,by lia,j+1,rfl,by lia,by rw[Int.pow_succ,Int.mul_comm];rfl,s1.trans s2,fun i hi=>by
   rcases Nat.lt_or_ge i j with z|z
   ·exact Ht i z
   ·have e:i=j:=by lia
    rw[e];exact W⟩
theorem kZ(T:Nm mg)(y8:aT P w K mg base 34 "bound_of" ["free"] Bi)(fi:aT P w K mg base 34 "ratio" ["top","under"] sr)(D:aH K mg "pair_around_all" fg ["free"]):aT P w K mg base 35 "pair_around_all" ["free"] wD:=by
 refine D.ok dn (fun vs H Q E h=>?_) (fun f bM A outer s H vs Q E hr h=>?_)
 ·obtain⟨a,xs,rfl,_⟩:=h;rfl
 obtain⟨a,xs,rfl,ha,hp,q⟩:=h;obtain⟨tx,eY,hx,bx⟩:=id hp;have iF:ke=60000000:=rfl;have yk:=tx.last eY;have bl:=bx.co (xs.length-1);generalize hle:co xs (xs.length-1)=l at yk bl;have b1:Bd 100 ((ab l:Int)):=by
  unfold Bd at*;unfold ab;lia
 refine⟨_,(ae (aj (i:=1) dn.nd rfl (Or.inl rfl) af)
  (ae (cN PassesOwn.never (ay f_ (ao cH (aD bE (pv 0) (cU bR af) (fun _ _=>rfl)) (pv 1)) af (aE _))
  (ah (aj (i:=1) dn.nd rfl (Or.inl rfl) (ao bH (pv 1) af))))
  (ae (aj (i:=2) dn.nd rfl (Or.inl rfl) (ao bH (ar y8 hr (aa (pv 0) ag)) af))
  (ah (ax (cy (aa (ar fi hr (aa (ao bq af (ao aC (pv 1) (pv 2))) (aa (pv 1) ag))) (aa (ar fi hr (aa (ao bH af (ao aC (pv 1) (pv 2))) (aa (pv 1) ag))) ag)))))))),?_⟩;walk_at "sf";refine cC (fun m σ H'=>∃o:Int,m=(ab l+3-o).toNat/\Int.gcd o 2=1/\3<=o/\o<=ab l+2/\σ=[some (.ref a),some (.int o),none]/\H'=H/\∀k,3<=k->k<o->Int.gcd k 2=1->k∣l) ⟨_,3,rfl,by decide,by decide,?_,rfl,rfl,fun k h1 h2 _=>by lia⟩ ?_
 ·have:=f7 yk;lia
 rintro m σ H' ⟨o,rfl,ho,h3,hol,rfl,rfl,Qu⟩;have bo:Bd 102 o:=by
  unfold Bd at*;unfold ab at*;lia
 walk_at "sf";refine cV (aW.of ha) (gv eY) ?_;rw[hle];walk_at "sf";refine bN (by lia) ?_;walk_at "sf";have ef:l.fmod o=l%o:=fT (by lia);rw[ef];refine dI (fun c=>?_) (fun c=>?_)
 ·have hz:l%o=0:=by simpa using c
  have hd:o∣l:=Int.dvd_of_emod_eq_zero hz;have aag:o<=ab l:=by
   have:=Int.le_of_dvd (f7 yk) (by unfold ab;exact Int.dvd_natAbs.mpr hd);exact this
  refine⟨_,fun bJ H' h=>h,?_⟩;walk_at "sf";refine⟨_,?_,o+2,rfl,?_,by lia,by lia,rfl,rfl,fun k k1 k2 k3=>?_⟩
  ·lia
  ·rw[<-ho,Int.gcd_add_right_left_of_dvd o (Int.dvd_refl 2)]
  ·have m1:=Bj ho;have m2:=Bj k3;rcases Int.lt_trichotomy k o with z|z|z
   ·exact Qu k k1 z k3
   ·rw[z];exact hd
   ·lia
 ·have hz:¬l%o=0:=by simpa using c
  have Xs:¬o∣l:=fun z=>hz (Int.emod_eq_zero_of_dvd z);walk_at "sf";refine⟨a,xs,rfl,ha,hp,fun r H1 s1 Ke Hv W hj=>?_⟩;walk_at "sf";have bb:Bd 103 (2*r+1):=by unfold Bd;lia
  generalize hb:2*r+1=b at bb;have hbp:0<b/\b<=2^102:=by lia
  refine bN (aP bo bb (by lia)) ?_;walk_at "sf";have Xt:=bo.mul bb;have Qv:Bd (102+103) (1:Int):=Bd.mono (m:=1) (by show(1:Int).natAbs<2^1;decide) (by decide);refine⟨_,_,210,rfl,(Qv.sub Xt).mono (by decide),bo.mono (by decide),by decide,by lia,fun p1 t u ow _ _ hu hg e1=>?_⟩;walk_at "sf";refine bN (aP bo bb (by lia)) ?_;walk_at "sf";have s2:=av.new ow (.tup [.int t,.int u]);have h1:upd H1 p1 (.tup [.int t,.int u]) p1=some (.tup [.int t,.int u]):=ai;generalize upd H1 p1 (.tup [.int t,.int u])=H2 at s2 h1 ⊢;refine⟨_,_,210,rfl,(Qv.add Xt).mono (by decide),bo.mono (by decide),by decide,by lia,fun p2 t' u' uS _ _ dS O2 e2=>?_⟩;walk_at "sf";have s3:=av.new uS (.tup [.int t',.int u']);have h2:upd H2 p2 (.tup [.int t',.int u']) p2=some (.tup [.int t',.int u']):=ai;generalize upd H2 p2 (.tup [.int t',.int u'])=H3 at s3 h2 ⊢;intro p3 Fb;have s4:=av.new Fb (.tup [.ref p1,.ref p2]);refine q p3 p1 p2 o b t u t' u' _ (s1.trans (s2.trans (s3.trans s4))) ai ⟨s4 _ _ (s3 _ _ h1),hu,hg⟩ ⟨s4 _ _ h2,dS,O2⟩ ⟨ho,h3,by rw[hle];exact Xs,bo,hbp,⟨r,Ke,hb.symm,W,hj⟩,e1,e2,by rw[hle];exact Qu⟩
theorem CA(ui:aT P w K mg base 3 "changes_at" ["chain","given"] Kk)(D:aH K mg "marked" qa ["chain","given"]):aT P w K mg base 4 "marked" ["chain","given"] Fi:=by
 refine D.ok Cs (fun vs H Q E h=>?_) (fun f bM A outer s H vs Q E hr h=>?_)
 ·obtain⟨c,g,as,ps,t,u,p,rfl,_⟩:=h;rfl
 obtain⟨c,g,as,ps,t,u,p,rfl,hc,hi,hg,hh,q⟩:=h;refine⟨_,(ah (ax (cy (aa (pv 1) (aa (ar ui hr (aa (pv 0) (aa (pv 1) ag))) ag))))),?_⟩;walk_at "sf";refine⟨c,g,as,ps,t,u,p,rfl,hc,hi,hg,hh,fun H1 s1=>?_⟩;walk_at "sf";intro m hm;exact q m _ (s1.trans (av.new hm _)) ai
end
end cW
namespace cW
open PySem PyProof.Rows L2 SF SF.Po
theorem jR{a b c:Rat}(hc:0<c):a*c<=b*c↔a<=b:=by
 have:=Rat.mul_lt_mul_right (a:=b) (b:=a) hc;constructor
 ·intro h;by_cases z:a<=b
  ·exact z
  ·have z2:=this.mpr (by grind);grind
 ·intro h;by_cases z:a*c<=b*c
  ·exact z
  ·have z2:=this.mp (by grind);grind
theorem MH{t u t' u':Int}(hu:0<u)(dS:0<u'):((t:Rat)/(u:Rat)<=(t':Rat)/(u':Rat))↔t*u'<=t'*u:=by
 have h1:(0:Rat)<(u:Rat):=Rat.intCast_pos.mpr hu;have h2:(0:Rat)<(u':Rat):=Rat.intCast_pos.mpr dS;rw[<-Rat.intCast_le_intCast,Rat.intCast_mul,Rat.intCast_mul];have e1:(t:Rat)/(u:Rat)*(u:Rat)=(t:Rat):=Rat.div_mul_cancel (by grind);have e2:(t':Rat)/(u':Rat)*(u':Rat)=(t':Rat):=Rat.div_mul_cancel (by grind);generalize (t:Rat)/(u:Rat)=x at*;generalize (t':Rat)/(u':Rat)=y at*;rw[<-e1,<-e2];have hp:=Rat.mul_pos h1 h2;have g1:x*(u:Rat)*(u':Rat)=x*((u:Rat)*(u':Rat)):=by grind
 have g2:y*(u':Rat)*(u:Rat)=y*((u:Rat)*(u':Rat)):=by grind
 rw[g1,g2];exact(jR hp).symm
theorem Gy.mono{xs:List Int}{ps:List (List Int)}(h:Gy xs ps)(hp:wu xs){t u t' u':Int}(hu:0<u)(dS:0<u')(hle:(t:Rat)/(u:Rat)<=(t':Rat)/(u':Rat)):cg 0 (eV t' u' ps)<=cg 0 (eV t u ps):=by
 obtain⟨pt,pn,pl,pa,MI⟩:=hp;by_cases h2:2<=xs.length
 ·obtain⟨rest,er⟩:=h.shape;have hc:=h.L_ h2;have em:ps.map aw=aw xs::aY (aw xs)::rest.map aw:=by rw[er,List.map_cons,List.map_cons,fe]
  rw[em] at hc;have hz:=ql pt MI;have:=Eo hc (fun x z w=>hz x ⟨z,w⟩) hle;rw[<-em,gY hu,gY dS] at this;exact this
 ·have l1:xs.length=1:=by have:=List.length_pos_iff.mpr pn;lia
  have e2:=h.one l1
  match xs,l1 with
  |[c],_=>
   rw[e2];have e3:∀a b:Int,eV a b [[c],[]]=[sg c,0]:=fun a b=>by
    have h1:hv a b [c]=c:=by simp[hv,aF,co]
    have h2:hv a b []=0:=by simp[hv,aF,co]
    show[sg (hv a b [c]),sg (hv a b [])]=_;rw[h1,h2];rfl
   rw[e3,e3];exact Nat.le_refl _
theorem Gy.short{xs:List Int}{ps:List (List Int)}(h:Gy xs ps)(hp:wu xs){o b:Int}{k:Nat}{m t u t' u':Int}(ho:0<o)(hb:0<b/\b<=2^102)(hu:0<u)(dS:0<u')(p1:Pt o k m t u)(p2:Pt o k (m+2*b) t' u')(m1:-(b*2^k)<=m)(m2:m+2*b<=b*2^k)(hk:5700<=k):
 cg 0 (eV t u ps)<=cg 0 (eV t' u' ps)+1:=by
 obtain⟨pt,pn,pl,pa,MI⟩:=id hp;have v1:=p1.val ho hu;have v2:=p2.val ho dS;have hz:(0:Rat)<2^k:=Rat.pow_pos (by grind);have Df:(0:Rat)<(o:Rat):=Rat.intCast_pos.mpr ho;have Vd:(1:Rat)/(o:Rat)<=1/\0<(1:Rat)/(o:Rat):=by
  have:(1:Rat)<=(o:Rat):=Rat.intCast_le_intCast (a:=1).mpr (by lia);refine⟨?_,RR.yp (by grind) Df⟩;have e:(1:Rat)/(o:Rat)*(o:Rat)=1:=Rat.div_mul_cancel (by grind);generalize (1:Rat)/(o:Rat)=z at*;by_cases c:z<=1
  ·exact c
  ·exfalso;have c2:0<(z-1)*(o:Rat):=Rat.mul_pos (by grind) Df;grind
 have hb':(0:Rat)<(b:Rat):=Rat.intCast_pos.mpr hb.1;have JH:(b:Rat)<=2^102:=by
  have:(b:Rat)<=((2^102:Int):Rat):=Rat.intCast_le_intCast.mpr hb.2;rw[Rat.intCast_pow] at this;exact this
 have Pg:(((m+2*b:Int)):Rat)=(m:Rat)+2*(b:Rat):=by rw[Rat.intCast_add,Rat.intCast_mul];rfl
 rw[Pg] at v2;have m1':-((b:Rat)*2^k)<=(m:Rat):=by
  have:=Rat.intCast_le_intCast.mpr m1;rw[Rat.intCast_neg,Rat.intCast_mul,Rat.intCast_pow] at this;exact this
 have m2':(m:Rat)+2*(b:Rat)<=(b:Rat)*2^k:=by
  have:=Rat.intCast_le_intCast.mpr m2;rw[Rat.intCast_add,Rat.intCast_mul,Rat.intCast_mul,Rat.intCast_pow] at this;exact this
 have d1:(m:Rat)/2^k*2^k=(m:Rat):=Rat.div_mul_cancel (by grind);have d2:((m:Rat)+2*(b:Rat))/2^k*2^k=(m:Rat)+2*(b:Rat):=Rat.div_mul_cancel (by grind);have w1:(t':Rat)/(u':Rat)-(t:Rat)/(u:Rat)<=1/2^5500:=by
  rw[v1,v2];have d3:(1:Rat)/2^5500*2^5500=1:=Rat.div_mul_cancel (by have:(0:Rat)<2^5500:=Rat.pow_pos (by grind);grind);have ek:(2:Rat)^k=2^5500*2^(k-5500):=by
   rw[<-gI];congr 1;lia
  have g1:(2:Rat)^103<=2^(k-5500):=mY (by grind) (by lia);have g2:(2:Rat)^103=2^102*2:=Rat.pow_succ ..;have p5:(0:Rat)<2^5500:=Rat.pow_pos (by grind);generalize ((m:Rat)+2*(b:Rat))/2^k=y at*;generalize (m:Rat)/2^k=x at*;have key:(y-x)*2^k<=1/2^5500*2^k:=by
   rw[ek];have:(1:Rat)/2^5500*(2^5500*2^(k-5500))=2^(k-5500):=by rw[<-Rat.mul_assoc,d3];grind
   rw[this,<-ek];grind
  have:=(jR hz).mp key;grind
 have hle:(t:Rat)/(u:Rat)<=(t':Rat)/(u':Rat):=by
  rw[v1,v2];generalize ((m:Rat)+2*(b:Rat))/2^k=y at*;generalize (m:Rat)/2^k=x at*;have key:x*2^k<=y*2^k:=by grind
  have:=(jR hz).mp key;grind
 have r1:-(2^110)<=(t:Rat)/(u:Rat):=by
  rw[v1];have g:(2:Rat)^102<=2^110:=mY (by grind) (by decide);generalize (m:Rat)/2^k=x at*;have key:-(b:Rat)*2^k<=x*2^k:=by grind
  have:=(jR hz).mp key;grind
 have r2:(t':Rat)/(u':Rat)<=2^110:=by
  rw[v2];have g:(2:Rat)^103<=2^110:=mY (by grind) (by decide);have g2:(2:Rat)^103=2^102*2:=Rat.pow_succ ..;have g3:(1:Rat)<=2^102:=c_ (by grind) _;generalize ((m:Rat)+2*(b:Rat))/2^k=y at*;have key:y*2^k<=(b:Rat)*2^k:=by grind
  have:=(jR hz).mp key;grind
 by_cases h2:2<=xs.length
 ·obtain⟨rest,er⟩:=h.shape;have hc:=h.L_ h2;have em:ps.map aw=aw xs::aY (aw xs)::rest.map aw:=by rw[er,List.map_cons,List.map_cons,fe]
  rw[em] at hc;have hz:=ql pt MI;have:=HK hc (fun x z w=>hz x ⟨z,w⟩) hle fun x y x1 x2 y1 y2 x0 y0=>by
   have q1:Re.q (-(2^110))<=Re.q ((t:Rat)/(u:Rat)):=Re.cv.mpr r1;have q2:Re.q ((t':Rat)/(u':Rat))<=Re.q (2^110):=Re.cv.mpr r2;have q3:Re.q ((t':Rat)/(u':Rat)-(t:Rat)/(u:Rat))<=Re.q (1/2^5500):=Re.cv.mpr w1;rw[Re.rR] at q1;have q4:Re.q ((t':Rat)/(u':Rat)-(t:Rat)/(u:Rat))=Re.q ((t':Rat)/(u':Rat))-Re.q ((t:Rat)/(u:Rat)):=by
    rw[Rat.sub_eq_add_neg,Re.nL,Re.rR];grind
   rw[q4] at q3;refine sep pt h2 pl pa MI x0 y0 ?_ ?_ ?_
   ·rw[Re.iz];constructor<;>grind
   ·rw[Re.iz];constructor<;>grind
   ·rw[Re.iz];constructor<;>grind
  rw[<-em,gY hu,gY dS] at this;exact this
 ·have l1:xs.length=1:=by have:=List.length_pos_iff.mpr pn;lia
  have e2:=h.one l1
  match xs,l1 with
  |[c],_=>
   rw[e2];have e3:∀a b:Int,eV a b [[c],[]]=[sg c,0]:=fun a b=>by
    have h1:hv a b [c]=c:=by simp[hv,aF,co]
    have h2:hv a b []=0:=by simp[hv,aF,co]
    show[sg (hv a b [c]),sg (hv a b [])]=_;rw[h1,h2];rfl
   rw[e3,e3];lia
theorem Gy.signs{xs:List Int}{ps:List (List Int)}(h:Gy xs ps)(hp:wu xs){t u t' u':Int}(hu:0<u)(dS:0<u')(hle:(t:Rat)/(u:Rat)<=(t':Rat)/(u':Rat))(n1:hv t u xs≠0)(n2:hv t' u' xs≠0)(one:cg 0 (eV t u ps)=cg 0 (eV t' u' ps)+1):sg (hv t u xs)*sg (hv t' u' xs)=-1:=by
 obtain⟨pt,pn,pl,pa,MI⟩:=hp;by_cases h2:2<=xs.length
 ·obtain⟨rest,er⟩:=h.shape;have hc:=h.L_ h2;have em:ps.map aw=aw xs::(aw (cb xs)::rest.map aw):=by rw[er,List.map_cons,List.map_cons]
  obtain⟨r,l,erl⟩:∃r l,aw (cb xs)::rest.map aw=r++[l]:=⟨_,_,(List.dropLast_concat_getLast (List.cons_ne_nil _ _)).symm⟩;rw[erl] at em;rw[em] at hc;have a1:at' (Re.q ((t:Rat)/(u:Rat))) (aw xs)≠0:=fun z=>n1 (by
   have:=gi (t:=t) hu xs
   rw[z,Re.bP] at this
   exact Classical.byContradiction fun w=>qk.mpr w this);have a2:at' (Re.q ((t':Rat)/(u':Rat))) (aw xs)≠0:=fun z=>n2 (by
   have:=gi (t:=t') dS xs
   rw[z,Re.bP] at this
   exact Classical.byContradiction fun w=>qk.mpr w this);have:=HM hc hle a1 a2;rw[<-em,gY hu,gY dS,<-gi hu,<-gi dS,one,Int.pow_succ] at this;rw[this];have e:∀n:Nat,(-1:Int)^n*(-1)^n=1:=fun n=>by
   rw[<-Int.mul_pow];exact Int.one_pow
  have:=e (cg 0 (eV t' u' ps));grind
 ·exfalso;have l1:xs.length=1:=by have:=List.length_pos_iff.mpr pn;lia
  have e2:=h.one l1
  match xs,l1 with
  |[c],_=>
   rw[e2] at one;have e3:∀a b:Int,eV a b [[c],[]]=[sg c,0]:=fun a b=>by
    have h1:hv a b [c]=c:=by simp[hv,aF,co]
    have h2:hv a b []=0:=by simp[hv,aF,co]
    show[sg (hv a b [c]),sg (hv a b [])]=_;rw[h1,h2];rfl
   rw[e3,e3] at one;lia
end cW
namespace cW
open PySem PyProof.Rows L2 SF SF.Po
structure Sx where
 s:Addr
 ml:Addr
 mh:Addr
 gl:Addr
 gh:Addr
 k:Nat
 m:Int
 t:Int
 u:Int
 t':Int
 u':Int
structure Sx.Hx(H:Hp)(ps:List (List Int))(x:Sx):Prop where
 hs:H x.s=some (.tup [.ref x.ml,.ref x.mh])
 hl:H x.ml=some (.tup [.ref x.gl,.int ((cg 0 (eV x.t x.u ps):Nat):Int)])
 hh:H x.mh=some (.tup [.ref x.gh,.int ((cg 0 (eV x.t' x.u' ps):Nat):Int)])
 rl:Rt H x.gl x.t x.u
 rh:Rt H x.gh x.t' x.u'
structure Sx.Px(o b:Int)(x:Sx):Prop where
 pl:Pt o x.k x.m x.t x.u
 ph:Pt o x.k (x.m+2*b) x.t' x.u'
 lo:-(b*2^x.k)<=x.m
 hi:x.m+2*b<=b*2^x.k
 Gz:x.k<=5700
structure Fx where
 p:Addr
 gl:Addr
 gh:Addr
 t:Int
 u:Int
 t':Int
 u':Int
structure Fx.Hx(H:Hp)(f:Fx):Prop where
 hp:H f.p=some (.tup [.ref f.gl,.ref f.gh])
 rl:Rt H f.gl f.t f.u
 rh:Rt H f.gh f.t' f.u'
structure Fx.Px(xs:List Int)(ps:List (List Int))(f:Fx):Prop where
 sgn:sg (hv f.t f.u xs)*sg (hv f.t' f.u' xs)=-1
 one:cg 0 (eV f.t f.u ps)=cg 0 (eV f.t' f.u' ps)+1
 bt:Bd 6000 f.t
 bu:Bd 6000 f.u
 y9:Bd 6000 f.t'
 wz:Bd 6000 f.u'
noncomputable def Sx.iv(x:Sx):Rat×Rat:=((x.t:Rat)/(x.u:Rat),(x.t':Rat)/(x.u':Rat))
noncomputable def Fx.iv(x:Fx):Rat×Rat:=((x.t:Rat)/(x.u:Rat),(x.t':Rat)/(x.u':Rat))
noncomputable def Fx.nums(x:Fx):Q4:=(x.t,x.u,x.t',x.u')
noncomputable def GA(ps:List (List Int))(t u t' u':Int):Int:=((cg 0 (eV t u ps):Nat):Int)-((cg 0 (eV t' u' ps):Nat):Int)
noncomputable def Sx.il(ps:List (List Int))(x:Sx):List Q4:=kE (GA ps) (5701-x.k) x.t x.u x.t' x.u'
noncomputable def Xu(l:List (Rat×Rat)):Prop:=l.Pairwise (fun p q=>p.2<=q.1)/\∀p∈l,p.1<p.2
noncomputable def wt(ws:List Sx):Nat:=(ws.map fun x=>2^(5701-x.k)-1).sum
noncomputable def Ko(ps:List (List Int))(ws:List Sx):Nat:=(ws.map fun x=>cg 0 (eV x.t x.u ps)-cg 0 (eV x.t' x.u' ps)).sum
structure Fl(xs:List Int)(ps:List (List Int))(o b t u t' u':Int)(fs:List Fx):Prop where
 pre:wu xs
 xv:Gy xs ps
 ends:Ends xs o b t u t' u'
 hu:0<u
 dS:0<u'
 px:∀f∈fs,f.Px xs ps
 R':Xu (fs.map Fx.iv)
 cnt:fs.length+cg 0 (eV t' u' ps)=cg 0 (eV t u ps)
 low:Int.gcd t u=1/\Int.gcd t' u'=1
 iso:fs.map Fx.nums=kE (GA ps) 5701 t u t' u'
theorem Sx.Px.lt{o b:Int}{x:Sx}(h:x.Px o b)(ho:0<o)(hb:0<b)(hu:0<x.u)(dS:0<x.u'):(x.t:Rat)/(x.u:Rat)<(x.t':Rat)/(x.u':Rat):=by
 rw[h.pl.val ho hu,h.ph.val ho dS];have hz:(0:Rat)<2^x.k:=Rat.pow_pos (by grind);have hb':(0:Rat)<(b:Rat):=Rat.intCast_pos.mpr hb;have Pg:(((x.m+2*b:Int)):Rat)=(x.m:Rat)+2*(b:Rat):=by rw[Rat.intCast_add,Rat.intCast_mul];rfl
 rw[Pg];have d1:(x.m:Rat)/2^x.k*2^x.k=(x.m:Rat):=Rat.div_mul_cancel (by grind);have d2:((x.m:Rat)+2*(b:Rat))/2^x.k*2^x.k=(x.m:Rat)+2*(b:Rat):=Rat.div_mul_cancel (by grind);generalize ((x.m:Rat)+2*(b:Rat))/2^x.k=y2 at*;generalize (x.m:Rat)/2^x.k=y1 at*;have key:y1*2^x.k<y2*2^x.k:=by grind
 have:=(Rat.mul_lt_mul_right hz).mp key;grind
theorem Sx.Hx.upd{H:Hp}{ps:List (List Int)}{x:Sx}(h:x.Hx H ps){l:Addr}{ys:List V}(hl:H l=some (.lst ys))(o:HO):x.Hx (L2.upd H l o) ps:=by
 have key:∀(c:Addr)(vs:List V),H c=some (.tup vs)->L2.upd H l o c=some (.tup vs):=fun c vs z=>by
  rw[aq (fun w=>by rw[w,hl] at z;cases z)];exact z
 exact⟨key _ _ h.hs,key _ _ h.hl,key _ _ h.hh,⟨key _ _ h.rl.1,h.rl.2⟩,⟨key _ _ h.rh.1,h.rh.2⟩⟩
theorem Fx.Hx.upd{H:Hp}{x:Fx}(h:x.Hx H){l:Addr}{ys:List V}(hl:H l=some (.lst ys))(o:HO):x.Hx (L2.upd H l o):=by
 have key:∀(c:Addr)(vs:List V),H c=some (.tup vs)->L2.upd H l o c=some (.tup vs):=fun c vs z=>by
  rw[aq (fun w=>by rw[w,hl] at z;cases z)];exact z
 exact⟨key _ _ h.hp,⟨key _ _ h.rl.1,h.rl.2⟩,⟨key _ _ h.rh.1,h.rh.2⟩⟩
theorem Sx.Hx.same{H H':Hp}{ps:List (List Int)}{x:Sx}(h:x.Hx H ps)(s:av H H'):x.Hx H' ps:=⟨s _ _ h.hs,s _ _ h.hl,s _ _ h.hh,h.rl.same s,h.rh.same s⟩
theorem Fx.Hx.same{H H':Hp}{x:Fx}(h:x.Hx H)(s:av H H'):x.Hx H':=⟨s _ _ h.hp,h.rl.same s,h.rh.same s⟩
theorem Kp:∀(l:List Int)(b:Int),cg b l<=l.length
 |[],_=>Nat.le_refl _
 |x::r,b=>by
  have:=Kp r (if x≠0 then x else b);show(if x*b<0 then 1 else 0)+cg (if x≠0 then x else b) r<=r.length+1;split<;>lia
theorem Kq{n:Nat}(h:n<=10000):n<=sizeLine:=Nat.le_trans h (by unfold sizeLine;decide)
theorem mv{H3 H:Hp}{l:Addr}(s:av H3 H)(hl:H3 l=none)(o:HO):av H3 (L2.upd H l o):=fun c o' z=>by
 rw[aq (aL z hl)];exact s _ _ z
theorem uj(ws:List Sx)(x:Sx):wt (ws++[x])=wt ws+(2^(5701-x.k)-1):=by
 unfold wt;rw[List.map_append,List.sum_append];simp
theorem qm(ps:List (List Int))(ws:List Sx)(x:Sx):Ko ps (ws++[x])=Ko ps ws+(cg 0 (eV x.t x.u ps)-cg 0 (eV x.t' x.u' ps)):=by
 unfold Ko;rw[List.map_append,List.sum_append];simp
noncomputable def Fm:Sp:=fun vs H Q _=>∃(a:Addr)(xs:List Int),vs=[.ref a]/\IL H a xs/\(Cw xs/\wu (vD xs)/\xs.length<=13)/\
 ∀(r:Addr)(fs:List Fx)(ps:List (List Int))(o b t u t' u':Int)(H':Hp),av H H'->H r=none->H' r=some (.lst (fs.map fun f=>V.ref f.p))->(∀f∈fs,f.Hx H')->Fl (vD xs) ps o b t u t' u' fs->fs.length<=60->Q (.ref r) H'
noncomputable def Bl:Sp:=fun vs H Q _=>∃(a:Addr)(xs:List Int),vs=[.ref a]/\IL H a xs/\Q (.int ((xs.length:Int)-1)) H
section
variable {P:Program} {w:World} {K:PySem.W.Frag} {mg:Str->Option Value} {base:Heap}
theorem CB(T:Nm mg)(D:aH K mg "degree" pY ["poly"]):aT P w K mg base 1 "degree" ["poly"] Bl:=by
 refine D.ok Cr (fun vs H Q E h=>?_) (fun f bM A outer s H vs Q E hr h=>?_)
 ·obtain⟨a,xs,rfl,_⟩:=h;rfl
 obtain⟨a,xs,rfl,ha,q⟩:=h;have ex:(xs.map V.int).length=xs.length:=List.length_map _;refine⟨_,(ah (ax (ao bq (aI aV rfl T.gf boot_len (aa (pv 0) ag)) af))),?_⟩;walk_at "sf";refine⟨a,_,rfl,.inl (aW.of ha),?_⟩;walk_at "sf";rw[ex];exact q
theorem wH(T:Nm mg){uG:Value}(gP:mg "GREATEST_DEGREE"=some uG/\RelV (.int 12) uG)(jS:aT P w K mg base 36 "degree" ["poly"] Bl)(eC:aT P w K mg base 36 "square_free" ["poly"] (C_ vD Cw))(y_:aT P w K mg base 36 "chain_of" ["free"] Bf)(mw:aT P w K mg base 36 "pair_around_all" ["free"] wD)(qo:aT P w K mg base 36 "marked" ["chain","given"] Fi)(Fn:aT P w K mg base 36 "middle" ["one","other"] Km)(D:aH K mg "isolated" kM ["poly"]):aT P w K mg base 37 "isolated" ["poly"] Fm:=by
 refine D.ok bX (fun vs H Q E h=>?_) (fun f bM A outer s H vs Q E hr h=>?_)
 ·obtain⟨a,xs,rfl,_⟩:=h;rfl
 obtain⟨a,xs,rfl,ha,⟨prs,Iq,lx⟩,q⟩:=h;refine⟨_,(ae (bB (ay fo (ar jS hr (aa (pv 0) ag)) (zT rfl gP.1 gP.2) (aE _))
  (ah uW)
  aM)
  (ae (aj (i:=1) bX.nd rfl (Or.inl rfl) (ar eC hr (aa (pv 0) ag)))
  (ae (aj (i:=2) bX.nd rfl (Or.inl rfl) (ar y_ hr (aa (pv 1) ag)))
  (ae (aj (i:=3) bX.nd rfl (Or.inl rfl) (ar mw hr (aa (pv 1) ag)))
  (ae (aj (i:=4) bX.nd rfl (Or.inl rfl) (cQ (aa (cy (aa (ar qo hr (aa (pv 2) (aa (aD aA (pv 3) af (fun _ _=>rfl)) ag))) (aa (ar qo hr (aa (pv 2) (aa (aD aA (pv 3) af (fun _ _=>rfl)) ag))) ag))) ag)))
  (ae (aj (i:=5) bX.nd rfl (Or.inl rfl) (cQ ag))
  (ae (cN PassesOwn.never (fQ (pv 4) (fun _=>rfl))
  (ae (aj (i:=6) bX.nd rfl (Or.inl rfl) (xT PySem.F.plainAttrs_list PySem.F.slot_list_pop PySem.F.type_list_pop xV (pv 4)))
  (ae (aj (i:=7) bX.nd rfl (Or.inl rfl) (aD aA (pv 6) af (fun _ _=>rfl)))
  (ae (aj (i:=8) bX.nd rfl (Or.inl rfl) (aD aA (pv 6) af (fun _ _=>rfl)))
  (ae (aj (i:=9) bX.nd rfl (Or.inl rfl) (ao bq (aD aA (pv 7) af (fun _ _=>rfl)) (aD aA (pv 8) af (fun _ _=>rfl))))
  (ae (bB (ay f_ (pv 9) af (aE _))
  (ah (jZ (nF PySem.F.plainAttrs_list PySem.F.slot_list_append PySem.F.type_list_append fv (pv 5) (aa (cy (aa (aD aA (pv 7) af (fun _ _=>rfl)) (aa (aD aA (pv 8) af (fun _ _=>rfl)) ag))) ag))))
  aM)
  (ah (bB (ay fo (pv 9) af (aE _))
  (ae (aj (i:=10) bX.nd rfl (Or.inl rfl) (ar qo hr (aa (pv 2) (aa (ar Fn hr (aa (aD aA (pv 7) af (fun _ _=>rfl)) (aa (aD aA (pv 8) af (fun _ _=>rfl)) ag))) ag))))
  (ae (jZ (nF PySem.F.plainAttrs_list PySem.F.slot_list_append PySem.F.type_list_append fv (pv 4) (aa (cy (aa (pv 10) (aa (pv 8) ag))) ag)))
  (ah (jZ (nF PySem.F.plainAttrs_list PySem.F.slot_list_append PySem.F.type_list_append fv (pv 4) (aa (cy (aa (pv 7) (aa (pv 10) ag))) ag))))))
  aM))))))))
  (ah (ax (pv 5)))))))))),?_⟩;walk_at "sf";refine⟨a,xs,rfl,ha,?_⟩;walk_at "sf";rw[if_neg (by simp;lia)];walk_at "sf";refine⟨a,xs,rfl,ha,prs,fun p1 H1 s1 h1=>?_⟩;walk_at "sf";refine⟨p1,_,rfl,h1,Iq,fun c as ps H2 s2 hc hi xv=>?_⟩;have eT:=s1.trans s2;walk_at "sf";generalize NW:vD xs=ys at*;obtain⟨yt,yn,yl,ya,ysf⟩:=id Iq;refine⟨p1,ys,rfl,s2 _ _ h1,⟨yt,yn,yl,ya⟩,fun pp g1 g2 o b t u t' u' H3 s3 x8 r1 r2 en=>?_⟩;have Xv:=eT.trans s3;have AL:=s3 _ _ hc;have Ve:sj H3 as ps:=hi.map fun a p z=>s3 _ _ z;obtain⟨e1,e2,e3,bo,bb,aah,elo,ehi,_⟩:=id en;have NX:Pt o 0 (-b) t u:=by unfold Pt;rw[Int.pow_zero,Int.mul_one,elo];grind
 have NY:Pt o 0 (-b+2*b) t' u':=by unfold Pt;rw[Int.pow_zero,Int.mul_one,ehi];grind
 obtain⟨bt,bu⟩:=NX.bits (by lia) r1.2.1 r1.2.2 bo bb (by rw[Int.pow_zero];lia) (by rw[Int.pow_zero];lia);obtain⟨y9,wz⟩:=NY.bits (by lia) r2.2.1 r2.2.2 bo bb (by rw[Int.pow_zero];lia) (by rw[Int.pow_zero];lia);walk_at "sf";refine aG (bL.of x8) rfl ?_;walk_at "sf";refine⟨c,g1,as,ps,t,u,210,rfl,AL,Ve,r1.1,⟨xv.Gz,xv.cnt,bt,bu,by decide⟩,fun m1 H4 s4 PM=>?_⟩;walk_at "sf";refine aG (bL.of (s4 _ _ x8)) rfl ?_;walk_at "sf";refine⟨c,g2,as,ps,t',u',210,rfl,s4 _ _ AL,Ve.map fun a p z=>s4 _ _ z,(r2.same s4).1,⟨xv.Gz,xv.cnt,y9,wz,by decide⟩,fun m2 H5 s5 UQ=>?_⟩;walk_at "sf";intro s0 hs0;have s6:=av.new hs0 (.tup [.ref m1,.ref m2]);have Xw:upd H5 s0 (.tup [.ref m1,.ref m2]) s0=some (.tup [.ref m1,.ref m2]):=ai;generalize upd H5 s0 (.tup [.ref m1,.ref m2])=H6 at s6 Xw ⊢;walk_at "sf";intro pw NJ;walk_at "sf";intro pf Sa;have Qw:=s4.trans (s5.trans s6);have MJ:H3 pw=none:=Qw.free NJ;have s7:=av.new NJ (.lst [.ref s0]);have Vf:H6 pf=none:=s7.free Sa;have Qx:H3 pf=none:=Qw.free Vf;have Qy:pw≠pf:=fun z=>by
  rw[<-z,ai] at Sa;cases Sa
 have s8:=av.new Sa (.lst []);let x0:Sx:=⟨s0,m1,m2,g1,g2,0,-b,t,u,t',u'⟩;have X0:Sx.Hx (upd (upd H6 pw (.lst [.ref s0])) pf (.lst [])) ps x0:=
  ⟨s8 _ _ (s7 _ _ Xw),s8 _ _ (s7 _ _ (s6 _ _ (s5 _ _ PM))),s8 _ _ (s7 _ _ (s6 _ _ UQ)),r1.same (Qw.trans (s7.trans s8)),r2.same (Qw.trans (s7.trans s8))⟩
 have Xx:upd (upd H6 pw (.lst [.ref s0])) pf (.lst []) pw=some (.lst ([x0].map fun x=>V.ref x.s)):=by rw[aq Qy,ai];rfl
 have Xy:upd (upd H6 pw (.lst [.ref s0])) pf (.lst []) pf=some (.lst (([]:List Fx).map fun x=>V.ref x.p)):=ai;have Xz:=Qw.trans (s7.trans s8);generalize upd (upd H6 pw (.lst [.ref s0])) pf (.lst [])=H8 at X0 Xx Xy Xz ⊢;walk_at "sf";have hbz:∀k:Nat,b*2^(k+1)=2*(b*2^k):=fun k=>by rw[Int.pow_succ];grind
 refine cC (fun m σ H'=>∃(ws:List Sx)(fs:List Fx)(z6 z7 z8 z9 XC:Option V),m=wt ws/\σ=[some (.ref a),some (.ref p1),some (.ref c),some (.ref pp),some (.ref pw),some (.ref pf),z6,z7,z8,z9,XC]/\
  av H3 H'/\H' pw=some (.lst (ws.map fun x=>V.ref x.s))/\H' pf=some (.lst (fs.map fun x=>V.ref x.p))/\(∀x∈ws,x.Hx H' ps)/\(∀x∈ws,x.Px o b)/\(∀f∈fs,f.Hx H')/\(∀f∈fs,f.Px ys ps)/\
  (∀(i:Nat)(x:Sx),ws[i]?=some x->i<=x.k)/\fs.length+Ko ps ws+cg 0 (eV t' u' ps)=cg 0 (eV t u ps)/\Xu (fs.map Fx.iv++ws.reverse.map Sx.iv)/\fs.map Fx.nums++ws.reverse.flatMap (Sx.il ps)=kE (GA ps) 5701 t u t' u')
  ⟨_,[x0],[],_,_,_,_,_,rfl,rfl,Xz,Xx,Xy,?_,?_,fun f hf=>(nomatch hf),fun f hf=>(nomatch hf),?_,?_,?_,?_⟩ ?_
 ·intro x hx;rw[List.mem_singleton.mp hx];exact X0
 ·intro x hx;rw[List.mem_singleton.mp hx];exact⟨NX,NY,by show -(b*2^0)<=-b;rw[Int.pow_zero];lia,by show -b+2*b<=b*2^0;rw[Int.pow_zero];lia,by show 0<=5700;lia⟩
 ·intro i x NS;have:i=0:=by
   have:=(List.getElem?_eq_some_iff.mp NS).1;simp at this;exact this
  rw[this];exact Nat.zero_le _
 ·have MK:=Rat.le_of_lt (Sx.Px.lt (x:=x0) (o:=o) (b:=b) ⟨NX,NY,by show -(b*2^0)<=-b;rw[Int.pow_zero];lia,by show -b+2*b<=b*2^0;rw[Int.pow_zero];lia,by show 0<=5700;lia⟩ (by lia) bb.1 r1.2.1 r2.2.1);have RK:cg 0 (eV t' u' ps)<=cg 0 (eV t u ps):=xv.mono Iq r1.2.1 r2.2.1 MK;show 0+((cg 0 (eV t u ps)-cg 0 (eV t' u' ps))+0)+cg 0 (eV t' u' ps)=cg 0 (eV t u ps);generalize cg 0 (eV t u ps)=q1 at RK ⊢;generalize cg 0 (eV t' u' ps)=q2 at RK ⊢;lia
 ·have MK:=(Sx.Px.lt (x:=x0) (o:=o) (b:=b) ⟨NX,NY,by show -(b*2^0)<=-b;rw[Int.pow_zero];lia,by show -b+2*b<=b*2^0;rw[Int.pow_zero];lia,by show 0<=5700;lia⟩ (by lia) bb.1 r1.2.1 r2.2.1);refine⟨List.pairwise_singleton _ _,fun p hp=>?_⟩;rw[List.mem_singleton.mp hp];exact MK
 ·rw[List.map_nil,List.nil_append,List.reverse_singleton,List.flatMap_cons,List.flatMap_nil,List.append_nil];rfl
 rintro m σ H' ⟨ws,fs,z6,z7,z8,z9,XC,rfl,rfl,sH,hw,hf,hX,pX,hF,pF,Ir,Vg,y',NZ⟩;have RP:cg 0 (eV t u ps)<=60:=by
  have h1:=Kp (eV t u ps) 0;have h2:(eV t u ps).length=ps.length:=List.length_map _;have h3:=xv.cnt;lia
 walk_at "sf";refine⟨_,.inl ⟨_,aW.of hw,rfl⟩,?_⟩;rcases List.eq_nil_or_concat ws with ew|⟨eD,x,ew⟩
 ·subst ew;walk_at "sf";rw[if_neg (by decide)];walk_at "sf";subst NW;refine q pf fs ps o b t u t' u' H' (Xv.trans sH) (Xv.free Qx) hf hF ⟨Iq,xv,en,r1.2.1,r2.2.1,pF,?_,?_,⟨r1.2.2,r2.2.2⟩,?_⟩ ?_
  ·have e:fs.map Fx.iv++([]:List Sx).reverse.map Sx.iv=fs.map Fx.iv:=by simp
   rw[e] at y';exact y'
  ·have:Ko ps []=0:=rfl;lia
  ·rw[List.reverse_nil,List.flatMap_nil,List.append_nil] at NZ;exact NZ
  ·have:Ko ps []=0:=rfl;lia
 rw[List.concat_eq_append] at ew;subst ew;have XD:x∈eD++[x]:=List.mem_append_right _ List.mem_cons_self;have hx:=hX x XD;have px:=pX x XD;have hkx:eD.length<=x.k:=Ir eD.length x (by rw[List.getElem?_append_right (Nat.le_refl _)];simp);rw[uj];rw[qm] at Vg;have XE:=px.lt (by lia) bb.1 hx.rl.2.1 hx.rh.2.1;have XF:=xv.mono Iq hx.rl.2.1 hx.rh.2.1 (Rat.le_of_lt XE);have hk5:=px.Gz;have hmx:x.m<=b*2^x.k:=by have:=px.hi;lia
 have Vh:-(b*2^x.k)<=x.m+2*b:=by have:=px.lo;lia
 obtain⟨XG,XH⟩:=px.pl.bits (by lia) hx.rl.2.1 hx.rl.2.2 bo bb px.lo hmx;obtain⟨QC,QD⟩:=px.ph.bits (by lia) hx.rh.2.1 hx.rh.2.2 bo bb Vh px.hi;have QE:1<=2^(5701-x.k)-1:=by
  have:2^1<=2^(5701-x.k):=Nat.pow_le_pow_right (by decide) (by lia);lia
 rw[if_pos (by simp)];refine⟨_,fun bJ H' h=>h,?_⟩;walk_at "sf";have XI:(eD++[x]).map (fun x=>V.ref x.s)=eD.map (fun x=>V.ref x.s)++[V.ref x.s]:=by rw[List.map_append];rfl
 refine⟨_,rfl,.inl ⟨rfl,_,aW.of hw⟩,pw,_,V.ref x.s,rfl,rfl,hw,by rw[XI];simp,?_⟩;have edl:((eD++[x]).map (fun x=>V.ref x.s)).dropLast=eD.map (fun x=>V.ref x.s):=by rw[XI];simp
 have n1:=mv sH MJ (.lst ((eD++[x]).map (fun x=>V.ref x.s)).dropLast);have CC:upd H' pw (.lst ((eD++[x]).map (fun x=>V.ref x.s)).dropLast) pw=some (.lst (eD.map (fun x=>V.ref x.s))):=by rw[ai,edl]
 have yh:upd H' pw (.lst ((eD++[x]).map (fun x=>V.ref x.s)).dropLast) pf=some (.lst (fs.map fun x=>V.ref x.p)):=by rw[aq (Ne.symm Qy)];exact hf
 have nQ:=hx.upd hw (.lst ((eD++[x]).map (fun x=>V.ref x.s)).dropLast);have Sd:∀y∈eD,y.Hx (upd H' pw (.lst ((eD++[x]).map (fun x=>V.ref x.s)).dropLast)) ps:=fun y hy=>(hX y (List.mem_append_left _ hy)).upd hw _;have Se:∀y∈fs,y.Hx (upd H' pw (.lst ((eD++[x]).map (fun x=>V.ref x.s)).dropLast)):=fun y hy=>(hF y hy).upd hw _;generalize upd H' pw (.lst ((eD++[x]).map (fun x=>V.ref x.s)).dropLast)=H9 at n1 CC yh nQ Sd Se ⊢;walk_at "sf";refine aG (bL.of nQ.hs) rfl ?_;walk_at "sf";refine aG (bL.of nQ.hs) rfl ?_;walk_at "sf";refine aG (bL.of nQ.hl) rfl ?_;walk_at "sf";refine aG (bL.of nQ.hh) rfl ?_;walk_at "sf";generalize C9:cg 0 (eV x.t x.u ps)=cl at*;generalize xA:cg 0 (eV x.t' x.u' ps)=ch at*;have Vi:(eD++[x]).reverse.map Sx.iv=x.iv::eD.reverse.map Sx.iv:=by rw[List.reverse_append];rfl
 rw[Vi] at y';have erw:(eD++[x]).reverse=x::eD.reverse:=by rw[List.reverse_append];rfl
 rw[erw,List.flatMap_cons] at NZ;obtain⟨kn,hkn⟩:∃kn,5701-x.k=kn+1:=⟨5700-x.k,by lia⟩;have Vj:x.il ps=kE (GA ps) (kn+1) x.t x.u x.t' x.u':=by unfold Sx.il;rw[hkn]
 have Sf:GA ps x.t x.u x.t' x.u'=(cl:Int)-ch:=by unfold GA;rw[C9,xA]
 refine dI (fun c1=>?_) (fun c1=>?_)
 ·have h1:(cl:Int)-ch=1:=by simpa using c1
  walk_at "sf";refine⟨_,rfl,.inl ⟨rfl,_,aW.of yh⟩,?_⟩;walk_at "sf";refine aG (bL.of nQ.hl) rfl ?_;walk_at "sf";refine aG (bL.of nQ.hh) rfl ?_;walk_at "sf";intro pn tZ;have sn:=av.new tZ (.tup [.ref x.gl,.ref x.gh]);have Hs:upd H9 pn (.tup [.ref x.gl,.ref x.gh]) pn=some (.tup [.ref x.gl,.ref x.gh]):=ai;have N0:=sn _ _ yh;generalize upd H9 pn (.tup [.ref x.gl,.ref x.gh])=C6 at sn Hs N0 ⊢;walk_at "sf";have XJ:fs.length<=60:=by lia
  refine⟨pf,_,_,rfl,rfl,N0,by rw[List.length_map];exact fw (by lia),?_⟩;let f0:Fx:=⟨pn,x.gl,x.gh,x.t,x.u,x.t',x.u'⟩;have F0:Fx.Hx C6 f0:=⟨Hs,nQ.rl.same sn,nQ.rh.same sn⟩;have n2:=n1.trans sn;have Sg:=sn _ _ CC;have hFa:∀y∈fs++[f0],y.Hx C6:=fun y hy=>by
   rcases List.mem_append.mp hy with z|z
   ·exact(Se y z).same sn
   ·rw[List.mem_singleton.mp z];exact F0
  have emp:fs.map (fun x=>V.ref x.p)++[V.ref pn]=(fs++[f0]).map (fun x=>V.ref x.p):=by rw[List.map_append];rfl
  have n3:=mv n2 Qx (.lst (fs.map (fun x=>V.ref x.p)++[V.ref pn]));have Iu:upd C6 pf (.lst (fs.map (fun x=>V.ref x.p)++[V.ref pn])) pw=some (.lst (eD.map (fun x=>V.ref x.s))):=by rw[aq Qy];exact Sg
  have XM:upd C6 pf (.lst (fs.map (fun x=>V.ref x.p)++[V.ref pn])) pf=some (.lst ((fs++[f0]).map fun x=>V.ref x.p)):=by rw[ai,emp]
  have XN:∀y∈fs++[f0],y.Hx (upd C6 pf (.lst (fs.map (fun x=>V.ref x.p)++[V.ref pn]))):=fun y hy=>(hFa y hy).upd N0 _;have XO:∀y∈eD,y.Hx (upd C6 pf (.lst (fs.map (fun x=>V.ref x.p)++[V.ref pn]))) ps:=fun y hy=>((Sd y hy).same sn).upd N0 _;generalize upd C6 pf (.lst (fs.map (fun x=>V.ref x.p)++[V.ref pn]))=Kr at n3 Iu XM XN XO ⊢;walk_at "sf";rw[if_neg (by simp;lia)];walk_at "sf";have one:cg 0 (eV x.t x.u ps)=cg 0 (eV x.t' x.u' ps)+1:=by rw[C9,xA];lia
  have nr1:hv x.t x.u ys≠0:=AZ yn hx.rl.2.2 (px.pl.odd e1) e3;have nr2:hv x.t' x.u' ys≠0:=AZ yn hx.rh.2.2 (px.ph.odd e1) e3;have hsg:=xv.signs Iq hx.rl.2.1 hx.rh.2.1 (Rat.le_of_lt XE) nr1 nr2 one;refine⟨_,Nat.lt_of_lt_of_le (Nat.lt_succ_self _) (Nat.add_le_add_left QE _),eD,fs++[f0],_,_,_,_,_,rfl,rfl,n3,Iu,XM,XO,fun y hy=>pX y (List.mem_append_left _ hy),XN,?_,?_,?_,?_,?_⟩
  ·intro y hy;rcases List.mem_append.mp hy with z|z
   ·exact pF y z
   ·rw[List.mem_singleton.mp z];exact⟨hsg,one,XG.mono (by lia),XH.mono (by lia),QC.mono (by lia),QD.mono (by lia)⟩
  ·intro i y hy;exact Ir i y (by rw[List.getElem?_append_left (List.getElem?_eq_some_iff.mp hy).1];exact hy)
  ·rw[List.length_append];show fs.length+1+Ko ps eD+_=_;lia
  ·have e:(fs++[f0]).map Fx.iv++eD.reverse.map Sx.iv=fs.map Fx.iv++x.iv::eD.reverse.map Sx.iv:=by rw[List.map_append,List.append_assoc];rfl
   rw[e];exact y'
  ·rw[<-NZ,Vj,Ez (by rw[Sf];exact h1),List.map_append,List.append_assoc];rfl
 ·have h1:¬(cl:Int)-ch=1:=by simpa using c1
  walk_at "sf";refine dI (fun c2=>?_) (fun c2=>?_)
  ·have h2:1<(cl:Int)-ch:=by simpa using c2
   have aai:x.k<5700:=by
    rcases Nat.lt_or_ge x.k 5700 with z|z
    ·exact z
    ·exfalso;have:=xv.short Iq (by lia) bb hx.rl.2.1 hx.rh.2.1 px.pl px.ph px.lo px.hi z;rw[C9,xA] at this;lia
   walk_at "sf";refine aG (bL.of nQ.hl) rfl ?_;walk_at "sf";refine aG (bL.of nQ.hh) rfl ?_;walk_at "sf";refine⟨x.gl,x.gh,x.t,x.u,x.t',x.u',x.k+210,rfl,nQ.rl.1,nQ.rh.1,⟨XG,XH,QC,QD⟩,by lia,nQ.rl.2.1,nQ.rh.2.1,fun gm tm um hgm ML R7 QF=>?_⟩;have Vk:=av.new hgm (.tup [.int tm,.int um]);have MM:upd H9 gm (.tup [.int tm,.int um]) gm=some (.tup [.int tm,.int um]):=ai;generalize upd H9 gm (.tup [.int tm,.int um])=C6 at Vk MM ⊢;have n2:=n1.trans Vk;have Vl:Pt o (x.k+1) (x.m+(x.m+2*b)) tm um:=px.pl.mid px.ph hx.rl.2.1 hx.rh.2.1 QF;have Z4:=hbz x.k;have plo:=px.lo;have phi:=px.hi;obtain⟨bm1,bm2⟩:=Vl.bits (by lia) ML R7 bo bb (by lia) (by lia);walk_at "sf";refine⟨c,gm,as,ps,tm,um,x.k+1+210,rfl,n2 _ _ AL,Ve.map fun a p z=>n2 _ _ z,MM,⟨xv.Gz,xv.cnt,bm1,bm2,by lia⟩,fun mm Kr sm hmm=>?_⟩;have rgm:Rt Kr gm tm um:=⟨sm _ _ MM,ML,R7⟩;have wI:=Vk.trans sm;have n3:=n2.trans sm;have Sg:=wI _ _ CC;have N0:=wI _ _ yh;have NT:=nQ.same wI;have hX2:∀y∈eD,y.Hx Kr ps:=fun y hy=>(Sd y hy).same wI;have hF2:∀y∈fs,y.Hx Kr:=fun y hy=>(Se y hy).same wI;walk_at "sf";refine⟨_,rfl,.inl ⟨rfl,_,aW.of Sg⟩,?_⟩;walk_at "sf";intro sa hsa;have sn:=av.new hsa (.tup [.ref mm,.ref x.mh]);have Hs:upd Kr sa (.tup [.ref mm,.ref x.mh]) sa=some (.tup [.ref mm,.ref x.mh]):=ai;generalize upd Kr sa (.tup [.ref mm,.ref x.mh])=Ks at sn Hs ⊢;walk_at "sf";have lws:eD.length<=5700:=by lia
   have Iu:=sn _ _ Sg;refine⟨pw,_,_,rfl,rfl,Iu,by rw[List.length_map];exact Kq (by lia),?_⟩;let xa:Sx:=⟨sa,mm,x.mh,gm,x.gh,x.k+1,x.m+(x.m+2*b),tm,um,x.t',x.u'⟩;have XA:xa.Hx Ks ps:=⟨Hs,sn _ _ hmm,sn _ _ NT.hh,rgm.same sn,NT.rh.same sn⟩;have eup:x.m+(x.m+2*b)+2*b=2*(x.m+2*b):=by lia
   have Vm:2*x.m+2*b=x.m+(x.m+2*b):=by lia
   have PA:xa.Px o b:=⟨Vl,by show Pt o (x.k+1) (x.m+(x.m+2*b)+2*b) x.t' x.u';rw[eup];exact px.ph.up,by show -(b*2^(x.k+1))<=x.m+(x.m+2*b);lia,by show x.m+(x.m+2*b)+2*b<=b*2^(x.k+1);lia,by show x.k+1<=5700;lia⟩;have n4:=n3.trans sn;have emp:eD.map (fun x=>V.ref x.s)++[V.ref sa]=(eD++[xa]).map (fun x=>V.ref x.s):=by rw[List.map_append];rfl
   have n5:=mv n4 MJ (.lst (eD.map (fun x=>V.ref x.s)++[V.ref sa]));have Vn:upd Ks pw (.lst (eD.map (fun x=>V.ref x.s)++[V.ref sa])) pw=some (.lst ((eD++[xa]).map (fun x=>V.ref x.s))):=by rw[ai,emp]
   have XQ:upd Ks pw (.lst (eD.map (fun x=>V.ref x.s)++[V.ref sa])) pf=some (.lst (fs.map fun x=>V.ref x.p)):=by rw[aq (Ne.symm Qy)];exact sn _ _ N0
   have XR:∀y∈fs,y.Hx (upd Ks pw (.lst (eD.map (fun x=>V.ref x.s)++[V.ref sa]))):=fun y hy=>((hF2 y hy).same sn).upd Iu _;have XS:∀y∈eD++[xa],y.Hx (upd Ks pw (.lst (eD.map (fun x=>V.ref x.s)++[V.ref sa]))) ps:=fun y hy=>by
    rcases List.mem_append.mp hy with z|z
    ·exact((hX2 y z).same sn).upd Iu _
    ·rw[List.mem_singleton.mp z];exact XA.upd Iu _
   have Vo:=(NT.same sn).upd Iu (.lst (eD.map (fun x=>V.ref x.s)++[V.ref sa]));have Vp:=XA.upd Iu (.lst (eD.map (fun x=>V.ref x.s)++[V.ref sa]));generalize upd Ks pw (.lst (eD.map (fun x=>V.ref x.s)++[V.ref sa]))=Vq at n5 Vn XQ XR XS Vo Vp ⊢;walk_at "sf";refine⟨_,rfl,.inl ⟨rfl,_,aW.of Vn⟩,?_⟩;walk_at "sf";intro sb Jx;have so:=av.new Jx (.tup [.ref x.ml,.ref mm]);have Vd:upd Vq sb (.tup [.ref x.ml,.ref mm]) sb=some (.tup [.ref x.ml,.ref mm]):=ai;generalize upd Vq sb (.tup [.ref x.ml,.ref mm])=Fo at so Vd ⊢;walk_at "sf";have Sh:=so _ _ Vn;refine⟨pw,_,_,rfl,rfl,Sh,by rw[List.length_map,List.length_append];exact Kq (by show eD.length+1+1<=10000;lia),?_⟩;let xb:Sx:=⟨sb,x.ml,mm,x.gl,gm,x.k+1,2*x.m,x.t,x.u,tm,um⟩;have XB:xb.Hx Fo ps:=⟨Vd,so _ _ Vo.hl,so _ _ Vp.hl,Vo.rl.same so,Vp.rl.same so⟩;have PB:xb.Px o b:=⟨px.pl.up,by show Pt o (x.k+1) (2*x.m+2*b) tm um;rw[Vm];exact Vl,by show -(b*2^(x.k+1))<=2*x.m;lia,by show 2*x.m+2*b<=b*2^(x.k+1);lia,by show x.k+1<=5700;lia⟩;have Vr:(eD++[xa]).map (fun x=>V.ref x.s)++[V.ref sb]=(eD++[xa]++[xb]).map (fun x=>V.ref x.s):=by rw[List.map_append (l₁:=eD++[xa])];rfl
   have n6:=mv (n5.trans so) MJ (.lst ((eD++[xa]).map (fun x=>V.ref x.s)++[V.ref sb]));have Qq:upd Fo pw (.lst ((eD++[xa]).map (fun x=>V.ref x.s)++[V.ref sb])) pw=some (.lst ((eD++[xa]++[xb]).map (fun x=>V.ref x.s))):=by rw[ai,Vr]
   have XT:upd Fo pw (.lst ((eD++[xa]).map (fun x=>V.ref x.s)++[V.ref sb])) pf=some (.lst (fs.map fun x=>V.ref x.p)):=by rw[aq (Ne.symm Qy)];exact so _ _ XQ
   have XU:∀y∈fs,y.Hx (upd Fo pw (.lst ((eD++[xa]).map (fun x=>V.ref x.s)++[V.ref sb]))):=fun y hy=>((XR y hy).same so).upd Sh _;have XW:∀y∈eD++[xa]++[xb],y.Hx (upd Fo pw (.lst ((eD++[xa]).map (fun x=>V.ref x.s)++[V.ref sb]))) ps:=fun y hy=>by
    rcases List.mem_append.mp hy with z|z
    ·exact((XS y z).same so).upd Sh _
    ·rw[List.mem_singleton.mp z];exact XB.upd Sh _
   generalize upd Fo pw (.lst ((eD++[xa]).map (fun x=>V.ref x.s)++[V.ref sb]))=Si at n6 Qq XT XU XW ⊢;walk_at "sf";have XX:=PB.lt (by lia) bb.1 hx.rl.2.1 ML;have XY:=PA.lt (by lia) bb.1 ML hx.rh.2.1;have mb:cg 0 (eV tm um ps)<=cg 0 (eV x.t x.u ps):=xv.mono Iq hx.rl.2.1 ML (Rat.le_of_lt XX);have ma:cg 0 (eV x.t' x.u' ps)<=cg 0 (eV tm um ps):=xv.mono Iq ML hx.rh.2.1 (Rat.le_of_lt XY);refine⟨_,?_,eD++[xa]++[xb],fs,_,_,_,_,_,rfl,rfl,n6,Qq,XT,XW,?_,XU,pF,?_,?_,?_,?_⟩
   ·rw[uj,uj];show wt eD+(2^(5701-(x.k+1))-1)+(2^(5701-(x.k+1))-1)<wt eD+(2^(5701-x.k)-1);obtain⟨j,hj⟩:∃j,5701-x.k=j+1:=⟨5700-x.k,by lia⟩;have Xr:5701-(x.k+1)=j:=by lia
    rw[hj,Xr,Nat.pow_succ];have:=Nat.two_pow_pos j;lia
   ·intro y hy;rcases List.mem_append.mp hy with z|z
    ·rcases List.mem_append.mp z with z|z
     ·exact pX y (List.mem_append_left _ z)
     ·rw[List.mem_singleton.mp z];exact PA
    ·rw[List.mem_singleton.mp z];exact PB
   ·intro i y hy;rcases Nat.lt_trichotomy i eD.length with z|z|z
    ·refine Ir i y ?_;rw[List.append_assoc,List.getElem?_append_left z] at hy;rw[List.getElem?_append_left z];exact hy
    ·rw[List.append_assoc,List.getElem?_append_right (by lia)] at hy;have e0:i-eD.length=0:=by lia
     rw[e0] at hy;have:xa=y:=Option.some.inj hy;rw[<-this];show i<=x.k+1;lia
    ·rw[List.append_assoc,List.getElem?_append_right (by lia)] at hy;have sO:=(List.getElem?_eq_some_iff.mp hy).1;have e0:i-eD.length=1:=by
      simp at sO;lia
     rw[e0] at hy;have:xb=y:=Option.some.inj hy;rw[<-this];show i<=x.k+1;lia
   ·rw[qm,qm];show fs.length+(Ko ps eD+(cg 0 (eV tm um ps)-cg 0 (eV x.t' x.u' ps))+(cg 0 (eV x.t x.u ps)-cg 0 (eV tm um ps)))+_=_;rw[C9] at mb ⊢;rw[xA] at ma ⊢;lia
   ·have Vs:(eD++[xa]++[xb]).reverse.map Sx.iv=xb.iv::xa.iv::eD.reverse.map Sx.iv:=by rw[List.reverse_append,List.reverse_append];rfl
    rw[Vs];obtain⟨Vt,XZ⟩:=y';rw[List.pairwise_append,List.pairwise_cons] at Vt;obtain⟨pa1,⟨X2,pa3⟩,X3⟩:=Vt;have ia:xa.iv.2=x.iv.2:=rfl;have ib:xb.iv.1=x.iv.1:=rfl;have iab:xb.iv.2=xa.iv.1:=rfl;have la:xa.iv.1<xa.iv.2:=XY;have lb:xb.iv.1<xb.iv.2:=XX;refine⟨?_,fun p hp=>?_⟩
    ·rw[List.pairwise_append,List.pairwise_cons,List.pairwise_cons];refine⟨pa1,⟨fun y hy=>?_,fun y hy=>?_,pa3⟩,fun y hy z hz=>?_⟩
     ·rcases List.mem_cons.mp hy with e|e
      ·rw[e,iab];grind
      ·have:=X2 y e;grind
     ·rw[ia];exact X2 y hy
     ·have hyx:=X3 y hy x.iv List.mem_cons_self;rcases List.mem_cons.mp hz with e|e
      ·rw[e,ib];exact hyx
      ·rcases List.mem_cons.mp e with e|e
       ·rw[e];grind
       ·exact X3 y hy z (List.mem_cons_of_mem _ e)
    ·rcases List.mem_append.mp hp with z|z
     ·exact XZ p (List.mem_append_left _ z)
     ·rcases List.mem_cons.mp z with e|e
      ·rw[e];exact lb
      ·rcases List.mem_cons.mp e with e|e
       ·rw[e];exact la
       ·exact XZ p (List.mem_append_right _ (List.mem_cons_of_mem _ e))
   ·obtain⟨em1,em2⟩:=Ey hx.rl.2.1 hx.rh.2.1 ML R7 QF;have Vs:(eD++[xa]++[xb]).reverse=xb::xa::eD.reverse:=by rw[List.reverse_append,List.reverse_append];rfl
    have ek:5701-(x.k+1)=kn:=by lia
    have eb:xb.il ps=kE (GA ps) kn x.t x.u tm um:=by
     show kE (GA ps) (5701-(x.k+1)) x.t x.u tm um=_;rw[ek]
    have ea:xa.il ps=kE (GA ps) kn tm um x.t' x.u':=by
     show kE (GA ps) (5701-(x.k+1)) tm um x.t' x.u'=_;rw[ek]
    rw[<-NZ,Vj,EA (by rw[Sf];exact h2),Vs,List.flatMap_cons,List.flatMap_cons,eb,ea,<-em1,<-em2,List.append_assoc]
  ·have h2:¬1<(cl:Int)-ch:=by simpa using c2
   walk_at "sf";refine⟨_,Nat.lt_of_lt_of_le (Nat.lt_succ_self _) (Nat.add_le_add_left QE _),eD,fs,_,_,_,_,_,rfl,rfl,n1,CC,yh,Sd,fun y hy=>pX y (List.mem_append_left _ hy),Se,pF,?_,?_,?_,?_⟩
   ·intro i y hy;exact Ir i y (by rw[List.getElem?_append_left (List.getElem?_eq_some_iff.mp hy).1];exact hy)
   ·lia
   ·refine⟨y'.1.sublist (List.Sublist.append_left (List.sublist_cons_self _ _) _),fun p hp=>y'.2 p ?_⟩;rcases List.mem_append.mp hp with z|z
    ·exact List.mem_append_left _ z
    ·exact List.mem_append_right _ (List.mem_cons_of_mem _ z)
   ·rw[<-NZ,Vj,HN (by rw[Sf];exact h1) (by rw[Sf];exact h2),List.nil_append]
end
end cW
namespace cW
open PySem PyProof.Rows L2 SF SF.Po
theorem Ends.sv{xs:List Int}{o b t u t' u':Int}(h:Ends xs o b t u t' u')(hu:0<u)(dS:0<u'):(t:Rat)/(u:Rat)=1/(o:Rat)-(b:Rat)/\(t':Rat)/(u':Rat)=1/(o:Rat)+(b:Rat)/\0<1/(o:Rat)/\1/(o:Rat)<=1:=by
 have h3:=h.three;have NX:Pt o 0 (-b) t u:=by unfold Pt;rw[Int.pow_zero,Int.mul_one,h.lo];grind
 have NY:Pt o 0 b t' u':=by unfold Pt;rw[Int.pow_zero,Int.mul_one,h.hi]
 have v1:=NX.val (by lia) hu;have v2:=NY.val (by lia) dS;rw[Rat.pow_zero] at v1 v2;rw[Rat.intCast_neg] at v1;have ho:(1:Rat)<=(o:Rat):=by
  have:((1:Int):Rat)<=(o:Rat):=Rat.intCast_le_intCast.mpr (by lia);exact this
 have hp:(0:Rat)<1/(o:Rat):=RR.yp (by decide) (by grind);have e1:1/(o:Rat)*(o:Rat)=1:=Rat.div_mul_cancel (by grind);have hle:1/(o:Rat)<=1:=by
  have:=Rat.mul_le_mul_of_nonneg_left ho (Rat.le_of_lt hp);grind
 have one:∀z:Rat,z/1=z:=fun z=>by grind
 rw[one] at v1 v2;exact⟨by rw[v1];grind,v2,hp,hle⟩
theorem Fl.nU{xs:List Int}{ps:List (List Int)}{o b t u t' u':Int}{fs:List Fx}(r:Fl xs ps o b t u t' u' fs){x:Re}(h:Re.q ((t':Rat)/(u':Rat))<=x\/x<=Re.q ((t:Rat)/(u:Rat))):at' x (aw xs)≠0:=by
 obtain⟨f1,f2,f3,f4⟩:=r.ends.sv r.hu r.dS;obtain⟨rr,Ke,hb,W,_⟩:=r.ends.win;have eb:(b:Rat)=2*(rr:Rat)+1:=by rw[hb,Rat.intCast_add,Rat.intCast_mul];rfl
 have Ls:(0:Rat)<(rr:Rat):=Rat.intCast_pos.mpr Ke;refine Mj r.pre.2.1 Ke (r.pre.1.last r.pre.2.1) W ?_;rcases h with h|h
 ·have h2:Re.q (2*(rr:Rat))<=Re.q ((t':Rat)/(u':Rat)):=Re.cv.mpr (by rw[f2,eb];grind);have h0:Re.q 0<=Re.q (2*(rr:Rat)):=Re.cv.mpr (by grind);rw[Re.gH] at h0;unfold Re.ab;split<;>grind
 ·have h2:Re.q ((t:Rat)/(u:Rat))<=Re.q (-(2*(rr:Rat))):=Re.cv.mpr (by rw[f1,eb];grind);rw[Re.rR] at h2;have h0:Re.q 0<=Re.q (2*(rr:Rat)):=Re.cv.mpr (by grind);rw[Re.gH] at h0;unfold Re.ab;split<;>grind
end cW
namespace cW
open PySem PyProof.Rows L2 SF SF.Po
theorem Gy.Fp{zs:List Int}{ps:List (List Int)}(hp:Gy zs ps)(pre:wu zs)(h2:2<=zs.length){rs:List Re}(nd:rs.Nodup)(hr:∀x,at' x (aw zs)=0↔x∈rs){t u t' u':Int}(hu:0<u)(dS:0<u')(hle:(t:Rat)/(u:Rat)<=(t':Rat)/(u':Rat)):
 ((cg 0 (eV t u ps):Nat):Int)-((cg 0 (eV t' u' ps):Nat):Int)=nR rs ((t':Rat)/(u':Rat))-nR rs ((t:Rat)/(u:Rat)):=by
 obtain⟨pt,pn,pl,pa,MI⟩:=pre;obtain⟨rest,er⟩:=hp.shape;have hc:=hp.L_ h2;have em:ps.map aw=aw zs::aY (aw zs)::rest.map aw:=by rw[er,List.map_cons,List.map_cons,fe]
 rw[em] at hc;have hz:=ql pt MI;have:=Py (N:=nR rs) hc (fun x z w=>hz x ⟨z,w⟩) (fun x=>HP nd hr x) hle;rw[<-em,gY hu,gY dS] at this;lia
noncomputable def Fx.lo(f:Fx):Rat:=(f.t:Rat)/(f.u:Rat)
noncomputable def Fx.hi(f:Fx):Rat:=(f.t':Rat)/(f.u':Rat)
theorem h_{x y:Re}(h:x<y)(t:Rat):(nR [x,y] t=0/\Re.q t<x)\/(nR [x,y] t=1/\x<=Re.q t/\Re.q t<y)\/(nR [x,y] t=2/\y<=Re.q t):=by
 have e:nR [x,y] t=(open Classical in (if x<=Re.q t then 1 else 0))+((open Classical in (if y<=Re.q t then 1 else 0))+0):=rfl;rw[e];by_cases h1:x<=Re.q t
 ·by_cases h2:y<=Re.q t
  ·rw[if_pos h1,if_pos h2];exact .inr (.inr ⟨rfl,h2⟩)
  ·rw[if_pos h1,if_neg h2];exact .inr (.inl ⟨rfl,h1,by grind⟩)
 ·rw[if_neg h1,if_neg (by grind)];exact .inl ⟨rfl,by grind⟩
theorem Fl.two{p m d:Int}(hd:0<d)(hm:pP m){s:Re}(s0:0<s)(hs:s*s=(m:Re)){ps:List (List Int)}{o b t u t' u':Int}{fs:List Fx}(r:Fl (au (qd p m d)) ps o b t u t' u' fs)(f9:∀f∈fs,0<f.u/\0<f.u'):
 ∃f0 f1,fs=[f0,f1]/\f0.lo<f0.hi/\f1.lo<f1.hi/\m5 (au (qd p m d)) (ov ((p:Re)-s) d) f0.lo f0.hi/\m5 (au (qd p m d)) (ov ((p:Re)+s) d) f1.lo f1.hi:=by
 have l3:(au (qd p m d)).length=3:=by rw[aS];rfl
 have eM:ov ((p:Re)-s) d<ov ((p:Re)+s) d:=PQ hd (by grind);have both:=fun t=>A5 (p:=p) hd hs t;have hr:=fun x=>EC (p:=p) hd hs x;have vE:∀(z:Rat)(x:Re),x∈[ov ((p:Re)-s) d,ov ((p:Re)+s) d]->Re.q z≠x:=fun z x hx e=>by
  have:=(hr x).mpr hx;rw[<-e,lZ hd] at this;exact pQ hm z this
 generalize ov ((p:Re)-s) d=x1 at*;generalize ov ((p:Re)+s) d=x2 at*;have m1:x1∈[x1,x2]:=List.mem_cons_self;have m2:x2∈[x1,x2]:=List.mem_cons_of_mem _ List.mem_cons_self;have nd:[x1,x2].Nodup:=by
  rw[List.nodup_cons];refine⟨fun z=>?_,List.nodup_cons.mpr ⟨by simp,List.nodup_nil⟩⟩;rw[List.mem_singleton.mp z] at eM;exact Re.lt_irrefl _ eM
 obtain⟨f1,f2,f3,f4⟩:=r.ends.sv r.hu r.dS;have hb:(0:Rat)<(b:Rat):=Rat.intCast_pos.mpr r.ends.bb.1;have cnt:=fun{t u t' u':Int}(hu:0<u)(dS:0<u')(hle:(t:Rat)/(u:Rat)<=(t':Rat)/(u':Rat))=>r.xv.Fp r.pre (by lia) nd hr hu dS hle;have c0:=cnt r.hu r.dS (by rw[f1,f2];grind);have n1:nR [x1,x2] ((t':Rat)/(u':Rat))=2:=by
  have k:¬Re.q ((t':Rat)/(u':Rat))<=x2:=fun z=>r.nU (.inl z) ((hr x2).mpr m2);rcases h_ eM ((t':Rat)/(u':Rat)) with z|z|z
  ·exfalso;grind
  ·exfalso;grind
  ·exact z.1
 have n2:nR [x1,x2] ((t:Rat)/(u:Rat))=0:=by
  have k:¬x1<=Re.q ((t:Rat)/(u:Rat)):=fun z=>r.nU (.inr z) ((hr x1).mpr m1);rcases h_ eM ((t:Rat)/(u:Rat)) with z|z|z
  ·exact z.1
  ·exact absurd z.2.1 k
  ·exfalso;exact k (by have:=z.2;grind)
 rw[n1,n2] at c0;have hlen:fs.length=2:=by have:=r.cnt;lia
 obtain⟨g0,g1,rfl⟩:∃g0 g1,fs=[g0,g1]:=by
  match fs,hlen with
  |[g0,g1],_=>exact⟨g0,g1,rfl⟩
 have Sj:g0∈[g0,g1]:=List.mem_cons_self;have Sk:g1∈[g0,g1]:=List.mem_cons_of_mem _ List.mem_cons_self;have MK:g0.lo<g0.hi:=r.R'.2 _ (List.mem_map.mpr ⟨_,Sj,rfl⟩);have Vu:g1.lo<g1.hi:=r.R'.2 _ (List.mem_map.mpr ⟨_,Sk,rfl⟩);have Vv:g0.hi<=g1.lo:=by
  have:=r.R'.1;rw[List.map_cons,List.pairwise_cons] at this;exact this.1 _ (List.mem_map.mpr ⟨g1,List.mem_cons_self,rfl⟩)
 have k0:nR [x1,x2] g0.hi-nR [x1,x2] g0.lo=1:=by
  have:=cnt (f9 g0 Sj).1 (f9 g0 Sj).2 (Rat.le_of_lt MK);have:=(r.px g0 Sj).one;unfold Fx.hi Fx.lo;lia
 have k1:nR [x1,x2] g1.hi-nR [x1,x2] g1.lo=1:=by
  have:=cnt (f9 g1 Sk).1 (f9 g1 Sk).2 (Rat.le_of_lt Vu);have:=(r.px g1 Sk).one;unfold Fx.hi Fx.lo;lia
 have q0:=Re.eA.mpr MK;have q1:=Re.eA.mpr Vu;have q01:=Re.cv.mpr Vv;refine⟨g0,g1,rfl,MK,Vu,?_,?_⟩
 ·have w:Re.q g0.lo<x1/\x1<Re.q g0.hi/\Re.q g0.hi<x2:=by
   have i1:=vE g0.hi x1 m1;have i2:=vE g0.hi x2 m2;rcases h_ eM g0.lo with a|a|a<;>rcases h_ eM g0.hi with c|c|c<;>rcases h_ eM g1.lo with e|e|e<;>rcases h_ eM g1.hi with g|g|g<;>
    first|(exfalso;lia)|(exfalso;grind)|(refine⟨?_,?_,?_⟩<;>grind)
  refine⟨by grind,by grind,fun _=>⟨w.1,w.2.1⟩,-1,.inr rfl,fun z z1 z2=>?_⟩;have:=Re.cv.mpr z2;rw[both,SF.Re.cI (x:=Re.q z-x2) (by grind)];lia
 ·have w:x1<Re.q g1.lo/\Re.q g1.lo<x2/\x2<Re.q g1.hi:=by
   have i1:=vE g1.lo x1 m1;have i2:=vE g1.hi x2 m2;rcases h_ eM g0.lo with a|a|a<;>rcases h_ eM g0.hi with c|c|c<;>rcases h_ eM g1.lo with e|e|e<;>rcases h_ eM g1.hi with g|g|g<;>
    first|(exfalso;lia)|(exfalso;grind)|(refine⟨?_,?_,?_⟩<;>grind)
  refine⟨by grind,by grind,fun _=>⟨w.2.1,w.2.2⟩,1,.inl rfl,fun z z1 z2=>?_⟩;have:=Re.cv.mpr z1;rw[both,SF.Re.bK (x:=Re.q z-x1) (by grind)]
end cW
namespace cW
open PySem PyProof.Rows L2 SF SF.Po
noncomputable def vl(t u:Int):Rat:=(t:Rat)/(u:Rat)
theorem nV{t u t' u':Int}(hu:0<u)(dS:0<u')(h:vl t u=vl t' u')(xs:List Int):sg (hv t u xs)=sg (hv t' u' xs):=by
 have h':(t:Rat)/(u:Rat)=(t':Rat)/(u':Rat):=h;rw[gi hu,gi dS,h']
theorem ft{t u t' u':Int}(hu:0<u)(dS:0<u'):vl t u<=vl t' u'↔t*u'<=t'*u:=MH hu dS
theorem nW{t u t' u':Int}(hu:0<u)(dS:0<u'):vl t u=vl t' u'↔t*u'=t'*u:=by
 have h1:=ft (t:=t) (t':=t') hu dS;have h2:=ft (t:=t') (t':=t) dS hu;constructor
 ·intro h;have:=h1.mp (by rw[h];grind);have:=h2.mp (by rw[h];grind);lia
 ·intro h;have:=h1.mpr (by lia);have:=h2.mpr (by lia);grind
theorem qp{t u t' u':Int}(hu:0<u)(dS:0<u'):vl t u<vl t' u'↔t*u'<t'*u:=by
 have h2:=ft (t:=t') (t':=t) dS hu;constructor
 ·intro h;rcases Int.lt_or_le (t*u') (t'*u) with z|z
  ·exact z
  ·have:=h2.mpr z;grind
 ·intro h;by_cases z:vl t' u'<=vl t u
  ·have:=h2.mp z;lia
  ·grind
theorem iG{t u c:Int}(hu:0<u)(hc:0<c):vl (t*c) (u*c)=vl t u:=(nW (Int.mul_pos hu hc) hu).mpr (by grind)
noncomputable def Dd(xs:List Int)(s0 u parts near sv:Int):Option (Int×Int):=
 if hv near (u*parts) xs=0 then some (near,near) else if hv sv (u*parts) xs=0 then some (sv,sv)
 else if sg (hv near (u*parts) xs)=sg (hv s0 u xs)/\sg (hv sv (u*parts) xs)≠sg (hv s0 u xs) then some (near,sv) else none
structure Gd(xs:List Int)(lo hi:Rat)(D s0 s1 u:Int):Prop where
 pos:0<u
 lo:lo<=vl s0 u
 hi:vl s1 u<=hi
 alt:(s1-s0=D/\0<D/\sg (hv s0 u xs)*sg (hv s1 u xs)=-1)\/(s0=s1/\hv s0 u xs=0)
theorem Bm(x:Int):sg x=0\/sg x=1\/sg x=-1:=by
 unfold sg;split
 ·exact .inr (.inr rfl)
 ·split
  ·exact .inr (.inl rfl)
  ·exact .inl rfl
theorem wJ{x:Int}:sg x=0↔x=0:=by
 have:=qk (x:=x);constructor
 ·intro h;exact Classical.byContradiction fun z=>this.mpr z h
 ·intro h;exact Classical.byContradiction fun z=>this.mp z h
theorem Gd.part{xs:List Int}{lo hi:Rat}{D s0 s1 u:Int}(h:Gd xs lo hi D s0 s1 u)(hD:s1-s0=D/\0<D/\sg (hv s0 u xs)*sg (hv s1 u xs)=-1){parts j:Int}(hp:0<parts)(j0:0<=j)(j1:j<parts){l r:Int}(e:Dd xs s0 u parts (s0*parts+D*j) (s0*parts+D*j+D)=some (l,r)):Gd xs lo hi D l r (u*parts)/\(r-l=D\/l=r):=by
 obtain⟨d1,d2,d3⟩:=hD;have qO:=Int.mul_pos h.pos hp;have hDj:=Int.mul_nonneg (Int.le_of_lt d2) j0;have hDp:D*j+D<=D*parts:=by
  have:=Int.mul_le_mul_of_nonneg_left (show j+1<=parts by lia) (Int.le_of_lt d2);rw[Int.mul_add,Int.mul_one] at this;exact this
 have es1:s1*parts=s0*parts+D*parts:=by rw[<-d1];grind
 have Af:∀z:Int,s0*parts<=z->lo<=vl z (u*parts):=fun z hz=>by
  have:=h.lo;rw[<-iG (t:=s0) h.pos hp] at this;have g:=(ft (t:=s0*parts) (t':=z) qO qO).mpr (Int.mul_le_mul_of_nonneg_right hz (Int.le_of_lt qO));grind
 have Cd:∀z:Int,z<=s1*parts->vl z (u*parts)<=hi:=fun z hz=>by
  have:=h.hi;rw[<-iG (t:=s1) h.pos hp] at this;have g:=(ft (t:=z) (t':=s1*parts) qO qO).mpr (Int.mul_le_mul_of_nonneg_right hz (Int.le_of_lt qO));grind
 unfold Dd at e;split at e
 ·rename_i c;obtain⟨rfl,rfl⟩:=Prod.mk.inj (Option.some.inj e);exact⟨⟨qO,Af _ (by lia),Cd _ (by lia),.inr ⟨rfl,c⟩⟩,.inr rfl⟩
 ·split at e
  ·rename_i c0 c;obtain⟨rfl,rfl⟩:=Prod.mk.inj (Option.some.inj e);exact⟨⟨qO,Af _ (by lia),Cd _ (by lia),.inr ⟨rfl,c⟩⟩,.inr rfl⟩
  ·split at e
   ·rename_i c0 c1 c;obtain⟨rfl,rfl⟩:=Prod.mk.inj (Option.some.inj e);refine⟨⟨qO,Af _ (by lia),Cd _ (by lia),.inl ⟨by lia,d2,?_⟩⟩,.inl (by lia)⟩;have g1:=qk.mpr c0;have g2:=qk.mpr c1;have g3:=Bm (hv (s0*parts+D*j) (u*parts) xs);have g4:=Bm (hv (s0*parts+D*j+D) (u*parts) xs);obtain⟨c2,c3⟩:=c;rw[<-c2] at c3;generalize sg (hv (s0*parts+D*j) (u*parts) xs)=A at*;generalize sg (hv (s0*parts+D*j+D) (u*parts) xs)=B at*;rcases g3 with z|z|z<;>rcases g4 with y|y|y<;>subst z<;>subst y<;>first|rfl|(exfalso;lia)
   ·cases e
theorem Gd.upper{xs:List Int}{lo hi:Rat}{D s0 s1 u:Int}(h:Gd xs lo hi D s0 s1 u)(hD:s1-s0=D/\0<D/\sg (hv s0 u xs)*sg (hv s1 u xs)=-1)(e:Dd xs s0 u 2 (2*s0) (s0+s1)=none):Gd xs lo hi D (s0+s1) (2*s1) (2*u):=by
 obtain⟨d1,d2,d3⟩:=hD;have hu:=h.pos;have qO:0<u*2:=by lia
 have e2:2*u=u*2:=by lia
 have v1:vl (2*s0) (u*2)=vl s0 u:=by rw[Int.mul_comm 2 s0];exact iG hu (by decide)
 have v2:vl (2*s1) (u*2)=vl s1 u:=by rw[Int.mul_comm 2 s1];exact iG hu (by decide)
 have g1:=nV qO hu v1 xs;have g2:=nV qO hu v2 xs;rw[e2];unfold Dd at e;split at e
 ·cases e
 ·split at e
  ·cases e
  ·split at e
   ·cases e
   ·rename_i c0 c1 c;refine⟨qO,?_,by rw[v2];exact h.hi,.inl ⟨by lia,d2,?_⟩⟩
    ·have:=h.lo;rw[<-v1] at this;have g:=(ft (t:=2*s0) (t':=s0+s1) qO qO).mpr (Int.mul_le_mul_of_nonneg_right (by lia) (Int.le_of_lt qO));grind
    ·have c3:sg (hv (s0+s1) (u*2) xs)=sg (hv s0 u xs):=Classical.byContradiction fun z=>c ⟨g1,z⟩;rw[c3,g2];exact d3
noncomputable def xw(w0 w1 s0 s1 u:Int):Int:=((s1-s0)*w1+w0*u-1).fdiv (w0*u)
theorem qr{w0 w1 s0 s1 u:Int}(hw:0<w0)(hu:0<u):(xw w0 w1 s0 s1 u-1)*(w0*u)<(s1-s0)*w1/\(s1-s0)*w1<=xw w0 w1 s0 s1 u*(w0*u):=by
 have hr:=Int.mul_pos hw hu;unfold xw;generalize w0*u=r at hr ⊢;generalize (s1-s0)*w1=x;rw[Int.fdiv_eq_ediv_of_nonneg _ (Int.le_of_lt hr)];have h1:=Int.mul_ediv_add_emod (x+r-1) r;have h2:=Int.emod_nonneg (x+r-1) (Int.ne_of_gt hr);have h3:=Int.emod_lt_of_pos (x+r-1) hr;generalize (x+r-1)/r=y at*;generalize (x+r-1)%r=z at*;have e:(y-1)*r=r*y-r:=by grind
 have e2:y*r=r*y:=by grind
 rw[e,e2];constructor<;>lia
theorem Bo{w0 w1 D u p nd CD:Int}(hw:0<w0)(hu:0<u)(hp:2<=p)(h2:D*w1<=nd*(w0*u))(hn:2<=nd)(h1:(CD-1)*(w0*(u*p))<D*w1):CD<nd/\(nd<=p->CD<=1):=by
 have hr:=Int.mul_pos hw hu;have e:(CD-1)*(w0*(u*p))=(CD-1)*p*(w0*u):=by grind
 rw[e] at h1;have h3:(CD-1)*p*(w0*u)<nd*(w0*u):=by lia
 have h4:(CD-1)*p<nd:=Int.lt_of_mul_lt_mul_right h3 (Int.le_of_lt hr);constructor
 ·rcases Int.lt_or_le CD nd with z|z
  ·exact z
  ·exfalso;have:(nd-1)*2<=(CD-1)*p:=by
    have a1:=Int.mul_le_mul_of_nonneg_right (show nd-1<=CD-1 by lia) (show(0:Int)<=2 by decide);have a2:=Int.mul_le_mul_of_nonneg_left hp (show 0<=CD-1 by lia);lia
   lia
 ·intro hle;rcases Int.lt_or_le 1 CD with z|z
  ·exfalso;have:=Int.mul_le_mul_of_nonneg_right (show(1:Int)<=CD-1 by lia) (show 0<=p by lia);lia
  ·exact z
theorem Fq{w0 w1 D u nd p:Int}(hw:0<w0)(hu:0<u)(h1:(nd-1)*(w0*u)<D*w1)(hn:2<=nd)(hp:0<p)(tZ:p<=nd):u*p<=2*(D*w1):=by
 have hr:=Int.mul_pos hw hu;have h2:u<=w0*u:=by
  have:=Int.mul_le_mul_of_nonneg_right (show(1:Int)<=w0 by lia) (Int.le_of_lt hu);lia
 have h3:u*p<=u*nd:=Int.mul_le_mul_of_nonneg_left tZ (Int.le_of_lt hu);have h4:u*nd<=u*(2*(nd-1)):=Int.mul_le_mul_of_nonneg_left (by lia) (Int.le_of_lt hu);have h5:u*(nd-1)<=w0*u*(nd-1):=Int.mul_le_mul_of_nonneg_right h2 (by lia);have e1:u*(2*(nd-1))=2*(u*(nd-1)):=by grind
 have e2:(nd-1)*(w0*u)=w0*u*(nd-1):=by grind
 lia
theorem Gd.bits{xs:List Int}{lo hi:Rat}{D s0 s1 u:Int}(h:Gd xs lo hi D s0 s1 u){n k:Nat}(Af:-(2^n)<=lo)(Cd:hi<=2^n)(bu:Bd k u):Bd (n+k+1) s0/\Bd (n+k+1) s1:=by
 have hu:=h.pos;have hle:s0<=s1:=by
  rcases h.alt with z|z
  ·lia
  ·lia
 have e1:(vl (-(2^n)) 1)=-(2^n):=by
  unfold vl;rw[Rat.intCast_neg,Rat.intCast_pow];show -(2^n)/(1:Rat)=_;grind
 have e2:(vl (2^n) 1)=2^n:=by
  unfold vl;rw[Rat.intCast_pow];show(2^n)/(1:Rat)=_;grind
 have a1:vl (-(2^n)) 1<=vl s0 u:=by rw[e1];have:=h.lo;grind
 have a2:vl s1 u<=vl (2^n) 1:=by rw[e2];have:=h.hi;grind
 have b1:=(ft (by decide) hu).mp a1;have b2:=(ft hu (by decide)).mp a2;have bz:Bd (n+1) ((2:Int)^n):=by
  unfold Bd;rw[Int.natAbs_pow];exact Nat.pow_lt_pow_right (by decide) (by lia)
 have bp:=bz.mul bu;unfold Bd at*;have e3:n+1+k=n+k+1:=by lia
 rw[e3] at bp;have e4:-(2:Int)^n*u=-(2^n*u):=by grind
 rw[e4] at b1;constructor<;>lia
end cW
namespace cW
open PySem PyProof.Rows L2 SF SF.Po
noncomputable def Vw(H:Hp)(Q:VK)(under:Int):Option (Int×Int)->Prop
 |none=>Q .dU H
 |some (l,h)=>∀p,H p=none->Q (.ref p) (upd H p (.tup [.int l,.int h,.int under]))
noncomputable def Kt:Sp:=fun vs H Q _=>∃(p g h:Addr)(t u t' u':Int)(n:Nat),vs=[.ref p]/\H p=some (.tup [.ref g,.ref h])/\H g=some (.tup [.int t,.int u])/\H h=some (.tup [.int t',.int u'])/\(Bd n t/\Bd n u/\Bd n t'/\Bd n u'/\n<=4000000)/\
 ∀s,H s=none->Q (.ref s) (upd H s (.tup [.int (t*u'),.int (t'*u),.int (u*u')]))
noncomputable def Fs:Sp:=fun vs H Q _=>∃(s g:Addr)(s0 s1 u w0 w1:Int)(n:Nat),vs=[.ref s,.ref g]/\H s=some (.tup [.int s0,.int s1,.int u])/\H g=some (.tup [.int w0,.int w1])/\(Bd n s0/\Bd n s1/\Bd n u/\Bd n w0/\Bd n w1/\n<=4000000/\0<u/\0<w0)/\Q (.int (xw w0 w1 s0 s1 u)) H
noncomputable def za:Sp:=fun vs H Q _=>∃(a s:Addr)(xs:List Int)(s0 s1 u parts near sv:Int)(n:Nat),vs=[.ref a,.ref s,.int parts,.int near,.int sv]/\IL H a xs/\H s=some (.tup [.int s0,.int s1,.int u])/\
 (xs.length<=13/\Ab 100 xs/\Bd n s0/\Bd n u/\Bd n (u*parts)/\Bd n parts/\Bd n near/\Bd n sv/\n<=4000000)/\Vw H Q (u*parts) (Dd xs s0 u parts near sv)
noncomputable def gj(xs:List Int)(s0 s1 u parts:Int):Int:=(parts*ab (hv s0 u xs)).fdiv (ab (hv s0 u xs)+ab (hv s1 u xs))
noncomputable def Bp:Sp:=fun vs H Q _=>∃(a s:Addr)(xs:List Int)(s0 s1 u parts:Int)(n:Nat),vs=[.ref a,.ref s,.int parts]/\IL H a xs/\H s=some (.tup [.int s0,.int s1,.int u])/\
 (xs.length<=13/\Ab 100 xs/\Bd n s0/\Bd n s1/\Bd n u/\Bd n (u*parts)/\Bd n parts/\n<=1900000)/\(hv s0 u xs≠0/\hv s1 u xs≠0/\0<parts)/\
 (Bd (n+n+4) (s0*parts+(s1-s0)*gj xs s0 s1 u parts)->Vw H Q (u*parts) (Dd xs s0 u parts (s0*parts+(s1-s0)*gj xs s0 s1 u parts) (s0*parts+(s1-s0)*gj xs s0 s1 u parts+(s1-s0))))
noncomputable def Ft:Sp:=fun vs H Q _=>∃(a s:Addr)(xs:List Int)(s0 s1 u:Int)(n:Nat),vs=[.ref a,.ref s]/\IL H a xs/\H s=some (.tup [.int s0,.int s1,.int u])/\
 (xs.length<=13/\Ab 100 xs/\Bd n s0/\Bd n s1/\Bd n u/\n<=1900000)/\
 ∀(l h un:Int)(p:Addr)(H':Hp),(Dd xs s0 u 2 (2*s0) (s0+s1)=some (l,h)/\un=u*2)\/(Dd xs s0 u 2 (2*s0) (s0+s1)=none/\l=s0+s1/\h=2*s1/\un=2*u)->av H H'->H' p=some (.tup [.int l,.int h,.int un])->Q (.ref p) H'
theorem Ku{xs:List Int}{s0 s1 u parts:Int}(h0:hv s0 u xs≠0)(h1:hv s1 u xs≠0)(hp:0<parts):0<=gj xs s0 s1 u parts/\gj xs s0 s1 u parts<parts:=by
 have a0:=f7 h0;have a1:=f7 h1;unfold gj;generalize ab (hv s0 u xs)=x at*;generalize ab (hv s1 u xs)=y at*;rw[Int.fdiv_eq_ediv_of_nonneg _ (by lia)];constructor
 ·exact Int.ediv_nonneg (Int.mul_nonneg (by lia) (by lia)) (by lia)
 ·refine Int.ediv_lt_of_lt_mul (by lia) ?_;rw[Int.mul_add];have:=Int.mul_pos hp a1;lia
section
variable {P:Program} {w:World} {K:PySem.W.Frag} {mg:Str->Option Value} {base:Heap}
theorem qY(D:aH K mg "stretch_of" i' ["pair"]):aT P w K mg base 1 "stretch_of" ["pair"] Kt:=by
 refine D.ok g9 (fun vs H Q E h=>?_) (fun f bM A outer s H vs Q E hr h=>?_)
 ·obtain⟨p,g,h,t,u,t',u',n,rfl,_⟩:=h;rfl
 obtain⟨p,g,h,t,u,t',u',n,rfl,hp,hg,hh,⟨b1,b2,b3,b4,hn⟩,q⟩:=h;have iF:ke=60000000:=rfl;refine⟨_,(ae (aj (i:=1) g9.nd rfl (Or.inl rfl) (aD aA (pv 0) af (fun _ _=>rfl)))
  (ae (aj (i:=2) g9.nd rfl (Or.inl rfl) (aD aA (pv 0) af (fun _ _=>rfl)))
  (ah (ax (cy (aa (ao aC (aD aA (pv 1) af (fun _ _=>rfl)) (aD aA (pv 2) af (fun _ _=>rfl))) (aa (ao aC (aD aA (pv 2) af (fun _ _=>rfl)) (aD aA (pv 1) af (fun _ _=>rfl))) (aa (ao aC (aD aA (pv 1) af (fun _ _=>rfl)) (aD aA (pv 2) af (fun _ _=>rfl))) ag)))))))),?_⟩;walk_at "sf";refine aG (bL.of hp) rfl ?_;walk_at "sf";refine aG (bL.of hp) rfl ?_;walk_at "sf";refine aG (bL.of hg) rfl ?_;walk_at "sf";refine aG (bL.of hh) rfl ?_;refine bN (aP b1 b4 (by lia)) ?_;walk_at "sf";refine aG (bL.of hh) rfl ?_;walk_at "sf";refine aG (bL.of hg) rfl ?_;refine bN (aP b3 b2 (by lia)) ?_;walk_at "sf";refine aG (bL.of hg) rfl ?_;walk_at "sf";refine aG (bL.of hh) rfl ?_;refine bN (aP b2 b4 (by lia)) ?_;walk_at "sf";exact q
theorem og(hT:P.given.tree=none)(D:aH K mg "parts_needed" gL ["stretch","width"]):aT P w K mg base 33 "parts_needed" ["stretch","width"] Fs:=by
 refine D.ok jh (fun vs H Q E h=>?_) (fun f bM A outer s H vs Q E hr h=>?_)
 ·obtain⟨s,g,s0,s1,u,w0,w1,n,rfl,_⟩:=h;rfl
 obtain⟨s,g,s0,s1,u,w0,w1,n,rfl,hs,hg,⟨b1,b2,b3,b4,b5,hn,hu,hw⟩,q⟩:=h;have iF:ke=60000000:=rfl;refine⟨_,(ae (aj (i:=2) jh.nd rfl (Or.inl rfl) (ao aC (aD aA (pv 1) af (fun _ _=>rfl)) (aD aA (pv 0) af (fun _ _=>rfl))))
  (ah (ax (ao (dO ⟨hT,⟨_,_,rfl,rfl,rfl,rfl,rfl⟩,hr.py⟩) (ao bq (ao bH (ao aC (ao bq (aD aA (pv 0) af (fun _ _=>rfl)) (aD aA (pv 0) af (fun _ _=>rfl))) (aD aA (pv 1) af (fun _ _=>rfl))) (pv 2)) af) (pv 2))))),?_⟩;walk_at "sf";refine aG (bL.of hg) rfl ?_;walk_at "sf";refine aG (bL.of hs) rfl ?_;refine bN (aP b4 b3 (by lia)) ?_;walk_at "sf";refine aG (bL.of hs) rfl ?_;walk_at "sf";refine aG (bL.of hs) rfl ?_;walk_at "sf";refine aG (bL.of hg) rfl ?_;refine bN (aP (b2.sub b1) b5 (by lia)) ?_;walk_at "sf";refine bN (Int.ne_of_gt (Int.mul_pos hw hu)) ?_;walk_at "sf";exact q
theorem oh(gO:aT P w K mg base 1 "sign" ["number"] nt)(de:aT P w K mg base 1 "height_at" ["poly","top","under"] mr)(D:aH K mg "part_between" gM ["free","stretch","parts","near","far"]):aT P w K mg base 2 "part_between" ["free","stretch","parts","near","far"] za:=by
 refine D.ok dA (fun vs H Q E h=>?_) (fun f bM A outer s H vs Q E hr h=>?_)
 ·obtain⟨a,s,xs,s0,s1,u,parts,near,sv,n,rfl,_⟩:=h;rfl
 obtain⟨a,s,xs,s0,s1,u,parts,near,sv,n,rfl,ha,hs,⟨hx,bx,b1,b2,b3,b4,b5,b6,hn⟩,q⟩:=h;have iF:ke=60000000:=rfl;refine⟨_,(ae (aj (i:=5) dA.nd rfl (Or.inl rfl) (ao aC (aD aA (pv 1) af (fun _ _=>rfl)) (pv 2)))
  (ae (aj (i:=6) dA.nd rfl (Or.inl rfl) (ar gO hr (aa (ar de hr (aa (pv 0) (aa (aD aA (pv 1) af (fun _ _=>rfl)) (aa (aD aA (pv 1) af (fun _ _=>rfl)) ag)))) ag)))
  (ae (aj (i:=7) dA.nd rfl (Or.inl rfl) (ar gO hr (aa (ar de hr (aa (pv 0) (aa (pv 3) (aa (pv 5) ag)))) ag)))
  (ae (bB (ay f_ (pv 7) af (aE _))
  (ah (ax (cy (aa (pv 3) (aa (pv 3) (aa (pv 5) ag))))))
  aM)
  (ae (aj (i:=8) dA.nd rfl (Or.inl rfl) (ar gO hr (aa (ar de hr (aa (pv 0) (aa (pv 4) (aa (pv 5) ag)))) ag)))
  (ae (bB (ay f_ (pv 8) af (aE _))
  (ah (ax (cy (aa (pv 4) (aa (pv 4) (aa (pv 5) ag))))))
  aM)
  (ah (ax (dJ (PW.pt (kz (ay f_ (pv 7) (pv 6) (aE _)) (iN (ay gb (pv 8) (pv 6) (aE _))))) (cy (aa (pv 3) (aa (pv 4) (aa (pv 5) ag)))) fZ))))))))),?_⟩;walk_at "sf";refine aG (bL.of hs) rfl ?_;walk_at "sf";refine bN (aP b2 b4 (by lia)) ?_;walk_at "sf";refine aG (bL.of hs) rfl ?_;walk_at "sf";refine aG (bL.of hs) rfl ?_;walk_at "sf";refine⟨a,xs,s0,u,100,n,rfl,ha,⟨by lia,bx,b1,b2,by lia⟩,?_⟩;walk_at "sf";refine⟨_,rfl,?_⟩;walk_at "sf";refine⟨a,xs,near,u*parts,100,n,rfl,ha,⟨by lia,bx,b5,b3,by lia⟩,?_⟩;walk_at "sf";refine⟨_,rfl,?_⟩;walk_at "sf";unfold Dd at q;refine dI (fun c=>?_) (fun c=>?_)
 ·have h1:hv near (u*parts) xs=0:=wJ.mp (by simpa using c);rw[if_pos h1] at q;walk_at "sf";exact q
 ·have h1:¬hv near (u*parts) xs=0:=fun z=>by
   have:¬sg (hv near (u*parts) xs)=0:=by simpa using c
   exact this (wJ.mpr z)
  rw[if_neg h1] at q;walk_at "sf";refine⟨a,xs,sv,u*parts,100,n,rfl,ha,⟨by lia,bx,b6,b3,by lia⟩,?_⟩;walk_at "sf";refine⟨_,rfl,?_⟩;walk_at "sf";refine dI (fun c=>?_) (fun c=>?_)
  ·have h2:hv sv (u*parts) xs=0:=wJ.mp (by simpa using c);rw[if_pos h2] at q;walk_at "sf";exact q
  ·have h2:¬hv sv (u*parts) xs=0:=fun z=>by
    have:¬sg (hv sv (u*parts) xs)=0:=by simpa using c
    exact this (wJ.mpr z)
   rw[if_neg h2] at q;walk_at "sf";refine dI (fun c1=>?_) (fun c1=>?_)
   ·have h3:sg (hv near (u*parts) xs)=sg (hv s0 u xs):=by simpa using c1
    walk_at "sf";refine dI (fun c2=>?_) (fun c2=>?_)
    ·have h4:sg (hv sv (u*parts) xs)≠sg (hv s0 u xs):=by simpa using c2
     rw[if_pos ⟨h3,h4⟩] at q;walk_at "sf";exact q
    ·have h4:sg (hv sv (u*parts) xs)=sg (hv s0 u xs):=by simpa using c2
     rw[if_neg (fun z=>z.2 h4)] at q;walk_at "sf";exact q
   ·have h3:¬sg (hv near (u*parts) xs)=sg (hv s0 u xs):=by simpa using c1
    rw[if_neg (fun z=>h3 z.1)] at q;walk_at "sf";exact q
theorem zb(T:Nm mg)(hT:P.given.tree=none)(de:aT P w K mg base 33 "height_at" ["poly","top","under"] mr)(gQ:aT P w K mg base 33 "part_between" ["free","stretch","parts","near","far"] za)(D:aH K mg "guessed" nh ["free","stretch","parts"]):aT P w K mg base 34 "guessed" ["free","stretch","parts"] Bp:=by
 refine D.ok fD (fun vs H Q E h=>?_) (fun f bM A outer s H vs Q E hr h=>?_)
 ·obtain⟨a,s,xs,s0,s1,u,parts,n,rfl,_⟩:=h;rfl
 obtain⟨a,s,xs,s0,s1,u,parts,n,rfl,ha,hs,⟨hx,bx,b1,b2,b3,b4,b5,hn⟩,⟨LU,X4,hp⟩,q⟩:=h;have iF:ke=60000000:=rfl;have Vy:=Ku LU X4 hp;have Gx:∀x:Int,(if x<0 then -x else x)=ab x:=fun x=>by unfold ab;split<;>lia
 have bab:∀{k:Nat}{x:Int},Bd k x->Bd k (ab x):=fun{k x} h=>by
  unfold Bd at*;unfold ab;lia
 have hv0:Bd (100+(n+1)*13+1) (hv s0 u xs):=by
  have:=(yV b1 b3 bx (j:=xs.length) (Nat.le_refl _)).1;rw[o7] at this;exact this.mono (by have:=Nat.mul_le_mul_left (n+1) hx;lia)
 have Dc:Bd (100+(n+1)*13+1) (hv s1 u xs):=by
  have:=(yV b2 b3 bx (j:=xs.length) (Nat.le_refl _)).1;rw[o7] at this;exact this.mono (by have:=Nat.mul_le_mul_left (n+1) hx;lia)
 have bg:Bd n (gj xs s0 s1 u parts):=by
  unfold Bd at*;lia
 have Fu:Bd (n+n+3) (s0*parts+(s1-s0)*gj xs s0 s1 u parts):=(((b1.mul b5).mono (n:=n+n+2) (by lia)).add (((b2.sub b1).mul bg).mono (n:=n+n+2) (by lia))).mono (by lia);refine⟨_,(ae (aj (i:=3) fD.nd rfl (Or.inl rfl) (ao bq (aD aA (pv 1) af (fun _ _=>rfl)) (aD aA (pv 1) af (fun _ _=>rfl))))
  (ae (aj (i:=4) fD.nd rfl (Or.inl rfl) (aI dw rfl T.ji boot_abs (aa (ar de hr (aa (pv 0) (aa (aD aA (pv 1) af (fun _ _=>rfl)) (aa (aD aA (pv 1) af (fun _ _=>rfl)) ag)))) ag)))
  (ae (aj (i:=5) fD.nd rfl (Or.inl rfl) (aI dw rfl T.ji boot_abs (aa (ar de hr (aa (pv 0) (aa (aD aA (pv 1) af (fun _ _=>rfl)) (aa (aD aA (pv 1) af (fun _ _=>rfl)) ag)))) ag)))
  (ae (aj (i:=6) fD.nd rfl (Or.inl rfl) (ao (dO ⟨hT,⟨_,_,rfl,rfl,rfl,rfl,rfl⟩,hr.py⟩) (ao aC (pv 2) (pv 4)) (ao bH (pv 4) (pv 5))))
  (ae (aj (i:=7) fD.nd rfl (Or.inl rfl) (ao bH (ao aC (aD aA (pv 1) af (fun _ _=>rfl)) (pv 2)) (ao aC (pv 3) (pv 6))))
  (ah (ax (ar gQ hr (aa (pv 0) (aa (pv 1) (aa (pv 2) (aa (pv 7) (aa (ao bH (pv 7) (pv 3)) ag))))))))))))),?_⟩;walk_at "sf";refine aG (bL.of hs) rfl ?_;walk_at "sf";refine aG (bL.of hs) rfl ?_;walk_at "sf";refine aG (bL.of hs) rfl ?_;walk_at "sf";refine aG (bL.of hs) rfl ?_;walk_at "sf";refine⟨a,xs,s0,u,100,n,rfl,ha,⟨by lia,bx,b1,b3,by lia⟩,?_⟩;walk_at "sf";refine⟨_,rfl,?_⟩;walk_at "sf";refine aG (bL.of hs) rfl ?_;walk_at "sf";refine aG (bL.of hs) rfl ?_;walk_at "sf";refine⟨a,xs,s1,u,100,n,rfl,ha,⟨by lia,bx,b2,b3,by lia⟩,?_⟩;walk_at "sf";refine⟨_,rfl,?_⟩;rw[Gx,Gx];walk_at "sf";refine bN (aP b5 (bab hv0) (by lia)) ?_;walk_at "sf";have a0:=f7 LU;have a1:=f7 X4;refine bN (by lia) ?_;walk_at "sf";have egj:(parts*ab (hv s0 u xs)).fdiv (ab (hv s0 u xs)+ab (hv s1 u xs))=gj xs s0 s1 u parts:=rfl;rw[egj];refine aG (bL.of hs) rfl ?_;walk_at "sf";refine bN (aP b1 b5 (by lia)) ?_;walk_at "sf";refine bN (aP (b2.sub b1) bg (by lia)) ?_;walk_at "sf";refine⟨a,s,xs,s0,s1,u,parts,_,_,n+n+4,rfl,ha,hs,⟨hx,bx,b1.mono (by lia),b3.mono (by lia),b4.mono (by lia),b5.mono (by lia),Fu.mono (by lia),(Fu.add ((b2.sub b1).mono (by lia))).mono (by lia),by lia⟩,?_⟩;exact q (Fu.mono (by lia))
theorem CF(gQ:aT P w K mg base 33 "part_between" ["free","stretch","parts","near","far"] za)(D:aH K mg "halved" qb ["free","stretch"]):aT P w K mg base 34 "halved" ["free","stretch"] Ft:=by
 refine D.ok ni (fun vs H Q E h=>?_) (fun f bM A outer s H vs Q E hr h=>?_)
 ·obtain⟨a,s,xs,s0,s1,u,n,rfl,_⟩:=h;rfl
 obtain⟨a,s,xs,s0,s1,u,n,rfl,ha,hs,⟨hx,bx,b1,b2,b3,hn⟩,q⟩:=h;have iF:ke=60000000:=rfl;have b22:Bd 3 (2:Int):=Bd.of_two (by decide) (by decide);refine⟨_,(ae (aj (i:=2) ni.nd rfl (Or.inl rfl) (ao bH (aD aA (pv 1) af (fun _ _=>rfl)) (aD aA (pv 1) af (fun _ _=>rfl))))
  (ae (aj (i:=3) ni.nd rfl (Or.inl rfl) (ar gQ hr (aa (pv 0) (aa (pv 1) (aa af (aa (ao aC af (aD aA (pv 1) af (fun _ _=>rfl))) (aa (pv 2) ag)))))))
  (ah (ax (dJ (ay xG (pv 3) fZ (aE _)) (cy (aa (pv 2) (aa (ao aC af (aD aA (pv 1) af (fun _ _=>rfl))) (aa (ao aC af (aD aA (pv 1) af (fun _ _=>rfl))) ag)))) (pv 3)))))),?_⟩;walk_at "sf";refine aG (bL.of hs) rfl ?_;walk_at "sf";refine aG (bL.of hs) rfl ?_;walk_at "sf";refine aG (bL.of hs) rfl ?_;refine bN (aP b22 b1 (by lia)) ?_;walk_at "sf";refine⟨a,s,xs,s0,s1,u,2,2*s0,s0+s1,n+4,rfl,ha,hs,⟨hx,bx,b1.mono (by lia),b3.mono (by lia),(b3.mul b22).mono (by lia),b22.mono (by lia),(b22.mul b1).mono (by lia),(b1.add b2).mono (by lia),by lia⟩,?_⟩;cases e:Dd xs s0 u 2 (2*s0) (s0+s1) with
 |none=>
  show _;walk_at "sf";refine⟨_,rfl,?_⟩;refine(show _/\_ from⟨rfl,?_⟩);refine⟨_,rfl,?_⟩;show(if decide (V.dU=V.dU)=true then _ else _);rw[if_pos (by decide)];walk_at "sf";refine aG (bL.of hs) rfl ?_;refine bN (aP b22 b2 (by lia)) ?_;walk_at "sf";refine aG (bL.of hs) rfl ?_;refine bN (aP b22 b3 (by lia)) ?_;walk_at "sf";intro p hp;exact q _ _ _ p _ (.inr ⟨e,rfl,rfl,rfl⟩) (av.new hp _) ai
 |some r=>
  obtain⟨l,h⟩:=r;intro p hp;have sp:=av.new hp (.tup [.int l,.int h,.int (u*2)]);have ow:upd H p (.tup [.int l,.int h,.int (u*2)]) p=some (.tup [.int l,.int h,.int (u*2)]):=ai;generalize upd H p (.tup [.int l,.int h,.int (u*2)])=H1 at sp ow ⊢;walk_at "sf";refine(show _/\_ from⟨rfl,?_⟩);refine⟨_,rfl,?_⟩;show(if decide (V.ref p=V.dU)=true then _ else _);rw[if_neg (by simp)];walk_at "sf";exact q l h (u*2) p H1 (.inl ⟨e,rfl⟩) sp ow
end
end cW
namespace cW
open PySem PyProof.Rows L2 SF SF.Po
noncomputable def GB(xs:List Int)(t u t' u':Int):Prop:=(vl t u<vl t' u'/\sg (hv t u xs)*sg (hv t' u' xs)=-1)\/(vl t u=vl t' u'/\hv t u xs=0)
structure Nw(xs:List Int)(t u t' u' w0 w1 c d c' d':Int)(k:Nat):Prop where
 lo:vl t u<=vl c d
 hi:vl c' d'<=vl t' u'
 wd:vl c' d'-vl c d<=vl w0 w1
 Bq:GB xs c d c' d'
 b1:Bd k c
 b2:Bd k d
 b3:Bd k c'
 b4:Bd k d'
noncomputable def jT(Pre:List Int->Prop)(F:List Int->List Int):Sp:=fun vs H Q _=>∃(a pr g h wd:Addr)(xs:List Int)(t u t' u' w0 w1:Int)(n:Nat),vs=[.ref a,.ref pr,.ref wd]/\IL H a xs/\H pr=some (.tup [.ref g,.ref h])/\H g=some (.tup [.int t,.int u])/\H h=some (.tup [.int t',.int u'])/\H wd=some (.tup [.int w0,.int w1])/\
 Pre xs/\((F xs).length<=13/\Ab 100 (F xs))/\(Bd n t/\Bd n u/\Bd n t'/\Bd n u'/\n<=20000/\Bd 1000 w0/\Bd 1000 w1/\0<u/\0<u'/\0<w0/\0<w1)/\GB (F xs) t u t' u'/\
 ∀(p g h:Addr)(c d c' d':Int)(H':Hp),av H H'->H' p=some (.tup [.ref g,.ref h])->Rt H' g c d->Rt H' h c' d'->Nw (F xs) t u t' u' w0 w1 c d c' d' (3*n+1020)->Q (.ref p) H'
noncomputable def sx:Sp:=fun vs H Q _=>∃(a pr g h wd:Addr)(xs:List Int)(t u t' u' w0 w1:Int)(n k b:Nat),vs=[.ref a,.ref pr,.ref wd]/\IL H a xs/\H pr=some (.tup [.ref g,.ref h])/\H g=some (.tup [.int t,.int u])/\H h=some (.tup [.int t',.int u'])/\H wd=some (.tup [.int w0,.int w1])/\
 (xs.length<=13/\Ab 100 xs)/\(Bd n t/\Bd n u/\Bd n t'/\Bd n u'/\n<=330000/\k<=20000/\b<=1000/\Bd b w0/\Bd b w1/\0<u/\0<u'/\0<w0/\0<w1)/\(-(2^k)<=vl t u/\vl t' u'<=2^k)/\GB xs t u t' u'/\
 ∀(p g h:Addr)(c d c' d':Int)(H':Hp),av H H'->H' p=some (.tup [.ref g,.ref h])->Rt H' g c d->Rt H' h c' d'->Nw xs t u t' u' w0 w1 c d c' d' (2*n+k+b+20)->Q (.ref p) H'
theorem Fv(s0 s1 u:Int):vl s1 u-vl s0 u=vl (s1-s0) u:=by
 unfold vl;have:((s1-s0:Int):Rat)=(s1:Rat)-(s0:Rat):=by rw[Int.sub_eq_add_neg,Rat.intCast_add,Rat.intCast_neg];grind
 rw[this,Rat.div_def,Rat.div_def,Rat.div_def];grind
theorem Fw{a b:Int}(h:sg a*sg b=-1):a≠0/\b≠0:=by
 constructor
 ·rintro rfl;have:sg 0=0:=rfl;rw[this] at h;lia
 ·rintro rfl;have:sg 0=0:=rfl;rw[this] at h;lia
theorem GB.start{xs:List Int}{t u t' u':Int}(h:GB xs t u t' u')(hu:0<u)(dS:0<u'):Gd xs (vl t u) (vl t' u') (t'*u-t*u') (t*u') (t'*u) (u*u'):=by
 have hp:=Int.mul_pos hu dS;have v1:vl (t*u') (u*u')=vl t u:=iG hu dS;have v2:vl (t'*u) (u*u')=vl t' u':=by rw[Int.mul_comm u u'];exact iG dS hu
 refine⟨hp,by rw[v1];grind,by rw[v2];grind,?_⟩;rcases h with⟨h1,h2⟩|⟨h1,h2⟩
 ·have:=(qp hu dS).mp h1;refine .inl ⟨rfl,by lia,?_⟩;rw[nV hp hu v1,nV hp dS v2];exact h2
 ·have:=(nW hu dS).mp h1;refine .inr ⟨by lia,wJ.mp ?_⟩;rw[nV hp hu v1];exact wJ.mpr h2
theorem mx{k:Nat}{x y:Int}(h0:0<=x)(h:x<=y)(b:Bd k y):Bd k x:=by
 unfold Bd at*;lia
section
variable {P:Program} {w:World} {K:PySem.W.Frag} {mg:Str->Option Value} {base:Heap}
theorem uk(T:Nm mg)(uo:aT P w K mg base 35 "stretch_of" ["pair"] Kt)(jU:aT P w K mg base 35 "parts_needed" ["stretch","width"] Fs)(CG:aT P w K mg base 35 "guessed" ["free","stretch","parts"] Bp)(Fy:aT P w K mg base 35 "halved" ["free","stretch"] Ft)(fi:aT P w K mg base 35 "ratio" ["top","under"] sr)(D:aH K mg "narrowed" kN ["free","pair","width"]):aT P w K mg base 36 "narrowed" ["free","pair","width"] sx:=by
 refine D.ok da (fun vs H Q E h=>?_) (fun f bM A outer s H vs Q E hr h=>?_)
 ·obtain⟨a,pr,g,h,wd,xs,t,u,t',u',w0,w1,n,k,b,rfl,_⟩:=h;rfl
 obtain⟨a,pr,g,h,wd,xs,t,u,t',u',w0,w1,n,k,b,rfl,ha,QG,hg,hh,CH,⟨hx,bx⟩,⟨b1,b2,b3,b4,hn,hk,hb,MN,Kv,hu,dS,qZ,CC⟩,⟨Af,Cd⟩,Bq,q⟩:=h;have iF:ke=60000000:=rfl;have X5:=Bq.start hu dS;have bD:Bd (n+n+1) (t'*u-t*u'):=((b3.mul b2).sub (b1.mul b4)).mono (by lia);have Sl:Bd (n+n+b+4) (2*((t'*u-t*u')*w1)):=((Bd.of_two (n:=2) (x:=2) (by decide) (by decide)).mul (bD.mul Kv)).mono (by lia);have X6:=b2.mul b4;generalize hD:t'*u-t*u'=DD at X5 bD Sl;refine⟨_,(ae (aj (i:=3) da.nd rfl (Or.inl rfl) (ar uo hr (aa (pv 1) ag)))
  (ae (aj (i:=4) da.nd rfl (Or.inl rfl) af)
  (ae (aj (i:=5) da.nd rfl (Or.inl rfl) (ar jU hr (aa (pv 3) (aa (pv 2) ag))))
  (ae (cN PassesOwn.never (ay fo (pv 5) af (aE _))
  (ae (aj (i:=6) da.nd rfl (Or.inl rfl) (ar CG hr (aa (pv 0) (aa (pv 3) (aa (aI (mJ rfl) rfl T.E2 boot_min (aa (pv 4) (aa (pv 5) ag))) ag)))))
  (ae (aj (i:=4) da.nd rfl (Or.inl rfl) (dJ (ay xG (pv 6) fZ (aE _)) af (ao aC (pv 4) (pv 4))))
  (ae (aj (i:=3) da.nd rfl (Or.inl rfl) (dJ (ay xG (pv 6) fZ (aE _)) (ar Fy hr (aa (pv 0) (aa (pv 3) ag))) (pv 6)))
  (ah (aj (i:=5) da.nd rfl (Or.inl rfl) (ar jU hr (aa (pv 3) (aa (pv 2) ag)))))))))
  (ah (ax (cy (aa (ar fi hr (aa (aD aA (pv 3) af (fun _ _=>rfl)) (aa (aD aA (pv 3) af (fun _ _=>rfl)) ag))) (aa (ar fi hr (aa (aD aA (pv 3) af (fun _ _=>rfl)) (aa (aD aA (pv 3) af (fun _ _=>rfl)) ag))) ag))))))))),?_⟩;walk_at "sf";refine⟨pr,g,h,t,u,t',u',n,rfl,QG,hg,hh,⟨b1,b2,b3,b4,by lia⟩,fun QH Vz=>?_⟩;have s1:=av.new Vz (.tup [.int (t*u'),.int (t'*u),.int (u*u')]);have Pk:upd H QH (.tup [.int (t*u'),.int (t'*u),.int (u*u')]) QH=some (.tup [.int (t*u'),.int (t'*u),.int (u*u')]):=ai;generalize upd H QH (.tup [.int (t*u'),.int (t'*u),.int (u*u')])=H1 at s1 Pk ⊢;walk_at "sf";refine⟨QH,wd,_,_,_,w0,w1,n+n+b+10,rfl,Pk,s1 _ _ CH,⟨(b1.mul b4).mono (by lia),(b3.mul b2).mono (by lia),X6.mono (by lia),MN.mono (by lia),Kv.mono (by lia),by lia,Int.mul_pos hu dS,qZ⟩,?_⟩;walk_at "sf";have four:Bd 4 (4:Int):=Bd.of_two (by decide) (by decide);refine cC (fun m σ H'=>∃(sp:Addr)(s0 s1 uu parts:Int)(z:Option V),m=(xw w0 w1 s0 s1 uu).toNat/\σ=[some (.ref a),some (.ref pr),some (.ref wd),some (.ref sp),some (.int parts),some (.int (xw w0 w1 s0 s1 uu)),z]/\av H H'/\
  H' sp=some (.tup [.int s0,.int s1,.int uu])/\Gd xs (vl t u) (vl t' u') DD s0 s1 uu/\Bd (n+n+b+10) uu/\4<=parts/\(xw w0 w1 s0 s1 uu<=1\/Bd (4*n+2*b+100) parts))
  ⟨_,QH,_,_,_,4,_,rfl,rfl,s1,Pk,X5,X6.mono (by lia),by decide,.inr (four.mono (by lia))⟩ ?_
 rintro m σ H2 ⟨sp,s0,GD,uu,parts,z,rfl,rfl,s2,u5,gd,QI,N1,X7⟩;obtain⟨VA,VC⟩:=gd.bits Af Cd QI;obtain⟨QJ,Sm⟩:=qr (w0:=w0) (w1:=w1) (s0:=s0) (s1:=GD) (u:=uu) qZ gd.pos;generalize Xs:xw w0 w1 s0 GD uu=nd at QJ Sm X7 ⊢;have hr:=Int.mul_pos qZ gd.pos;walk_at "sf";refine dI (fun c=>?_) (fun c=>?_)
 ·have K2:1<nd:=by simpa using c
  have alt:GD-s0=DD/\0<DD/\sg (hv s0 uu xs)*sg (hv GD uu xs)=-1:=by
   rcases gd.alt with z|z
   ·exact z
   ·exfalso;rw[z.1,Int.sub_self,Int.zero_mul] at QJ;have:=Int.mul_pos (show 0<nd-1 by lia) hr;lia
  have zc:Bd (4*n+2*b+100) parts:=by
   rcases X7 with z|z
   ·lia
   ·exact z
  rw[alt.1] at QJ Sm;refine⟨_,fun bJ H' h=>h,?_⟩;walk_at "sf";refine⟨_,_,rfl,?_⟩;walk_at "sf";obtain⟨p,hp,uS,tZ,x8,VD⟩:∃p:Int,(if nd<parts then nd else parts)=p/\2<=p/\p<=nd/\p<=parts/\(p=parts\/nd<=p):=by
   by_cases hc:nd<parts
   ·exact⟨nd,if_pos hc,by lia,by lia,by lia,.inr (by lia)⟩
   ·exact⟨parts,if_neg hc,by lia,by lia,by lia,.inl rfl⟩
  rw[hp];have und:=Fq qZ gd.pos QJ (by lia) (show 0<p by lia) tZ;have qO:0<uu*p:=Int.mul_pos gd.pos (by lia);have So:Bd (n+n+b+4) (uu*p):=mx (Int.le_of_lt qO) und Sl;have VE:=Fq qZ gd.pos QJ (by lia) (show(0:Int)<2 by decide) (show 2<=nd by lia);have VF:Bd (n+n+b+4) (uu*2):=mx (by have:=gd.pos;lia) VE Sl;have hz:=Fw alt.2.2;have bp:Bd (4*n+2*b+100) p:=mx (by lia) x8 zc;refine⟨a,sp,xs,s0,GD,uu,p,4*n+2*b+k+200,rfl,s2 _ _ ha,u5,⟨hx,bx,VA.mono (by lia),VC.mono (by lia),QI.mono (by lia),So.mono (by lia),bp.mono (by lia),by lia⟩,⟨hz.1,hz.2,by lia⟩,fun _=>?_⟩;rw[alt.1];have Vy:=Ku hz.1 hz.2 (show 0<p by lia);cases e:Dd xs s0 uu p (s0*p+DD*gj xs s0 GD uu p) (s0*p+DD*gj xs s0 GD uu p+DD) with
  |none=>
   unfold Vw;show _;walk_at "sf";refine(show _/\_ from⟨rfl,?_⟩);refine⟨_,rfl,?_⟩;show(if decide (V.dU=V.dU)=true then _ else _);rw[if_pos (by decide)];walk_at "sf";refine(show _/\_ from⟨rfl,?_⟩);refine⟨_,rfl,?_⟩;show(if decide (V.dU=V.dU)=true then _ else _);rw[if_pos (by decide)];walk_at "sf";refine⟨a,sp,xs,s0,GD,uu,2*n+k+b+20,rfl,s2 _ _ ha,u5,⟨hx,bx,VA.mono (by lia),VC.mono (by lia),QI.mono (by lia),by lia⟩,fun l r un sq H3 QK hs3 hq3=>?_⟩;obtain⟨Fz,VG,U6⟩:Gd xs (vl t u) (vl t' u') DD l r un/\(r-l=DD\/l=r)/\un=uu*2:=by
    rcases QK with⟨e2,VH⟩|⟨e2,rfl,rfl,VH⟩
    ·have ee:Dd xs s0 uu 2 (s0*2+DD*0) (s0*2+DD*0+DD)=some (l,r):=by
      have x1:s0*2+DD*0=2*s0:=by lia
      have x2:2*s0+DD=s0+GD:=by lia
      rw[x1,x2];exact e2
     obtain⟨y1,y2⟩:=gd.part alt (show(0:Int)<2 by decide) (Int.le_refl 0) (by decide) ee;rw[VH];exact⟨y1,y2,rfl⟩
    ·have:=gd.upper alt e2;rw[VH];exact⟨this,.inl (by lia),by lia⟩
   subst U6;walk_at "sf";obtain⟨VI,VJ⟩:=Fz.bits Af Cd VF;refine⟨sq,wd,_,_,_,w0,w1,2*n+k+b+20,rfl,hq3,(s2.trans hs3) _ _ CH,⟨VI.mono (by lia),VJ.mono (by lia),VF.mono (by lia),MN.mono (by lia),Kv.mono (by lia),by lia,Fz.pos,qZ⟩,?_⟩;walk_at "sf";obtain⟨MO,nd4⟩:=qr (w0:=w0) (w1:=w1) (s0:=l) (s1:=r) (u:=uu*2) qZ Fz.pos;have Kw:xw w0 w1 l r (uu*2)<nd:=by
    rcases VG with z|z
    ·rw[z] at MO;exact(Bo qZ gd.pos (Int.le_refl 2) Sm (by lia) MO).1
    ·rw[z,Int.sub_self,Int.zero_mul] at MO;rcases Int.lt_or_le (xw w0 w1 l r (uu*2)) nd with y|y
     ·exact y
     ·exfalso;rw[z] at y;have Im:=Int.mul_pos qZ Fz.pos;have:=Int.mul_nonneg (show 0<=xw w0 w1 r r (uu*2)-1 by lia) (Int.le_of_lt Im);lia
   exact⟨_,by lia,sq,l,r,uu*2,4,_,rfl,rfl,s2.trans hs3,hq3,Fz,VF.mono (by lia),by decide,.inr (four.mono (by lia))⟩
  |some r=>
   obtain⟨l,r⟩:=r;intro sq hsq;have hs3:=av.new hsq (.tup [.int l,.int r,.int (uu*p)]);have hq3:upd H2 sq (.tup [.int l,.int r,.int (uu*p)]) sq=some (.tup [.int l,.int r,.int (uu*p)]):=ai;generalize upd H2 sq (.tup [.int l,.int r,.int (uu*p)])=H3 at hs3 hq3 ⊢;obtain⟨Fz,VG⟩:=gd.part alt (show 0<p by lia) Vy.1 Vy.2 e;walk_at "sf";refine(show _/\_ from⟨rfl,?_⟩);refine⟨_,rfl,?_⟩;show(if decide (V.ref sq=V.dU)=true then _ else _);rw[if_neg (by simp)];walk_at "sf";refine bN (aP zc zc (by lia)) ?_;walk_at "sf";refine(show _/\_ from⟨rfl,?_⟩);refine⟨_,rfl,?_⟩;show(if decide (V.ref sq=V.dU)=true then _ else _);rw[if_neg (by simp)];walk_at "sf";obtain⟨VI,VJ⟩:=Fz.bits Af Cd So;refine⟨sq,wd,_,_,_,w0,w1,2*n+k+b+20,rfl,hq3,(s2.trans hs3) _ _ CH,⟨VI.mono (by lia),VJ.mono (by lia),So.mono (by lia),MN.mono (by lia),Kv.mono (by lia),by lia,Fz.pos,qZ⟩,?_⟩;walk_at "sf";obtain⟨MO,nd4⟩:=qr (w0:=w0) (w1:=w1) (s0:=l) (s1:=r) (u:=uu*p) qZ Fz.pos;have Kw:xw w0 w1 l r (uu*p)<nd/\(nd<=p->xw w0 w1 l r (uu*p)<=1):=by
    rcases VG with z|z
    ·rw[z] at MO;exact Bo qZ gd.pos uS Sm (by lia) MO
    ·rw[z,Int.sub_self,Int.zero_mul] at MO;have key:xw w0 w1 l r (uu*p)<=0:=by
      rcases Int.lt_or_le 0 (xw w0 w1 l r (uu*p)) with y|y
      ·exfalso;rw[z] at y;have Im:=Int.mul_pos qZ Fz.pos;have:=Int.mul_nonneg (show 0<=xw w0 w1 r r (uu*p)-1 by lia) (Int.le_of_lt Im);lia
      ·exact y
     exact⟨by lia,fun _=>by lia⟩
   refine⟨_,by lia,sq,l,r,uu*p,parts*parts,_,rfl,rfl,s2.trans hs3,hq3,Fz,So.mono (by lia),?_,?_⟩
   ·have:=Int.mul_le_mul_of_nonneg_left (show(1:Int)<=parts by lia) (show 0<=parts by lia);lia
   ·rcases VD with z|z
    ·rw[z] at tZ;have X8:Bd (n+n+b+4) parts:=by
      refine mx (by lia) ?_ Sl;have h1:parts<=uu*p:=by
       have:=Int.mul_le_mul_of_nonneg_right (show(1:Int)<=uu by have:=gd.pos;lia) (show 0<=p by lia);lia
      lia
     exact .inr ((X8.mul X8).mono (by lia))
    ·exact .inl (Kw.2 z)
 ·have K2:¬1<nd:=by simpa using c
  walk_at "sf";refine aG (bL.of u5) rfl ?_;walk_at "sf";refine aG (bL.of u5) rfl ?_;walk_at "sf";refine⟨_,_,2*n+k+b+20,rfl,VA.mono (by lia),QI.mono (by lia),by lia,gd.pos,fun g1 c1 d1 xr bc1 bd1 uR gc1 e1=>?_⟩;have sa:=av.new xr (.tup [.int c1,.int d1]);have QL:upd H2 g1 (.tup [.int c1,.int d1]) g1=some (.tup [.int c1,.int d1]):=ai;generalize upd H2 g1 (.tup [.int c1,.int d1])=H3 at sa QL ⊢;have QM:=sa _ _ u5;walk_at "sf";refine aG (bL.of QM) rfl ?_;walk_at "sf";refine aG (bL.of QM) rfl ?_;walk_at "sf";refine⟨_,_,2*n+k+b+20,rfl,VC.mono (by lia),QI.mono (by lia),by lia,gd.pos,fun g2 c2 d2 VL bc2 bd2 hd2 gc2 e2=>?_⟩;have sb:=av.new VL (.tup [.int c2,.int d2]);have QN:upd H3 g2 (.tup [.int c2,.int d2]) g2=some (.tup [.int c2,.int d2]):=ai;generalize upd H3 g2 (.tup [.int c2,.int d2])=H4 at sb QN ⊢;walk_at "sf";intro pp x8;have sc:=av.new x8 (.tup [.ref g1,.ref g2]);have v1:vl c1 d1=vl s0 uu:=(nW uR gd.pos).mpr e1;have v2:vl c2 d2=vl GD uu:=(nW hd2 gd.pos).mpr e2;refine q pp g1 g2 c1 d1 c2 d2 _ (s2.trans (sa.trans (sb.trans sc))) ai ⟨sc _ _ (sb _ _ QL),uR,gc1⟩ ⟨sc _ _ QN,hd2,gc2⟩ ⟨by rw[v1];exact gd.lo,by rw[v2];exact gd.hi,?_,?_,bc1,bd1,bc2,bd2⟩
  ·rw[v1,v2,Fv];refine(ft gd.pos CC).mpr ?_;have:nd*(w0*uu)<=1*(w0*uu):=Int.mul_le_mul_of_nonneg_right (by lia) (Int.le_of_lt hr);lia
  ·unfold GB;rw[v1,v2,nV uR gd.pos v1,nV hd2 gd.pos v2];rcases gd.alt with z|z
   ·exact .inl ⟨(qp gd.pos gd.pos).mpr (Int.mul_lt_mul_of_pos_right (by lia) gd.pos),z.2.2⟩
   ·refine .inr ⟨by rw[z.1],wJ.mp ?_⟩;show sg (hv c1 d1 xs)=0;rw[nV uR gd.pos v1];exact wJ.mpr z.2
theorem wK(g:aT P w K mg base 36 "narrowed" ["free","pair","width"] sx):aT P w K mg base 36 "narrowed" ["free","pair","width"] (jT (fun _=>True) id):=
 g.imp fun vs H Q E⟨a,pr,g,h,wd,xs,t,u,t',u',w0,w1,n,e,ha,QG,hg,hh,CH,_,UL,⟨b1,b2,b3,b4,hn,MN,Kv,hu,dS,qZ,CC⟩,Bq,q⟩=>by
 have Af:-(2^n)<=vl t u:=by
  have e1:(vl (-(2^n)) 1)=-(2^n):=by
   unfold vl;rw[Rat.intCast_neg,Rat.intCast_pow];show -(2^n)/(1:Rat)=_;grind
  rw[<-e1];refine(ft (by decide) hu).mpr ?_;have e2:(2:Int)^n=((2^n:Nat):Int):=by rw[Int.natCast_pow];rfl
  unfold Bd at b1;have h3:(((2^n:Nat):Int))<=((2^n:Nat):Int)*u:=by
   have:=Int.mul_le_mul_of_nonneg_left (show(1:Int)<=u by lia) (show(0:Int)<=((2^n:Nat):Int) by lia);lia
  rw[e2,Int.neg_mul];lia
 have Cd:vl t' u'<=2^n:=by
  have e1:(vl (2^n) 1)=2^n:=by
   unfold vl;rw[Rat.intCast_pow];show(2^n)/(1:Rat)=_;grind
  rw[<-e1];refine(ft dS (by decide)).mpr ?_;have e2:(2:Int)^n=((2^n:Nat):Int):=by rw[Int.natCast_pow];rfl
  unfold Bd at b3;have h3:(((2^n:Nat):Int))<=((2^n:Nat):Int)*u':=by
   have:=Int.mul_le_mul_of_nonneg_left (show(1:Int)<=u' by lia) (show(0:Int)<=((2^n:Nat):Int) by lia);lia
  rw[e2];lia
 refine⟨a,pr,g,h,wd,xs,t,u,t',u',w0,w1,n,n,1000,e,ha,QG,hg,hh,CH,UL,⟨b1,b2,b3,b4,by lia,hn,by lia,MN,Kv,hu,dS,qZ,CC⟩,⟨Af,Cd⟩,Bq,fun p g h c d c' d' H' s' hp r1 r2 nw=>?_⟩;have e3:2*n+n+1000+20=3*n+1020:=by lia
 rw[e3] at nw;exact q p g h c d c' d' H' s' hp r1 r2 nw
end
end cW
namespace cW
open PySem PyProof.Rows L2 SF SF.Po
noncomputable abbrev k_:Stmt:=inClass (top 49) 0
theorem Iv:aB ["self","poly","pair","weight"] ["self","poly","pair","weight"] (ak k_):=⟨rfl,rfl,rfl,by decide +kernel,rfl,by decide +kernel,by decide +kernel⟩
structure Rc(K:PySem.W.Frag)(mg:Str->Option Value)(C fI:Addr)(fd:FuncData):Prop where
 m:mg "Root"=some (.ref C)
 X9:Mk K C fI
 cl:GX K C
 n1:iP K C "poly"
 n2:iP K C "pair"
 n3:iP K C "weight"
 ex:∃(oc:Value)(od:Option Addr)(dV kV doc pm:Value)(an:Option Addr)(bM ct:Value)(xP:Array (Option Value)),
  fd=PySem.W.fnOf "__init__" "Root.__init__" (gq k_) (dG k_) (ak k_) dV kV doc pm an bM ct/\K.lookup fI=some ⟨oc,od,.func fd,xP⟩/\PySem.W.codeIn K bM "Root.__init__"=true
 b:Binds K fd ["self","poly","pair","weight"] []
noncomputable def zd(C:Addr):Sp:=fun vs H Q _=>∃(x dx:Addr)(v1 v2 v3:V),vs=[.ref x,v1,v2,v3]/\H x=some (.ins C dx [])/\∀H',(∀c,c≠x->H' c=H c)->H' x=some (.ins C dx [("poly",v1),("pair",v2),("weight",v3)])->Q .dU H'
section
variable {P:Program} {w:World} {K:PySem.W.Frag} {mg:Str->Option Value} {base:Heap} {C fI:Addr} {fd:FuncData}
theorem Iw(RC:Rc K mg C fI fd):kj P w K mg base uQ 1 fI fd ["self","poly","pair","weight"] (zd C):=by
 obtain⟨oc,od,dV,kV,doc,pm,an,bM,ct,xP,rfl,lk,ko⟩:=RC.ex;refine Jr lk ko Iv (fun vs H Q E h=>?_) fun A outer s H vs Q E hr h=>?_
 ·obtain⟨x,dx,v1,v2,v3,rfl,_⟩:=h;rfl
 obtain⟨x,dx,v1,v2,v3,rfl,hx,q⟩:=h;refine⟨_,qJ.Jh (ae (xK (pv 0) (pv 1) ?s1) (ae (xK (pv 0) (pv 2) ?s2) (ah (xK (pv 0) (pv 3) ?s3)))),?_⟩
 case s1=>rfl
 case s2=>rfl
 case s3=>rfl
 walk_at "sf";refine⟨_,rfl,_,rfl,x,C,dx,[],rfl,hx,RC.cl,RC.n1,by decide,?_⟩;walk_at "sf";refine⟨_,rfl,_,rfl,x,C,dx,_,rfl,ai,RC.cl,RC.n2,Nat.lt_of_le_of_lt (fR _ _ _) (by decide),?_⟩;walk_at "sf";refine⟨_,rfl,_,rfl,x,C,dx,_,rfl,ai,RC.cl,RC.n3,Nat.lt_of_le_of_lt (fR _ _ _) (Nat.lt_of_le_of_lt (Nat.add_le_add_right (fR _ _ _) 1) (by decide)),?_⟩;walk_at "sf";refine q _ (fun c hc=>?_) ?_
 ·rw[aq hc,aq hc,aq hc]
 ·rw[ai];rfl
end
end cW
namespace cW
open PySem PyProof.Rows L2 SF SF.Po
noncomputable def Br:Sp:=fun vs H Q _=>∃(g h:Addr)(t u t' u':Int),vs=[.ref g,.ref h]/\H g=some (.tup [.int t,.int u])/\H h=some (.tup [.int t',.int u'])/\(Bd 700000 t/\Bd 700000 u/\Bd 700000 t'/\Bd 700000 u')/\Q (.int (sg (t*u'-t'*u))) H
structure Nv where
 r:Addr
 dx:Addr
 pl:Addr
 pp:Addr
 g:Addr
 h:Addr
 zs:List Int
 t:Int
 u:Int
 t':Int
 u':Int
 w:Int
structure Nv.Hx(H:Hp)(C:Addr)(v:Nv):Prop where
 ir:H v.r=some (.ins C v.dx [("poly",.ref v.pl),("pair",.ref v.pp),("weight",.int v.w)])
 hl:IL H v.pl v.zs
 hp:H v.pp=some (.tup [.ref v.g,.ref v.h])
 rl:Rt H v.g v.t v.u
 rh:Rt H v.h v.t' v.u'
theorem Nv.Hx.same{H H':Hp}{C:Addr}{v:Nv}(x:v.Hx H C)(s:av H H'):v.Hx H' C:=⟨s _ _ x.ir,s _ _ x.hl,s _ _ x.hp,x.rl.same s,x.rh.same s⟩
structure Nv.Px(v:Nv)(x:Re):Prop where
 iso:m5 v.zs x (vl v.t v.u) (vl v.t' v.u')
 Bq:GB v.zs v.t v.u v.t' v.u'
 lz:v.zs.length<=13
 az:Ab 100 v.zs
 bt:Bd 20000 v.t
 bu:Bd 20000 v.u
 y9:Bd 20000 v.t'
 wz:Bd 20000 v.u'
theorem uq{t u t' u':Int}(hu:0<u)(dS:0<u'):sg (t*u'-t'*u)=aU (Re.q (vl t u)-Re.q (vl t' u')):=by
 have h1:=qp (t:=t) (t':=t') hu dS;have h2:=qp (t:=t') (t':=t) dS hu;unfold sg;split
 ·rename_i z;have:=Re.eA.mpr (h1.mpr (by lia));rw[SF.Re.cI (by grind)]
 ·split
  ·rename_i z;have:=Re.eA.mpr (h2.mpr (by lia));rw[SF.Re.bK (by grind)]
  ·have e:vl t u=vl t' u':=(nW hu dS).mpr (by lia);have z:Re.q (vl t' u')-Re.q (vl t' u')=0:=by grind
   rw[e,z,SF.Re.bP]
theorem Nv.Px.side{v:Nv}{x:Re}(px:v.Px x){z:Rat}(h:aU (Re.q (vl v.t v.u)-Re.q z)=aU (Re.q (vl v.t' v.u')-Re.q z)):aU (Re.q (vl v.t v.u)-Re.q z)=aU (x-Re.q z):=by
 have h1:=px.iso.ge;have h2:=px.iso.le;rcases SF.Re.aR (Re.q (vl v.t v.u)-Re.q z) with a|a|a<;>rcases SF.Re.aR (Re.q (vl v.t' v.u')-Re.q z) with b|b|b<;>rw[a.2,b.2] at h<;>
  first|(exfalso;revert h;decide)|skip
 ·rw[a.2,SF.Re.cI (by grind)]
 ·have:x-Re.q z=0:=by grind
  rw[a.2,this,SF.Re.bP]
 ·rw[a.2,SF.Re.bK (by grind)]
theorem Nv.Px.within{v:Nv}{x:Re}(px:v.Px x){z:Rat}(h:¬aU (Re.q (vl v.t v.u)-Re.q z)=aU (Re.q (vl v.t' v.u')-Re.q z)):aU (at' (Re.q (vl v.t v.u)) (aw v.zs))*aU (at' (Re.q z) (aw v.zs))=aU (x-Re.q z):=by
 have h1:=px.iso.ge;have h2:=px.iso.le;have lt:vl v.t v.u<vl v.t' v.u':=by
  refine Re.eA.mp ?_;rcases SF.Re.AI (Re.q (vl v.t v.u)) (Re.q (vl v.t' v.u')) with w|w|w
  ·exact w
  ·exact absurd (by rw[w]) h
  ·exfalso;grind
 obtain⟨k1,k2⟩:=px.iso.st lt;obtain⟨c,hc,hs⟩:=px.iso.sn;have w:vl v.t v.u<=z/\z<=vl v.t' v.u':=by
  constructor<;>refine Re.cv.mp ?_
  ·rcases SF.Re.aR (Re.q (vl v.t v.u)-Re.q z) with a|a|a
   ·grind
   ·grind
   ·exact absurd (by rw[a.2,SF.Re.bK (by grind)]) h
  ·rcases SF.Re.aR (Re.q (vl v.t' v.u')-Re.q z) with a|a|a
   ·exact absurd (by rw[a.2,SF.Re.cI (by grind)]) h
   ·grind
   ·grind
 have ec:Re.q z-x=-(x-Re.q z):=by grind
 rw[hs _ Rat.le_refl (Rat.le_of_lt lt),hs z w.1 w.2,SF.Re.cI (x:=Re.q (vl v.t v.u)-x) (by grind),ec,SF.Re.mV];rcases hc with rfl|rfl<;>lia
structure Nv.Vx(v:Nv)(x:Re):Prop where
 bt:Bd 20000 v.t
 bu:Bd 20000 v.u
 y9:Bd 20000 v.t'
 wz:Bd 20000 v.u'
 alt:((v.t=v.t'/\v.u=v.u')/\x=Re.q (vl v.t v.u))\/v.Px x
theorem Nv.Px.vx{v:Nv}{x:Re}(h:v.Px x):v.Vx x:=⟨h.bt,h.bu,h.y9,h.wz,.inr h⟩
theorem Nv.Vx.side{v:Nv}{x:Re}(vx:v.Vx x){z:Rat}(h:aU (Re.q (vl v.t v.u)-Re.q z)=aU (Re.q (vl v.t' v.u')-Re.q z)):aU (Re.q (vl v.t v.u)-Re.q z)=aU (x-Re.q z):=by
 rcases vx.alt with⟨_,e⟩|px
 ·rw[e]
 ·exact px.side h
section
variable {P:Program} {w:World} {K:PySem.W.Frag} {mg:Str->Option Value} {base:Heap} {C fI:Addr} {fd:FuncData}
theorem wL(gO:aT P w K mg base 1 "sign" ["number"] nt)(D:aH K mg "order_of" kG ["one","other"]):aT P w K mg base 2 "order_of" ["one","other"] Br:=by
 refine D.ok v5 (fun vs H Q E h=>?_) (fun f bM A outer s H vs Q E hr h=>?_)
 ·obtain⟨g,h,t,u,t',u',rfl,_⟩:=h;rfl
 obtain⟨g,h,t,u,t',u',rfl,hg,hh,⟨b1,b2,b3,b4⟩,q⟩:=h;refine⟨_,(ah (ax (ar gO hr (aa (ao bq (ao aC (aD aA (pv 0) af (fun _ _=>rfl)) (aD aA (pv 1) af (fun _ _=>rfl))) (ao aC (aD aA (pv 1) af (fun _ _=>rfl)) (aD aA (pv 0) af (fun _ _=>rfl)))) ag)))),?_⟩;walk_at "sf";refine aG (bL.of hg) rfl ?_;walk_at "sf";refine aG (bL.of hh) rfl ?_;refine bN (aP b1 b4 (by decide)) ?_;walk_at "sf";refine aG (bL.of hh) rfl ?_;walk_at "sf";refine aG (bL.of hg) rfl ?_;refine bN (aP b3 b2 (by decide)) ?_;walk_at "sf";exact⟨_,rfl,q⟩
noncomputable def iH(C:Addr):Sp:=fun vs H Q _=>∃(v:Nv)(g:Addr)(t u:Int)(x:Re),vs=[.ref v.r,.ref g]/\v.Hx H C/\v.Vx x/\H g=some (.tup [.int t,.int u])/\0<u/\Bd 700000 t/\Bd 700000 u/\Q (.int (aU (x-Re.q (vl t u)))) H
theorem ze(RC:Rc K mg C fI fd)(dQ:aT P w K mg base 35 "order_of" ["one","other"] Br)(d7:aT P w K mg base 35 "sign_at" ["poly","given"] Fe)(D:aH K mg "against" nj ["number","given"]):aT P w K mg base 36 "against" ["number","given"] (iH C):=by
 refine D.ok kQ (fun vs H Q E h=>?_) (fun f bM A outer s H vs Q E hr h=>?_)
 ·obtain⟨v,g,t,u,x,rfl,_⟩:=h;rfl
 obtain⟨v,g,t,u,x,rfl,hx,vx,hg,hu,bt,bu,q⟩:=h;have iF:ke=60000000:=rfl;refine⟨_,(ae (aj (i:=2) kQ.nd rfl (Or.inl rfl) (aD aA (cx (pv 0) rfl) af (fun _ _=>rfl)))
  (ae (aj (i:=3) kQ.nd rfl (Or.inl rfl) (ar dQ hr (aa (pv 2) (aa (pv 1) ag))))
  (ae (bB (ay f_ (pv 3) (ar dQ hr (aa (aD aA (cx (pv 0) rfl) af (fun _ _=>rfl)) (aa (pv 1) ag))) (aE _))
  (ah (ax (pv 3)))
  aM)
  (ah (ax (ao aC (ar d7 hr (aa (cx (pv 0) rfl) (aa (pv 2) ag))) (ar d7 hr (aa (cx (pv 0) rfl) (aa (pv 1) ag))))))))),?_⟩;walk_at "sf";refine⟨_,rfl,_,C,_,_,_,rfl,hx.ir,RC.cl,RC.n2,rfl,?_⟩;walk_at "sf";refine aG (bL.of hx.hp) rfl ?_;walk_at "sf";refine⟨v.g,g,_,_,_,_,rfl,hx.rl.1,hg,⟨vx.bt.mono (by decide),vx.bu.mono (by decide),bt,bu⟩,?_⟩;rw[uq hx.rl.2.1 hu];walk_at "sf";refine⟨_,rfl,_,C,_,_,_,rfl,hx.ir,RC.cl,RC.n2,rfl,?_⟩;walk_at "sf";refine aG (bL.of hx.hp) rfl ?_;walk_at "sf";refine⟨v.h,g,_,_,_,_,rfl,hx.rh.1,hg,⟨vx.y9.mono (by decide),vx.wz.mono (by decide),bt,bu⟩,?_⟩;rw[uq hx.rh.2.1 hu];walk_at "sf";refine dI (fun c=>?_) (fun c=>?_)
 ·walk_at "sf";rw[vx.side (by simpa using c)];exact q
 ·obtain px:v.Px x:=vx.alt.resolve_left fun⟨r,_⟩=>by
   have c':¬aU (Re.q (vl v.t v.u)-Re.q (vl t u))=aU (Re.q (vl v.t' v.u')-Re.q (vl t u)):=by simpa using c
   rw[r.1,r.2] at c';exact c' rfl
  have lz:=px.lz;walk_at "sf";refine⟨_,rfl,_,C,_,_,_,rfl,hx.ir,RC.cl,RC.n1,rfl,?_⟩;walk_at "sf";refine⟨v.pl,v.g,v.zs,_,_,100,20000,rfl,hx.hl,hx.rl.1,⟨by have:=px.lz;lia,px.az,px.bt,px.bu,by lia⟩,?_⟩;walk_at "sf";refine⟨_,rfl,_,C,_,_,_,rfl,hx.ir,RC.cl,RC.n1,rfl,?_⟩;walk_at "sf";refine⟨v.pl,g,v.zs,_,_,100,700000,rfl,hx.hl,hg,⟨by have:=px.lz;lia,px.az,bt,bu,by lia⟩,?_⟩;walk_at "sf";refine bN (aP (sk _) (sk _) (by decide)) ?_;have e:=px.within (z:=vl t u) (by simpa using c);rw[gi hx.rl.2.1,gi hu];have e2:aU (at' (Re.q ((v.t:Rat)/(v.u:Rat))) (aw v.zs))*aU (at' (Re.q ((t:Rat)/(u:Rat))) (aw v.zs))=aU (x-Re.q (vl t u)):=e;rw[e2];exact q
end
end cW
namespace cW
open PySem PyProof.Rows L2 SF SF.Po
theorem FA{c:Bool}{A B:Prop}(h1:c=true->B->A)(h:B):if c=true then A else B:=by
 cases c with
 |true=>rw[if_pos rfl];exact h1 rfl h
 |false=>rw[if_neg (by decide)];exact h
theorem FC{C:Addr}{sp:Sp}{dvs:List V}{E:XK}{t:TA}{σ:L2.St}{H:Hp}{Q:VK}(h:t σ H fun vs H1=>∀x dx,H1 x=none->H1 dx=none->dx≠x->sp (.ref x::(vs++dvs)) (upd (upd H1 dx (.own x)) x (.ins C dx [])) (fun v H2=>v=.dU/\Q (.ref x) H2) E):Jq C sp dvs E t σ H Q:=h
theorem wM{H1 H':Hp}{C x dx:Addr}(h1:H1 x=none)(h2:H1 dx=none)(n:dx≠x)(h:∀c,c≠x->H' c=upd (upd H1 dx (.own x)) x (.ins C dx []) c):av H1 H':=fun c o e=>by
 rw[h c (aL e h1),aq (aL e h1),aq (aL e h2)];exact e
theorem FD(t u:Int):hv t u [-t,u]=0:=by
 simp[hv,aF,co];grind
noncomputable def Gives(C:Addr)(H:Hp)(x:Re)(Q:VK):Prop:=∀(v:Nv)(H':Hp),av H H'->v.Hx H' C->v.Px x->Q (.ref v.r) H'
noncomputable def Bs(C:Addr):Sp:=fun vs H Q _=>∃(g:Addr)(t u:Int),vs=[.ref g]/\Rt H g t u/\Bd 100 t/\Bd 100 u/\Gives C H (Re.q (vl t u)) Q
structure Nv.Rm(v:Nv)(H:Hp)(a b:Int):Prop where
 t:v.t=a
 u:v.u=b
 t':v.t'=a
 u':v.u'=b
 w:v.w=1
 fr:H v.pl=none
noncomputable def my(C:Addr):Sp:=fun vs H Q _=>∃(g:Addr)(t u:Int),vs=[.ref g]/\Rt H g t u/\∀(v:Nv)(H':Hp),av H H'->v.Hx H' C->v.Rm H t u->(Bd 100 t->Bd 100 u->v.Px (Re.q (vl t u)))->Q (.ref v.r) H'
structure Nv.Mk(v:Nv)(a:Addr)(zs:List Int)(wt:Int)(lo hi:Rat):Prop where
 pl:v.pl=a
 zs:v.zs=zs
 w:v.w=wt
 lo:lo<=vl v.t v.u
 hi:vl v.t' v.u'<=hi
noncomputable def ur(C:Addr):Sp:=fun vs H Q _=>∃(a pr g h:Addr)(zs:List Int)(t u t' u' wt:Int)(x:Re),vs=[.ref a,.ref pr,.int wt]/\IL H a zs/\H pr=some (.tup [.ref g,.ref h])/\Rt H g t u/\Rt H h t' u'/\
 (zs.length<=13/\Ab 100 zs/\zs≠[]/\0<co zs (zs.length-1))/\(Bd 6000 t/\Bd 6000 u/\Bd 6000 t'/\Bd 6000 u')/\m5 zs x (vl t u) (vl t' u')/\GB zs t u t' u'/\(∀z:Rat,at' (Re.q z) (aw zs)≠0)/\∀(v:Nv)(H':Hp),av H H'->v.Hx H' C->v.Px x->v.Mk a zs wt (vl t u) (vl t' u')->Q (.ref v.r) H'
theorem GB.re{zs:List Int}{t u t' u':Int}(h:GB zs t u t' u')(hu:0<u)(dS:0<u'):(vl t u<vl t' u'/\aU (at' (Re.q (vl t u)) (aw zs))*aU (at' (Re.q (vl t' u')) (aw zs))=-1)\/(vl t u=vl t' u'/\at' (Re.q (vl t u)) (aw zs)=0):=by
 rcases h with⟨h1,h2⟩|⟨h1,h2⟩
 ·rw[gi hu,gi dS] at h2;exact .inl ⟨h1,h2⟩
 ·refine .inr ⟨h1,SF.Re.bA ?_⟩;have:=gi (t:=t) hu zs;rw[h2] at this;exact this.symm
section
variable {P:Program} {w:World} {K:PySem.W.Frag} {mg:Str->Option Value} {base:Heap} {C fI:Addr} {fd:FuncData}
theorem uv(RC:Rc K mg C fI fd)(zf:kj P w K mg base uQ 34 fI fd ["self","poly","pair","weight"] (zd C))(D:aH K mg "of_ratio" kO ["given"]):aT P w K mg base 36 "of_ratio" ["given"] (my C):=by
 refine D.ok v8 (fun vs H Q E h=>?_) (fun f bM A outer s H vs Q E hr h=>?_)
 ·obtain⟨g,t,u,rfl,_⟩:=h;rfl
 obtain⟨g,t,u,rfl,rg,q⟩:=h;refine⟨_,(ah (ax (zZ (dvs:=[]) (E:=E0) RC.X9 zf hr rfl RC.m RC.b .nil u9 (aa (cQ (aa (cU bR (aD aA (pv 0) af (fun _ _=>rfl))) (aa (aD aA (pv 0) af (fun _ _=>rfl)) ag))) (aa (cy (aa (pv 0) (aa (pv 0) ag))) (aa af ag)))))),?_⟩;walk_at "sf";refine FC ?_;walk_at "sf";refine aG (bL.of rg.1) rfl ?_;walk_at "sf";refine aG (bL.of rg.1) rfl ?_;walk_at "sf";intro pl mG;have s1:=av.new mG (.lst [V.int (-t),V.int u]);have h1:upd H pl (.lst [V.int (-t),V.int u]) pl=some (.lst ([-t,u].map V.int)):=ai;generalize upd H pl (.lst [V.int (-t),V.int u])=H1 at s1 h1 ⊢;walk_at "sf";intro pp x8;have s2:=av.new x8 (.tup [.ref g,.ref g]);have h2:upd H1 pp (.tup [.ref g,.ref g]) pp=some (.tup [.ref g,.ref g]):=ai;generalize upd H1 pp (.tup [.ref g,.ref g])=H2 at s2 h2 ⊢;walk_at "sf";intro x dx e1 e2 e3;refine⟨x,dx,_,_,_,rfl,ai,fun H' hk hx=>⟨rfl,?_⟩⟩;have s3:=wM e1 e2 e3 hk;have X_:=rg.same (s1.trans (s2.trans s3));refine q ⟨x,dx,pl,pp,g,g,[-t,u],t,u,t,u,1⟩ H' (s1.trans (s2.trans s3)) ⟨hx,s3 _ _ (s2 _ _ h1),s3 _ _ h2,X_,X_⟩ ⟨rfl,rfl,rfl,rfl,rfl,mG⟩ fun bt bu=>⟨m5.ratio rg.2.1,.inr ⟨rfl,FD t u⟩,by show 2<=13;decide,fun y hy=>?_,bt.mono (by decide),bu.mono (by decide),bt.mono (by decide),bu.mono (by decide)⟩;rcases List.mem_cons.mp hy with z|z
 ·rw[z];unfold Bd at*;rw[Int.natAbs_neg];exact bt
 ·rw[List.mem_singleton.mp z];exact bu
theorem wN(g:aT P w K mg base 36 "of_ratio" ["given"] (my C)):aT P w K mg base 36 "of_ratio" ["given"] (Bs C):=
 g.imp fun _ _ _ _ ⟨g,t,u,e,rg,bt,bu,q⟩=>⟨g,t,u,e,rg,fun v H' s hv _ px=>q v H' s hv (px bt bu)⟩
theorem uw(hT:P.given.tree=none)(RC:Rc K mg C fI fd)(zf:kj P w K mg base uQ 35 fI fd ["self","poly","pair","weight"] (zd C))(eK:aT P w K mg base 36 "narrowed" ["free","pair","width"] (jT (fun _=>True) id))(dR:aT P w K mg base 36 "of_ratio" ["given"] (Bs C))(fi:aT P w K mg base 36 "ratio" ["top","under"] sr)(dQ:aT P w K mg base 36 "order_of" ["one","other"] Br)(d7:aT P w K mg base 36 "sign_at" ["poly","given"] Fe)(D:aH K mg "number_in" jI ["free","pair","weight"]):aT P w K mg base 37 "number_in" ["free","pair","weight"] (ur C):=by
 refine D.ok dZ (fun vs H Q E h=>?_) (fun f bM A outer s H vs Q E hr h=>?_)
 ·obtain⟨a,pr,g,h,zs,t,u,t',u',wt,x,rfl,_⟩:=h;rfl
 obtain⟨a,pr,g,h,zs,t,u,t',u',wt,x,rfl,ha,QG,rg,rh,⟨lz,az,QO,zg⟩,⟨b1,b2,b3,b4⟩,iso,Bq,Mf,q⟩:=h;have iF:ke=60000000:=rfl;have bl:=az.co (zs.length-1);refine⟨_,(ae (aj (i:=3) dZ.nd rfl (Or.inl rfl) (aD bE (pv 0) (cU bR af) (fun _ _=>rfl)))
  (ae (aj (i:=4) dZ.nd rfl (Or.inl rfl) (ar eK hr (aa (pv 0) (aa (pv 1) (aa (cy (aa af (aa (pv 3) ag))) ag)))))
  (ae (aj (i:=5) dZ.nd rfl (Or.inl rfl) (aD aA (pv 4) af (fun _ _=>rfl)))
  (ae (aj (i:=6) dZ.nd rfl (Or.inl rfl) (aD aA (pv 4) af (fun _ _=>rfl)))
  (ae (bB (ay (DU hr.sL) (pv 5) (pv 6) (aE _))
  (ah (ax (ar dR hr (aa (pv 5) ag))))
  aM)
  (ae (aj (i:=7) dZ.nd rfl (Or.inl rfl) (ar fi hr (aa (ao bH (ao (dO ⟨hT,⟨_,_,rfl,rfl,rfl,rfl,rfl⟩,hr.py⟩) (ao aC (aD aA (pv 5) af (fun _ _=>rfl)) (pv 3)) (aD aA (pv 5) af (fun _ _=>rfl))) af) (aa (pv 3) ag))))
  (ae (bB (PW.pt (kz (ay gS (ar dQ hr (aa (pv 7) (aa (pv 6) ag))) af (aE _)) (iN (ay f_ (ar d7 hr (aa (pv 0) (aa (pv 7) ag))) af (aE _)))))
  (ah (ax (ar dR hr (aa (pv 7) ag))))
  aM)
  (ah (ax (zZ (dvs:=[]) (E:=E0) RC.X9 zf hr rfl RC.m RC.b .nil u9 (aa (pv 0) (aa (pv 4) (aa (pv 2) ag))))))))))))),?_⟩;walk_at "sf";refine cV (aW.of ha) (gv QO) ?_;generalize co zs (zs.length-1)=l at zg bl;walk_at "sf";intro wd CH;have s1:=av.new CH (.tup [.int 1,.int l]);have h1:upd H wd (.tup [.int 1,.int l]) wd=some (.tup [.int 1,.int l]):=ai;generalize upd H wd (.tup [.int 1,.int l])=H1 at s1 h1 ⊢;walk_at "sf";refine⟨a,pr,g,h,wd,zs,t,u,t',u',1,l,6000,rfl,s1 _ _ ha,s1 _ _ QG,(rg.same s1).1,(rh.same s1).1,h1,trivial,⟨lz,az⟩,⟨b1,b2,b3,b4,by decide,Bd.mono (m:=1) (by show(1:Int).natAbs<2^1;decide) (by decide),bl.mono (by decide),rg.2.1,rh.2.1,by decide,zg⟩,Bq,fun pn g2 h2 c d c' d' H2 s2 tZ r2 Iy nw=>?_⟩;have eT:=s1.trans s2;have X':=nw.Bq.re r2.2.1 Iy.2.1;have Iz:=iso.part nw.lo nw.hi X';have lt2:vl c d<vl c' d':=by
  rcases X' with z|z
  ·exact z.1
  ·exact absurd z.2 (Mf _)
 walk_at "sf";refine aG (bL.of tZ) rfl ?_;walk_at "sf";refine aG (bL.of tZ) rfl ?_;walk_at "sf";refine⟨g2,h2,c,d,c',d',rfl,rfl,bL.of r2.1,bL.of Iy.1,?_⟩;have ne:(c==c'&&d==d')=false:=by
  rw[Bool.and_eq_false_iff,beq_eq_false_iff_ne,beq_eq_false_iff_ne];by_cases z:c=c'
  ·refine .inr fun z2=>?_;rw[z,z2] at lt2;grind
  ·exact .inl z
 rw[ne];walk_at "sf";refine fS ?_;walk_at "sf";refine aG (bL.of r2.1) rfl ?_;walk_at "sf";refine bN (aP nw.b1 bl (by decide)) ?_;walk_at "sf";refine aG (bL.of r2.1) rfl ?_;refine bN (by have:=r2.2.1;lia) ?_;walk_at "sf";have bf:Bd 19200 ((c*l).fdiv d):=by
  have b5:=nw.b1.mul bl;rw[dy r2.2.1];unfold Bd at*;have e:=Int.natAbs_ediv_le_natAbs (c*l) d;exact Nat.lt_of_le_of_lt e (Nat.lt_of_lt_of_le b5 (Nat.pow_le_pow_right (by decide) (by decide)))
 have VM:Bd 19300 ((c*l).fdiv d+1):=(bf.add (Bd.mono (m:=1) (by show(1:Int).natAbs<2^1;decide) (by decide))).mono (by decide);refine⟨_,l,19300,rfl,VM,bl.mono (by decide),by decide,zg,fun p3 tg ug Fb Sq Sr Ss _ _=>?_⟩;have s3:=av.new Fb (.tup [.int tg,.int ug]);have h3:upd H2 p3 (.tup [.int tg,.int ug]) p3=some (.tup [.int tg,.int ug]):=ai;generalize upd H2 p3 (.tup [.int tg,.int ug])=H3 at s3 h3 ⊢;walk_at "sf";refine⟨p3,h2,_,_,_,_,rfl,h3,s3 _ _ Iy.1,⟨Sq.mono (by decide),Sr.mono (by decide),nw.b3.mono (by decide),nw.b4.mono (by decide)⟩,?_⟩;walk_at "sf";refine FA (fun _ hB=>?_) ?_
 ·walk_at "sf";refine⟨a,p3,zs,tg,ug,100,19300,rfl,s3 _ _ (eT _ _ ha),h3,⟨by lia,az,Sq,Sr,by lia⟩,?_⟩;walk_at "sf";have nz:sg (hv tg ug zs)≠0:=fun z=>by
   rw[gi Ss] at z;exact Mf _ (SF.Re.bA z)
  rw[decide_eq_false nz];refine fS ?_;exact hB
 refine fS ?_;walk_at "sf";refine FC ?_;walk_at "sf";intro x2 dx e1 e2 e3;refine⟨x2,dx,_,_,_,rfl,ai,fun H' hk hx=>⟨rfl,?_⟩⟩;have s4:=s3.trans (wM e1 e2 e3 hk);have Ya:=eT.trans s4;exact q ⟨x2,dx,a,pn,g2,h2,zs,c,d,c',d',wt⟩ H' Ya ⟨hx,Ya _ _ ha,s4 _ _ tZ,r2.same s4,Iy.same s4⟩ ⟨Iz,nw.Bq,lz,az,nw.b1.mono (by decide),nw.b2.mono (by decide),nw.b3.mono (by decide),nw.b4.mono (by decide)⟩ ⟨rfl,rfl,rfl,nw.lo,nw.hi⟩
end
end cW
namespace cW
open PySem PyProof.Rows L2 SF SF.Po
section
variable {K:PySem.W.Frag} {own:List Str} {fr:List Nat} {g:TG} {te:TE} {σ:L2.St} {H1:Hp} {Q:VK}
theorem zh{a:Addr}{xs:List V}(hS:aW K H1 a xs)(Pv:List V->Hp->Prop)(hz:xs.length<=sizeLine)(p0:∀H2,av H1 H2->Pv [] H2)(hu:∀ys H D l l',H1 D=none->H D=some (.lst l)->Pv ys H->Pv ys (upd H D (.lst l')))(hs:∀(i:Nat)(x:V)(r:L2.St)(ys:List V)(H2:Hp),xs[i]?=some x->r.length=own.length->ys.length=i->Pv ys H2->av H1 H2->∀Z:V->L2.St->Hp->Prop,(∀y d_ H5,av H2 H5->Pv (ys++[y]) H5->(∃r',r'.length=own.length/\d_=r'++vd fr σ)->Z y d_ H5)->g x (r++vd fr σ) H2 fun d_ H4=>te d_ H4 fun y H5=>Z y d_ H5)(hq:∀D H2 ys,H1 D=none->av H1 H2->H2 D=some (.lst ys)->ys.length=xs.length->Pv ys H2->Q (.ref D) H2):mR (uO K a) own fr σ g te H1 Q:=by
 intro D hD;refine⟨fun i m fP H2=>m=xs.length-i/\i<=xs.length/\av H1 H2/\(∃r:L2.St,r.length=own.length/\fP=r++vd fr σ)/\∃ys,ys.length=i/\Pv ys H2/\H2 D=some (.lst ys),⟨xs.length,rfl,Nat.zero_le _,av.new hD _,⟨_,List.length_replicate,rfl⟩,[],rfl,p0 _ (av.new hD _),ai⟩,fun i m fP H2 w=>?_⟩;obtain⟨rfl,hi,eT,⟨r,hr,rfl⟩,ys,hl,hp,hy⟩:=w;by_cases eM:i<xs.length
 ·refine .inr ⟨⟨xs,xs[i],eT.seq hS,by simp[eM]⟩,fun x H3 y=>?_⟩;obtain⟨rfl,y⟩:=y;refine hs i x r ys _ (y xs (eT.seq hS)) hr hl hp eT _ fun v d_ H5 DJ pv⟨r',Ls,e⟩=>?_;refine⟨ys,DJ _ _ hy,by lia,xs.length-(i+1),by lia,rfl,eM,fun b o q=>?_,⟨r',Ls,e⟩,ys++[v],by rw[List.length_append,hl];rfl,hu _ _ _ _ _ hD (DJ _ _ hy) pv,ai⟩;rw[aq (aL q hD)];exact DJ _ _ (eT _ _ q)
 ·obtain rfl:i=xs.length:=by lia
  exact .inl ⟨⟨xs,eT.seq hS,Nat.le_refl _⟩,hq D H2 ys hD eT hy hl hp⟩
end
theorem Nv.Hx.upd{H:Hp}{C D:Addr}{v:Nv}{l l':List V}(x:v.Hx H C)(hD:H D=some (.lst l))(n:v.pl≠D):v.Hx (L2.upd H D (.lst l')) C:=by
 have key:∀(c:Addr)(o:HO),c≠D->H c=some o->L2.upd H D (.lst l') c=some o:=fun c o z e=>by rw[aq z];exact e
 have k2:∀(c:Addr)(vs:List V),H c=some (.tup vs)->c≠D:=fun c vs e z=>by rw[z,hD] at e;cases e
 exact⟨key _ _ (fun z=>by have:=x.ir;rw[z,hD] at this;cases this) x.ir,key _ _ n x.hl,key _ _ (k2 _ _ x.hp) x.hp,⟨key _ _ (k2 _ _ x.rl.1) x.rl.1,x.rl.2⟩,⟨key _ _ (k2 _ _ x.rh.1) x.rh.1,x.rh.2⟩⟩
structure Qd(p m d:Int)(s:Re):Prop where
 hd:0<d
 hm:pP m
 s0:0<s
 ss:s*s=(m:Re)
 bp:Bd 12 p
 bm:Bd 24 m
 bd:Bd 8 d
theorem Qd.ab{p m d:Int}{s:Re}(h:Qd p m d s):Ab 40 (qd p m d):=fun x hx=>by
 have b2:Bd 3 (2:Int):=Bd.of_two (by decide) (by decide);have b0:Bd 30 (0:Int):=Bd.mono (m:=1) (by show(0:Int).natAbs<2^1;decide) (by decide);unfold qd at hx;rcases List.mem_cons.mp hx with e|hx
 ·rw[e];exact((h.bp.mul h.bp).sub h.bm).mono (by decide)
 ·rcases List.mem_cons.mp hx with e|hx
  ·rw[e];exact(b0.sub ((b2.mul h.bp).mul h.bd |>.mono (by decide))).mono (by decide)
  ·rw[List.mem_singleton.mp hx];exact(h.bd.mul h.bd).mono (by decide)
theorem Qd.IA{p m d:Int}{s:Re}(h:Qd p m d s):Cw (qd p m d):=⟨fW h.hd,jC _ _ _,by show 3<=_;decide,40,by decide,h.ab⟩
theorem Qd.QP{p m d:Int}{s:Re}(h:Qd p m d s):wu (vD (qd p m d)):=by
 rw[A4 h.hd h.hm];refine⟨bS (fW h.hd),fun z=>?_,by rw[aS];show 3<=13;decide,(dB (fW h.hd) (jC _ _ _) h.ab).mono (by decide),Mo h.hd h.hm⟩;have:=congrArg List.length z;rw[aS] at this;cases this
structure Tw(v0 v1:Nv)(zs:List Int):Prop where
 z0:v0.zs=zs
 z1:v1.zs=zs
 w0:v0.w=2
 w1:v1.w=2
 ap:vl v0.t' v0.u'<=vl v1.t v1.u
noncomputable def ux(C:Addr):Sp:=fun vs H Q _=>∃(a:Addr)(p m d:Int)(s:Re),vs=[.ref a]/\IL H a (qd p m d)/\Qd p m d s/\
 ∀(l:Addr)(v0 v1:Nv)(H':Hp),av H H'->H' l=some (.lst [.ref v0.r,.ref v1.r])->v0.Hx H' C->v1.Hx H' C->v0.Px (ov ((p:Re)-s) d)->v1.Px (ov ((p:Re)+s) d)->Tw v0 v1 (au (qd p m d))->Q (.ref l) H'
section
variable {P:Program} {w:World} {K:PySem.W.Frag} {mg:Str->Option Value} {base:Heap} {C fI:Addr} {fd:FuncData}
theorem FE(T:Nm mg)(lj:aT P w K mg base 37 "isolated" ["poly"] Fm)(eC:aT P w K mg base 37 "square_free" ["poly"] (C_ vD Cw))(jV:aT P w K mg base 37 "number_in" ["free","pair","weight"] (ur C))(jS:aT P w K mg base 37 "degree" ["poly"] Bl)(D:aH K mg "roots" tR ["poly"]):aT P w K mg base 38 "roots" ["poly"] (ux C):=by
 refine D.ok qc (fun vs H Q E h=>?_) (fun f bM A outer s H vs Q E hr h=>?_)
 ·obtain⟨a,p,m,d,s,rfl,_⟩:=h;rfl
 obtain⟨a,p,m,d,sq,rfl,ha,hq,q⟩:=h;refine⟨_,(ae (aj (i:=1) qc.nd rfl (Or.inl rfl) (ar lj hr (aa (pv 0) ag)))
  (ae (aj (i:=2) qc.nd rfl (Or.inr rfl) (ar eC hr (aa (pv 0) ag)))
  (ah (ax (j4 rfl rfl (kC (own:=["pair"]) (fr:=[2]) (fs:=["free"]) (by with_unfolding_all rfl) rfl (by decide +kernel) (by decide +kernel) (by exact⟨rfl,trivial⟩) (by with_unfolding_all rfl) (by exact⟨⟨rfl,rfl,rfl,Or.inl rfl⟩,trivial⟩)) (eZ (pv 1)) (fun _ _ _ _ _=>(aO (i:=0) (show List.Nodup (["pair","free"]:List Str) by decide +kernel) rfl (Or.inl rfl) (Or.inr rfl))) (fun _ _ _ _ _=>(ar jV hr (aa (pv 1) (aa (pv 0) (aa (ar jS hr (aa (pv 1) ag)) ag)))))))))),?_⟩;walk_at "sf";refine⟨a,_,rfl,ha,⟨hq.IA,hq.QP,by show 3<=13;decide⟩,fun r fs ps o b t u t' u' H1 s1 _ Hv hF iso XJ=>?_⟩;walk_at "sf";refine⟨a,_,rfl,s1 _ _ ha,hq.IA,fun p1 H2 s2 h2=>?_⟩;rw[A4 hq.hd hq.hm] at iso h2;have two:=iso.two hq.hd hq.hm hq.s0 hq.ss fun f hf=>⟨(hF f hf).rl.2.1,(hF f hf).rh.2.1⟩;obtain⟨f0,f1,rfl,l0,l1,i0,i1⟩:=two;have l3:(au (qd p m d)).length=3:=by rw[aS];rfl
 have az:Ab 100 (au (qd p m d)):=(dB (fW hq.hd) (jC _ _ _) hq.ab).mono (by decide);have QO:au (qd p m d)≠[]:=fun z=>by rw[z] at l3;cases l3
 have zg:0<co (au (qd p m d)) ((au (qd p m d)).length-1):=by
  have:=gE (fW (p:=p) (m:=m) hq.hd) (jC _ _ _);rw[l3];exact this
 have Mf:∀z:Rat,at' (Re.q z) (aw (au (qd p m d)))≠0:=fun z w=>pQ hq.hm z ((lZ hq.hd _).mp w);have ap:f0.hi<=f1.lo:=by
  have:=iso.R'.1;rw[List.map_cons,List.pairwise_cons] at this;exact this.1 _ (List.mem_map.mpr ⟨f1,List.mem_cons_self,rfl⟩)
 generalize au (qd p m d)=zs at*;walk_at "sf";refine j6 (H1:=H2) (uO K r) (fun R hR=>?_) (zh (xs:=[V.ref f0.p,V.ref f1.p]) (aW.of (s2 _ _ Hv)) (fun ys H3=>∃vs:List Nv,ys=vs.map (fun v=>V.ref v.r)/\(∀v∈vs,v.Hx H3 C/\v.pl=p1)/\(∀v,vs[0]?=some v->v.Px (ov ((p:Re)-sq) d)/\v.Mk p1 zs 2 f0.lo f0.hi)/\(∀v,vs[1]?=some v->v.Px (ov ((p:Re)+sq) d)/\v.Mk p1 zs 2 f1.lo f1.hi)) (fw (by show 2<=1000;decide)) ?_ ?_ ?_ ?_)
 ·walk_at "sf";exact⟨r,rfl,⟨_,aW.of (s2 _ _ Hv)⟩,hR⟩
 ·exact fun H3 _=>⟨[],rfl,fun v hv=>(nomatch hv),fun v e=>(nomatch e),fun v e=>(nomatch e)⟩
 ·rintro ys H3 D1 l l' hD hl ⟨vs,rfl,hv,e0,e1⟩;refine⟨vs,rfl,fun v hm=>⟨(hv v hm).1.upd hl ?_,(hv v hm).2⟩,e0,e1⟩;rw[(hv v hm).2];exact aL h2 hD
 ·rintro i x r1 ys H3 hx Im sO ⟨vs,rfl,hv,e0,e1⟩ s3 Z hZ;obtain⟨x0,rfl⟩:=x5 Im;rw[List.length_map] at sO;have Yb:∀f∈[f0,f1],f.Hx H3:=fun f hf=>(hF f hf).same (s2.trans s3);obtain⟨f,y,rfl,hf,pf,VN,VO,ends⟩:∃(f:Fx)(y:Re),x=.ref f.p/\f.Hx H3/\f.Px zs ps/\m5 zs y f.lo f.hi/\f.lo<f.hi/\(∀v:Nv,v.Px y->v.Mk p1 zs 2 f.lo f.hi->(∀v',(vs++[v])[0]?=some v'->v'.Px (ov ((p:Re)-sq) d)/\v'.Mk p1 zs 2 f0.lo f0.hi)/\(∀v',(vs++[v])[1]?=some v'->v'.Px (ov ((p:Re)+sq) d)/\v'.Mk p1 zs 2 f1.lo f1.hi)):=by
   match i,hx,sO with
   |0,hx,sO=>
    cases hx;have ev:vs=[]:=List.eq_nil_of_length_eq_zero sO;subst ev;exact⟨f0,_,rfl,Yb f0 List.mem_cons_self,iso.px f0 List.mem_cons_self,i0,l0,fun v pv mk=>⟨fun v' e=>by cases e;exact⟨pv,mk⟩,fun v' e=>(nomatch e)⟩⟩
   |1,hx,sO=>
    cases hx;obtain⟨w0,rfl⟩:=x5 sO;exact⟨f1,_,rfl,Yb f1 (List.mem_cons_of_mem _ List.mem_cons_self),iso.px f1 (List.mem_cons_of_mem _ List.mem_cons_self),i1,l1,fun v pv mk=>⟨fun v' e=>e0 v' e,fun v' e=>by cases e;exact⟨pv,mk⟩⟩⟩
  walk_at "sf";refine⟨p1,zs,rfl,s3 _ _ h2,?_⟩;walk_at "sf";refine⟨p1,f.p,f.gl,f.gh,zs,f.t,f.u,f.t',f.u',_,y,rfl,s3 _ _ h2,hf.hp,hf.rl,hf.rh,⟨by lia,az,QO,zg⟩,⟨pf.bt,pf.bu,pf.y9,pf.wz⟩,VN,.inl ⟨VO,pf.sgn⟩,Mf,fun v H4 s4 VP Su mk=>?_⟩;walk_at "sf";have mk':v.Mk p1 zs 2 f.lo f.hi:=by
   have e2:((zs.length:Int)-1)=2:=by lia
   rw[e2] at mk;exact mk
  refine hZ _ _ _ s4 ⟨vs++[v],by rw[List.map_append];rfl,fun v' hm=>?_,(ends v Su mk').1,(ends v Su mk').2⟩ ⟨[_],rfl,rfl⟩;rcases List.mem_append.mp hm with z|z
  ·exact⟨(hv v' z).1.same s4,(hv v' z).2⟩
  ·rw[List.mem_singleton.mp z];exact⟨VP,mk.pl⟩
 rintro D1 H3 ys hD RF hD3 Yc ⟨vs,rfl,hv,e0,e1⟩;rw[List.length_map] at Yc;obtain⟨v0,v1,rfl⟩:∃v0 v1,vs=[v0,v1]:=by
  match vs,Yc with
  |[v0,v1],_=>exact⟨v0,v1,rfl⟩
 exact q D1 v0 v1 H3 (s1.trans (s2.trans RF)) hD3 (hv v0 List.mem_cons_self).1 (hv v1 (List.mem_cons_of_mem _ List.mem_cons_self)).1 (e0 v0 rfl).1 (e1 v1 rfl).1 ⟨(e0 v0 rfl).2.zs,(e1 v1 rfl).2.zs,(e0 v0 rfl).2.w,(e1 v1 rfl).2.w,by have:=(e0 v0 rfl).2.hi;have:=(e1 v1 rfl).2.lo;grind⟩
end
end cW
namespace cW
open PySem PyProof.Rows L2 SF SF.Po
noncomputable def De(x:Re)(sc F:Int):Prop:=Re.q (vl F sc)<=x/\x<Re.q (vl (F+1) sc)
noncomputable def wO(C:Addr):Sp:=fun vs H Q _=>∃(v:Nv)(sc:Int)(x:Re),vs=[.ref v.r,.int sc]/\v.Hx H C/\v.Px x/\0<sc/\Bd 200 sc/\∀(F:Int)(H':Hp),av H H'->De x sc F->Q (.int F) H'
theorem gZ{y:Re}:aU y<0↔y<0:=by
 rcases SF.Re.aR y with z|z|z
 ·rw[z.2];exact⟨fun _=>z.1,fun _=>by decide⟩
 ·rw[z.2];exact⟨fun w=>absurd w (by decide),fun w=>by exfalso;grind⟩
 ·rw[z.2];exact⟨fun w=>absurd w (by decide),fun w=>by exfalso;grind⟩
section
variable {P:Program} {w:World} {K:PySem.W.Frag} {mg:Str->Option Value} {base:Heap} {C fI:Addr} {fd:FuncData}
theorem qv(hT:P.given.tree=none)(RC:Rc K mg C fI fd)(eK:aT P w K mg base 36 "narrowed" ["free","pair","width"] (jT (fun _=>True) id))(d8:aT P w K mg base 36 "against" ["number","given"] (iH C))(fi:aT P w K mg base 36 "ratio" ["top","under"] sr)(D:aH K mg "floor_times" g_ ["number","scale"]):aT P w K mg base 37 "floor_times" ["number","scale"] (wO C):=by
 refine D.ok gN (fun vs H Q E h=>?_) (fun f bM A outer s H vs Q E hr h=>?_)
 ·obtain⟨v,sc,x,rfl,_⟩:=h;rfl
 obtain⟨v,sc,x,rfl,hx,px,QQ,Sv,q⟩:=h;refine⟨_,(ae (aj (i:=2) gN.nd rfl (Or.inl rfl) (aD aA (ar eK hr (aa (cx (pv 0) rfl) (aa (cx (pv 0) rfl) (aa (cy (aa af (aa (pv 1) ag))) ag)))) af (fun _ _=>rfl)))
  (ae (aj (i:=3) gN.nd rfl (Or.inl rfl) (ao (dO ⟨hT,⟨_,_,rfl,rfl,rfl,rfl,rfl⟩,hr.py⟩) (ao aC (aD aA (pv 2) af (fun _ _=>rfl)) (pv 1)) (aD aA (pv 2) af (fun _ _=>rfl))))
  (ah (ax (dJ (ay gS (ar d8 hr (aa (pv 0) (aa (ar fi hr (aa (ao bH (pv 3) af) (aa (pv 1) ag))) ag))) af (aE _)) (pv 3) (ao bH (pv 3) af)))))),?_⟩;walk_at "sf";refine⟨_,rfl,_,C,_,_,_,rfl,hx.ir,RC.cl,RC.n1,rfl,?_⟩;walk_at "sf";refine⟨_,rfl,_,C,_,_,_,rfl,hx.ir,RC.cl,RC.n2,rfl,?_⟩;walk_at "sf";intro wd CH;have s1:=av.new CH (.tup [.int 1,.int sc]);have h1:upd H wd (.tup [.int 1,.int sc]) wd=some (.tup [.int 1,.int sc]):=ai;generalize upd H wd (.tup [.int 1,.int sc])=H1 at s1 h1 ⊢;have nQ:=hx.same s1;walk_at "sf";refine⟨v.pl,v.pp,v.g,v.h,wd,v.zs,v.t,v.u,v.t',v.u',1,sc,20000,rfl,nQ.hl,nQ.hp,nQ.rl.1,nQ.rh.1,h1,trivial,⟨px.lz,px.az⟩,⟨px.bt,px.bu,px.y9,px.wz,by decide,Bd.mono (m:=1) (by show(1:Int).natAbs<2^1;decide) (by decide),Sv.mono (by decide),hx.rl.2.1,hx.rh.2.1,by decide,QQ⟩,px.Bq,fun pn g2 h2 c d c' d' H2 s2 tZ r2 Iy nw=>?_⟩;have eT:=s1.trans s2;have Iz:=px.iso.part nw.lo nw.hi (nw.Bq.re r2.2.1 Iy.2.1);walk_at "sf";refine aG (bL.of tZ) rfl ?_;walk_at "sf";refine aG (bL.of r2.1) rfl ?_;walk_at "sf";refine bN (aP nw.b1 Sv (by decide)) ?_;walk_at "sf";refine aG (bL.of r2.1) rfl ?_;refine bN (by have:=r2.2.1;lia) ?_;walk_at "sf";have bf:Bd 61220 ((c*sc).fdiv d):=by
  have b5:=nw.b1.mul Sv;rw[dy r2.2.1];unfold Bd at*;have e:=Int.natAbs_ediv_le_natAbs (c*sc) d;exact Nat.lt_of_le_of_lt e (Nat.lt_of_lt_of_le b5 (Nat.pow_le_pow_right (by decide) (by decide)))
 have dd:=r2.2.1;have f1:(c*sc).fdiv d*d<=c*sc:=by rw[dy dd];exact Int.ediv_mul_le _ (by lia)
 have f2:c*sc<((c*sc).fdiv d+1)*d:=by rw[dy dd];exact Int.lt_ediv_add_one_mul_self _ dd
 generalize (c*sc).fdiv d=W at*;have VM:Bd 61300 (W+1):=(bf.add (Bd.mono (m:=1) (by show(1:Int).natAbs<2^1;decide) (by decide))).mono (by decide);refine⟨_,sc,61300,rfl,VM,Sv.mono (by decide),by decide,QQ,fun p3 tg ug Fb Sq Sr Ss _ QR=>?_⟩;have s3:=av.new Fb (.tup [.int tg,.int ug]);have h3:upd H2 p3 (.tup [.int tg,.int ug]) p3=some (.tup [.int tg,.int ug]):=ai;generalize upd H2 p3 (.tup [.int tg,.int ug])=H3 at s3 h3 ⊢;have ev:vl tg ug=vl (W+1) sc:=(nW Ss QQ).mpr QR;have VQ:=eT.trans s3;walk_at "sf";refine⟨v,p3,tg,ug,x,rfl,hx.same VQ,px.vx,h3,Ss,Sq.mono (by decide),Sr.mono (by decide),?_⟩;rw[ev];have lo1:vl W sc<=vl c d:=(ft QQ dd).mpr (by rw[Int.mul_comm W d] at f1;rw[Int.mul_comm W d];exact f1);have lo2:vl c d<vl (W+1) sc:=(qp dd QQ).mpr f2;have g1:=Iz.ge;have g2':=Iz.le;have q1:=Re.cv.mpr lo1;walk_at "sf";refine dI (fun c1=>?_) (fun c1=>?_)
 ·have c2:x-Re.q (vl (W+1) sc)<0:=gZ.mp (by simpa using c1);walk_at "sf";exact q W H3 VQ ⟨by grind,by grind⟩
 ·have c2:¬x-Re.q (vl (W+1) sc)<0:=fun z=>c1 (by simpa using gZ.mpr z);walk_at "sf";refine q (W+1) H3 VQ ⟨by grind,?_⟩;have wd2:=nw.wd;have e:=Fv (W+1) (W+1+1) sc;have e1:W+1+1-(W+1)=1:=by lia
  rw[e1] at e;have:vl c' d'<vl (W+1+1) sc:=by grind
  have:=Re.eA.mpr this;grind
end
end cW
namespace cW
open PySem PyProof.Rows L2 SF SF.Po
noncomputable def Nv.rat(v:Nv):Prop:=v.t=v.t'/\v.u=v.u'
theorem Nv.Px.zi{v:Nv}{x:Re}(px:v.Px x)(h:v.rat):x=Re.q (vl v.t v.u):=by
 have h1:=px.iso.ge;have h2:=px.iso.le;rw[<-h.1,<-h.2] at h2;grind
noncomputable def FF(C:Addr):Sp:=fun vs H Q _=>∃v:Nv,vs=[.ref v.r]/\v.Hx H C/\(v.rat->Q (.ref v.g) H)/\(¬v.rat->Q .dU H)
noncomputable def wQ(C:Addr):Sp:=fun vs H Q _=>∃v:Nv,vs=[.ref v.r]/\v.Hx H C/\Q (.int v.w) H
noncomputable def wR(C:Addr):Sp:=fun vs H Q _=>∃(v:Nv)(x:Re),vs=[.ref v.r]/\v.Hx H C/\v.Px x/\∀H',av H H'->Q (.int (aU (x-Re.q (vl 0 1)))) H'
noncomputable def sy(C:Addr):Sp:=fun vs H Q _=>∃(v:Nv)(x:Re),vs=[.ref v.r]/\v.Hx H C/\v.Px x/\∀(F:Int)(H':Hp),av H H'->De x 1 F->Q (.int F) H'
noncomputable def FG(C:Addr):Sp:=fun vs H Q _=>∃(v:Nv)(x:Re)(wd:Addr)(w0 w1:Int),vs=[.ref v.r,.ref wd]/\v.Hx H C/\v.Px x/\H wd=some (.tup [.int w0,.int w1])/\0<w0/\0<w1/\Bd 1000 w0/\Bd 1000 w1/\
 ∀(p g h:Addr)(c d c' d':Int)(H':Hp),av H H'->H' p=some (.tup [.ref g,.ref h])->Rt H' g c d->Rt H' h c' d'->Nw v.zs v.t v.u v.t' v.u' w0 w1 c d c' d' 61020->m5 v.zs x (vl c d) (vl c' d')->Q (.ref p) H'
section
variable {P:Program} {w:World} {K:PySem.W.Frag} {mg:Str->Option Value} {base:Heap} {C fI:Addr} {fd:FuncData}
theorem wU(RC:Rc K mg C fI fd)(D:aH K mg "as_ratio" kP ["number"]):aT P w K mg base 1 "as_ratio" ["number"] (FF C):=by
 refine D.ok v9 (fun vs H Q E h=>?_) (fun f bM A outer s H vs Q E hr h=>?_)
 ·obtain⟨v,rfl,_⟩:=h;rfl
 obtain⟨v,rfl,hx,q1,q2⟩:=h;refine⟨_,(ah (ax (dJ (ay (DU hr.sL) (aD aA (cx (pv 0) rfl) af (fun _ _=>rfl)) (aD aA (cx (pv 0) rfl) af (fun _ _=>rfl)) (aE _)) (aD aA (cx (pv 0) rfl) af (fun _ _=>rfl)) fZ))),?_⟩;walk_at "sf";refine⟨_,rfl,_,C,_,_,_,rfl,hx.ir,RC.cl,RC.n2,rfl,?_⟩;walk_at "sf";refine aG (bL.of hx.hp) rfl ?_;walk_at "sf";refine⟨_,rfl,_,C,_,_,_,rfl,hx.ir,RC.cl,RC.n2,rfl,?_⟩;walk_at "sf";refine aG (bL.of hx.hp) rfl ?_;refine⟨v.g,v.h,v.t,v.u,v.t',v.u',rfl,rfl,bL.of hx.rl.1,bL.of hx.rh.1,?_⟩;walk_at "sf";refine dI (fun c=>?_) (fun c=>?_)
 ·rw[Bool.and_eq_true,beq_iff_eq,beq_iff_eq] at c;walk_at "sf";refine⟨_,rfl,_,C,_,_,_,rfl,hx.ir,RC.cl,RC.n2,rfl,?_⟩;walk_at "sf";refine aG (bL.of hx.hp) rfl ?_;exact q1 c
 ·rw[Bool.and_eq_true,beq_iff_eq,beq_iff_eq] at c;walk_at "sf";exact q2 c
theorem uy(RC:Rc K mg C fI fd)(D:aH K mg "weight_of" jJ ["number"]):aT P w K mg base 1 "weight_of" ["number"] (wQ C):=by
 refine D.ok tS (fun vs H Q E h=>?_) (fun f bM A outer s H vs Q E hr h=>?_)
 ·obtain⟨v,rfl,_⟩:=h;rfl
 obtain⟨v,rfl,hx,q⟩:=h;refine⟨_,(ah (ax (cx (pv 0) rfl))),?_⟩;walk_at "sf";exact⟨_,rfl,_,C,_,_,_,rfl,hx.ir,RC.cl,RC.n3,rfl,q⟩
theorem zk(d8:aT P w K mg base 36 "against" ["number","given"] (iH C))(D:aH K mg "sign_of" nk ["number"]):aT P w K mg base 37 "sign_of" ["number"] (wR C):=by
 refine D.ok yM (fun vs H Q E h=>?_) (fun f bM A outer s H vs Q E hr h=>?_)
 ·obtain⟨v,x,rfl,_⟩:=h;rfl
 obtain⟨v,x,rfl,hx,px,q⟩:=h;refine⟨_,(ah (ax (ar d8 hr (aa (pv 0) (aa (cy (aa af (aa af ag))) ag))))),?_⟩;walk_at "sf";intro p hp;have s1:=av.new hp (.tup [.int 0,.int 1]);walk_at "sf";exact⟨v,p,0,1,x,rfl,hx.same s1,px.vx,ai,by decide,Bd.mono (m:=1) (by show(0:Int).natAbs<2^1;decide) (by decide),Bd.mono (m:=1) (by show(1:Int).natAbs<2^1;decide) (by decide),q _ s1⟩
theorem wV(q5:aT P w K mg base 37 "floor_times" ["number","scale"] (wO C))(D:aH K mg "floor_of" kT ["number"]):aT P w K mg base 38 "floor_of" ["number"] (sy C):=by
 refine D.ok wa (fun vs H Q E h=>?_) (fun f bM A outer s H vs Q E hr h=>?_)
 ·obtain⟨v,x,rfl,_⟩:=h;rfl
 obtain⟨v,x,rfl,hx,px,q⟩:=h;refine⟨_,(ah (ax (ar q5 hr (aa (pv 0) (aa af ag))))),?_⟩;walk_at "sf";exact⟨v,1,x,rfl,hx,px,by decide,Bd.mono (m:=1) (by show(1:Int).natAbs<2^1;decide) (by decide),fun F H' s1 fl=>q F H' s1 fl⟩
theorem IB(RC:Rc K mg C fI fd)(eK:aT P w K mg base 36 "narrowed" ["free","pair","width"] (jT (fun _=>True) id))(D:aH K mg "near" yN ["number","width"]):aT P w K mg base 37 "near" ["number","width"] (FG C):=by
 refine D.ok Ic (fun vs H Q E h=>?_) (fun f bM A outer s H vs Q E hr h=>?_)
 ·obtain⟨v,x,wd,w0,w1,rfl,_⟩:=h;rfl
 obtain⟨v,x,wd,w0,w1,rfl,hx,px,CH,w00,w10,b0,b1,q⟩:=h;refine⟨_,(ah (ax (ar eK hr (aa (cx (pv 0) rfl) (aa (cx (pv 0) rfl) (aa (pv 1) ag)))))),?_⟩;walk_at "sf";refine⟨_,rfl,_,C,_,_,_,rfl,hx.ir,RC.cl,RC.n1,rfl,?_⟩;walk_at "sf";refine⟨_,rfl,_,C,_,_,_,rfl,hx.ir,RC.cl,RC.n2,rfl,?_⟩;walk_at "sf";refine⟨v.pl,v.pp,v.g,v.h,wd,v.zs,v.t,v.u,v.t',v.u',w0,w1,20000,rfl,hx.hl,hx.hp,hx.rl.1,hx.rh.1,CH,trivial,⟨px.lz,px.az⟩,⟨px.bt,px.bu,px.y9,px.wz,by decide,b0,b1,hx.rl.2.1,hx.rh.2.1,w00,w10⟩,px.Bq,fun pn g2 h2 c d c' d' H2 s2 tZ r2 Iy nw=>?_⟩;exact q pn g2 h2 c d c' d' H2 s2 tZ r2 Iy nw (px.iso.part nw.lo nw.hi (nw.Bq.re r2.2.1 Iy.2.1))
end
end cW
namespace cW
open PySem PyProof.Rows L2 SF SF.Po
theorem Kx{c:Bool}{tx ty:TE}{σ:L2.St}{H:Hp}{Q:VK}(v1 v2:V)(h1:c=true->Q v1 H->tx σ H Q)(h2:c=false->Q v2 H->ty σ H Q)(h:Q (if c=true then v1 else v2) H):if c=true then tx σ H Q else ty σ H Q:=by
 cases c with
 |true=>rw[if_pos rfl] at h ⊢;exact h1 rfl h
 |false=>rw[if_neg (by decide)] at h ⊢;exact h2 rfl h
noncomputable def Apart(v v':Nv):Prop:=vl v.t' v.u'<=vl v'.t v'.u
structure FH(v v':Nv):Prop where
 zs:v.zs=v'.zs
 tr:Tr v.zs
 ne:v.zs≠[]
 gc:dj v.zs v'.zs=v.zs
 l1:vl v.t v.u<vl v.t' v.u'
 l2:vl v'.t v'.u<vl v'.t' v'.u'
noncomputable def FI(C:Addr):Sp:=fun vs H Q _=>∃(v v':Nv)(x x':Re),vs=[.ref v.r,.ref v'.r]/\v.Hx H C/\v'.Hx H C/\v.Px x/\v'.Px x'/\((Apart v v'/\Q (.bl false) H)\/(FH v v'/\x=x'/\∀H',av H H'->Q (.bl true) H'))
section
variable {P:Program} {w:World} {K:PySem.W.Frag} {mg:Str->Option Value} {base:Heap} {C fI:Addr} {fd:FuncData}
theorem wW(RC:Rc K mg C fI fd)(dQ:aT P w K mg base 36 "order_of" ["one","other"] Br)(jd:aT P w K mg base 36 "divisor_of" ["one","other"] (E6 dj MA))(d7:aT P w K mg base 36 "sign_at" ["poly","given"] Fe)(D:aH K mg "are_same" kR ["one","other"]):aT P w K mg base 37 "are_same" ["one","other"] (FI C):=by
 refine D.ok gX (fun vs H Q E h=>?_) (fun f bM A outer s H vs Q E hr h=>?_)
 ·obtain⟨v,v',x,x',rfl,_⟩:=h;rfl
 obtain⟨v,v',x,x',rfl,hv,jg,px,nX,q⟩:=h;have iF:ke=60000000:=rfl;have fld:∀{σ:L2.St}{Q:VK}(y:Nv)(i:Nat),y.Hx H C->σ[i]?=some (some (.ref y.r))->Q (.ref y.pp) H->Oy K (GN i) "pair" σ H Q:=fun y i hy e q=>⟨_,e,_,C,_,_,_,rfl,hy.ir,RC.cl,RC.n2,rfl,q⟩;refine⟨_,(ae (aj (i:=2) gX.nd rfl (Or.inl rfl) (dJ (ay fo (ar dQ hr (aa (aD aA (cx (pv 0) rfl) af (fun _ _=>rfl)) (aa (aD aA (cx (pv 1) rfl) af (fun _ _=>rfl)) ag))) af (aE _)) (aD aA (cx (pv 0) rfl) af (fun _ _=>rfl)) (aD aA (cx (pv 1) rfl) af (fun _ _=>rfl))))
  (ae (aj (i:=3) gX.nd rfl (Or.inl rfl) (dJ (ay gS (ar dQ hr (aa (aD aA (cx (pv 0) rfl) af (fun _ _=>rfl)) (aa (aD aA (cx (pv 1) rfl) af (fun _ _=>rfl)) ag))) af (aE _)) (aD aA (cx (pv 0) rfl) af (fun _ _=>rfl)) (aD aA (cx (pv 1) rfl) af (fun _ _=>rfl))))
  (ae (bB (ay Dr (ar dQ hr (aa (pv 2) (aa (pv 3) ag))) af (aE _))
  (ah (ax fk))
  aM)
  (ae (aj (i:=4) gX.nd rfl (Or.inl rfl) (ar jd hr (aa (cx (pv 0) rfl) (aa (cx (pv 1) rfl) ag))))
  (ah (ax (gp gS (ao aC (ar d7 hr (aa (pv 4) (aa (pv 2) ag))) (ar d7 hr (aa (pv 4) (aa (pv 3) ag)))) af (aE _)))))))),?_⟩;walk_at "sf";refine fld v 0 hv rfl ?_;walk_at "sf";refine aG (bL.of hv.hp) rfl ?_;walk_at "sf";refine fld v' 1 jg rfl ?_;walk_at "sf";refine aG (bL.of jg.hp) rfl ?_;refine⟨v.g,v'.g,_,_,_,_,rfl,hv.rl.1,jg.rl.1,⟨px.bt.mono (by decide),px.bu.mono (by decide),nX.bt.mono (by decide),nX.bu.mono (by decide)⟩,?_⟩;walk_at "sf";refine Kx (.ref v.g) (.ref v'.g) (fun _ k=>?_) (fun _ k=>?_) ?_
 ·walk_at "sf";refine fld v 0 hv rfl ?_;walk_at "sf";exact aG (bL.of hv.hp) rfl k
 ·walk_at "sf";refine fld v' 1 jg rfl ?_;walk_at "sf";exact aG (bL.of jg.hp) rfl k
 obtain⟨la,lt,lu,el,Sw,blt,Yd,m1,m2,m3⟩:∃(la:Addr)(lt lu:Int),(if decide (0<sg (v.t*v'.u-v'.t*v.u))=true then V.ref v.g else V.ref v'.g)=.ref la/\Rt H la lt lu/\Bd 20000 lt/\Bd 20000 lu/\vl v.t v.u<=vl lt lu/\vl v'.t v'.u<=vl lt lu/\(vl lt lu=vl v.t v.u\/vl lt lu=vl v'.t v'.u):=by
  by_cases c:0<sg (v.t*v'.u-v'.t*v.u)
  ·rw[if_pos (decide_eq_true c)];refine⟨v.g,v.t,v.u,rfl,hv.rl,px.bt,px.bu,Rat.le_refl,?_,.inl rfl⟩;refine(ft jg.rl.2.1 hv.rl.2.1).mpr ?_;unfold sg at c;split at c
   ·lia
   ·split at c
    ·lia
    ·lia
  ·rw[if_neg (by rw[decide_eq_false c];decide)];refine⟨v'.g,v'.t,v'.u,rfl,jg.rl,nX.bt,nX.bu,?_,Rat.le_refl,.inr rfl⟩;refine(ft hv.rl.2.1 jg.rl.2.1).mpr ?_;unfold sg at c;split at c
   ·lia
   ·split at c
    ·lia
    ·lia
 rw[el];walk_at "sf";refine fld v 0 hv rfl ?_;walk_at "sf";refine aG (bL.of hv.hp) rfl ?_;walk_at "sf";refine fld v' 1 jg rfl ?_;walk_at "sf";refine aG (bL.of jg.hp) rfl ?_;refine⟨v.h,v'.h,_,_,_,_,rfl,hv.rh.1,jg.rh.1,⟨px.y9.mono (by decide),px.wz.mono (by decide),nX.y9.mono (by decide),nX.wz.mono (by decide)⟩,?_⟩;walk_at "sf";refine Kx (.ref v.h) (.ref v'.h) (fun _ k=>?_) (fun _ k=>?_) ?_
 ·walk_at "sf";refine fld v 0 hv rfl ?_;walk_at "sf";exact aG (bL.of hv.hp) rfl k
 ·walk_at "sf";refine fld v' 1 jg rfl ?_;walk_at "sf";exact aG (bL.of jg.hp) rfl k
 obtain⟨ha,ht,hu,eh,Sy,Ye,Yf,n1,n2,n3⟩:∃(ha:Addr)(ht hu:Int),(if decide (sg (v.t'*v'.u'-v'.t'*v.u')<0)=true then V.ref v.h else V.ref v'.h)=.ref ha/\Rt H ha ht hu/\Bd 20000 ht/\Bd 20000 hu/\vl ht hu<=vl v.t' v.u'/\vl ht hu<=vl v'.t' v'.u'/\(vl ht hu=vl v.t' v.u'\/vl ht hu=vl v'.t' v'.u'):=by
  by_cases c:sg (v.t'*v'.u'-v'.t'*v.u')<0
  ·rw[if_pos (decide_eq_true c)];refine⟨v.h,v.t',v.u',rfl,hv.rh,px.y9,px.wz,Rat.le_refl,?_,.inl rfl⟩;refine(ft hv.rh.2.1 jg.rh.2.1).mpr ?_;unfold sg at c;split at c
   ·lia
   ·split at c
    ·lia
    ·lia
  ·rw[if_neg (by rw[decide_eq_false c];decide)];refine⟨v'.h,v'.t',v'.u',rfl,jg.rh,nX.y9,nX.wz,?_,Rat.le_refl,.inr rfl⟩;refine(ft jg.rh.2.1 hv.rh.2.1).mpr ?_;unfold sg at c;split at c
   ·lia
   ·split at c
    ·lia
    ·lia
 rw[eh];walk_at "sf";refine⟨la,ha,lt,lu,ht,hu,rfl,Sw.1,Sy.1,⟨blt.mono (by decide),Yd.mono (by decide),Ye.mono (by decide),Yf.mono (by decide)⟩,?_⟩;rw[uq Sw.2.1 Sy.2.1];walk_at "sf";rcases q with⟨ap,q⟩|⟨tw,exx,q⟩
 ·have:Re.q (vl ht hu)<=Re.q (vl lt lu):=Re.cv.mpr (by unfold Apart at ap;grind);have h0:0<=aU (Re.q (vl lt lu)-Re.q (vl ht hu)):=by
   rcases SF.Re.aR (Re.q (vl lt lu)-Re.q (vl ht hu)) with z|z|z
   ·exfalso;grind
   ·rw[z.2];decide
   ·rw[z.2];decide
  rw[if_pos (decide_eq_true h0)];walk_at "sf";exact q
 ·subst exx;obtain⟨a1,a2⟩:=px.iso.st tw.l1;obtain⟨a3,a4⟩:=nX.iso.st tw.l2;have lx:Re.q (vl lt lu)<x:=by rcases m3 with e|e<;>rw[e]<;>assumption
  have xh:x<Re.q (vl ht hu):=by rcases n3 with e|e<;>rw[e]<;>assumption
  rw[SF.Re.cI (show Re.q (vl lt lu)-Re.q (vl ht hu)<0 by grind)];refine fS ?_;walk_at "sf";refine⟨_,rfl,_,C,_,_,_,rfl,hv.ir,RC.cl,RC.n1,rfl,?_⟩;walk_at "sf";refine⟨_,rfl,_,C,_,_,_,rfl,jg.ir,RC.cl,RC.n1,rfl,?_⟩;walk_at "sf";have lz:=px.lz;have lz':=nX.lz;refine⟨v.pl,v'.pl,v.zs,v'.zs,rfl,hv.hl,jg.hl,⟨tw.tr,by rw[<-tw.zs];exact tw.tr,by lia,by lia,by lia,100,by decide,px.az,nX.az⟩,fun pd H1 s1 uR=>?_⟩;rw[tw.gc] at uR;walk_at "sf";refine⟨pd,la,v.zs,lt,lu,100,20000,rfl,uR,s1 _ _ Sw.1,⟨by lia,px.az,blt,Yd,by lia⟩,?_⟩;walk_at "sf";refine⟨pd,ha,v.zs,ht,hu,100,20000,rfl,uR,s1 _ _ Sy.1,⟨by lia,px.az,Ye,Yf,by lia⟩,?_⟩;refine bN (aP (sk _) (sk _) (by decide)) ?_;obtain⟨c,hc,hs⟩:=px.iso.sn;have lh:vl lt lu<vl ht hu:=Re.eA.mp (by grind);have e1:=hs (vl lt lu) m1 (by grind);have e2:=hs (vl ht hu) (by grind) n1;rw[SF.Re.cI (show Re.q (vl lt lu)-x<0 by grind)] at e1;rw[SF.Re.bK (show 0<Re.q (vl ht hu)-x by grind)] at e2;have e3:sg (SF.hv lt lu v.zs)*sg (SF.hv ht hu v.zs)=-1:=by
   rw[gi Sw.2.1,gi Sy.2.1];have PD:aU (at' (Re.q ((lt:Rat)/(lu:Rat))) (aw v.zs))=c*-1:=e1;have Tp:aU (at' (Re.q ((ht:Rat)/(hu:Rat))) (aw v.zs))=c*1:=e2;rw[PD,Tp];rcases hc with rfl|rfl<;>decide
  rw[e3];walk_at "sf";exact q H1 s1
end
end cW
namespace cW
open PySem PyProof.Rows L2 SF SF.Po
noncomputable def wX(C:Addr):Sp:=fun vs H Q _=>∃(v v':Nv)(x x':Re),vs=[.ref v.r,.ref v'.r]/\v.Hx H C/\v'.Hx H C/\v.Px x/\v'.Px x'/\Apart v v'/\vl v'.t v'.u<vl v'.t' v'.u'/\∀H',av H H'->Q (.int (-1)) H'
section
variable {P:Program} {w:World} {K:PySem.W.Frag} {mg:Str->Option Value} {base:Heap} {C fI:Addr} {fd:FuncData}
noncomputable def QS:Sp:=fun _ _ _ _=>False
theorem wY(D:aH K mg "times" tQ ["one","other"]):aT P w K mg base 1 "times" ["one","other"] QS:=
 D.ok EY (fun _ _ _ _ h=>h.elim) (fun _ _ _ _ _ _ _ _ _ _ h=>h.elim)
theorem CI(RC:Rc K mg C fI fd)(d8:aT P w K mg base 37 "against" ["number","given"] (iH C))(eK:aT P w K mg base 37 "narrowed" ["free","pair","width"] (jT (fun _=>True) id))(IC:aT P w K mg base 37 "times" ["one","other"] QS)(D:aH K mg "parted" qe ["one","other"]):aT P w K mg base 38 "parted" ["one","other"] (wX C):=by
 refine D.ok iD (fun vs H Q E h=>?_) (fun f bM A outer s H vs Q E hr h=>?_)
 ·obtain⟨v,v',x,x',rfl,_⟩:=h;rfl
 obtain⟨v,v',x,x',rfl,hv,jg,px,nX,ap,l2,q⟩:=h;obtain⟨a3,a4⟩:=nX.iso.st l2;have g1:=px.iso.ge;have g2:=px.iso.le;have ap':=Re.cv.mpr ap;refine⟨_,(ae (aj (i:=2) iD.nd rfl (Or.inl rfl) (cx (pv 0) rfl))
  (ae (aj (i:=3) iD.nd rfl (Or.inl rfl) (cy (aa af (aa af ag))))
  (ah (cN PassesOwn.never (fQ fk (fun _=>rfl))
  (ae (bB (ay gS (ar d8 hr (aa (pv 1) (aa (aD aA (pv 2) af (fun _ _=>rfl)) ag))) af (aE _))
  (ah (ax af))
  aM)
  (ae (bB (ay fo (ar d8 hr (aa (pv 1) (aa (aD aA (pv 2) af (fun _ _=>rfl)) ag))) af (aE _))
  (ah (ax (cU bR af)))
  aM)
  (ae (aj (i:=2) iD.nd rfl (Or.inl rfl) (ar eK hr (aa (cx (pv 0) rfl) (aa (pv 2) (aa (pv 3) ag)))))
  (ah (aj (i:=3) iD.nd rfl (Or.inl rfl) (ar IC hr (aa (pv 3) (aa (pv 3) ag)))))))))))),?_⟩;walk_at "sf";refine⟨_,rfl,_,C,_,_,_,rfl,hv.ir,RC.cl,RC.n2,rfl,?_⟩;walk_at "sf";intro wd CH;have s1:=av.new CH (.tup [.int 1,.int 16]);generalize upd H wd (.tup [.int 1,.int 16])=H1 at s1 ⊢;walk_at "sf"
 dsimp only
 refine cC (fun m σ H'=>m=0/\σ=[some (.ref v.r),some (.ref v'.r),some (.ref v.pp),some (.ref wd)]/\H'=H1) ⟨0,rfl,rfl,rfl⟩ ?_;rintro m σ H' ⟨rfl,rfl,rfl⟩;walk_at "sf";refine⟨true,rfl,?_⟩
 dsimp only
 rw[if_pos rfl];refine⟨_,fun bJ H' h=>h,?_⟩;walk_at "sf";have Dc:=hv.same s1;refine aG (bL.of Dc.hp) rfl ?_;refine⟨v',v.g,_,_,x',rfl,jg.same s1,nX.vx,Dc.rl.1,Dc.rl.2.1,px.bt.mono (by decide),px.bu.mono (by decide),?_⟩;walk_at "sf";rw[decide_eq_false (fun z=>by have:=gZ.mp z;grind)];refine fS ?_;walk_at "sf";refine aG (bL.of Dc.hp) rfl ?_;refine⟨v',v.h,_,_,x',rfl,jg.same s1,nX.vx,Dc.rh.1,Dc.rh.2.1,px.y9.mono (by decide),px.wz.mono (by decide),?_⟩;rw[SF.Re.bK (show 0<x'-Re.q (vl v.t' v.u') by grind)];walk_at "sf";refine u_ ?_;walk_at "sf";exact q _ s1
end
end cW
namespace cW
open PySem PyProof.Rows L2 SF SF.Po
noncomputable def FJ(C:Addr):Sp:=fun vs H Q _=>∃(v v':Nv),vs=[.ref v.r,.ref v'.r]/\v.Hx H C/\v'.Hx H C/\
 ((∃x:Re,v'.rat/\v.Px x/\Bd 700000 v'.t/\Bd 700000 v'.u/\Q (.int (aU (x-Re.q (vl v'.t v'.u)))) H)\/∃x x':Re,v.Px x/\v'.Px x'/\((v.rat/\Q (.int (aU (x-x'))) H)\/(¬v.rat/\¬v'.rat/\Apart v v'/\vl v'.t v'.u<vl v'.t' v'.u'/\∀H',av H H'->Q (.int (-1)) H')\/(¬v.rat/\¬v'.rat/\FH v v'/\x=x'/\∀H',av H H'->Q (.int 0) H')))
section
variable {P:Program} {w:World} {K:PySem.W.Frag} {mg:Str->Option Value} {base:Heap} {C fI:Addr} {fd:FuncData}
theorem wZ(RC:Rc K mg C fI fd)(eL:aT P w K mg base 38 "as_ratio" ["number"] (FF C))(d8:aT P w K mg base 38 "against" ["number","given"] (iH C))(zl:aT P w K mg base 38 "are_same" ["one","other"] (FI C))(FK:aT P w K mg base 38 "parted" ["one","other"] (wX C))(D:aH K mg "compared" kS ["one","other"]):aT P w K mg base 39 "compared" ["one","other"] (FJ C):=by
 refine D.ok v_ (fun vs H Q E h=>?_) (fun f bM A outer s H vs Q E hr h=>?_)
 ·obtain⟨v,v',rfl,_⟩:=h;rfl
 obtain⟨v,v',rfl,hv,jg,q⟩:=h;refine⟨_,(ae (bB (ay lC (ar eL hr (aa (pv 1) ag)) fZ (aE _))
  (ah (ax (ar d8 hr (aa (pv 0) (aa (ar eL hr (aa (pv 1) ag)) ag)))))
  aM)
  (ae (bB (ay lC (ar eL hr (aa (pv 0) ag)) fZ (aE _))
  (ah (ax (cU bR (ar d8 hr (aa (pv 1) (aa (ar eL hr (aa (pv 0) ag)) ag))))))
  aM)
  (ah (ax (dJ (ky (ar zl hr (aa (pv 0) (aa (pv 1) ag)))) af (ar FK hr (aa (pv 0) (aa (pv 1) ag)))))))),?_⟩;walk_at "sf";refine⟨v',rfl,jg,fun r'=>?_,fun r'=>?_⟩
 ·walk_at "sf";refine⟨rfl,?_⟩;walk_at "sf";refine u_ ?_;walk_at "sf";refine⟨v',rfl,jg,fun _=>?_,fun z=>absurd r' z⟩;walk_at "sf";rcases q with⟨x,_,px,b1,b2,q⟩|⟨x,x',px,nX,⟨_,q⟩|⟨_,z,_⟩|⟨_,z,_⟩⟩
  ·exact⟨v,v'.g,_,_,x,rfl,hv,px.vx,jg.rl.1,jg.rl.2.1,b1,b2,q⟩
  ·refine⟨v,v'.g,_,_,x,rfl,hv,px.vx,jg.rl.1,jg.rl.2.1,nX.bt.mono (by decide),nX.bu.mono (by decide),?_⟩;rw[nX.zi r'] at q;exact q
  ·exact absurd r' z
  ·exact absurd r' z
 ·walk_at "sf";refine⟨rfl,?_⟩;walk_at "sf";refine fS ?_;walk_at "sf";obtain⟨x,x',px,nX,q⟩:∃x x':Re,v.Px x/\v'.Px x'/\_:=q.resolve_left fun⟨_,z,_⟩=>r' z;refine⟨v,rfl,hv,fun r=>?_,fun r=>?_⟩
  ·walk_at "sf";refine⟨rfl,?_⟩;walk_at "sf";refine u_ ?_;walk_at "sf";refine⟨v,rfl,hv,fun _=>?_,fun z=>absurd r z⟩;walk_at "sf";refine⟨v',v.g,_,_,x',rfl,jg,nX.vx,hv.rl.1,hv.rl.2.1,px.bt.mono (by decide),px.bu.mono (by decide),?_⟩;walk_at "sf";rcases q with⟨_,q⟩|⟨z,_⟩|⟨z,_⟩
   ·have e:x-x'=-(x'-x):=by grind
    rw[e,SF.Re.mV,px.zi r] at q;exact q
   ·exact absurd r z
   ·exact absurd r z
  ·walk_at "sf";refine⟨rfl,?_⟩;walk_at "sf";refine fS ?_;walk_at "sf";rcases q with⟨z,_⟩|⟨_,_,ap,l2,q⟩|⟨_,_,tw,e,q⟩
   ·exact absurd z r
   ·refine⟨v,v',x,x',rfl,hv,jg,px,nX,.inl ⟨ap,?_⟩⟩;walk_at "sf";refine fS ?_;walk_at "sf";exact⟨v,v',x,x',rfl,hv,jg,px,nX,ap,l2,q⟩
   ·refine⟨v,v',x,x',rfl,hv,jg,px,nX,.inr ⟨tw,e,fun H1 s1=>?_⟩⟩;walk_at "sf";refine u_ ?_;walk_at "sf";exact q H1 s1
end
end cW
namespace cW
open PySem PyProof.Rows L2 SF SF.Po
structure N2(p σ m d:Int):Prop where
 sg:σ=1\/σ=-1\/σ=0
 hm:pP m
 bm:Bd 24 m
 p1:-1000<=p
 p2:p<=1000
 d1:1<=d
 d2:d<=50
 m2:m<=1002001
noncomputable def xS(p σ m d:Int):Re:=if σ=0 then Re.q (vl p d) else if σ=1 then ov ((p:Re)+sq m) d else ov ((p:Re)-sq m) d
noncomputable def FL:Sp:=fun vs H Q _=>∃(c k:Int),vs=[.int c,.int k]/\∀(g:Addr)(p σ m d:Int)(H':Hp),av H H'->H' g=some (.tup [.int p,.int σ,.int m,.int d])->N2 p σ m d->Q (.ref g) H'
section
variable {P:Program} {w:World} {K:PySem.W.Frag} {mg:Str->Option Value} {base:Heap} {C fI:Addr} {fd:FuncData}
theorem w4(jW:aT P w K mg base 2 "_law_drawn" ["_law_cell_here","_law_k"] tV)(D:aH K mg "_law_surd" kX ["_law_cell_here","_law_k"]):aT P w K mg base 3 "_law_surd" ["_law_cell_here","_law_k"] FL:=by
 refine D.ok fX (fun vs H Q E h=>?_) (fun f bM A outer s H vs Q E hr h=>?_)
 ·obtain⟨c,k,rfl,_⟩:=h;rfl
 obtain⟨c,k,rfl,q⟩:=h;refine'⟨_,?term,?rest⟩
 case' term=>refine'(ae (aj (i:=2) fX.nd rfl (Or.inl rfl) (ar jW hr (aa (pv 0) (aa (pv 1) ag)))) ?r1)
 case' r1=>refine'(ae ?s1 ?s2)
 case' s1=>with_reducible refine'(aj (i:=3) ?nd ?hi ?hl ?x1 ?hs ?hf)
 case nd=>exact fX.nd
 case hi=>rfl
 case hl=>exact Or.inl rfl
 case hs=>rfl
 case hf=>first|exact .inl rfl|exact .inr rfl
 case' x1=>with_reducible refine'(aD ?ix ?l ?k ?u)
 case' ix=>refine' bE
 case' l=>with_reducible refine'(cQ ?li)
 case' li=>with_reducible refine'(sX ?ii)
 case' ii=>exact(.pos (.pos (.pos (.pos (.pos (.pos (.pos (.pos (.pos (.pos .nil))))))))))
 case' k=>exact(ao cH (pv 2) af)
 case' u=>exact(fun _ _=>rfl)
 case' s2=>exact(ae (aj (i:=4) fX.nd rfl (Or.inl rfl) (aD bE (cQ (aa (ao bq (ao cH (ao cq (pv 2) af) af) af) (aa (ao bq (ao cH (ao cq (pv 2) af) af) af) ag))) (ao cH (ao cq (pv 2) af) af) (fun _ _=>rfl)))
  (ae (aj (i:=5) fX.nd rfl (Or.inl rfl) (ao bH af (ao cH (ao cq (pv 2) af) (aD bE (cQ (aa af (aa af ag))) (ao cH (ao cq (pv 2) af) af) (fun _ _=>rfl)))))
  (ah (ax (cy (aa (pv 4) (aa (aD bE (cQ (aa af (aa (cU bR af) (aa af (aa af ag))))) (ao cH (ao cq (pv 2) af) af) (fun _ _=>rfl)) (aa (pv 3) (aa (pv 5) ag)))))))))
 walk_at "sf";refine⟨_,_,rfl,fun mo mo0 moz=>?_⟩;walk_at "sf";unfold JB;walk_at "sf";intro p1 ow;walk_at "sf";refine bN (by decide) ?_;obtain⟨c1,c2,c3⟩:=fm (x:=mo) (m:=10) (by decide);rw[c1];walk_at "sf";obtain⟨m,hm,em⟩:=Qt (L:=ms) c2 c3;refine cV (aW.of ai) em ?_;have s1:=av.new ow (.lst ([2,3,5,6,7,8,10,18,99,1000003].map V.int));generalize upd H p1 (.lst ([2,3,5,6,7,8,10,18,99,1000003].map V.int))=H1 at s1 ⊢;obtain⟨EW,hmb⟩:=PR m hm;walk_at "sf";refine bN (E9 16 (by decide) (by decide)) ?_;walk_at "sf";refine bN (by decide) ?_;obtain⟨d1,d2,d3⟩:=fm (x:=mo.fdiv 16) (m:=21) (by decide);rw[d1];walk_at "sf";refine bN (E9 16 (by decide) (by decide)) ?_;walk_at "sf";refine bN (by decide) ?_;obtain⟨e1,e2,e3⟩:=fm (x:=mo.fdiv 16) (m:=2001) (by decide);rw[e1];walk_at "sf";intro p2 uS;walk_at "sf";refine bN (E9 8192 (by decide) (by decide)) ?_;walk_at "sf";refine bN (by decide) ?_;obtain⟨f1,f2,f3⟩:=fm (x:=mo.fdiv 8192) (m:=2) (by decide);rw[f1];have k2:mo.fdiv 8192%2=0\/mo.fdiv 8192%2=1:=by lia
 obtain⟨p,ep,pl,pu⟩:∃p:Int,nD [V.int (mo.fdiv 16%21-10),V.int (mo.fdiv 16%2001-1000)] (mo.fdiv 8192%2)=some (.int p)/\-1000<=p/\p<=1000:=by
  rcases k2 with e|e
  ·exact⟨_,by rw[e];rfl,by lia,by lia⟩
  ·exact⟨_,by rw[e];rfl,by lia,by lia⟩
 refine cV (aW.of ai) ep ?_;have s2:=s1.trans (av.new uS (.lst [V.int (mo.fdiv 16%21-10),V.int (mo.fdiv 16%2001-1000)]));generalize upd H1 p2 (.lst [V.int (mo.fdiv 16%21-10),V.int (mo.fdiv 16%2001-1000)])=H2 at s2 ⊢;walk_at "sf";refine bN (E9 32768 (by decide) (by decide)) ?_;walk_at "sf";intro p3 Fb;walk_at "sf";refine bN (E9 8192 (by decide) (by decide)) ?_;walk_at "sf";refine bN (by decide) ?_;rw[f1];obtain⟨z,ez,z1,z2⟩:∃z:Int,nD [V.int 6,V.int 50] (mo.fdiv 8192%2)=some (.int z)/\0<z/\z<=50:=by
  rcases k2 with e|e
  ·exact⟨_,by rw[e];rfl,by decide,by decide⟩
  ·exact⟨_,by rw[e];rfl,by decide,by decide⟩
 refine cV (aW.of ai) ez ?_;have s3:=s2.trans (av.new Fb (.lst [V.int 6,V.int 50]));generalize upd H2 p3 (.lst [V.int 6,V.int 50])=H3 at s3 ⊢;refine bN (Int.ne_of_gt z1) ?_;obtain⟨g1,g2,g3⟩:=fm (x:=mo.fdiv 32768) (m:=z) z1;rw[g1];walk_at "sf";intro p4 N1;walk_at "sf";refine bN (E9 1048576 (by decide) (by decide)) ?_;walk_at "sf";refine bN (by decide) ?_;obtain⟨j1,j2,j3⟩:=fm (x:=mo.fdiv 1048576) (m:=4) (by decide);rw[j1];obtain⟨y,ey,hy⟩:∃y:Int,nD [V.int 1,V.int (-1),V.int 0,V.int 1] (mo.fdiv 1048576%4)=some (.int y)/\(y=1\/y=-1\/y=0):=by
  have:mo.fdiv 1048576%4=0\/mo.fdiv 1048576%4=1\/mo.fdiv 1048576%4=2\/mo.fdiv 1048576%4=3:=by lia
  rcases this with e|e|e|e
  ·exact⟨1,by rw[e];rfl,.inl rfl⟩
  ·exact⟨-1,by rw[e];rfl,.inr (.inl rfl)⟩
  ·exact⟨0,by rw[e];rfl,.inr (.inr rfl)⟩
  ·exact⟨1,by rw[e];rfl,.inl rfl⟩
 refine cV (aW.of ai) ey ?_;have s4:=s3.trans (av.new N1 (.lst [V.int 1,V.int (-1),V.int 0,V.int 1]));generalize upd H3 p4 (.lst [V.int 1,V.int (-1),V.int 0,V.int 1])=H4 at s4 ⊢;walk_at "sf";intro p5 MD;exact q p5 _ _ _ _ _ (s4.trans (av.new MD _)) ai ⟨hy,EW,hmb,pl,pu,by lia,by lia,(by decide:∀m∈ms,m<=1002001) m hm⟩
noncomputable def w6(C:Addr):Sp:=fun vs H Q _=>∃(g:Addr)(p σ m d:Int),vs=[.ref g]/\H g=some (.tup [.int p,.int σ,.int m,.int d])/\N2 p σ m d/\∀(v:Nv)(H':Hp),av H H'->v.Hx H' C->v.Px (xS p σ m d)->(σ=0->(v.t=v.t'/\v.u=v.u')/\v.w=1)->(σ≠0->v.w=2/\v.zs=au (qd p m d))->Q (.ref v.r) H'
theorem q_(T:Nm mg)(dR:aT P w K mg base 38 "of_ratio" ["given"] (my C))(eS:aT P w K mg base 38 "_law_ratio" ["_law_top","_law_under"] uc)(uz:aT P w K mg base 38 "roots" ["poly"] (ux C))(D:aH K mg "_law_number" jb ["_law_surd_here"]):aT P w K mg base 39 "_law_number" ["_law_surd_here"] (w6 C):=by
 refine D.ok dF (fun vs H Q E h=>?_) (fun f bM A outer s H vs Q E hr h=>?_)
 ·obtain⟨g,p,y,m,d,rfl,_⟩:=h;rfl
 obtain⟨g,p,y,m,d,rfl,hg,sd,q⟩:=h;have bp:Bd 12 p:=by have:=sd.p1;have:=sd.p2;unfold Bd;lia
 have bd:Bd 8 d:=by have:=sd.d1;have:=sd.d2;unfold Bd;lia
 have d0:0<d:=sd.d1;refine⟨_,(ae (kB (pv 0) (jq rfl (bc (aO (i:=1) dF.nd rfl (Or.inl rfl)) (bc (aO (i:=2) dF.nd rfl (Or.inl rfl)) (bc (aO (i:=3) dF.nd rfl (Or.inl rfl)) (bc (aO (i:=4) dF.nd rfl (Or.inl rfl)) gR))))))
  (ae (bB (ay f_ (pv 2) af (aE _))
  (ah (ax (ar dR hr (aa (ar eS hr (aa (pv 1) (aa (pv 4) ag))) ag))))
  aM)
  (ae (aj (i:=5) dF.nd rfl (Or.inl rfl) (ar uz hr (aa (cQ (aa (ao bq (ao aC (pv 1) (pv 1)) (pv 3)) (aa (ao bq af (ao aC (ao aC af (pv 1)) (pv 4))) (aa (ao aC (pv 4) (pv 4)) ag)))) ag)))
  (ah (ax (aD bE (pv 5) (dW fu rfl T.qg boot_int (aa (gp f_ (pv 2) af (aE _)) ag)) (fun _ _=>rfl))))))),?_⟩;walk_at "sf";refine jt (bL.of hg) rfl ?_;walk_at "sf";refine dI (fun c=>?_) (fun c=>?_)
 ·have y0:y=0:=by simpa using c
  walk_at "sf";refine⟨p,d,12,rfl,bp,bd.mono (by decide),by decide,d0,fun p1 t u ow bt bu hu VR QR=>?_⟩;have s1:=av.new ow (.tup [.int t,.int u]);walk_at "sf";refine⟨p1,t,u,rfl,⟨ai,hu,VR⟩,fun v H' s2 hv rm pv=>?_⟩;have pv:=pv (bt.mono (by decide)) (bu.mono (by decide));refine q v H' (s1.trans s2) hv ?_ (fun _=>⟨⟨rm.t.trans rm.t'.symm,rm.u.trans rm.u'.symm⟩,rm.w⟩) (fun z=>absurd y0 z);have ev:vl t u=vl p d:=(nW hu d0).mpr QR;unfold xS;rw[if_pos y0,<-ev];exact pv
 ·have y0:¬y=0:=by simpa using c
  have b2:Bd 3 (2:Int):=Bd.of_two (by decide) (by decide);walk_at "sf";refine bN (aP bp bp (by decide)) ?_;walk_at "sf";refine bN (aP b2 bp (by decide)) ?_;walk_at "sf";refine bN (aP (b2.mul bp) bd (by decide)) ?_;walk_at "sf";refine bN (aP bd bd (by decide)) ?_;walk_at "sf";intro pl mG;have s1:=av.new mG (.lst [V.int (p*p-m),V.int (0-2*p*d),V.int (d*d)]);obtain⟨VS,VT⟩:=rY sd.hm.1;walk_at "sf";refine⟨pl,p,m,d,sq m,rfl,ai,⟨d0,sd.hm,VS,VT,bp,sd.bm,bd⟩,fun l v0 v1 H' s2 hl h0 h1 p0 p1 tw=>?_⟩;walk_at "sf";rcases sd.sg with rfl|rfl|rfl
  ·refine .inr ⟨_,rfl,?_⟩;refine cV (aW.of hl) (show nD [V.ref v0.r,V.ref v1.r] _=some (V.ref v1.r) from rfl) ?_;exact q v1 H' (s1.trans s2) h1 p1 (fun z=>absurd z y0) (fun _=>⟨tw.w1,tw.z1⟩)
  ·refine .inr ⟨_,rfl,?_⟩;refine cV (aW.of hl) (show nD [V.ref v0.r,V.ref v1.r] _=some (V.ref v0.r) from rfl) ?_;exact q v0 H' (s1.trans s2) h0 p0 (fun z=>absurd z y0) (fun _=>⟨tw.w0,tw.z0⟩)
  ·exact absurd rfl y0
end
end cW
namespace cW
open PySem PyProof.Rows L2 SF SF.Po
theorem MP(a b:Re):aU (a-b)=aU (a*Re.ab a-b*Re.ab b):=by
 have key:∀{a b:Re},a<b->a*Re.ab a<b*Re.ab b:=fun{a b} h=>by
  by_cases ha:a<0
  ·by_cases hb:b<0
   ·have e1:Re.ab a=-a:=if_pos ha;have e2:Re.ab b=-b:=if_pos hb;rw[e1,e2];have:=Re.mul_pos (x:=b-a) (y:=-a+-b) (by grind) (by grind);grind
   ·have e1:Re.ab a=-a:=if_pos ha;have e2:Re.ab b=b:=if_neg hb;rw[e1,e2];have h1:=Re.mul_pos (x:=-a) (y:=-a) (by grind) (by grind);have h2:=sq_nonneg b;grind
  ·have e1:Re.ab a=a:=if_neg ha;have e2:Re.ab b=b:=if_neg (by grind);rw[e1,e2];have:=Re.mul_pos (x:=b-a) (y:=a+b) (by grind) (by grind);grind
 rcases SF.Re.AI a b with h|h|h
 ·have:=key h;rw[SF.Re.cI (by grind),SF.Re.cI (by grind)]
 ·have e1:a-b=0:=by rw[h];grind
  have e2:a*Re.ab a-b*Re.ab b=0:=by rw[h];grind
  rw[e1,e2]
 ·have:=key h;rw[SF.Re.bK (by grind),SF.Re.bK (by grind)]
theorem ID(z:Int):sg z=aU ((z:Int):Re):=AV z
theorem IE(z:Int):(((if z<0 then -z else z:Int)):Re)=Re.ab (z:Re):=by
 unfold Re.ab;by_cases h:z<0
 ·have h2:(z:Re)<0:=by have:=dz (n:=-z) (by lia);rw[fB] at this;grind
  rw[if_pos h,if_pos h2,fB]
 ·have h2:¬(z:Re)<0:=fun w=>by
   rcases Int.lt_or_eq_of_le (show 0<=z by lia) with k|k
   ·have:=dz k;grind
   ·rw[<-k,c0] at w;exact Re.lt_irrefl _ w
  rw[if_neg h,if_neg h2]
theorem IF{p m d σ t u:Int}(hd:0<d)(hu:0<u)(hm:0<m)(hs:σ=1\/σ=-1):sg (σ*m*u*u-(t*d-p*u)*(if t*d-p*u<0 then -(t*d-p*u) else t*d-p*u))=aU (xS p σ m d-Re.q (vl t u)):=by
 obtain⟨s0,ss⟩:=rY hm;have dS:=dz hu;have R9:xS p σ m d=ov ((p:Re)+(σ:Re)*sq m) d:=by
  unfold xS;rcases hs with rfl|rfl
  ·rw[if_neg (by decide),if_pos rfl,c1];congr 1;grind
  ·rw[if_neg (by decide),if_neg (by decide)];congr 1;have e:((-1:Int):Re)=-1:=by have:=fB 1;rw[c1] at this;exact this
   rw[e];grind
 have qu:Re.q (vl t u)*(u:Re)=(t:Re):=by
  have aaj:(0:Rat)<(u:Rat):=Rat.intCast_pos.mpr hu;rw[cS,cS,<-Re.fV];unfold vl;rw[Rat.div_mul_cancel (by grind)]
 have e1:aU (Re.q (vl t u)-xS p σ m d)=aU (((t*d-p*u:Int):Re)-(σ:Re)*sq m*(u:Re)):=by
  rw[R9,<-mZ hd];have e2:((t*d-p*u:Int):Re)-(σ:Re)*sq m*(u:Re)=(Re.q (vl t u)*(d:Re)-((p:Re)+(σ:Re)*sq m))*(u:Re):=by
   rw[kx,Lean.Grind.Ring.intCast_mul,Lean.Grind.Ring.intCast_mul,<-qu];grind
  rw[e2,SF.Re.gr,SF.Re.bK dS];lia
 have e3:xS p σ m d-Re.q (vl t u)=-(Re.q (vl t u)-xS p σ m d):=by grind
 rw[e3,SF.Re.mV,e1];generalize t*d-p*u=gap;have e4:((gap:Int):Re)-(σ:Re)*sq m*(u:Re)=-((σ:Re)*sq m*(u:Re)-(gap:Re)):=by grind
 rw[e4,SF.Re.mV,MP,ID];have su:=Re.mul_pos s0 dS;have e5:(σ:Re)*sq m*(u:Re)*Re.ab ((σ:Re)*sq m*(u:Re))=((σ*m*u*u:Int):Re):=by
  rw[Lean.Grind.Ring.intCast_mul,Lean.Grind.Ring.intCast_mul,Lean.Grind.Ring.intCast_mul,<-ss];rcases hs with rfl|rfl
  ·rw[c1];have e6:(1:Re)*sq m*(u:Re)=sq m*(u:Re):=by grind
   rw[e6];have:Re.ab (sq m*(u:Re))=sq m*(u:Re):=if_neg (by grind);rw[this];grind
  ·have e:((-1:Int):Re)=-1:=by have:=fB 1;rw[c1] at this;exact this
   rw[e];have e6:(-1:Re)*sq m*(u:Re)=-(sq m*(u:Re)):=by grind
   rw[e6];have:Re.ab (-(sq m*(u:Re)))=sq m*(u:Re):=by
    rw[Re.yq];exact if_neg (by grind)
   rw[this];grind
 rw[e5,<-IE,<-Lean.Grind.Ring.intCast_mul,<-kx];lia
theorem MQ(a b:Int):sg (a-b)=(if decide (a>b)=true then(1:Int) else 0)-(if decide (a<b)=true then 1 else 0):=by
 unfold sg;simp only[decide_eq_true_eq];split<;>split<;>first|lia|(split<;>lia)
noncomputable def zm:Sp:=fun vs H Q _=>∃(g h:Addr)(p σ m d t u:Int),vs=[.ref g,.ref h]/\H g=some (.tup [.int p,.int σ,.int m,.int d])/\N2 p σ m d/\H h=some (.tup [.int t,.int u])/\0<u/\Bd 62000 t/\Bd 62000 u/\Q (.int (aU (xS p σ m d-Re.q (vl t u)))) H
section
variable {P:Program} {w:World} {K:PySem.W.Frag} {mg:Str->Option Value} {base:Heap}
theorem w8(T:Nm mg)(D:aH K mg "_law_side" kY ["_law_surd_here","_law_given"]):aT P w K mg base 1 "_law_side" ["_law_surd_here","_law_given"] zm:=by
 refine D.ok dc (fun vs H Q E h=>?_) (fun f bM A outer s H vs Q E hr h=>?_)
 ·obtain⟨g,h,p,y,m,d,t,u,rfl,_⟩:=h;rfl
 obtain⟨g,h,p,y,m,d,t,u,rfl,hg,sd,hh,hu,bt,bu,q⟩:=h;have bp:Bd 12 p:=by have:=sd.p1;have:=sd.p2;unfold Bd;lia
 have bd:Bd 8 d:=by have:=sd.d1;have:=sd.d2;unfold Bd;lia
 have VU:Bd 2 y:=by rcases sd.sg with rfl|rfl|rfl<;>(unfold Bd;decide)
 have d0:0<d:=sd.d1;refine⟨_,(ae (kB (pv 0) (jq rfl (bc (aO (i:=2) dc.nd rfl (Or.inl rfl)) (bc (aO (i:=3) dc.nd rfl (Or.inl rfl)) (bc (aO (i:=4) dc.nd rfl (Or.inl rfl)) (bc (aO (i:=5) dc.nd rfl (Or.inl rfl)) gR))))))
  (ae (aj (i:=6) dc.nd rfl (Or.inl rfl) (ao bq (ao aC (aD aA (pv 1) af (fun _ _=>rfl)) (pv 5)) (ao aC (pv 2) (aD aA (pv 1) af (fun _ _=>rfl)))))
  (ae (bB (ay f_ (pv 3) af (aE _))
  (ah (ax (ao bq (dW fu rfl T.qg boot_int (aa (gp gS (pv 6) af (aE _)) ag)) (dW fu rfl T.qg boot_int (aa (gp fo (pv 6) af (aE _)) ag)))))
  aM)
  (ae (aj (i:=7) dc.nd rfl (Or.inl rfl) (ao aC (ao aC (ao aC (pv 3) (pv 4)) (aD aA (pv 1) af (fun _ _=>rfl))) (aD aA (pv 1) af (fun _ _=>rfl))))
  (ae (aj (i:=8) dc.nd rfl (Or.inl rfl) (ao aC (pv 6) (aI dw rfl T.ji boot_abs (aa (pv 6) ag))))
  (ah (ax (ao bq (dW fu rfl T.qg boot_int (aa (gp fo (pv 7) (pv 8) (aE _)) ag)) (dW fu rfl T.qg boot_int (aa (gp gS (pv 7) (pv 8) (aE _)) ag)))))))))),?_⟩;walk_at "sf";refine jt (bL.of hg) rfl ?_;walk_at "sf";refine aG (bL.of hh) rfl ?_;walk_at "sf";refine bN (aP bt bd (by decide)) ?_;walk_at "sf";refine aG (bL.of hh) rfl ?_;refine bN (aP bp bu (by decide)) ?_;walk_at "sf";have bg:Bd 62020 (t*d-p*u):=(((bt.mul bd).mono (by decide:62000+8<=62018)).sub ((bp.mul bu).mono (by decide))).mono (by decide);refine dI (fun c=>?_) (fun c=>?_)
 ·have y0:y=0:=by simpa using c
  subst y0;walk_at "sf";refine .inr ⟨_,rfl,?_⟩;walk_at "sf";refine .inr ⟨_,rfl,?_⟩;walk_at "sf";have e:aU (xS p 0 m d-Re.q (vl t u))=sg (p*u-t*d):=by
   unfold xS;rw[if_pos rfl,<-uq d0 hu]
  have e2:sg (p*u-t*d)=(if decide (t*d-p*u<0)=true then 1 else 0)-(if decide (t*d-p*u>0)=true then 1 else 0):=by
   unfold sg;simp only[decide_eq_true_eq];split
   ·rw[if_neg (by lia),if_pos (by lia)];rfl
   ·split
    ·rw[if_pos (by lia),if_neg (by lia)];rfl
    ·rw[if_neg (by lia),if_neg (by lia)];rfl
  rw[e,e2] at q;exact q
 ·have y0:¬y=0:=by simpa using c
  have hs:y=1\/y=-1:=by rcases sd.sg with e|e|e;exact .inl e;exact .inr e;exact absurd e y0
  walk_at "sf";refine bN (aP VU sd.bm (by decide)) ?_;walk_at "sf";refine aG (bL.of hh) rfl ?_;refine bN (aP (VU.mul sd.bm) bu (by decide)) ?_;walk_at "sf";refine aG (bL.of hh) rfl ?_;refine bN (aP ((VU.mul sd.bm).mul bu) bu (by decide)) ?_;walk_at "sf";refine⟨_,rfl,?_⟩;have bg2:Bd 62020 (if t*d-p*u<0 then -(t*d-p*u) else t*d-p*u):=by
   unfold Bd at*;split<;>lia
  refine bN (aP bg bg2 (by decide)) ?_;walk_at "sf";refine .inr ⟨_,rfl,?_⟩;walk_at "sf";refine .inr ⟨_,rfl,?_⟩;walk_at "sf";rw[<-IF d0 hu sd.hm.1 hs,MQ] at q;exact q
end
end cW
namespace cW
open PySem PyProof.Rows L2 SF SF.Po
noncomputable def nY:Sp:=fun vs H Q _=>∃m:Int,vs=[.int m]/\0<m/\Bd 24 m/\∀r:Int,0<=r->r*r<=m->m<(r+1)*(r+1)->Q (.int r) H
section
variable {P:Program} {w:World} {K:PySem.W.Frag} {mg:Str->Option Value} {base:Heap}
theorem mB(D:aH K mg "_law_floor_root" fF ["_law_whole"]):aT P w K mg base 1 "_law_floor_root" ["_law_whole"] nY:=by
 refine D.ok b_ (fun vs H Q E h=>?_) (fun f bM A outer s H vs Q E hr h=>?_)
 ·obtain⟨m,rfl,_⟩:=h;rfl
 obtain⟨m,rfl,m0,bm,q⟩:=h;have m24:m<16777216:=by unfold Bd at bm;lia
 refine⟨_,(ae (aj (i:=1) b_.nd rfl (Or.inl rfl) af)
  (ae (aj (i:=2) b_.nd rfl (Or.inl rfl) (ao bH (pv 0) af))
  (ae (cN PassesOwn.never (ay fo (ao bq (pv 2) (pv 1)) af (aE _))
  (ae (aj (i:=3) b_.nd rfl (Or.inl rfl) (ao cq (ao bH (pv 1) (pv 2)) af))
  (ah (bB (ay Jn (ao aC (pv 3) (pv 3)) (pv 0) (aE _))
  (ah (aj (i:=1) b_.nd rfl (Or.inl rfl) (pv 3)))
  (ah (aj (i:=2) b_.nd rfl (Or.inl rfl) (pv 3)))))))
  (ah (ax (pv 1)))))),?_⟩;walk_at "sf";refine cC (fun n σ H'=>∃(l h:Int)(r3:Option V),n=(h-l).toNat/\σ=[some (.int m),some (.int l),some (.int h),r3]/\H'=H/\0<=l/\l<h/\h<=m+2/\l*l<=m/\m<h*h) ⟨_,0,m+2,_,rfl,rfl,rfl,by decide,by lia,by lia,by lia,?_⟩ ?_
 ·have:=Int.mul_le_mul (show m+2<=m+2 by lia) (show 1<=m+2 by lia) (by decide) (by lia);lia
 rintro n σ H' ⟨l,h,r3,rfl,rfl,rfl,l0,lh,hm,hl,hh⟩;walk_at "sf";refine dI (fun c=>?_) (fun c=>?_)
 ·have c':1<h-l:=by simpa using c
  refine⟨_,fun bJ H' h=>h,?_⟩;walk_at "sf";refine bN (E9 2 (by decide) (by decide)) ?_;have e:(l+h).fdiv 2=(l+h)/2:=dy (by decide);rw[e];have k1:l<(l+h)/2:=by lia
  have k2:(l+h)/2<h:=by lia
  generalize (l+h)/2=z at*;have bz:Bd 30 z:=by unfold Bd;lia
  walk_at "sf";refine bN (aP bz bz (by decide)) ?_;walk_at "sf";refine dI (fun c=>?_) (fun c=>?_)
  ·have c2:z*z<=m:=by simpa using c
   walk_at "sf";exact⟨_,by lia,z,h,_,rfl,rfl,rfl,by lia,by lia,hm,c2,hh⟩
  ·have c2:¬z*z<=m:=by simpa using c
   walk_at "sf";exact⟨_,by lia,l,z,_,rfl,rfl,rfl,l0,by lia,by lia,hl,by lia⟩
 ·have c':¬1<h-l:=by simpa using c
  walk_at "sf";have e:h=l+1:=by lia
  subst e;exact q l l0 hl hh
end
end cW
namespace cW
open PySem PyProof.Rows L2 SF SF.Po
theorem qw{m r:Int}(hm:pP m)(r0:0<=r)(h1:r*r<=m)(h2:m<(r+1)*(r+1)):(r:Re)<sq m/\sq m<((r+1:Int):Re):=by
 obtain⟨s0,ss⟩:=rY hm.1;have key:∀a b:Int,a<b->(a:Re)<(b:Re):=fun a b h=>Re.eA.mpr (Rat.intCast_lt_intCast.mpr h);have k1:((r*r:Int):Re)<(m:Re):=key _ _ (Int.lt_iff_le_and_ne.mpr ⟨h1,hm.2 r⟩);have k2:=key _ _ h2;rw[Lean.Grind.Ring.intCast_mul,<-ss] at k1 k2;have r0':(0:Re)<=(r:Re):=by
  rcases Int.lt_or_eq_of_le r0 with z|z
  ·have:=dz z;grind
  ·rw[<-z,c0];grind
 have Vt:=dz (n:=r+1) (by lia);constructor
 ·rcases SF.Re.AI (r:Re) (sq m) with z|z|z
  ·exact z
  ·exfalso;rw[z] at k1;exact Re.lt_irrefl _ k1
  ·exfalso;have:=Re.mul_pos (x:=(r:Re)-sq m) (y:=(r:Re)+sq m) (by grind) (by grind);grind
 ·rcases SF.Re.AI (sq m) ((r+1:Int):Re) with z|z|z
  ·exact z
  ·exfalso;rw[z] at k2;exact Re.lt_irrefl _ k2
  ·exfalso;have:=Re.mul_pos (x:=sq m-((r+1:Int):Re)) (y:=sq m+((r+1:Int):Re)) (by grind) (by grind);grind
theorem zo{y:Re}{d a:Int}(hd:0<d)(h1:(a:Re)<=y)(h2:y<((a+1:Int):Re)):De (ov y d) 1 (a.fdiv d):=by
 have e:∀z:Int,Re.q (vl z 1)=(z:Re):=fun z=>by
  rw[cS];congr 1;unfold vl;grind
 have f1:a.fdiv d*d<=a:=by rw[dy hd];exact Int.ediv_mul_le _ (by lia)
 have f2:a<(a.fdiv d+1)*d:=by rw[dy hd];exact Int.lt_ediv_add_one_mul_self _ hd
 generalize a.fdiv d=F at*;have g1:((F*d:Int):Re)<=(a:Re):=Re.cv.mpr (Rat.intCast_le_intCast.mpr f1);have g2:((a+1:Int):Re)<=(((F+1)*d:Int):Re):=Re.cv.mpr (Rat.intCast_le_intCast.mpr (by lia));rw[Lean.Grind.Ring.intCast_mul] at g1 g2;unfold De;rw[e,e];constructor
 ·have:=mZ hd y (F:Re);rcases SF.Re.aR ((F:Re)-ov y d) with z|z|z
  ·grind
  ·grind
  ·exfalso;rw[z.2] at this;have:=Em this;grind
 ·have:=mZ hd y ((F+1:Int):Re);rw[SF.Re.bK (show 0<((F+1:Int):Re)*(d:Re)-y by grind)] at this;have:=Em this.symm;grind
noncomputable def qx:Sp:=fun vs H Q _=>∃(g:Addr)(p σ m d:Int),vs=[.ref g]/\H g=some (.tup [.int p,.int σ,.int m,.int d])/\N2 p σ m d/\∀F:Int,De (xS p σ m d) 1 F->Q (.int F) H
section
variable {P:Program} {w:World} {K:PySem.W.Frag} {mg:Str->Option Value} {base:Heap}
theorem uA(iI:aT P w K mg base 1 "_law_floor_root" ["_law_whole"] nY)(D:aH K mg "_law_floor" jO ["_law_surd_here"]):aT P w K mg base 2 "_law_floor" ["_law_surd_here"] qx:=by
 refine D.ok fh (fun vs H Q E h=>?_) (fun f bM A outer s H vs Q E hr h=>?_)
 ·obtain⟨g,p,y,m,d,rfl,_⟩:=h;rfl
 obtain⟨g,p,y,m,d,rfl,hg,sd,q⟩:=h;have d0:0<d:=sd.d1;have d2:=sd.d2;refine⟨_,(ae (kB (pv 0) (jq rfl (bc (aO (i:=1) fh.nd rfl (Or.inl rfl)) (bc (aO (i:=2) fh.nd rfl (Or.inl rfl)) (bc (aO (i:=3) fh.nd rfl (Or.inl rfl)) (bc (aO (i:=4) fh.nd rfl (Or.inl rfl)) gR))))))
  (ae (bB (ay f_ (pv 2) af (aE _))
  (ah (ax (ao cq (pv 1) (pv 4))))
  aM)
  (ae (bB (ay f_ (pv 2) af (aE _))
  (ah (ax (ao cq (ao bH (pv 1) (ar iI hr (aa (pv 3) ag))) (pv 4))))
  aM)
  (ah (ax (ao cq (ao bq (ao bq (pv 1) (ar iI hr (aa (pv 3) ag))) af) (pv 4))))))),?_⟩;walk_at "sf";refine jt (bL.of hg) rfl ?_;walk_at "sf";refine dI (fun c=>?_) (fun c=>?_)
 ·have y0:y=0:=by simpa using c
  walk_at "sf";refine bN (E9 d d0 (by lia)) ?_;refine q _ ?_;unfold xS;rw[if_pos y0];have e:Re.q (vl p d)=ov (p:Re) d:=by
   unfold ov;rw[cS,<-Re.fV];congr 1;unfold vl;rw[Rat.div_def,Rat.div_def];grind
  rw[e];exact zo d0 (by grind) (Re.eA.mpr (Rat.intCast_lt_intCast.mpr (by lia)))
 ·have y0:¬y=0:=by simpa using c
  walk_at "sf";refine dI (fun c=>?_) (fun c=>?_)
  ·have y1:y=1:=by simpa using c
   walk_at "sf";refine⟨m,rfl,sd.hm.1,sd.bm,fun r r0 h1 h2=>?_⟩;obtain⟨k1,k2⟩:=qw sd.hm r0 h1 h2;walk_at "sf";refine bN (E9 d d0 (by lia)) ?_;refine q _ ?_;unfold xS;rw[if_neg y0,if_pos y1];rw[Lean.Grind.Ring.intCast_add,c1] at k2;refine zo d0 ?_ ?_
   ·rw[Lean.Grind.Ring.intCast_add];grind
   ·rw[Lean.Grind.Ring.intCast_add,Lean.Grind.Ring.intCast_add,c1];grind
  ·have y1:¬y=1:=by simpa using c
   walk_at "sf";refine⟨m,rfl,sd.hm.1,sd.bm,fun r r0 h1 h2=>?_⟩;obtain⟨k1,k2⟩:=qw sd.hm r0 h1 h2;walk_at "sf";refine bN (E9 d d0 (by lia)) ?_;refine q _ ?_;unfold xS;rw[if_neg y0,if_neg y1];rw[Lean.Grind.Ring.intCast_add,c1] at k2;refine zo d0 ?_ ?_
   ·rw[kx,kx,c1];grind
   ·rw[Lean.Grind.Ring.intCast_add,kx,kx,c1];grind
end
end cW
namespace cW
open PySem PyProof.Rows L2 SF SF.Po
theorem QT{m n:Int}(hm:0<m)(hn:0<n)(h:m<=n*n):sq m<=(n:Re):=by
 obtain⟨s0,ss⟩:=rY hm;rcases SF.Re.AI (sq m) (n:Re) with z|z|z
 ·grind
 ·grind
 ·exfalso;have h1:=dz hn;have h2:=Re.mul_pos (x:=sq m-(n:Re)) (y:=sq m+(n:Re)) (by grind) (by grind);have h3:((m:Int):Re)<=((n*n:Int):Re):=Re.cv.mpr (Rat.intCast_le_intCast.mpr h);rw[Lean.Grind.Ring.intCast_mul] at h3;grind
theorem FN{d:Int}(hd:0<d){y:Re}{n:Int}(h1:-(n:Re)<=y)(h2:y<=(n:Re))(hn:0<=n):-(n:Re)<=ov y d/\ov y d<=(n:Re):=by
 have e:=yA hd y;have d1:(1:Re)<=(d:Re):=by
  have:((1:Int):Re)<=((d:Int):Re):=Re.cv.mpr (Rat.intCast_le_intCast.mpr (by lia));rw[c1] at this;exact this
 have n0:(0:Re)<=(n:Re):=by
  have:((0:Int):Re)<=((n:Int):Re):=Re.cv.mpr (Rat.intCast_le_intCast.mpr hn);rw[c0] at this;exact this
 generalize ov y d=z at*;constructor
 ·rcases SF.Re.AI z (-(n:Re)) with w|w|w
  ·exfalso;have:=Re.mul_pos (x:=-(n:Re)-z) (y:=(d:Re)) (by grind) (by grind);have:=Re.mul_nonneg (x:=(n:Re)) (y:=(d:Re)-1) n0 (by grind);grind
  ·grind
  ·grind
 ·rcases SF.Re.AI z (n:Re) with w|w|w
  ·grind
  ·grind
  ·exfalso;have:=Re.mul_pos (x:=z-(n:Re)) (y:=(d:Re)) (by grind) (by grind);have:=Re.mul_nonneg (x:=(n:Re)) (y:=(d:Re)-1) n0 (by grind);grind
theorem QU{p σ m d:Int}(h:N2 p σ m d):-((5096:Int):Re)<=xS p σ m d/\xS p σ m d<=((5096:Int):Re):=by
 have d0:0<d:=h.d1;have hp:-((1000:Int):Re)<=(p:Re)/\(p:Re)<=((1000:Int):Re):=by
  constructor
  ·rw[<-fB];exact Re.cv.mpr (Rat.intCast_le_intCast.mpr h.p1)
  ·exact Re.cv.mpr (Rat.intCast_le_intCast.mpr h.p2)
 have k:((1000:Int):Re)+((4096:Int):Re)=((5096:Int):Re):=by rw[<-Lean.Grind.Ring.intCast_add];rfl
 have k2:(0:Re)<((4096:Int):Re):=dz (by decide);obtain⟨s0,ss⟩:=rY h.hm.1;have s1:=QT (n:=4096) h.hm.1 (by decide) (by have:=h.bm;have:=h.hm.1;unfold Bd at *;lia);unfold xS;by_cases z:σ=0
 ·rw[if_pos z];have e:Re.q (vl p d)=ov (p:Re) d:=by
   unfold ov;rw[cS,<-Re.fV];congr 1;unfold vl;rw[Rat.div_def,Rat.div_def];grind
  rw[e];exact FN d0 (by grind) (by grind) (by decide)
 ·rw[if_neg z];by_cases z1:σ=1
  ·rw[if_pos z1];exact FN d0 (by grind) (by grind) (by decide)
  ·rw[if_neg z1];exact FN d0 (by grind) (by grind) (by decide)
theorem De.bd{x:Re}{sc F n:Int}(h:De x sc F)(hs:0<sc)(h1:-(n:Re)<=x)(h2:x<=(n:Re)):-(n*sc)<=F+1/\F<=n*sc:=by
 have e:∀z:Int,(z:Re)=Re.q (vl z 1):=fun z=>by
  rw[cS];congr 1;unfold vl;grind
 obtain⟨f1,f2⟩:=h;constructor
 ·have:Re.q (vl (-n) 1)<Re.q (vl (F+1) sc):=by rw[<-e,fB];grind
  have:=(qp (by decide) hs).mp (Re.eA.mp this);have e2:-n*sc=-(n*sc):=Int.neg_mul ..;lia
 ·have:Re.q (vl F sc)<=Re.q (vl n 1):=by rw[<-e];grind
  have:=(ft hs (by decide)).mp (Re.cv.mp this);lia
theorem De.uniq{x:Re}{sc F G:Int}(h:De x sc F)(g:De x sc G)(hs:0<sc):F=G:=by
 have k:∀{F G:Int},De x sc F->De x sc G->F<=G:=fun{F G} h g=>by
  have:Re.q (vl F sc)<Re.q (vl (G+1) sc):=by have:=h.1;have:=g.2;grind
  have:=(qp hs hs).mp (Re.eA.mp this);have:=Int.lt_of_mul_lt_mul_right this (Int.le_of_lt hs);lia
 exact Int.le_antisymm (k h g) (k g h)
end cW
namespace cW
open PySem PyProof.Rows L2 SF SF.Po
theorem MR{y:Re}(h:0<=y):¬aU y<0:=fun z=>by
 have:=gZ.mp z;grind
theorem MS{y:Re}(h:y<=0):¬0<aU y:=fun z=>by
 rcases SF.Re.aR y with w|w|w
 ·rw[w.2] at z;exact absurd z (by decide)
 ·rw[w.2] at z;exact absurd z (by decide)
 ·grind
theorem QV{z:Int}(h:z<=0):¬0<sg z:=by
 unfold sg;split
 ·lia
 ·rw[if_neg (by lia)];lia
theorem MT{c e c' e' w0 w1 n:Int}(he:0<e)(RO:0<e')(qZ:0<w0)(CC:0<w1)(hw:w0*n=1*w1)(h:vl c' e'-vl c e<=vl w0 w1):(c'*e-c*e')*n<=e*e':=by
 have n0:0<n:=by
  rcases Int.lt_or_le 0 n with z|z
  ·exact z
  ·have:=Int.mul_le_mul_of_nonneg_left z (Int.le_of_lt qZ);lia
 have h1:(0:Rat)<(e:Rat):=Rat.intCast_pos.mpr he;have h2:(0:Rat)<(e':Rat):=Rat.intCast_pos.mpr RO;have h3:(0:Rat)<(w0:Rat):=Rat.intCast_pos.mpr qZ;have h4:(0:Rat)<(w1:Rat):=Rat.intCast_pos.mpr CC;have h5:(0:Rat)<(n:Rat):=Rat.intCast_pos.mpr n0;have e1:vl c e*(e:Rat)=(c:Rat):=Rat.div_mul_cancel (by grind);have e2:vl c' e'*(e':Rat)=(c':Rat):=Rat.div_mul_cancel (by grind);have e3:vl w0 w1*(w1:Rat)=(w0:Rat):=Rat.div_mul_cancel (by grind);have e4:(w0:Rat)*(n:Rat)=(w1:Rat):=by rw[<-Rat.intCast_mul,hw,Int.one_mul]
 generalize vl c e=a at*;generalize vl c' e'=b at*;generalize vl w0 w1=o at*;have e5:o*(n:Rat)=1:=by
  have:(w0:Rat)*(o*(n:Rat)-1)=0:=by grind
  rcases Rat.mul_eq_zero.mp this with z|z
  ·rw[z] at h3;exact absurd h3 Rat.lt_irrefl
  ·grind
 have k:=Rat.mul_le_mul_of_nonneg_right (c:=(n:Rat)*((e:Rat)*(e':Rat))) h (Rat.le_of_lt (Rat.mul_pos h5 (Rat.mul_pos h1 h2)));have k2:(((c'*e-c*e')*n:Int):Rat)<=((e*e':Int):Rat):=by
  rw[Rat.intCast_mul,Rat.intCast_mul,Int.sub_eq_add_neg,Rat.intCast_add,Rat.intCast_neg,Rat.intCast_mul,Rat.intCast_mul,<-e1,<-e2];have e6:(b*(e':Rat)*(e:Rat)+-(a*(e:Rat)*(e':Rat)))*(n:Rat)=(b-a)*((n:Rat)*((e:Rat)*(e':Rat))):=by grind
  have e7:o*((n:Rat)*((e:Rat)*(e':Rat)))=o*(n:Rat)*((e:Rat)*(e':Rat)):=by grind
  rw[e7,e5,Rat.one_mul] at k;rw[e6];exact k
 exact Rat.intCast_le_intCast.mp k2
noncomputable def sA(C:Addr):Sp:=fun vs H Q _=>∃(v:Nv)(g:Addr)(p σ m d mo:Int),vs=[.ref v.r,.ref g,.int mo]/\v.Hx H C/\v.Px (xS p σ m d)/\H g=some (.tup [.int p,.int σ,.int m,.int d])/\N2 p σ m d/\∀H',av H H'->Q (.bl true) H'
section
variable {P:Program} {w:World} {K:PySem.W.Frag} {mg:Str->Option Value} {base:Heap} {C:Addr}
theorem km(jX:aT P w K mg base 39 "_law_floor" ["_law_surd_here"] qx)(eS:aT P w K mg base 39 "_law_ratio" ["_law_top","_law_under"] uc)(fH:aT P w K mg base 39 "_law_side" ["_law_surd_here","_law_given"] zm)(w_:aT P w K mg base 39 "_law_order" ["_law_one","_law_other"] Fh)(fJ:aT P w K mg base 39 "compared" ["one","other"] (FJ C))(dR:aT P w K mg base 39 "of_ratio" ["given"] (my C))(MU:aT P w K mg base 39 "near" ["number","width"] (FG C))(D:aH K mg "_law_ratios_right" eJ ["_law_number_here","_law_surd_here","_law_more"]):
 aT P w K mg base 40 "_law_ratios_right" ["_law_number_here","_law_surd_here","_law_more"] (sA C):=by
 refine D.ok aZ (fun vs H Q E h=>?_) (fun f bM A outer s H vs Q E hr h=>?_)
 ·obtain⟨v,g,p,y,m,d,mo,rfl,_⟩:=h;rfl
 obtain⟨v,g,p,y,m,d,mo,rfl,hv,px,hg,sd,q⟩:=h;have VV:=QU sd;generalize hx:xS p y m d=x at px VV;have one:Bd 14 (1:Int):=Bd.mono (m:=1) (by show(1:Int).natAbs<2^1;decide) (by decide);refine⟨_,(ae (aj (i:=3) aZ.nd rfl (Or.inl rfl) (ar jX hr (aa (pv 1) ag)))
  (ae (f6 PassesOwn.never rfl (eZ (cQ (aa (cy (aa (pv 3) (aa af ag))) (aa (cy (aa (ao bH (pv 3) af) (aa af ag))) (aa (ar eS hr (aa (ao bq (ao cH (pv 2) af) af) (aa (ao bH af (ao cH (ao cq (pv 2) af) af)) ag))) (aa (cy (aa af (aa af ag))) ag)))))) (aO (i:=4) aZ.nd rfl (Or.inl rfl))
  (ae (aj (i:=5) aZ.nd rfl (Or.inl rfl) (ar fH hr (aa (pv 1) (aa (pv 4) ag))))
  (ah (bB (PW.pt (jn (ay gb (ar fJ hr (aa (pv 0) (aa (ar dR hr (aa (pv 4) ag)) ag))) (pv 5) (aE _)) (jm (ay gb (ar fJ hr (aa (ar dR hr (aa (pv 4) ag)) (aa (pv 0) ag))) (ao bq af (pv 5)) (aE _)))))
  (ah (ax fk))
  aM))))
  (ae (kB (ar MU hr (aa (pv 0) (aa (ar eS hr (aa af (aa (ao bH af (ao cH (pv 2) af)) ag))) ag))) (jq rfl (bc (aO (i:=6) aZ.nd rfl (Or.inl rfl)) (bc (aO (i:=7) aZ.nd rfl (Or.inl rfl)) gR))))
  (ae (bB (PW.pt (jn (ay gS (ar fH hr (aa (pv 1) (aa (pv 6) ag))) af (aE _)) (jn (ay fo (ar fH hr (aa (pv 1) (aa (pv 7) ag))) af (aE _)) (jm (ay fo (ar w_ hr (aa (pv 6) (aa (pv 7) ag))) af (aE _))))))
  (ah (ax fk))
  aM)
  (ae (f6 PassesOwn.never rfl (eZ (cQ (aa (pv 6) (aa (pv 7) ag)))) (aO (i:=4) aZ.nd rfl (Or.inl rfl))
  (ah (bB (ay gb (ar fJ hr (aa (pv 0) (aa (ar dR hr (aa (pv 4) ag)) ag))) (ar fH hr (aa (pv 1) (aa (pv 4) ag))) (aE _))
  (ah (ax fk))
  aM)))
  (ae (aj (i:=8) aZ.nd rfl (Or.inl rfl) (ao bq (ao aC (aD aA (pv 7) af (fun _ _=>rfl)) (aD aA (pv 6) af (fun _ _=>rfl))) (ao aC (aD aA (pv 6) af (fun _ _=>rfl)) (aD aA (pv 7) af (fun _ _=>rfl)))))
  (ah (ax (gp Jn (ao aC (pv 8) (ao bH af (ao cH (pv 2) af))) (ao aC (aD aA (pv 6) af (fun _ _=>rfl)) (aD aA (pv 7) af (fun _ _=>rfl))) (aE _)))))))))),?_⟩;walk_at "sf";refine⟨g,p,y,m,d,rfl,hg,sd,fun F fl=>?_⟩;rw[hx] at fl;obtain⟨f1,f2⟩:=fl.bd (by decide) VV.1 VV.2;have bF:Bd 14 F:=by unfold Bd;lia
 have bF1:Bd 14 (F+1):=by unfold Bd;lia
 walk_at "sf";intro g1 xr;have s1:=av.new xr (.tup [.int F,.int 1]);have h1:upd H g1 (.tup [.int F,.int 1]) g1=some (.tup [.int F,.int 1]):=ai;generalize upd H g1 (.tup [.int F,.int 1])=H1 at s1 h1 ⊢;walk_at "sf";intro g2 VL;have s2:=av.new VL (.tup [.int (F+1),.int 1]);have h2:upd H1 g2 (.tup [.int (F+1),.int 1]) g2=some (.tup [.int (F+1),.int 1]):=ai;generalize upd H1 g2 (.tup [.int (F+1),.int 1])=H2 at s2 h2 ⊢;walk_at "sf";refine bN (by decide) ?_;obtain⟨c1,c2,c3⟩:=fm (x:=mo) (m:=99) (by decide);rw[c1];walk_at "sf";refine bN (E9 128 (by decide) (by decide)) ?_;walk_at "sf";refine bN (by decide) ?_;obtain⟨e1,e2,e3⟩:=fm (x:=mo.fdiv 128) (m:=9) (by decide);rw[e1];walk_at "sf";refine⟨_,_,14,rfl,by unfold Bd;lia,by unfold Bd;lia,by decide,by lia,fun g3 t3 u3 hg3 bt3 bu3 hu3 AL _=>?_⟩;have s3:=av.new hg3 (.tup [.int t3,.int u3]);have h3:upd H2 g3 (.tup [.int t3,.int u3]) g3=some (.tup [.int t3,.int u3]):=ai;generalize upd H2 g3 (.tup [.int t3,.int u3])=H3 at s3 h3 ⊢;walk_at "sf";intro g4 QW;have s4:=av.new QW (.tup [.int 0,.int 1]);have h4:upd H3 g4 (.tup [.int 0,.int 1]) g4=some (.tup [.int 0,.int 1]):=ai;generalize upd H3 g4 (.tup [.int 0,.int 1])=H4 at s4 h4 ⊢;walk_at "sf";intro pl mG;have s5:=av.new mG (.lst [V.ref g1,V.ref g2,V.ref g3,V.ref g4]);have h5:upd H4 pl (.lst [V.ref g1,V.ref g2,V.ref g3,V.ref g4]) pl=some (.lst [V.ref g1,V.ref g2,V.ref g3,V.ref g4]):=ai;generalize upd H4 pl (.lst [V.ref g1,V.ref g2,V.ref g3,V.ref g4])=H5 at s5 h5 ⊢;have Sz:=s1.trans (s2.trans (s3.trans (s4.trans s5)));have all:∀z∈[V.ref g1,V.ref g2,V.ref g3,V.ref g4],∃(h:Addr)(t u:Int),z=.ref h/\Rt H5 h t u/\Bd 14 t/\Bd 14 u:=fun z hz=>by
  rcases List.mem_cons.mp hz with e|hz
  ·exact⟨g1,F,1,e,⟨(s2.trans (s3.trans (s4.trans s5))) _ _ h1,by decide,Int.gcd_one⟩,bF,one⟩
  rcases List.mem_cons.mp hz with e|hz
  ·exact⟨g2,F+1,1,e,⟨(s3.trans (s4.trans s5)) _ _ h2,by decide,Int.gcd_one⟩,bF1,one⟩
  rcases List.mem_cons.mp hz with e|hz
  ·exact⟨g3,t3,u3,e,⟨(s4.trans s5) _ _ h3,hu3,AL⟩,bt3,bu3⟩
  ·exact⟨g4,0,1,List.mem_singleton.mp hz,⟨s5 _ _ h4,by decide,by decide⟩,Bd.mono (m:=1) (by show(0:Int).natAbs<2^1;decide) (by decide),one⟩
 have VW:=Sz _ _ hg;have SA:=hv.same Sz;clear h1 h2 h3 h4 s1 s2 s3 s4 s5;walk_at "sf";refine⟨pl,rfl,⟨_,aW.of h5⟩,?_⟩;refine jr (xs:=[V.ref g1,V.ref g2,V.ref g3,V.ref g4]) (fun i σ H'=>∃(r4 r5 r6 r7 r8:Option V),σ=[some (.ref v.r),some (.ref g),some (.int mo),some (.int F),r4,r5,r6,r7,r8]/\av H5 H') ⟨_,_,_,_,_,rfl,av.refl _⟩ (fun i σ H' _ z=>by obtain⟨_,_,_,_,_,_,z2⟩:=z;exact aW.of (z2 _ _ h5)) ?_ ?_
 ·rintro i z σ H6 hz ⟨r4,r5,r6,r7,r8,rfl,s6⟩;obtain⟨h,t,u,rfl,rt,bt,bu⟩:=all z (List.mem_of_getElem? hz);have Ky:=rt.same s6;walk_at "sf";refine⟨g,h,p,y,m,d,t,u,rfl,s6 _ _ VW,sd,Ky.1,Ky.2.1,bt.mono (by decide),bu.mono (by decide),?_⟩;rw[hx];walk_at "sf";refine⟨h,t,u,rfl,Ky,fun v1 H7 s7 Dc rm _=>?_⟩;walk_at "sf";refine⟨v,v1,rfl,SA.same (s6.trans s7),Dc,.inl ⟨x,⟨rm.t.trans rm.t'.symm,rm.u.trans rm.u'.symm⟩,px,by rw[rm.t];exact bt.mono (by decide),by rw[rm.u];exact bu.mono (by decide),?_⟩⟩;rw[rm.t,rm.u];walk_at "sf";refine kq rfl ?_;walk_at "sf";refine⟨h,t,u,rfl,Ky.same s7,fun v2 H8 s8 Xm SD pv2=>?_⟩;walk_at "sf";refine⟨v2,v,rfl,Xm,SA.same (s6.trans (s7.trans s8)),.inr ⟨_,x,pv2 (bt.mono (by decide)) (bu.mono (by decide)),px,.inl ⟨⟨SD.t.trans SD.t'.symm,SD.u.trans SD.u'.symm⟩,?_⟩⟩⟩;have e:aU (Re.q (vl t u)-x)=0-aU (x-Re.q (vl t u)):=by
   have e:Re.q (vl t u)-x=-(x-Re.q (vl t u)):=by grind
   rw[e,SF.Re.mV];lia
  rw[e];walk_at "sf";refine kq rfl ?_;walk_at "sf";exact⟨_,_,_,_,_,rfl,s6.trans (s7.trans s8)⟩
 rintro σ H6 ⟨r4,r5,r6,r7,r8,rfl,s6⟩;have Yg:=s6 _ _ VW;have ME:=SA.same s6;have Yh:=Sz.trans s6;clear all h5 Sz s6 VW SA;walk_at "sf";refine bN (by decide) ?_;obtain⟨k1,k2,k3⟩:=fm (x:=mo) (m:=5000) (by decide);rw[k1];walk_at "sf";refine⟨1,1+mo%5000,14,rfl,one,by unfold Bd;lia,by decide,by lia,fun gw w0 w1 hgw MN Kv CC _ ew=>?_⟩;have qZ:0<w0:=by
  rcases Int.lt_or_le 0 w0 with z|z
  ·exact z
  ·have:=Int.mul_le_mul_of_nonneg_right z (show 0<=1+mo%5000 by lia);lia
 have s7:=av.new hgw (.tup [.int w0,.int w1]);have h7:upd H6 gw (.tup [.int w0,.int w1]) gw=some (.tup [.int w0,.int w1]):=ai;generalize upd H6 gw (.tup [.int w0,.int w1])=H7 at s7 h7 ⊢;walk_at "sf";refine⟨v,x,gw,w0,w1,rfl,ME.same s7,px,h7,qZ,CC,MN.mono (by decide),Kv.mono (by decide),fun pn gl gh c e c' e' H8 s8 tZ rl rh nw iso=>?_⟩;have SE:=s7.trans s8;have VX:=SE _ _ Yg;have SG:=ME.same SE;have s08:=Yh.trans SE;clear ME Yg Yh SE s7 s8 h7;walk_at "sf";refine jt (bL.of tZ) rfl ?_;walk_at "sf";refine⟨g,gl,p,y,m,d,c,e,rfl,VX,sd,rl.1,rl.2.1,nw.b1.mono (by decide),nw.b2.mono (by decide),?_⟩;rw[hx];walk_at "sf";rw[decide_eq_false (MR (by have:=iso.ge;grind))];refine fS ?_;walk_at "sf";refine⟨g,gh,p,y,m,d,c',e',rfl,VX,sd,rh.1,rh.2.1,nw.b3.mono (by decide),nw.b4.mono (by decide),?_⟩;rw[hx];walk_at "sf";rw[decide_eq_false (MS (by have:=iso.le;grind))];refine fS ?_;walk_at "sf";refine⟨gl,gh,c,e,c',e',rfl,rl.1,rh.1,⟨nw.b1.mono (by decide),nw.b2.mono (by decide),nw.b3.mono (by decide),nw.b4.mono (by decide)⟩,?_⟩;walk_at "sf";have le8:vl c e<=vl c' e':=Re.cv.mp (by have:=iso.ge;have:=iso.le;grind);rw[decide_eq_false (QV (by have:=(ft rl.2.1 rh.2.1).mp le8;lia))];refine fS ?_;walk_at "sf";intro DE VY;have s9:=av.new VY (.lst [V.ref gl,V.ref gh]);have h9:upd H8 DE (.lst [V.ref gl,V.ref gh]) DE=some (.lst [V.ref gl,V.ref gh]):=ai;generalize upd H8 DE (.lst [V.ref gl,V.ref gh])=H9 at s9 h9 ⊢;have Yi:=rl.same s9;have Yj:=rh.same s9;have all:∀z∈[V.ref gl,V.ref gh],∃(h:Addr)(t u:Int),z=.ref h/\Rt H9 h t u/\Bd 61020 t/\Bd 61020 u:=fun z hz=>by
  rcases List.mem_cons.mp hz with k|hz
  ·exact⟨gl,c,e,k,Yi,nw.b1,nw.b2⟩
  ·exact⟨gh,c',e',List.mem_singleton.mp hz,Yj,nw.b3,nw.b4⟩
 have hg9:=s9 _ _ VX;have hv9:=SG.same s9;have s09:=s08.trans s9;walk_at "sf";refine⟨DE,rfl,⟨_,aW.of h9⟩,?_⟩;refine jr (xs:=[V.ref gl,V.ref gh]) (fun i σ H'=>∃(r4 r5 r8:Option V),σ=[some (.ref v.r),some (.ref g),some (.int mo),some (.int F),r4,r5,some (.ref gl),some (.ref gh),r8]/\av H9 H') ⟨_,_,_,rfl,av.refl _⟩ (fun i σ H' _ z=>by obtain⟨_,_,_,_,z2⟩:=z;exact aW.of (z2 _ _ h9)) ?_ ?_
 ·rintro i z σ H6 hz ⟨r4,r5,r8,rfl,s6⟩;obtain⟨h,t,u,rfl,rt,bt,bu⟩:=all z (List.mem_of_getElem? hz);have Ky:=rt.same s6;walk_at "sf";refine⟨h,t,u,rfl,Ky,fun v1 H7 s7 Dc rm _=>?_⟩;walk_at "sf";refine⟨v,v1,rfl,hv9.same (s6.trans s7),Dc,.inl ⟨x,⟨rm.t.trans rm.t'.symm,rm.u.trans rm.u'.symm⟩,px,by rw[rm.t];exact bt.mono (by decide),by rw[rm.u];exact bu.mono (by decide),?_⟩⟩;rw[rm.t,rm.u];walk_at "sf";refine⟨g,h,p,y,m,d,t,u,rfl,(s6.trans s7) _ _ hg9,sd,(Ky.same s7).1,Ky.2.1,bt.mono (by decide),bu.mono (by decide),?_⟩;rw[hx];walk_at "sf";refine kq rfl ?_;walk_at "sf";exact⟨_,_,_,rfl,s6.trans s7⟩
 rintro σ H6 ⟨r4,r5,r8,rfl,s6⟩;have VZ:=Yi.same s6;have V0:=Yj.same s6;walk_at "sf";refine aG (bL.of V0.1) rfl ?_;walk_at "sf";refine aG (bL.of VZ.1) rfl ?_;refine bN (aP nw.b3 nw.b2 (by decide)) ?_;walk_at "sf";refine aG (bL.of VZ.1) rfl ?_;walk_at "sf";refine aG (bL.of V0.1) rfl ?_;refine bN (aP nw.b1 nw.b4 (by decide)) ?_;walk_at "sf";refine bN (by decide) ?_;rw[k1];walk_at "sf";have V1:Bd 122060 (c'*e-c*e'):=(((nw.b3.mul nw.b2).mono (by decide:61020+61020<=122050)).sub ((nw.b1.mul nw.b4).mono (by decide))).mono (by decide);refine bN (aP V1 (n:=14) (by unfold Bd;lia) (by decide)) ?_;walk_at "sf";refine aG (bL.of VZ.1) rfl ?_;walk_at "sf";refine aG (bL.of V0.1) rfl ?_;refine bN (aP nw.b2 nw.b4 (by decide)) ?_;walk_at "sf";rw[decide_eq_true (MT rl.2.1 rh.2.1 qZ CC ew nw.wd)];exact q _ (s09.trans s6)
end
end cW
namespace cW
open PySem PyProof.Rows L2 SF PySem.W
noncomputable def Yk:Nat->Str
 |0=>"NoRatio"
 |1=>"NoNumber"
 |2=>"TooGreat"
 |3=>"BadText"
 |_=>"BadRow"
theorem QX{i:Nat}(h:i<5):nD [V.str "NoRatio",V.str "NoNumber",V.str "TooGreat",V.str "BadText",V.str "BadRow"] (i:Int)=some (V.str (Yk i)):=by
 match i,h with
 |0,_=>exact iQ rfl
 |1,_=>exact iQ rfl
 |2,_=>exact iQ rfl
 |3,_=>exact iQ rfl
 |4,_=>exact iQ rfl
structure Ad where
 cf:Addr
 c0:Addr
 c1:Addr
 c2:Addr
 c3:Addr
 c4:Addr
noncomputable def Ad.l(a:Ad):List Addr:=[a.c0,a.c1,a.c2,a.c3,a.c4]
noncomputable def Ad.c(a:Ad)(i:Nat):Addr:=a.l.getD i 0
noncomputable def MV(K:Frag)(D:Addr):Bool:=(findIn K (.ref D) "__getattribute__"==some (some (.builtin "BaseException.__getattribute__")))&&(findIn K (.ref D) "__getattr__"==some none)&&(subIn K (.ref D) (.type "BaseException")==some true)
 &&(findIn K (.ref D) "__class__"==some (some (.builtin "object.__class__")))&&(specialIn K (.builtin "object.__class__") "__get__"==some (some (.builtin "getset_descriptor.__get__")))&&(takesIn K (.builtin "object.__class__")==some true)
 &&(mroIn K D (.type "object")==some true)&&hasDictIn K D&&(findIn K (.ref D) "__str__"==some (some (.builtin "BaseException.__str__")))
theorem MW{K:Frag}{D:Addr}(h:MV K D=true):HS K D:=by
 simp only[MV,Bool.and_eq_true,beq_iff_eq] at h;obtain⟨⟨⟨⟨⟨⟨⟨⟨a,b⟩,c⟩,d⟩,e⟩,f⟩,g⟩,i⟩,j⟩:=h;exact⟨a,b,c,d,e,f,g,i,j⟩
noncomputable def V2(K:Frag)(a:Ad):Bool:=((List.range 5).all fun i=>MV K (a.c i)&&keepIn K (.ref (a.c i))&&(kitOne K (.ref (a.c i)) (.ref a.cf)==some true)&&(kitOne K (.ref (a.c i)) (.type "ValueError")==some true)
 &&((List.range 5).all fun j=>kitOne K (.ref (a.c i)) (.ref (a.c j))==some (i==j))&&(i==3||excIn K (a.c i) Uo "ValueError.__new__"))
 &&(exmOne K (.ref a.c0) (.ref a.cf)==some true)&&(findIn K (.ref a.c3) "at"==some none)
structure Kz(K:Frag)(mg:Str->Option Value)(a:Ad):Prop where
 mf:mg "FootError"=some (.ref a.cf)
 m0:mg "NoRatio"=some (.ref a.c0)
 m1:mg "NoNumber"=some (.ref a.c1)
 m2:mg "TooGreat"=some (.ref a.c2)
 m3:mg "BadText"=some (.ref a.c3)
 m4:mg "BadRow"=some (.ref a.c4)
 ok:V2 K a=true
section
variable {K:Frag} {mg:Str->Option Value} {a:Ad} {i j:Nat}
theorem Kz.all(C:Kz K mg a)(h:i<5):HS K (a.c i)/\keepIn K (.ref (a.c i))=true/\kitOne K (.ref (a.c i)) (.ref a.cf)=some true/\kitOne K (.ref (a.c i)) (.type "ValueError")=some true/\
 (∀j,j<5->kitOne K (.ref (a.c i)) (.ref (a.c j))=some (i==j))/\(i≠3->EF K (a.c i)):=by
 have q:=C.ok;simp only[V2,Bool.and_eq_true] at q;have r:=(List.all_eq_true.mp q.1.1) i (List.mem_range.mpr h);simp only[Bool.and_eq_true,beq_iff_eq,Bool.or_eq_true] at r;obtain⟨⟨⟨⟨⟨r1,r2⟩,r3⟩,r4⟩,r5⟩,r6⟩:=r;refine⟨MW r1,r2,r3,r4,fun j hj=>?_,fun n=>r6.resolve_left n⟩;have z:=(List.all_eq_true.mp r5) j (List.mem_range.mpr hj);exact beq_iff_eq.mp z
end
end cW
namespace cW
open PySem PyProof.Rows L2 SF PySem.W
section
variable {P:Program} {w:World} {K:Frag} {mg:Str->Option Value} {base:Heap} {a:Ad}
theorem oi:bootBuiltins "ValueError"=some (.type "ValueError"):=by kernel_rfl
theorem ll{X:Cx}{x:Str}{c:Addr}{pos:Pos}(hg:Gl X x)(hm:X.mg x=some (.ref c))(hd:(x==("__debug__":Str))=false:=by decide):PE X (.Name x pos) (tC (.ref c)):=zT (v:=.ref c) hg hm rfl hd
noncomputable def fl(i:Nat):List Bool:=[i==0,i==1,i==2,i==3,i==4]
theorem FO(h:i<5):(fl i).countP (·==true)=1:=by
 match i,h with
 |0,_=>rfl
 |1,_=>rfl
 |2,_=>rfl
 |3,_=>rfl
 |4,_=>rfl
theorem KA(h:i<5):(fl i).getD i (!true)=true/\∀j,j<i->(fl i).getD j (!true)=(!true):=by
 match i,h with
 |0,_=>exact⟨rfl,fun j hj=>by lia⟩
 |1,_=>exact⟨rfl,fun j hj=>by match j,hj with|0,_=>rfl⟩
 |2,_=>exact⟨rfl,fun j hj=>by match j,hj with|0,_=>rfl|1,_=>rfl⟩
 |3,_=>exact⟨rfl,fun j hj=>by match j,hj with|0,_=>rfl|1,_=>rfl|2,_=>rfl⟩
 |4,_=>exact⟨rfl,fun j hj=>by match j,hj with|0,_=>rfl|1,_=>rfl|2,_=>rfl|3,_=>rfl⟩
noncomputable def FP(a:Ad):Sp:=fun vs H Q _=>∃x i t tb d,vs=[.ref x]/\i<5/\H x=some (dX x (a.c i) t tb d)/\sf H d/\∀H',av H H'->Q (.str (Yk i)) H'
theorem xc(T:Nm mg)(C:Kz K mg a)(D:aH K mg "_law_word" kW ["_law_e"]):pT P w K mg base uQ false 1 "_law_word" ["_law_e"] (fun _=>FP a):=by
 refine D.NO jL (fun s vs H Q E h=>?_) (fun f bM A outer s H vs Q E ko hr h=>?_)
 ·obtain⟨x,i,t,tb,d,rfl,_⟩:=h;rfl
 obtain⟨x,i,t,tb,d,rfl,hi,hx,hd,q⟩:=h;obtain⟨ask,_,kF,kV,kk,_⟩:=C.all hi;have QY:∀(H1:Hp)(Q:VK)(j:Nat),av H H1->j<5->Q (.bl (i==j)) H1->HW K [.ref x,.ref (a.c j)] H1 Q:=fun H1 Q j s1 hj q=>⟨x,a.c i,t,tb,d,.ref (a.c j),i==j,rfl,s1 _ _ hx,hd.same s1,ask,nofun,kk j hj,q⟩;have isF:∀(H1:Hp)(Q:VK),av H H1->Q (.bl true) H1->HW K [.ref x,.ref a.cf] H1 Q:=fun H1 Q s1 q=>⟨x,a.c i,t,tb,d,.ref a.cf,true,rfl,s1 _ _ hx,hd.same s1,ask,nofun,kF,q⟩;have isV:∀(H1:Hp)(Q:VK),av H H1->Q (.bl true) H1->HW K [.ref x,.ty "ValueError"] H1 Q:=fun H1 Q s1 q=>⟨x,a.c i,t,tb,d,.ty "ValueError",true,rfl,s1 _ _ hx,hd.same s1,ask,nofun,kV,q⟩;refine⟨_,qJ.Jh (ae (aj (i:=1) jL.nd rfl (Or.inl rfl) (cQ (aa (aI gJ rfl T.cP boot_isinstance (aa (pv 0) (aa (ll rfl C.m0) ag))) (aa (aI gJ rfl T.cP boot_isinstance (aa (pv 0) (aa (ll rfl C.m1) ag)))
  (aa (aI gJ rfl T.cP boot_isinstance (aa (pv 0) (aa (ll rfl C.m2) ag))) (aa (aI gJ rfl T.cP boot_isinstance (aa (pv 0) (aa (ll rfl C.m3) ag))) ag))))))
  (ae (aj (i:=1) jL.nd rfl (Or.inl rfl) (ao Ld (pv 1) (cQ (aa (aI gJ rfl T.cP boot_isinstance (aa (pv 0) (aa (ll rfl C.m4) ag))) ag))))
  (ae (bB (PW.pt (jn (ay gb (nF PySem.F.plainAttrs_list PySem.F.slot_list_count PySem.F.type_list_count HX (pv 1) (aa fk ag)) af (aE _))
   (jn (kA (ky (aI gJ rfl T.cP boot_isinstance (aa (pv 0) (aa (ll rfl C.mf) ag))))) (jm (kA (ky (aI gJ rfl T.cP boot_isinstance (aa (pv 0) (aa (OK rfl T.tT oi) ag)))))))))
   (ah (ax jl)) aM)
  (ah (ax (aD bE (cQ (aa jl (aa jl (aa jl (aa jl (aa jl ag)))))) (nF PySem.F.plainAttrs_list PySem.F.slot_list_index PySem.F.type_list_index HY (pv 1) (aa fk ag)) (fun _ _=>rfl))))))),?_⟩;walk_at "sf";refine QY _ _ 0 (av.refl _) (by decide) ?_;walk_at "sf";refine QY _ _ 1 (av.refl _) (by decide) ?_;walk_at "sf";refine QY _ _ 2 (av.refl _) (by decide) ?_;walk_at "sf";refine QY _ _ 3 (av.refl _) (by decide) ?_;walk_at "sf";intro p1 ow;have s1:=av.new ow (.lst [V.bl (i==0),V.bl (i==1),V.bl (i==2),V.bl (i==3)]);walk_at "sf";refine QY _ _ 4 s1 (by decide) ?_;walk_at "sf";intro p2 uS;have s2:=s1.trans (av.new uS (.lst [V.bl (i==4)]));have n12:p1≠p2:=fun z=>by subst z;rw[ai] at uS;cases uS
 refine⟨p1,p2,[V.bl (i==0),V.bl (i==1),V.bl (i==2),V.bl (i==3)],[V.bl (i==4)],rfl,rfl,by rw[aq n12,ai],by rw[ai],fw (show 5<=1000 by decide),fun p3 Fb=>?_⟩;have s3:=s2.trans (av.new Fb (.lst ([V.bl (i==0),V.bl (i==1),V.bl (i==2),V.bl (i==3)]++[V.bl (i==4)])));generalize Yl:upd (upd (upd H p1 _) p2 _) p3 _=H3 at s3 ⊢;have h3:aW K H3 p3 ((fl i).map V.bl):=by subst Yl;exact aW.of ai
 clear Yl s1 s2;walk_at "sf";refine⟨_,rfl,⟨.inl ⟨rfl,_,h3⟩,?_⟩⟩;walk_at "sf";refine⟨p3,fl i,true,rfl,rfl,h3,?_⟩;rw[FO hi];walk_at "sf";refine fS ?_;walk_at "sf";refine isF _ _ s3 ?_;walk_at "sf";refine fS ?_;walk_at "sf";refine isV _ _ s3 ?_;walk_at "sf";refine fS ?_;walk_at "sf";intro p4 N1;have s4:=s3.trans (av.new N1 (.lst [V.str "NoRatio",V.str "NoNumber",V.str "TooGreat",V.str "BadText",V.str "BadRow"]));walk_at "sf";refine⟨_,rfl,⟨.inl ⟨rfl,_,(av.new N1 _).seq h3⟩,?_⟩⟩;walk_at "sf";refine⟨p3,fl i,true,i,rfl,rfl,(av.new N1 _).seq h3,hi,(KA hi).1,(KA hi).2,?_⟩;refine cV (aW.of ai) (QX hi) ?_;exact q _ s4
end
end cW
namespace cW
open PySem PyProof.Rows L2 SF SF.Po
theorem CJ{xs:List Int}(h:Tr xs)(hn:xs≠[]):dj (au xs) (au xs)=au xs:=
 (lS (bS h) ⟨cO h hn,eO h hn,D.refl _,D.refl _,1,0,1,by decide,by rw[Po.cu];grind⟩).symm
theorem Nv.Px.strict{v:Nv}{x s:Re}{p m d:Int}(px:v.Px x)(hq:Qd p m d s)(hz:v.zs=au (qd p m d))(hu:0<v.u):vl v.t v.u<vl v.t' v.u':=by
 rcases px.Bq with⟨h,_⟩|⟨_,h⟩
 ·exact h
 ·exfalso;have e:=gi (t:=v.t) hu v.zs;rw[h] at e;have e2:aU (at' (Re.q (vl v.t v.u)) (aw v.zs))=0:=e.symm;have e3:=SF.Re.bA e2;rw[hz] at e3;exact pQ hq.hm _ ((lZ hq.hd _).mp e3)
theorem Nv.FQ{v:Nv}(h:vl v.t v.u<vl v.t' v.u'):¬v.rat:=fun r=>by
 rw[r.1,r.2] at h;exact Rat.lt_irrefl h
theorem Qd.twice{v v':Nv}{x s:Re}{p m d:Int}(hq:Qd p m d s)(px:v.Px x)(nX:v'.Px x)(hz:v.zs=au (qd p m d))(RV:v'.zs=au (qd p m d))(hu:0<v.u)(dS:0<v'.u):FH v v':=by
 refine⟨hz.trans RV.symm,by rw[hz];exact bS (fW hq.hd),fun z=>?_,by rw[hz,RV];exact CJ (fW hq.hd) (jC _ _ _),px.strict hq hz hu,nX.strict hq RV dS⟩;have:=congrArg List.length z;rw[hz,aS] at this;cases this
noncomputable def xN(p m d k:Int)(s:Re):Re:=if k=0 then ov ((p:Re)-s) d else ov ((p:Re)+s) d
noncomputable def KC(C c:Addr):Sp:=fun vs H Q E=>∃(l:Addr)(p m d k:Int)(s:Re),vs=[.ref l,.int k]/\IL H l (qd p m d)/\Qd p m d s/\
 (((k=0\/k=1)/\∀(v:Nv)(H':Hp),av H H'->v.Hx H' C->v.Px (xN p m d k s)->v.zs=au (qd p m d)->Q (.ref v.r) H')\/
  ((k=-1\/k=2)/\∀(H1:Hp)(x tp:Addr)(mm:Str),av H H1->H1 x=none->H1 tp=none->x≠tp->E (.ref c) none (upd (upd H1 tp (.tup [.str mm])) x (dX x c tp .none none))))
section
open PySem.W
variable {P:Program} {w:World} {K:Frag} {mg:Str->Option Value} {base:Heap} {C:Addr} {a:Ad}
theorem MX(T:Nm mg)(CL:Kz K mg a)(lj:aT P w K mg base 37 "isolated" ["poly"] Fm)(eC:aT P w K mg base 37 "square_free" ["poly"] (C_ vD Cw))(jV:aT P w K mg base 37 "number_in" ["free","pair","weight"] (ur C))(jS:aT P w K mg base 37 "degree" ["poly"] Bl)(D:aH K mg "nth" EZ ["poly","k"]):pT P w K mg base (Gw P w) true 38 "nth" ["poly","k"] (fun _=>KC C a.c1):=by
 refine D.NO yL (fun s vs H Q E h=>?_) (fun f bM A outer s H vs Q E ko hr h=>?_)
 ·obtain⟨l,p,m,d,k,sq,rfl,_⟩:=h;rfl
 obtain⟨l,p,m,d,k,sq,rfl,hl,hq,q⟩:=h;have X1:EF K a.c1:=(CL.all (i:=1) (by decide)).2.2.2.2.2 (by decide);refine⟨_,(ae (aj (i:=2) yL.nd rfl (Or.inl rfl) (ar lj hr.calm (aa (pv 0) ag)))
  (ae (bB (PW.pt (jn (ay gS (pv 1) af (aE _)) (jm (ay Dr (pv 1) (aI aV rfl T.gf boot_len (aa (pv 2) ag)) (aE _)))))
  (ah (EM (E:=E) yF rfl rfl CL.m1 X1 (aa jl ag)))
  aM)
  (ae (aj (i:=3) yL.nd rfl (Or.inl rfl) (ar eC hr.calm (aa (pv 0) ag)))
  (ah (ax (ar jV hr.calm (aa (pv 3) (aa (aD bE (pv 2) (pv 1) (fun _ _=>rfl)) (aa (ar jS hr.calm (aa (pv 3) ag)) ag))))))))),?_⟩;walk_at "sf";refine⟨l,_,rfl,hl,⟨hq.IA,hq.QP,by show 3<=13;decide⟩,fun r fs ps o b t u t' u' H1 s1 _ Hv hF iso XJ=>?_⟩;rw[A4 hq.hd hq.hm] at iso;obtain⟨f0,f1,rfl,l0,l1,i0,i1⟩:=iso.two hq.hd hq.hm hq.s0 hq.ss fun f hf=>⟨(hF f hf).rl.2.1,(hF f hf).rh.2.1⟩;walk_at "sf";rcases q with⟨hk,q⟩|⟨hk,q⟩
 ·rw[decide_eq_false (show ¬k<0 by lia)];refine fS ?_;walk_at "sf";refine⟨r,_,rfl,.inl (aW.of Hv),?_⟩;walk_at "sf";rw[decide_eq_false (show ¬k>=((([f0,f1].map fun f=>V.ref f.p).length:Nat):Int) by show ¬k>=2;lia)];refine fS ?_;walk_at "sf";refine⟨l,_,rfl,s1 _ _ hl,hq.IA,fun p1 H2 s2 h2=>?_⟩;rw[A4 hq.hd hq.hm] at h2;have l3:(au (qd p m d)).length=3:=by rw[aS];rfl
  have az:Ab 100 (au (qd p m d)):=(dB (fW hq.hd) (jC _ _ _) hq.ab).mono (by decide);have QO:au (qd p m d)≠[]:=fun z=>by rw[z] at l3;cases l3
  have zg:0<co (au (qd p m d)) ((au (qd p m d)).length-1):=by
   have:=gE (fW (p:=p) (m:=m) hq.hd) (jC _ _ _);rw[l3];exact this
  have Mf:∀z:Rat,at' (Re.q z) (aw (au (qd p m d)))≠0:=fun z w=>pQ hq.hm z ((lZ hq.hd _).mp w);generalize au (qd p m d)=zs at*;obtain⟨f,ef,hf,pf,VN,VO⟩:∃(f:Fx),nD [V.ref f0.p,V.ref f1.p] k=some (.ref f.p)/\f.Hx H2/\f.Px zs ps/\m5 zs (xN p m d k sq) f.lo f.hi/\f.lo<f.hi:=by
   rcases hk with rfl|rfl
   ·exact⟨f0,rfl,(hF f0 List.mem_cons_self).same s2,iso.px f0 List.mem_cons_self,i0,l0⟩
   ·exact⟨f1,rfl,(hF f1 (List.mem_cons_of_mem _ List.mem_cons_self)).same s2,iso.px f1 (List.mem_cons_of_mem _ List.mem_cons_self),i1,l1⟩
  walk_at "sf";refine cV (aW.of (s2 _ _ Hv)) ef ?_;walk_at "sf";refine⟨p1,zs,rfl,h2,?_⟩;walk_at "sf";exact⟨p1,f.p,f.gl,f.gh,zs,f.t,f.u,f.t',f.u',_,_,rfl,h2,hf.hp,hf.rl,hf.rh,⟨by lia,az,QO,zg⟩,⟨pf.bt,pf.bu,pf.y9,pf.wz⟩,VN,.inl ⟨VO,pf.sgn⟩,Mf,fun v H4 s4 VP Su mk=>q v H4 (s1.trans (s2.trans s4)) VP Su mk.zs⟩
 ·have fin:∀x tp,H1 x=none->H1 tp=none->x≠tp->∀mm,E (.ref a.c1) none (upd (upd H1 tp (.tup [.str mm])) x (dX x a.c1 tp .none none)):=fun x tp e1 e2 e3 mm=>q H1 x tp mm s1 e1 e2 e3;rcases hk with rfl|rfl
  ·refine u_ ?_;walk_at "sf";exact⟨by decide,fun x tp e1 e2 e3=>fin x tp e1 e2 e3 _⟩
  ·refine fS ?_;walk_at "sf";refine⟨r,_,rfl,.inl (aW.of Hv),?_⟩;walk_at "sf";refine u_ ?_;walk_at "sf";exact⟨by decide,fun x tp e1 e2 e3=>fin x tp e1 e2 e3 _⟩
end
end cW
namespace cW
open PySem PyProof.Rows L2 SF SF.Po PySem.W
noncomputable def Ym:HO->Prop
 |.lst _=>True
 |.tup _=>True
 |.nA _ _=>True
 |.ins _ _ _=>True
 |_=>False
noncomputable def eW(H H':Hp):Prop:=∀b o,Ym o->H b=some o->H' b=some o
theorem eW.refl(H:Hp):eW H H:=fun _ _ _ h=>h
theorem eW.trans{H H1 H2:Hp}(a:eW H H1)(b:eW H1 H2):eW H H2:=fun c o s h=>b c o s (a c o s h)
theorem eW.of{H H':Hp}(s:av H H'):eW H H':=fun b o _ h=>s b o h
theorem eW.seq{K:Frag}{H H':Hp}{a:Addr}{xs:List V}(e:eW H H')(h:aW K H a xs):aW K H' a xs:=by
 rcases h with(h|⟨o,h⟩)|h
 ·exact .inl (.inl (e _ _ trivial h))
 ·exact .inl (.inr ⟨o,e _ _ trivial h⟩)
 ·exact .inr h
structure Bt(Pt:Addr)(q:Str)(H:Hp):Prop where
 ex:∃ps:Array Value,H Pt=some (.oj ps)/\TriplesOk ps.toList/\∀pos v,codeAmong pos ps.toList=some v->∃c' oc,v=.ref c'/\H c'=some (.nA oc (.own 0))/\P8 oc q
theorem Bt.same{Pt:Addr}{q:Str}{H H':Hp}(h:Bt Pt q H)(s:av H H'):Bt Pt q H':=by
 obtain⟨ps,a,b,c⟩:=h.ex;exact⟨ps,s _ _ a,b,fun pos v e=>by obtain⟨c',oc,e1,e2,e3⟩:=c pos v e;exact⟨c',oc,e1,s _ _ e2,e3⟩⟩
theorem uB{i j:Int}{c:Value}:∀(l:List Value),TriplesOk l->TriplesOk (l++[rawInt i,rawInt j,c]):=by
 intro l
 fun_induction TriplesOk l with
 |case1=>intro _;exact trivial
 |case2 a b c d e l ih=>intro h;exact ih h
 |case3=>intro h;exact h.elim
theorem zp{pos:Pos}{i j:Int}{c v:Value}:∀(l:List Value),TriplesOk l->codeAmong pos (l++[rawInt i,rawInt j,c])=some v->codeAmong pos l=some v\/v=c:=by
 intro l
 fun_induction TriplesOk l with
 |case1=>
  intro _ h;simp only[List.nil_append,codeAmong,rawInt] at h;split at h
  ·exact .inr (Option.some.inj h).symm
  ·cases h
 |case2 a b c' d e l ih=>
  intro h e1;simp only[List.cons_append,codeAmong] at e1 ⊢;split at e1
  ·rename_i z;rw[if_pos z];exact .inl e1
  ·rename_i z;rw[if_neg z];exact ih h e1
 |case3=>intro h;exact h.elim
theorem FR{Pt:Addr}{pos:Pos}{q:Str}{params:Arguments}{body:Expr}{scope:Scope}{cl:List (Str×Addr)}{σ:L2.St}{H:Hp}{Q:VK}(T:Bt Pt q H)(h:∀f c' oc H1,eW H H1->Bt Pt q H1->H1 f=some (qQ f "<lambda>" q params body scope cl c')->H1 c'=some (.nA oc (.own 0))->P8 oc q->Q (.ref f) H1):Kb Pt pos q params body scope cl σ H Q:=by
 obtain⟨ps,hP,ht,hc⟩:=T.ex;cases e:codeAmong pos ps.toList with
 |none=>
  refine .inl ⟨ps,hP,ht,e,fun f c' oc ko e1 e2 e3=>?_⟩;have nP:∀b,H b=none->b≠Pt:=fun b z y=>by rw[y,hP] at z;cases z
  have keep:∀b o,Ym o->H b=some o->upd (upd (upd H Pt (.oj (ps++#[rawInt pos.line,rawInt pos.col,.ref c']))) c' (.nA oc (.own 0))) f (qQ f "<lambda>" q params body scope cl c') b=some o:=fun b o so z=>by
   rw[aq (aL z e1),aq (aL z e2),aq (fun y=>by subst y;rw[hP] at z;cases z;exact so)];exact z
  have L7:upd (upd (upd H Pt (.oj (ps++#[rawInt pos.line,rawInt pos.col,.ref c']))) c' (.nA oc (.own 0))) f (qQ f "<lambda>" q params body scope cl c') c'=some (.nA oc (.own 0)):=by rw[aq (Ne.symm e3),ai]
  refine h f c' oc _ keep ⟨ps++#[rawInt pos.line,rawInt pos.col,.ref c'],?_,?_,fun V3 v e4=>?_⟩ ai L7 ko
  ·rw[aq (Ne.symm (nP f e1)),aq (Ne.symm (nP c' e2)),ai]
  ·rw[Array.toList_append];exact uB _ ht
  ·rw[Array.toList_append] at e4;rcases zp _ ht e4 with z|z
   ·obtain⟨c2,oc2,y1,y2,y3⟩:=hc V3 v z;exact⟨c2,oc2,y1,keep _ _ trivial y2,y3⟩
   ·exact⟨c',oc,z,L7,ko⟩
 |some v=>
  obtain⟨c',oc,rfl,y2,y3⟩:=hc pos v e;refine .inr ⟨ps,c',hP,ht,e,fun f e1=>?_⟩;have s:=av.new e1 (qQ f "<lambda>" q params body scope cl c');exact h f c' oc _ (eW.of s) (T.same s) ai (s _ _ y2) y3
theorem FT{x C t:Addr}{tb:Value}{d:Option Addr}{H H1 H':Hp}{Pt:Addr}{q:Str}(s:av H H1)(u:Sub x H1 H')(h:H1 x=some (dX x C t tb d))(T:Bt Pt q H):eW H H'/\Bt Pt q H':=by
 have hk:eW H H':=fun b o so e=>u b o (fun z=>by subst z;have:=(s _ _ e).symm.trans h;cases this;exact so) (s _ _ e);obtain⟨ps,e1,e2,e3⟩:=T.ex;refine⟨hk,ps,u _ _ (fun z=>by subst z;have:=(s _ _ e1).symm.trans h;cases this) (s _ _ e1),e2,fun pos v e=>?_⟩;obtain⟨c',oc,y1,y2,y3⟩:=e3 pos v e;exact⟨c',oc,y1,hk _ _ trivial y2,y3⟩
theorem Nv.Hx.keep{H H':Hp}{C:Addr}{v:Nv}(x:v.Hx H C)(k:eW H H'):v.Hx H' C:=
 ⟨k _ _ trivial x.ir,k _ _ trivial x.hl,k _ _ trivial x.hp,⟨k _ _ trivial x.rl.1,x.rl.2⟩,⟨k _ _ trivial x.rh.1,x.rh.2⟩⟩
noncomputable def MY:Expr:=match dG iE with
 |.For _ _ b _ _::_=>match b[(6:Nat)]? with
  |some (.If _ _ o _)=>match o[(4:Nat)]? with
   |some (.For _ _ b2 _ _)=>match b2[(0:Nat)]? with
    |some (.Assign _ (.Call _ (l::_) _ _) _)=>l
    |_=>.Constant .none 0 ⟨0,0,0,0⟩
   |_=>.Constant .none 0 ⟨0,0,0,0⟩
  |_=>.Constant .none 0 ⟨0,0,0,0⟩
 |_=>.Constant .none 0 ⟨0,0,0,0⟩
noncomputable def QZ:Arguments:=match MY with
 |.Lambda x _ _ _=>x
 |_=>{posonlyargs:=[],args:=[],vararg:=none,kwonlyargs:=[],kw_defaults:=[],kwarg:=none,defaults:=[]}
noncomputable def Q0:Expr:=match MY with
 |.Lambda _ b _ _=>b
 |e=>e
noncomputable def CK:Scope:=match MY with
 |.Lambda _ _ sc _=>sc
 |_=>{kind:=.function,names:=[],isGenerator:=false,isCoroutine:=false}
noncomputable abbrev qy:Str:=("law":Str)++".<locals>."++"<lambda>"
noncomputable abbrev CM(cp ca:Addr):List (Str×Addr):=[("_law_poly",cp),("_law_at",ca)]
theorem MZ:vZ ["_law_poly","_law_at"] [] CK:=⟨rfl,rfl,rfl,by decide +kernel,by decide +kernel⟩
theorem uC{cp ca c:Addr}{x:Str}(e:(CM cp ca).lookup x=some c):(x="_law_poly"/\c=cp)\/(x="_law_at"/\c=ca):=by
 unfold CM at e;rw[List.lookup_cons] at e;by_cases z:x="_law_poly"
 ·subst z;simp only[beq_self_eq_true] at e;exact .inl ⟨rfl,(Option.some.inj e).symm⟩
 ·rw[show(x==("_law_poly":Str))=false from beq_eq_false_iff_ne.mpr z] at e
  dsimp only at e
  rw[List.lookup_cons] at e;by_cases z2:x="_law_at"
  ·subst z2;simp only[beq_self_eq_true] at e;exact .inr ⟨rfl,(Option.some.inj e).symm⟩
  ·rw[show(x==("_law_at":Str))=false from beq_eq_false_iff_ne.mpr z2] at e;cases e
section
variable {P:Program} {w:World} {K:Frag} {mg:Str->Option Value} {base:Heap} {C:Addr} {a:Ad}
noncomputable def Told(C Pt:Addr)(H:Hp)(p m d k:Int)(s:Re)(Q:VK):Prop:=((k=0\/k=1)/\∀(v:Nv)(H':Hp),av H H'->v.Hx H' C->v.Px (xN p m d k s)->v.zs=au (qd p m d)->Q (.ref v.r) H')\/((k=-1\/k=2)/\∀H',eW H H'->Bt Pt qy H'->Q (.str "NoNumber") H')
noncomputable def FU(C Pt:Addr):Shared->Sp:=fun s vs H Q _=>∃(f c' cp ca l:Addr)(oc:Obj)(up ua:Value)(p m d k:Int)(sq:Re),vs=[.ref f]/\H f=some (qQ f "<lambda>" qy QZ Q0 CK (CM cp ca) c')/\H c'=some (.nA oc (.own 0))/\P8 oc qy/\Bt Pt qy H/\cp≠ca/\
 (H cp=none/\s.heap.IsCell cp (some up)/\RelV (.ref l) up)/\(H ca=none/\s.heap.IsCell ca (some ua)/\RelV (.int k) ua)/\IL H l (qd p m d)/\Qd p m d sq/\Told C Pt H p m d k sq Q
theorem IG{Pt:Addr}(CL:Kz K mg a)(hx:exmOne K (.ref a.c1) (.ref a.cf)=some true)(M0:pT P w K mg base uQ false 39 "_law_word" ["_law_e"] (fun _=>FP a))(Q2:pT P w K mg base (Gw P w) true 38 "nth" ["poly","k"] (fun _=>KC C a.c1))(D:aH K mg "_law_told" fE ["_law_rule"]):
 pT P w K mg base uQ true 40 "_law_told" ["_law_rule"] (FU C Pt):=by
 refine D.NO nT (fun s vs H Q E h=>?_) (fun f0 bM A outer s H vs Q E ko hr h=>?_)
 ·obtain⟨f,c',cp,ca,l,oc,up,ua,p,m,d,k,sq,rfl,_⟩:=h;rfl
 obtain⟨f,c',cp,ca,l,oc,up,ua,p,m,d,k,sq,rfl,hf,hc,M1,qP,SH,⟨np,ip,rp⟩,⟨na,ia,ra⟩,hl,hq,q⟩:=h;obtain⟨E1,V4⟩:∃E1:XK,E1=fun c d H1=>c=.ref a.c1/\d=none/\av H H1/\(k=-1\/k=2):=⟨_,rfl⟩;obtain⟨R,hR⟩:∃R:Addr->Hp->VK->Prop,R=fun f1 H1 Q1=>f1=f/\H1=H/\(((k=0\/k=1)/\∀(v:Nv)(H':Hp),av H H'->v.Hx H' C->v.Px (xN p m d k sq)->v.zs=au (qd p m d)->Q1 (.ref v.r) H')\/(k=-1\/k=2)):=⟨_,rfl⟩;have run:∀pins oI Gp H1 s1 f1 Q1,Inv (vY (Mw uQ true P w K mg base ["_law_rule","_law_e"] "_law_told" (ak fE) f0 bM A outer s H E) pins E1) oI Gp H1 s1->R f1 H1 Q1->
  FnAt f1 s1.heap/\codeAny (model P w) (A.deeper (envOfC "_law_told" (ak fE) s.heap.objs.size f0 bM)) (.call (.ref f1) ⟨[],[]⟩) (CR (Gw P w) (envOfC "_law_told" (ak fE) s.heap.objs.size f0 bM::outer) P w H1 s1 Q1 E1) s1:=by
  intro pins oI Gp H1 s1 f1 Q1 J r;rw[hR] at r;obtain⟨rfl,rfl,q1⟩:=r;obtain⟨pm,A8,ho⟩:=(J.bT _ _ hf).1;have Nu:=(J.bT _ _ hc).1;obtain⟨vs,tq,e2,e3⟩:=M1;have cellK:∀{cell:Addr}{u:Value},H1 cell=none->s.heap.IsCell cell (some u)->s1.heap.IsCell cell (some u):=fun{cell u} hn⟨ob,RY,hod⟩=>by
   obtain⟨sl,V5⟩:=J.base.any RY hn (fun z=>absurd (show cell∈([]:List Addr) from z) (by simp));exact⟨_,V5,hod⟩
  have Yn:=cellK np ip;have Yo:=cellK na ia;refine⟨⟨_,_,_,_,ho⟩,HV (CX:=Gw P w) (cm:=true) (k:=38) (N:=["_law_poly","_law_at"]) (ps:=[]) (us:=[]) MZ ho ⟨c',oc,vs,tq,rfl,Nu,e2,e3⟩ J.GZ hr rfl (fun x c e=>?_) (fun x y c e1 e2=>?_) (fun x e=>?_) (σ:=[some (.ref l),some (.int k)]) rfl (fun i x v h1 h2=>?_) fun Im=>⟨_,ES Q2 (Im.mono (by decide)) yG.passes (aa (pv 0) (aa (pv 1) ag)),?_⟩⟩
  ·rcases uC e with⟨_,rfl⟩|⟨_,rfl⟩
   ·exact⟨⟨_,Yn⟩,np⟩
   ·exact⟨⟨_,Yo⟩,na⟩
  ·rcases uC e1 with⟨z1,z2⟩|⟨z1,z2⟩<;>rcases uC e2 with⟨z3,z4⟩|⟨z3,z4⟩
   ·exact z1.trans z3.symm
   ·exact absurd (z2.symm.trans z4) SH
   ·exact absurd (z4.symm.trans z2) SH
   ·exact z1.trans z3.symm
  ·have:x="_law_poly"\/x="_law_at":=(by decide +kernel:∀y∈CK.names,y.2=.free->y.1="_law_poly"\/y.1="_law_at") _ (PySem.mem_of_lookup e) rfl;rcases this with rfl|rfl
   ·exact⟨cp,rfl⟩
   ·exact⟨ca,rfl⟩
  ·match i,h1,h2 with
   |0,h1,h2=>
    cases h1;cases h2;exact .inr ⟨rfl,cp,up,rfl,Yn,rp⟩
   |1,h1,h2=>
    cases h1;cases h2;exact .inr ⟨rfl,ca,ua,rfl,Yo,ra⟩
   |i+2,h1,h2=>cases h1
  ·walk_at "sf";refine⟨l,p,m,d,k,sq,rfl,hl,hq,?_⟩;rcases q1 with q1|hk
   ·exact .inl q1
   ·refine .inr ⟨hk,fun H2 x tp mm s2 e1 e2 e3=>?_⟩;rw[V4];have s3:=av.new e2 (.tup [.str mm]);exact⟨rfl,rfl,s2.trans (s3.trans (av.new (by rw[aq e3];exact e1) _)),hk⟩
 refine⟨_,ah (Mu (E:=E1) (i:=1) (c:=a.cf) rfl rfl (fun pins=>ah (ax (Mx (CX:=Gw P w) (E:=E1) (i:=0) (R:=R) rfl (Or.inl rfl) yD.passes (run pins)))) (fun a'=>ah (ax (ES M0 hr.mark u9 (aa (pv 1) ag)))) rfl CL.mf (fun C1 d H1 e=>?_) nT.nd rfl rfl),?_⟩
 ·rw[V4] at e;cases e.1;exact hx
 ·refine⟨⟨f,rfl,?_⟩,fun bJ H' a1 C1 t tb d H1 SI hl ha Mv h1 hE=>?_⟩
  ·rw[hR];refine⟨rfl,rfl,?_⟩;rcases q with q|q
   ·exact .inl q
   ·exact .inr q.1
  ·rw[V4] at hE;obtain⟨e1,rfl,s1,hk⟩:=hE;cases e1;obtain⟨y0,y1,rfl⟩:∃y0 y1,bJ=[y0,y1]:=by
    match bJ,hl with
    |[y0,y1],_=>exact⟨y0,y1,rfl⟩
   obtain⟨k1,tb2⟩:=FT s1 Mv h1 qP;walk_at "sf";refine⟨a1,1,t,tb,none,rfl,by decide,ha,.inl rfl,fun H2 s2=>?_⟩;rcases q with⟨z,_⟩|⟨_,q⟩
   ·exfalso;lia
   ·exact q H2 (k1.trans (eW.of s2)) (tb2.same s2)
end
end cW
namespace cW
open PySem PyProof.Rows L2 SF SF.Po
section
open PySem.W
noncomputable def FV(R:List V->Hp->L2.St->VK->Prop)(t:TA):TE:=fun σ H Q=>t σ H fun vs H1=>R vs H1 σ Q
theorem M3{X:Cx}{CX:oP}{cm:Bool}{k:Nat}{ps:List Str}{E:XK}{x:Str}{p pos:Pos}{e:Expr}{es:List Expr}{t:TA}{sp:Shared->Sp}{R:List V->Hp->L2.St->VK->Prop}(F:pT X.prog X.w X.K X.mg X.base CX cm k x ps sp)(hr:d9 cm k X.A)(hx:Passes CX X E)(ha:PA X (e::es) t)(hR:∀pins σ H s vs Q,Inv X pins σ H s->R vs H σ Q->sp s vs H Q E)(hg:Gl X x:=by rfl)(uY:(x==("__debug__":Str))=false:=by decide)(he:starEach (e::es) X.env=(false,eval e X.env)::starEach es X.env:=by rfl)(mG:(backTo pos (starEach es X.env)).any (·.1)=false:=by rfl):PE X (.Call (.Name x p) (e::es) [] pos) (FV R t):=by
 obtain⟨f,fd,a,b,c,d⟩:=F.ex;intro pins s σ H Q I h;refine wpAny_Call_Name_kw (iL I hg b ?_ uY);refine callWith_K (h₀:=X.base) I.ok.mod.Jc c (dr (ha pos pins s σ H _ I h) fun us s1⟨vs,H1,I1,r,q⟩=>⟨I1.mH,?_⟩) he mG;exact A7 a hr d hx I1 r (hR pins σ H1 s1 vs Q I1 q)
noncomputable def V6(K:Frag):List V->Hp->VK->Prop:=fun xs H Q=>∃x C t r,xs=[x,.ref C]/\mL K H x t/\kitOne K t (.ref C)=some r/\Q (.bl r) H
theorem zq{X:Cx}:jf X (.builtin "isinstance") (V6 X.K):=by
 intro pins s σ H xs us Q I r h;obtain⟨x,C,t,bb,rfl,ty,e,q⟩:=h;obtain⟨u,w',rfl,rx,ry⟩:=vals2 r;obtain rfl:w'=Value.ref C:=ry;exact BJ I rx ty e fun tk=>⟨.bl bb,H,I.tok _,rfl,q⟩
theorem IH{K:Frag}(C:Addr):kitOne K (.ref C) (.ref C)=some true:=by
 unfold kitOne;rw[if_pos (beq_self_eq_true _)]
structure V7(K:Frag)(C:Addr):Prop where
 ha:findIn K (.ref C) "__class__"=some (some (.builtin "object.__class__"))
 hn:specialIn K (.builtin "object.__class__") "__get__"=some (some (.builtin "getset_descriptor.__get__"))
 Rv:takesIn K (.builtin "object.__class__")=some true
 hm:mroIn K C (.type "object")=some true
end
theorem II{σ:L2.St}{H:Hp}{Q:VK}{t:TA}{R:List V->Hp->L2.St->VK->Prop}(h:t σ H fun vs H1=>R vs H1 σ Q):FV R t σ H Q:=h
theorem Q3{c:Bool}{t1 t2:TS}{D:L2.Ends}{σ:L2.St}{H:Hp}(G:L2.St->Hp->Prop)(h1:c=true->∀D':L2.Ends,(∀bJ H',G bJ H'->D'.nx bJ H')->t1 D' σ H)(h2:c=false->∀D':L2.Ends,(∀bJ H',G bJ H'->D'.nx bJ H')->t2 D' σ H)(h:∀bJ H',G bJ H'->D.nx bJ H'):if c=true then t1 D σ H else t2 D σ H:=by
 cases c with
 |true=>rw[if_pos rfl];exact h1 rfl D h
 |false=>rw[if_neg (by decide)];exact h2 rfl D h
theorem clo(L fa c:Addr):closureFor CK (envOfC "law" (ak iE) L fa (.ref c))=pure (CM (L+1+1) (L+1)):=by first|(rfl;done)|kernel_rfl
noncomputable def Bu(K:PySem.W.Frag)(Pt:Addr):Sp:=fun vs H Q _=>∃(sa:Addr)(ns:List Int),vs=[.ref sa]/\aW K H sa (ns.map V.int)/\ns.length<=63/\H Pt=some (.oj #[])/\∀H',Q (.bl true) H'
section
variable {P:Program} {w:World} {K:PySem.W.Frag} {mg:Str->Option Value} {base:Heap} {C fI:Addr} {fd:FuncData}
theorem M4{fa c Pt:Addr}{M5:FuncData}(T:Nm mg)(RC:Rc K mg C fI fd)(RI:V7 K C)(zr:aT P w K mg base 40 "_law_cell" ["_law_script","_law_k"] (E8 K))(jW:aT P w K mg base 40 "_law_drawn" ["_law_cell_here","_law_k"] tV)(zt:aT P w K mg base 40 "_law_surd" ["_law_cell_here","_law_k"] FL)(uD:aT P w K mg base 40 "_law_number" ["_law_surd_here"] (w6 C))(zv:aT P w K mg base 40 "floor_of" ["number"] (sy C))(jX:aT P w K mg base 40 "_law_floor" ["_law_surd_here"] qx)(CN:aT P w K mg base 40 "sign_of" ["number"] (wR C))(fH:aT P w K mg base 40 "_law_side" ["_law_surd_here","_law_given"] zm)(eL:aT P w K mg base 40 "as_ratio" ["number"] (FF C))(eS:aT P w K mg base 40 "_law_ratio" ["_law_top","_law_under"] uc)(nZ:aT P w K mg base 40 "weight_of" ["number"] (wQ C))(uz:aT P w K mg base 40 "roots" ["poly"] (ux C))(fJ:aT P w K mg base 40 "compared" ["one","other"] (FJ C))(lp:aT P w K mg base 40 "_law_ratios_right" ["_law_number_here","_law_surd_here","_law_more"] (sA C))(M6:pT P w K mg base uQ true 40 "_law_told" ["_law_rule"] (FU C Pt))(F:DB K "law" "law" iE fa M5)(NH:M5.code=.ref c)(hc:PySem.W.CodeHd base c Pt)(B:SF.BMain base mg):J9 P w K mg base uQ true 41 fa M5 ["_law_script"] (fun _=>Bu K Pt):=by
 refine F.NO fG (fun s vs H Q E h=>?_) (fun bM A outer s H vs Q E ko hcv Ke h=>?_)
 ·obtain⟨sa,ns,rfl,_⟩:=h;rfl
 obtain⟨sa,ns,rfl,hS,hl,hP,q⟩:=h;obtain rfl:Value.ref c=bM:=NH.symm.trans hcv;have hr:=Ke.calm;obtain⟨cp,ca,hcp,TJ,SH,V8⟩:∃cp ca,(envOfC "law" (ak iE) s.heap.objs.size fa (.ref c)).cells.lookup ("_law_poly":Str)=some cp/\(envOfC "law" (ak iE) s.heap.objs.size fa (.ref c)).cells.lookup ("_law_at":Str)=some ca/\cp≠ca/\closureFor CK (envOfC "law" (ak iE) s.heap.objs.size fa (.ref c))=pure (CM cp ca):=⟨_,_,rfl,rfl,by intro z;simp at z,clo _ _ _⟩;obtain⟨R,hR⟩:∃R:List V->Hp->L2.St->VK->Prop,R=fun vs H1 σ Q1=>∃(f c' l:Addr)(oc:Obj)(p m d k:Int)(sq:Re),vs=[.ref f]/\H1 f=some (qQ f "<lambda>" qy QZ Q0 CK (CM cp ca) c')/\H1 c'=some (.nA oc (.own 0))/\P8 oc qy/\Bt Pt qy H1/\σ[9]?=some (some (.ref l))/\σ[11]?=some (some (.int k))/\IL H1 l (qd p m d)/\Qd p m d sq/\Told C Pt H1 p m d k sq Q1:=⟨_,rfl⟩;refine⟨_,qJ.Jh (ae (f6 PassesOwn.never rfl (BC rfl T.Ba (aa (aI (BF rfl) rfl T.Kc boot_max (aa af (aa (aI (mJ rfl) rfl T.E2 boot_min (aa af (aa (aI aV rfl T.gf boot_len (aa (pv 0) ag)) ag))) ag))) ag)) (aO (i:=1) fG.nd rfl (Or.inl rfl))
  (ae (aj (i:=2) fG.nd rfl (Or.inl rfl) (ar zr hr (aa (pv 0) (aa (pv 1) ag))))
  (ae (aj (i:=3) fG.nd rfl (Or.inl rfl) (ar zt hr (aa (pv 2) (aa (pv 1) ag))))
  (ae (kB (pv 3) (jq rfl (bc (aO (i:=4) fG.nd rfl (Or.inl rfl)) (bc (aO (i:=5) fG.nd rfl (Or.inl rfl)) (bc (aO (i:=6) fG.nd rfl (Or.inl rfl)) (bc (aO (i:=7) fG.nd rfl (Or.inl rfl)) gR))))))
  (ae (aj (i:=8) fG.nd rfl (Or.inl rfl) (ar uD hr (aa (pv 3) ag)))
  (ae (bB (PW.pt (jn (kA (ky (aI zq rfl T.cP boot_isinstance (aa (pv 8) (aa (ll rfl RC.m) ag))))) (jm (ay gb (ar zv hr (aa (pv 8) ag)) (ar jX hr (aa (pv 3) ag)) (aE _)))))
  (ah (ax fk))
  aM)
  (ae (bB (ay gb (ar CN hr (aa (pv 8) ag)) (ar fH hr (aa (pv 3) (aa (cy (aa af (aa af ag))) ag))) (aE _))
  (ah (ax fk))
  aM)
  (ae (bB (ay f_ (pv 5) af (aE _))
  (ah (bB (PW.pt (jn (ay (LD hr.sL) (ar eL hr (aa (pv 8) ag)) (ar eS hr (aa (pv 4) (aa (pv 7) ag))) (aE _)) (jm (ay gb (ar nZ hr (aa (pv 8) ag)) af (aE _)))))
  (ah (ax fk))
  aM))
  (ae (aj (i:=9) fG.nd rfl (Or.inr rfl) (cQ (aa (ao bq (ao aC (pv 4) (pv 4)) (pv 6)) (aa (ao bq af (ao aC (ao aC af (pv 4)) (pv 7))) (aa (ao aC (pv 7) (pv 7)) ag)))))
  (ae (aj (i:=10) fG.nd rfl (Or.inl rfl) (ar uz hr (aa (pv 9) ag)))
  (ae (bB (PW.pt (jn (ay gb (aI aV rfl T.gf boot_len (aa (pv 10) ag)) af (aE _)) (jn (ay gb (ar fJ hr (aa (aD bE (pv 10) af (fun _ _=>rfl)) (aa (aD bE (pv 10) af (fun _ _=>rfl)) ag))) (cU bR af) (aE _)) (jm (ay lC (ar eL hr (aa (pv 8) ag)) fZ (aE _))))))
  (ah (ax fk))
  aM)
  (ae (bB (ay gb (ar nZ hr (aa (pv 8) ag)) af (aE _))
  (ah (ax fk))
  aM)
  (ah (f6 PassesOwn.never rfl (eZ (cQ (aa (cU bR af) (aa af (aa af (aa af ag)))))) (aO (i:=11) fG.nd rfl (Or.inr rfl))
  (ae (aj (i:=12) fG.nd rfl (Or.inl rfl) (M3 (R:=R) (E:=E0) M6 (J7 hr) u9 (aa (Ia (P:=Pt) (cl:=[("_law_poly",cp),("_law_at",ca)]) rfl hc V8 rfl B) ag) ?hR))
  (ah (bB (PW.pt (jn (PW.pt (kz (ay rC (pv 11) (cQ (aa (cU bR af) (aa af ag))) rfl) (iN (ay gb (pv 12) jl (aE _))))) (jm (PW.pt (kz (ay rC (pv 11) (cQ (aa af (aa af ag))) rfl) (iN (ay gb (ar fJ hr (aa (pv 12) (aa (aD bE (pv 10) (pv 11) (fun _ _=>rfl)) ag))) af (aE _))))))))
  (ah (ax fk))
  aM))))))))))
  (ah (bB (kA (ky (ar lp hr (aa (pv 8) (aa (pv 3) (aa (ar jW hr (aa (pv 2) (aa (ao bH (pv 1) af) ag))) ag))))))
  (ah (ax fk))
  aM))))))))))
  (ah (ax fk))),?_⟩
 case hR=>
  intro pins Gp H1 s1 vs Q1 J r;rw[hR] at r;obtain⟨f,c',l,oc,p,m,d,k,sq,rfl,e1,e2,e3,e4,e5,e6,e7,e8,q1⟩:=r;obtain⟨m1,hn,Af⟩:=J.loc;obtain⟨up,rp,lkp⟩:=Af 9 "_law_poly" (.ref l) rfl e5 (Or.inr (Or.inl rfl));obtain⟨ua,ra,lka⟩:=Af 11 "_law_at" (.int k) rfl e6 (Or.inr (Or.inl rfl));rcases lkp with⟨k1,_⟩|⟨_,c1,k2,k3⟩
  ·cases k1
  rcases lka with⟨k1,_⟩|⟨_,c2,k4,k5⟩
  ·cases k1
  have ec:c1=cp:=Option.some.inj (k2.symm.trans hcp);subst ec;have ec:c2=ca:=Option.some.inj (k4.symm.trans TJ);subst ec;exact⟨f,c',c1,c2,l,oc,up,ua,p,m,d,k,sq,rfl,e1,e2,e3,e4,SH,⟨J.fO _ _ k2,k3,rp⟩,⟨J.fO _ _ k4,k5,ra⟩,e7,e8,q1⟩
 have qP:Bt Pt qy H:=⟨#[],hP,trivial,fun pos v e=>by cases e⟩;walk_at "sf";refine⟨sa,_,rfl,.inl hS,?_⟩;generalize hln:(((ns.map V.int).length:Nat):Int)=ln;have ln0:0<=ln:=by lia
 walk_at "sf";refine⟨_,_,rfl,?_⟩;walk_at "sf";refine⟨_,_,rfl,?_⟩;walk_at "sf";generalize hm:(if(if ln<4 then ln else 4)>1 then(if ln<4 then ln else 4) else 1)=mm;have m2:0<=mm:=by rw[<-hm];split<;>lia
 have m64:mm<=64:=by rw[<-hm];split<;>(try split)<;>lia
 refine⟨mm,rfl,by lia,by lia,?_⟩;refine BE (fun k σ H'=>(∃(r1 r2 r3 r4 r5 r6 r7 r8 r9 N3 GF GG:Option V),σ=[some (.ref sa),r1,r2,r3,r4,r5,r6,r7,r8,r9,N3,GF,GG])/\eW H H'/\Bt Pt qy H') ⟨⟨_,_,_,_,_,_,_,_,_,_,_,_,rfl⟩,eW.refl _,qP⟩ ?_ ?_
 ·rintro k σ H1 hk ⟨⟨r1,r2,r3,r4,r5,r6,r7,r8,r9,N3,GF,GG,rfl⟩,SJ,SI⟩;have e0:(0:Int)+(k:Int)=(k:Int):=by lia
  rw[e0];walk_at "sf";refine⟨sa,ns,_,rfl,SJ.seq hS,hl,by lia,fun c H2 s2=>?_⟩;walk_at "sf";refine⟨_,_,rfl,fun g p y m d H3 s3 hg sd=>?_⟩;walk_at "sf";refine jt (bL.of hg) rfl ?_;walk_at "sf";refine⟨g,p,y,m,d,rfl,hg,sd,fun v H4 s4 hv pv y1 y2=>?_⟩;have MC:=s2.trans (s3.trans s4);have IJ:=SJ.trans (eW.of MC);have Yp:=SI.same MC;have QW:=s4 _ _ hg;clear SJ SI MC s2 s3 s4 hg;walk_at "sf";refine⟨_,C,.ref C,true,rfl,.ins hv.ir RC.cl RI.ha RI.hn RI.Rv RI.hm,IH C,?_⟩;walk_at "sf";refine fS ?_;walk_at "sf";refine⟨v,_,rfl,hv,pv,fun F H5 s5 fl=>?_⟩;walk_at "sf";refine⟨g,p,y,m,d,rfl,s5 _ _ QW,sd,fun G flG=>?_⟩;obtain rfl:F=G:=fl.uniq flG (by decide);walk_at "sf";refine kq rfl ?_;walk_at "sf";refine⟨v,_,rfl,hv.same s5,pv,fun H6 s6=>?_⟩;walk_at "sf";intro p7 hp7;have s7:=av.new hp7 (.tup [.int 0,.int 1]);have h7:upd H6 p7 (.tup [.int 0,.int 1]) p7=some (.tup [.int 0,.int 1]):=ai;generalize upd H6 p7 (.tup [.int 0,.int 1])=H7 at s7 h7 ⊢;have KD:=s5.trans (s6.trans s7);have Yq:=KD _ _ QW;have KG:=hv.same KD;have kp7:=IJ.trans (eW.of KD);have Yr:=Yp.same KD;clear IJ Yp hv QW s5 s6 s7 KD;walk_at "sf";refine⟨g,p7,p,y,m,d,0,1,rfl,Yq,sd,h7,by decide,Bd.mono (m:=1) (by show(0:Int).natAbs<2^1;decide) (by decide),Bd.mono (m:=1) (by show(1:Int).natAbs<2^1;decide) (by decide),?_⟩;walk_at "sf";refine kq rfl ?_;walk_at "sf";have bp:Bd 12 p:=by have:=sd.p1;have:=sd.p2;unfold Bd;lia
  have bd:Bd 8 d:=by have:=sd.d1;have:=sd.d2;unfold Bd;lia
  have d0:0<d:=sd.d1;refine Q3 (fun bJ H'=>(∃(r9 N3 GF GG:Option V),bJ=[some (.ref sa),some (.int (k:Int)),some (.int c),some (.ref g),some (.int p),some (.int y),some (.int m),some (.int d),some (.ref v.r),r9,N3,GF,GG])/\eW H7 H'/\Bt Pt qy H') (fun cc D' hD=>?_) (fun cc D' hD=>?_) ?_
  ·have y0:y=0:=by simpa using cc
   obtain⟨rt,w1⟩:=y1 y0;walk_at "sf";refine⟨v,rfl,KG,fun _=>?_,fun z=>absurd rt z⟩;walk_at "sf";refine⟨p,d,12,rfl,bp,bd.mono (by decide),by decide,d0,fun p8 t u hp8 bt bu hu VR QR=>?_⟩;have s8:=av.new hp8 (.tup [.int t,.int u]);have h8:upd H7 p8 (.tup [.int t,.int u]) p8=some (.tup [.int t,.int u]):=ai;generalize upd H7 p8 (.tup [.int t,.int u])=H8 at s8 h8 ⊢;have SG:=KG.same s8;have ex:vl v.t v.u=vl p d:=by
    have:=pv.zi rt;unfold xS at this;rw[if_pos y0] at this;exact(Re.vJ this).symm
   have ec:=(nW KG.rl.2.1 d0).mp ex;have eu:v.t=t/\v.u=u:=by
    refine vU KG.rl.2.1 hu KG.rl.2.2 VR ?_;refine Int.eq_of_mul_eq_mul_right (show d≠0 by lia) ?_;have k1:v.t*u*d=v.t*d*u:=by grind
    have k2:t*v.u*d=t*d*v.u:=by grind
    rw[k1,k2,ec,QR];grind
   refine⟨v.g,p8,v.t,v.u,t,u,rfl,rfl,bL.of SG.rl.1,bL.of h8,?_⟩;rw[eu.1,eu.2,show(t==t&&u==u)=true by simp];walk_at "sf";refine fS ?_;walk_at "sf";refine⟨v,rfl,SG,?_⟩;rw[w1];walk_at "sf";refine kq rfl ?_;walk_at "sf";exact hD _ _ ⟨⟨_,_,_,_,rfl⟩,eW.of s8,Yr.same s8⟩
  ·have y0:¬y=0:=by simpa using cc
   obtain⟨w2,vz⟩:=y2 y0;have b2:Bd 3 (2:Int):=Bd.of_two (by decide) (by decide);obtain⟨VS,VT⟩:=rY sd.hm.1;have hq:Qd p m d (sq m):=⟨d0,sd.hm,VS,VT,bp,sd.bm,bd⟩;walk_at "sf";refine bN (aP bp bp (by decide)) ?_;walk_at "sf";refine bN (aP b2 bp (by decide)) ?_;walk_at "sf";refine bN (aP (b2.mul bp) bd (by decide)) ?_;walk_at "sf";refine bN (aP bd bd (by decide)) ?_;walk_at "sf";intro pl mG;have s8:=av.new mG (.lst [V.int (p*p-m),V.int (0-2*p*d),V.int (d*d)]);have h8:IL (upd H7 pl (.lst [V.int (p*p-m),V.int (0-2*p*d),V.int (d*d)])) pl (qd p m d):=ai;generalize upd H7 pl (.lst [V.int (p*p-m),V.int (0-2*p*d),V.int (d*d)])=H8 at s8 h8 ⊢;walk_at "sf";refine⟨pl,p,m,d,sq m,rfl,h8,hq,fun l v0 v1 H9 s9 Q5 h0 h1 p0 p1 tw=>?_⟩;have l0:=p0.strict hq tw.z0 h0.rl.2.1;have l1:=p1.strict hq tw.z1 h1.rl.2.1;have lv:=pv.strict hq vz KG.rl.2.1;have Ys:=s9 _ _ h8;walk_at "sf";refine⟨l,_,rfl,.inl (aW.of Q5),?_⟩;walk_at "sf";refine kq rfl ?_;walk_at "sf";refine cV (aW.of Q5) (show nD [V.ref v0.r,V.ref v1.r] _=some (V.ref v0.r) from rfl) ?_;walk_at "sf";refine cV (aW.of Q5) (show nD [V.ref v0.r,V.ref v1.r] _=some (V.ref v1.r) from rfl) ?_;walk_at "sf";refine⟨v0,v1,rfl,h0,h1,.inr ⟨_,_,p0,p1,.inr (.inl ⟨Nv.FQ l0,Nv.FQ l1,tw.ap,l1,fun C6 Lr=>?_⟩)⟩⟩;have V9:=s8.trans (s9.trans Lr);have Q6:=KG.same V9;have Q7:=Lr _ _ Q5;have Q8:=Lr _ _ Ys;have Q9:=h0.same Lr;have Q_:=h1.same Lr;walk_at "sf";refine kq rfl ?_;walk_at "sf";refine⟨v,rfl,Q6,fun z=>absurd z (Nv.FQ lv),fun _=>?_⟩;walk_at "sf";refine⟨rfl,?_⟩;walk_at "sf";refine fS ?_;walk_at "sf";refine⟨v,rfl,Q6,?_⟩;rw[w2];walk_at "sf";refine kq rfl ?_;walk_at "sf";intro pq hpq;have M7:=av.new hpq (.lst [V.int (-1),V.int 0,V.int 1,V.int 2]);have V_:upd C6 pq (.lst [V.int (-1),V.int 0,V.int 1,V.int 2]) pq=some (.lst [V.int (-1),V.int 0,V.int 1,V.int 2]):=ai;generalize upd C6 pq (.lst [V.int (-1),V.int 0,V.int 1,V.int 2])=Kr at M7 V_ ⊢;have Ra:=V9.trans M7;have V':=M7 _ _ Q7;have Wa:=M7 _ _ Q8;have Wb:=Q9.same M7;have Wc:=Q_.same M7;have Wd:=Yr.same Ra;clear Q5 Q7 Ys Q8 h0 h1 Q9 Q_ h8 s8 s9 Lr M7 V9;walk_at "sf";refine⟨pq,rfl,⟨_,aW.of V_⟩,?_⟩;refine jr (xs:=[V.int (-1),V.int 0,V.int 1,V.int 2]) (fun i σ H'=>(∃(GF GG:Option V),σ=[some (.ref sa),some (.int (k:Int)),some (.int c),some (.ref g),some (.int p),some (.int y),some (.int m),some (.int d),some (.ref v.r),some (.ref pl),some (.ref l),GF,GG])/\eW Kr H'/\Bt Pt qy H') ⟨⟨_,_,rfl⟩,eW.refl _,Wd⟩ (fun i σ H' _ z=>aW.of (z.2.1 _ _ trivial V_)) ?_ ?_
   ·rintro i z σ Ks hz ⟨⟨GF,GG,rfl⟩,M8,M9⟩;obtain⟨j,rfl,hj⟩:∃j:Int,z=.int j/\((j=0\/j=1)\/(j=-1\/j=2)):=by
     have hz:=List.mem_of_getElem? hz;rcases List.mem_cons.mp hz with e|hz
     ·exact⟨-1,e,.inr (.inl rfl)⟩
     rcases List.mem_cons.mp hz with e|hz
     ·exact⟨0,e,.inl (.inl rfl)⟩
     rcases List.mem_cons.mp hz with e|hz
     ·exact⟨1,e,.inl (.inr rfl)⟩
     ·exact⟨2,List.mem_singleton.mp hz,.inr (.inr rfl)⟩
    walk_at "sf";refine II ?_;walk_at "sf";refine FR M9 fun f c' oc Vq We Rb hf GL M1=>?_;have Wf:=M8.trans We;walk_at "sf";rw[hR];refine⟨f,c',pl,oc,p,m,d,j,sq m,rfl,hf,GL,M1,Rb,rfl,rfl,Wf _ _ trivial Wa,hq,?_⟩;rcases hj with hj|hj
    ·refine .inl ⟨hj,fun u Fo MC hu pu zu=>?_⟩;have IJ:=Wf.trans (eW.of MC);have M_:=Rb.same MC;obtain⟨vj,evj,Wg,Wh,zj⟩:∃vj:Nv,nD [V.ref v0.r,V.ref v1.r] j=some (.ref vj.r)/\vj.Hx Fo C/\vj.Px (xN p m d j (sq m))/\vj.zs=au (qd p m d):=by
      rcases hj with rfl|rfl
      ·exact⟨v0,rfl,Wb.keep IJ,p0,tw.z0⟩
      ·exact⟨v1,rfl,Wc.keep IJ,p1,tw.z1⟩
     have i1:Nz (.int j) [V.int (-1),V.int 2]=false:=by rcases hj with rfl|rfl<;>rfl
     have i2:Nz (.int j) [V.int 0,V.int 1]=true:=by rcases hj with rfl|rfl<;>rfl
     walk_at "sf";intro Rf M';have NU:=av.new M' (.lst [V.int (-1),V.int 2]);walk_at "sf";refine⟨Rf,_,rfl,.inl (aW.of ai),rfl,rfl,?_⟩;generalize upd Fo Rf (.lst [V.int (-1),V.int 2])=Si at NU ⊢;rw[i1];walk_at "sf";refine fS ?_;walk_at "sf";refine fS ?_;walk_at "sf";intro Rg Na;have Rh:=av.new Na (.lst [V.int 0,V.int 1]);walk_at "sf";refine⟨Rg,_,rfl,.inl (aW.of ai),rfl,rfl,?_⟩;generalize upd Si Rg (.lst [V.int 0,V.int 1])=H16 at Rh ⊢;rw[i2];walk_at "sf";refine u_ ?_;walk_at "sf";have Nb:=NU.trans Rh;refine cV (aW.of (Nb _ _ (IJ _ _ trivial V'))) evj ?_;walk_at "sf";refine⟨u,vj,rfl,hu.same Nb,Wg.same Nb,.inr ⟨_,_,pu,Wh,.inr (.inr ⟨Nv.FQ (pu.strict hq zu hu.rl.2.1),Nv.FQ (Wh.strict hq zj Wg.rl.2.1),hq.twice pu Wh zu zj hu.rl.2.1 Wg.rl.2.1,rfl,fun H17 s17=>?_⟩)⟩⟩;walk_at "sf";refine kq rfl ?_;walk_at "sf";have KD:=Nb.trans s17;exact⟨⟨_,_,rfl⟩,IJ.trans (eW.of KD),M_.same KD⟩
    ·refine .inr ⟨hj,fun Fo Wi M_=>?_⟩;have IJ:=Wf.trans Wi;have i1:Nz (.int j) [V.int (-1),V.int 2]=true:=by rcases hj with rfl|rfl<;>rfl
     have i2:Nz (.int j) [V.int 0,V.int 1]=false:=by rcases hj with rfl|rfl<;>rfl
     walk_at "sf";intro Rf M';have NU:=av.new M' (.lst [V.int (-1),V.int 2]);walk_at "sf";refine⟨Rf,_,rfl,.inl (aW.of ai),rfl,rfl,?_⟩;generalize upd Fo Rf (.lst [V.int (-1),V.int 2])=Si at NU ⊢;rw[i1];walk_at "sf";refine u_ ?_;walk_at "sf";refine⟨rfl,?_⟩;rw[decide_eq_true (show V.str "NoNumber"=V.str "NoNumber" from rfl),Bool.not_true];walk_at "sf";refine fS ?_;walk_at "sf";intro Rg Na;have Rh:=av.new Na (.lst [V.int 0,V.int 1]);walk_at "sf";refine⟨Rg,_,rfl,.inl (aW.of ai),rfl,rfl,?_⟩;generalize upd Si Rg (.lst [V.int 0,V.int 1])=H16 at Rh ⊢;rw[i2];walk_at "sf";refine fS ?_;walk_at "sf";have Nb:=NU.trans Rh;exact⟨⟨_,_,rfl⟩,IJ.trans (eW.of Nb),M_.same Nb⟩
   rintro σ Ks ⟨⟨GF,GG,rfl⟩,M8,M9⟩;walk_at "sf";exact hD _ _ ⟨⟨_,_,_,_,rfl⟩,(eW.of Ra).trans M8,M9⟩
  rintro bJ H8 ⟨⟨r9,N3,GF,GG,rfl⟩,Wj,tb8⟩;walk_at "sf";refine⟨_,_,rfl,fun mo mo0 moz=>?_⟩;walk_at "sf";refine⟨v,g,p,y,m,d,mo,rfl,KG.keep Wj,pv,Wj _ _ trivial Yq,sd,fun H9 s9=>?_⟩;walk_at "sf";refine fS ?_;walk_at "sf";exact⟨⟨_,_,_,_,_,_,_,_,_,_,_,_,rfl⟩,kp7.trans (Wj.trans (eW.of s9)),tb8.same s9⟩
 rintro σ H1 ⟨⟨r1,r2,r3,r4,r5,r6,r7,r8,r9,N3,GF,GG,rfl⟩,SJ,SI⟩;walk_at "sf";exact q H1
end
end cW
namespace cW
open PySem PyProof.Rows L2 SF PySem.W
theorem FW{P:Program}{w:World}{K:Frag}{mg:Str->Option Value}{base:Heap}{CX:oP}{cm:Bool}{j k:Nat}{x:Str}{ps:List Str}{sp:Shared->Sp}(F:pT P w K mg base CX cm j x ps sp)(h:j<=k):pT P w K mg base CX cm k x ps sp:=
 let⟨f,fd,a,b,c,d⟩:=F.ex
 ⟨f,fd,⟨a.len,fun A outer s H args us vs Q E hr=>a.run A outer s H args us vs Q E (hr.mono h)⟩,b,c,d⟩
theorem IK{P:Program}{w:World}{K:Frag}{mg:Str->Option Value}{base:Heap}{a:Ad}{fa c Pt C fI:Addr}{M5 Yt:FuncData}{uG:Value}(T:Nm mg)(hT:P.given.tree=none)(hG:mg "GREATEST_DEGREE"=some uG/\RelV (.int 12) uG)(RC:Rc K mg C fI Yt)(RI:V7 K C)(CL:Kz K mg a)(hx:exmOne K (.ref a.c1) (.ref a.cf)=some true)(F:DB K "law" "law" iE fa M5)(nv:aH K mg "common_divisor" fC ["one","other"])(Nc:aH K mg "sign" yI ["number"])(IM:aH K mg "power" tO ["number","many"])(IP:aH K mg "ratio" tP ["top","under"])(IQ:aH K mg "times" tQ ["one","other"])(FX:aH K mg "middle" pW ["one","other"])(zw:aH K mg "order_of" kG ["one","other"])(CO:aH K mg "trimmed" m8 ["row"])(FY:aH K mg "degree" pY ["poly"])(uE:aH K mg "derivative" iZ ["poly"])(CP:aH K mg "content" m9 ["poly"])(xf:aH K mg "primitive" jD ["poly"])(zx:aH K mg "value_at" kI ["poly","point"])(FZ:aH K mg "spread" pZ ["value","point"])(CQ:aH K mg "divided" m_ ["poly","divisor"])(CT:aH K mg "largest" nc ["poly"])(uF:aH K mg "divisor_of" i8 ["one","other"])(zy:aH K mg "quotient" kJ ["one","other"])(rd:aH K mg "square_free" g8 ["poly"])(xg:aH K mg "height_at" jE ["poly","top","under"])(CU:aH K mg "sign_at" ng ["poly","given"])(uH:aH K mg "changes_in" i9 ["row"])(xi:aH K mg "remainder" jF ["one","other"])(zA:aH K mg "chain_of" kK ["free"])(uI:aH K mg "changes_at" i_ ["chain","given"])(xj:aH K mg "is_within" jG ["free","reach"])(zB:aH K mg "bound_of" kL ["free"])(mC:aH K mg "pair_around_all" fg ["free"])(F4:aH K mg "marked" qa ["chain","given"])(zC:aH K mg "isolated" kM ["poly"])(uJ:aH K mg "stretch_of" i' ["pair"])(qA:aH K mg "parts_needed" gL ["stretch","width"])(qB:aH K mg "part_between" gM ["free","stretch","parts","near","far"])(CV:aH K mg "guessed" nh ["free","stretch","parts"])(F5:aH K mg "halved" qb ["free","stretch"])(zD:aH K mg "narrowed" kN ["free","pair","width"])(zE:aH K mg "of_ratio" kO ["given"])(xk:aH K mg "number_in" jI ["free","pair","weight"])(IS:aH K mg "roots" tR ["poly"])(Ri:aH K mg "nth" EZ ["poly","k"])(zF:aH K mg "as_ratio" kP ["number"])(xl:aH K mg "weight_of" jJ ["number"])(CW:aH K mg "against" nj ["number","given"])(zG:aH K mg "are_same" kR ["one","other"])(F6:aH K mg "parted" qe ["one","other"])(zH:aH K mg "compared" kS ["one","other"])(CY:aH K mg "sign_of" nk ["number"])(rf:aH K mg "floor_times" g_ ["number","scale"])(zI:aH K mg "floor_of" kT ["number"])(Nd:aH K mg "near" yN ["number","width"])(zJ:aH K mg "_law_cell" kU ["_law_script","_law_k"])(xm:aH K mg "_law_drawn" jK ["_law_cell_here","_law_k"])(zK:aH K mg "_law_word" kW ["_law_e"])(zL:aH K mg "_law_told" fE ["_law_rule"])(uK:aH K mg "_law_common" ja ["_law_one","_law_other"])(xn:aH K mg "_law_ratio" jM ["_law_top","_law_under"])(xo:aH K mg "_law_order" jN ["_law_one","_law_other"])(ny:aH K mg "_law_floor_root" fF ["_law_whole"])(zM:aH K mg "_law_surd" kX ["_law_cell_here","_law_k"])(uL:aH K mg "_law_number" jb ["_law_surd_here"])(zN:aH K mg "_law_side" kY ["_law_surd_here","_law_given"])(xp:aH K mg "_law_floor" jO ["_law_surd_here"])(lq:aH K mg "_law_ratios_right" eJ ["_law_number_here","_law_surd_here","_law_more"])(NH:M5.code=.ref c)(hc:CodeHd base c Pt)(B:SF.BMain base mg):J9 P w K mg base uQ true 41 fa M5 ["_law_script"] (fun _=>Bu K Pt):=by
 have F7:=mq (P:=P) (w:=w) (base:=base) T nv;have qC:=Ii (P:=P) (w:=w) (base:=base) Nc;have CZ:=yW (P:=P) (w:=w) (base:=base) T CO;have qD:=CB (P:=P) (w:=w) (base:=base) T FY;have mD:=qT (P:=P) (w:=w) (base:=base) T uE;have C0:=yQ F7 CP;have n8:=tU hT (C0.mono (by decide)) xf;have IT:=wj (P:=P) (w:=w) (base:=base) T zx;have F8:=Cv (P:=P) (w:=w) (base:=base) hT FZ;have C2:=yR (P:=P) (w:=w) (base:=base) T CT;have sC:=yT (P:=P) (w:=w) (base:=base) T hT CQ;have sD:=qU T (F7.mono (by decide)) n8 (IT.mono (by decide)) (F8.mono (by decide)) (C2.mono (by decide)) (sC.mono (by decide)) uF;have zO:=wo n8 (sC.mono (by decide)) zy;have Nf:=qi zO sD (mD.mono (by decide)) rd;have qE:=tX (P:=P) (w:=w) (base:=base) T xg;have kg:=yX qC qE CU;have IU:=Ff (P:=P) (w:=w) (base:=base) T IM;have Rj:=tY T qC CZ xi;have IV:=wx T hT (mD.mono (by decide)) (IU.mono (by decide)) (Rj.mono (by decide)) zA;have IW:=qV qC uH;have Rk:=qW IW kg uI;have mE:=Fj hT (F7.mono (by decide)) IP;have F9:=Cz mE FX;have F_:=uh (P:=P) (w:=w) (base:=base) T xj;have IX:=wF F_ zB;have F':=kZ T (IX.mono (by decide)) mE mC;have Ga:=CA Rk F4;have KH:=wH T hG (qD.mono (by decide)) (Nf.mono (by decide)) (IV.mono (by decide)) (F'.mono (by decide)) (Ga.mono (by decide)) (F9.mono (by decide)) zC;have Rl:=qY (P:=P) (w:=w) (base:=base) uJ;have Ng:=og (P:=P) (w:=w) (base:=base) hT qA;have Gb:=oh qC qE qB;have IY:=zb T hT (qE.mono (by decide)) (Gb.mono (by decide)) CV;have Nh:=CF (Gb.mono (by decide)) F5;have C3:=uk T (Rl.mono (by decide)) (Ng.mono (by decide)) (IY.mono (by decide)) (Nh.mono (by decide)) (mE.mono (by decide)) zD;have mF:=wK C3;have Ge:=Iw (P:=P) (w:=w) (base:=base) RC;have uM:=wL (qC.mono (by decide)) zw;have qF:=uv RC (Ge.mono (by decide)) zE;have IZ:=wN qF;have Bv:=uw hT RC (Ge.mono (by decide)) mF IZ (mE.mono (by decide)) (uM.mono (by decide)) (kg.mono (by decide)) xk;have Bw:=FE T KH (Nf.mono (by decide)) Bv (qD.mono (by decide)) IS;have kh:=ze RC (uM.mono (by decide)) (kg.mono (by decide)) CW;have I0:=qv hT RC mF kh (mE.mono (by decide)) rf;have KI:=wU (P:=P) (w:=w) (base:=base) RC zF;have Gf:=uy (P:=P) (w:=w) (base:=base) RC xl;have Gg:=zk kh CY;have C4:=wV I0 zI;have Ni:=IB RC mF Nd;have Nj:=wW RC (uM.mono (by decide)) (sD.mono (by decide)) (kg.mono (by decide)) zG;have I_:=wY (P:=P) (w:=w) (base:=base) IQ;have Gh:=CI RC (kh.mono (by decide)) (mF.mono (by decide)) (I_.mono (by decide)) F6;have KJ:=wZ RC (KI.mono (by decide)) (kh.mono (by decide)) (Nj.mono (by decide)) (Gh.mono (by decide)) zH;have Nk:=we (P:=P) (w:=w) (base:=base) T zJ;have Bx:=tW (P:=P) (w:=w) (base:=base) xm;have Gi:=qX (P:=P) (w:=w) (base:=base) T uK;have qG:=ud Gi xn;have Gj:=uf (P:=P) (w:=w) (base:=base) T xo;have Nl:=w4 (Bx.mono (by decide)) zM;have Gk:=q_ T (qF.mono (by decide)) (qG.mono (by decide)) Bw uL;have Gm:=w8 (P:=P) (w:=w) (base:=base) T zN;have Ja:=mB (P:=P) (w:=w) (base:=base) ny;have xq:=uA Ja xp;have Wk:=km (xq.mono (by decide)) (qG.mono (by decide)) (Gm.mono (by decide)) (Gj.mono (by decide)) KJ (qF.mono (by decide)) (Ni.mono (by decide)) lq;have gw:=xc (P:=P) (w:=w) (base:=base) T CL zK;have gn:=MX (P:=P) (w:=w) (base:=base) T CL (KH.mono (by decide)) (Nf.mono (by decide)) Bv (qD.mono (by decide)) Ri;have gt:=IG (P:=P) (w:=w) (base:=base) (Pt:=Pt) CL hx (FW gw (by decide)) gn zL;exact M4 T RC RI (Nk.mono (by decide)) (Bx.mono (by decide)) (Nl.mono (by decide)) (Gk.mono (by decide)) (C4.mono (by decide)) (xq.mono (by decide)) (Gg.mono (by decide)) (Gm.mono (by decide)) (KI.mono (by decide)) (qG.mono (by decide)) (Gf.mono (by decide)) (Bw.mono (by decide)) (KJ.mono (by decide)) Wk gt F NH hc B
theorem Rn{K:PySem.W.Frag}{h:Heap}{mg:Str->Option Value}{C fI:Addr}{od an:Option Addr}{xP:Array (Option Value)}{kV doc pm bM ct:Value}(X:K.In h)(G:h.Ns mainGlobals mg)(e:PySem.W.nsIn K mainGlobals "Root"=some (some (.ref C)))(o2:PySem.W.findIn K (.ref C) "__init__"=some (some (.ref fI)))(lk:K.lookup fI=some ⟨.type "function",od,.func (PySem.W.fnOf "__init__" "Root.__init__" (gq k_) (dG k_) (ak k_) .none kV doc pm an bM ct),xP⟩)(ko:PySem.W.codeIn K bM "Root.__init__"=true)(o1:PySem.W.makesIn K C=true)(o3:PySem.W.isFn K (.ref fI)=true)(o4:PySem.W.keepIn K (.ref C)=true)(cl:GX K C)(n1:PySem.W.findIn K (.ref C) "poly"=some none)(n2:PySem.W.findIn K (.ref C) "pair"=some none)(n3:PySem.W.findIn K (.ref C) "weight"=some none)(i1:findIn K (.ref C) "__class__"=some (some (.builtin "object.__class__")))(i2:specialIn K (.builtin "object.__class__") "__get__"=some (some (.builtin "getset_descriptor.__get__")))(i3:takesIn K (.builtin "object.__class__")=some true)(i4:mroIn K C (.type "object")=some true):∃fI' fd,Rc K mg C fI' fd/\V7 K C:=by
 refine⟨fI,_,⟨PySem.W.mg_of X G e,⟨o1,o2,o3,o4⟩,cl,n1,n2,n3,⟨.type "function",od,.none,kV,doc,pm,an,bM,ct,xP,rfl,lk,ko⟩,fun s us X hl=>?_⟩,⟨i1,i2,i3,i4⟩⟩;have h2:us.length=4:=by simpa using hl
 match us,h2 with
 |[u1,u2,u3,u4],_=>exact BindsTo.of_eq rfl
theorem Nn{K:Frag}{h:Heap}{mg:Str->Option Value}{cf c0 c1 c2 c3 c4:Addr}(X:K.In h)(G:h.Ns mainGlobals mg)(ef:nsIn K mainGlobals "FootError"=some (some (.ref cf)))(e0:nsIn K mainGlobals "NoRatio"=some (some (.ref c0)))(e1:nsIn K mainGlobals "NoNumber"=some (some (.ref c1)))(e2:nsIn K mainGlobals "TooGreat"=some (some (.ref c2)))(e3:nsIn K mainGlobals "BadText"=some (some (.ref c3)))(e4:nsIn K mainGlobals "BadRow"=some (some (.ref c4)))(ok:V2 K ⟨cf,c0,c1,c2,c3,c4⟩=true):Kz K mg ⟨cf,c0,c1,c2,c3,c4⟩:=
 ⟨mg_of X G ef,mg_of X G e0,mg_of X G e1,mg_of X G e2,mg_of X G e3,mg_of X G e4,ok⟩
theorem Np{K:Frag}{mg:Str->Option Value}{cf c0 c1 c2 c3 c4:Addr}(_C:Kz K mg ⟨cf,c0,c1,c2,c3,c4⟩)(h:exmOne K (.ref c1) (.ref cf)=some true):exmOne K (.ref (Ad.mk cf c0 c1 c2 c3 c4).c1) (.ref (Ad.mk cf c0 c1 c2 c3 c4).cf)=some true:=h
theorem walk{l:OpenLaw}{j:Nat}{q:Program}{loose:List Str}{XP:(Str->Option Value)->Heap->Prop}{YP:World->Heap->Prop}{d:DefRec}{K:Params->Frag}(hn:l.most=some 63)(OJ:d.params.defaults=[])(EX:(recsOf q)[j]?=some d)(hY:∀(w:World)(h:Heap),YP w h->(K w.params).In h)(P6:∀w:World,noTabs (K w.params)=true)(F:∀(w:World)(mg:Str->Option Value)(fa:Addr)(h:Heap),(K w.params).In h->h.Ns mainGlobals mg->mg d.name=some (.ref fa)->
 ∃fd:FuncData,(∃oc od sl,(K w.params).lookup fa=some ⟨oc,od,.func fd,sl⟩)/\(∀(s:Shared)(u:Value),BindsTo s fd ⟨[u],[]⟩ [("_law_script",u)])/\
  ∀(base:Heap)(c Pt:Addr),fd.code=.ref c->(K w.params).In base->base.Ns mainGlobals mg->SF.BMain base mg->CodeHd base c Pt->J9 l.prog w (K w.params) mg base uQ true 41 fa fd ["_law_script"] fun _=>Bu (K w.params) Pt)(hi:importsNone q=true):
 WalkO q loose XP YP l.row.toRowW d [] (fun f vs=>PySem.call f vs):=
 SF.walk2 (n:=63) (k:=41) (x:="_law_script") (sp:=Bu) hn (by decide) OJ ⟨rfl,by decide,by decide⟩ EX hY P6 F (fun _ _ _ a ns hl hS hP=>⟨a,ns,rfl,hS,hl,hP,fun _=>rfl⟩) hi
theorem Nq{K:Frag}{h:Heap}{mg:Str->Option Value}{fa f:Addr}{od an:Option Addr}{sl:Array (Option Value)}{oc kV doc pm cd ct:Value}(X:K.In h)(G:h.Ns mainGlobals mg)(hfa:mg "law"=some (.ref fa))(a:nsIn K mainGlobals "law"=some (some (.ref f)))(l:K.lookup f=some ⟨oc,od,.func (fnOf "law" "law" (gq iE) (dG iE) (ak iE) .none kV doc pm an cd ct),sl⟩)(c:codeIn K cd "law"=true)(k:keepIn K (.ref f)=true):∃fd:FuncData,(∃oc od sl,K.lookup fa=some ⟨oc,od,.func fd,sl⟩)/\(∀(s:Shared)(v:Value),BindsTo s fd ⟨[v],[]⟩ [("_law_script",v)])/\DB K "law" "law" iE fa fd:=by
 have e:=hfa.symm.trans (mg_of X G a);cases e;exact⟨_,⟨_,_,_,l⟩,fun s v=>.of_eq rfl,DC (st:=iE) l c k⟩
end cW
def PySem.W.Fast.tw9693505044706379840:Unit:=()
def PySem.W.Fast.tw8798741740516217912:Unit:=()
def PySem.W.Fast.tw6643580735184048108:Unit:=()
def PySem.W.Fast.tw615205357176160264:Unit:=()
def PySem.W.Fast.tw3803098338343981377:Unit:=()
def PySem.W.Fast.tw13734992043714590749:Unit:=()
def PySem.W.Fast.tw8152082589367690630:Unit:=()
def PySem.W.Fast.tw5342060930573776587:Unit:=()
def PySem.W.Fast.tw2666226477675818285:Unit:=()
def PySem.W.Fast.tw7134372936704199292:Unit:=()
def PySem.W.Fast.tw17980450938226101787:Unit:=()
def PySem.W.Fast.tw694156006767914236:Unit:=()
def PySem.W.Fast.tw3047780174830753441:Unit:=()
def PySem.W.Fast.tw17335420285933432051:Unit:=()
def PySem.W.Fast.tw14918605581557490915:Unit:=()
def PySem.W.Fast.tw7179041084159439904:Unit:=()
def PySem.W.Fast.tw7535925669770442781:Unit:=()
def PySem.W.Fast.tw17578806320666698786:Unit:=()
def PySem.W.Fast.tw13113789017944246923:Unit:=()
def PySem.W.Fast.tw12772237168299839803:Unit:=()
def PySem.W.Fast.tw11836689918741880306:Unit:=()
def PySem.W.Fast.tw6020595854654077768:Unit:=()
def PySem.W.Fast.tw15490324546562029240:Unit:=()
def PySem.W.Fast.tw1572820929895258591:Unit:=()
def PySem.W.Fast.tw4449521660053116062:Unit:=()
def PySem.W.Fast.tw10136132427810335643:Unit:=()
def PySem.W.Fast.tw1605034837316890142:Unit:=()
def PySem.W.Fast.tw8023271818340707681:Unit:=()
def PySem.W.Fast.tw5097330327441142204:Unit:=()
def PySem.W.Fast.tw5285067580251160635:Unit:=()
def PySem.W.Fast.tw621637327826155455:Unit:=()
def PySem.W.Fast.tw17610042320395036722:Unit:=()
def PySem.W.Fast.tw12334420977500941783:Unit:=()
def PySem.W.Fast.tw6661699796370174506:Unit:=()
def PySem.W.Fast.tw10452496756138286817:Unit:=()
def PySem.W.Fast.tw15621061418146527461:Unit:=()
def PySem.W.Fast.tw5040443319851841799:Unit:=()
def PySem.W.Fast.tw11356622575999398592:Unit:=()
def PySem.W.Fast.tw11245593003109378240:Unit:=()
def PySem.W.Fast.tw12381163932403516141:Unit:=()
def PySem.W.Fast.tw5125058577620530674:Unit:=()
def PySem.W.Fast.tw6238458772469184922:Unit:=()
def PySem.W.Fast.tw5924980947763253519:Unit:=()
def PySem.W.Fast.tw18032560166320836938:Unit:=()
def PySem.W.Fast.tw4140725966726303712:Unit:=()
def PySem.W.Fast.tw8282334108324508313:Unit:=()
def PySem.W.Fast.tw16823998227564822029:Unit:=()
def PySem.W.Fast.tw14125306827639495028:Unit:=()
def PySem.W.Fast.tw1641109248626876379:Unit:=()
def PySem.W.Fast.tw2761236768195252027:Unit:=()
def PySem.W.Fast.tw16115626734627209907:Unit:=()
def PySem.W.Fast.tw12450011363637651637:Unit:=()
def PySem.W.Fast.tw7541890028463909640:Unit:=()
def PySem.W.Fast.tw14175501003322850354:Unit:=()
def PySem.W.Fast.tw2687899649322258203:Unit:=()
def PySem.W.Fast.tw12733224449270649239:Unit:=()
def PySem.W.Fast.tw12460318670325219432:Unit:=()
def PySem.W.Fast.tw10549066012406910913:Unit:=()
def PySem.W.Fast.tw2792717350465701864:Unit:=()
def PySem.W.Fast.tw6760510438713113164:Unit:=()
def PySem.W.Fast.tw16699994322494389919:Unit:=()
def PySem.W.Fast.tw9135677283604779033:Unit:=()
def PySem.W.Fast.tw14313814830779414704:Unit:=()
def PySem.W.Fast.tw1829625254373980072:Unit:=()
def PySem.W.Fast.tw13522352531792617549:Unit:=()
def PySem.W.Fast.tw16900267305318944581:Unit:=()
def PySem.W.Fast.tw17868427255201567362:Unit:=()
def PySem.W.Fast.tw3856313426953066902:Unit:=()
def PySem.W.Fast.tw12825901302997565306:Unit:=()
def PySem.W.Fast.tw16286458005372444836:Unit:=()
def PySem.W.Fast.tw5411991163495976951:Unit:=()
def PySem.W.Fast.tw5184811318351054086:Unit:=()
def PySem.W.Fast.tw7366856514941859181:Unit:=()
def PySem.W.Fast.tw16237733131164233114:Unit:=()
def PySem.W.Fast.tw3698044591189314559:Unit:=()
def PySem.W.Fast.tw17051367073718206144:Unit:=()
def PySem.W.Fast.tw10367070083953118433:Unit:=()
def PySem.W.Fast.tw7825842568314045360:Unit:=()
def PySem.W.Fast.tw9463811467452648188:Unit:=()
def PySem.W.Fast.tw14514291641694277512:Unit:=()
def PySem.W.Fast.tw3536830750823234213:Unit:=()
def PySem.W.Fast.tw12444300152311761983:Unit:=()
def PySem.W.Fast.tw1643974416109067239:Unit:=()
def PySem.W.Fast.tw2532293027646994870:Unit:=()
def PySem.W.Fast.tw9486489243594250412:Unit:=()
def PySem.W.Fast.tw8052520418725886917:Unit:=()
def PySem.W.Fast.tw5749432800134513949:Unit:=()
def PySem.W.Fast.tw10478102402765654715:Unit:=()
def PySem.W.Fast.tw17720816852848253539:Unit:=()
def PySem.W.Fast.tw4143398026980807880:Unit:=()
def PySem.W.Fast.tw9118673266851459681:Unit:=()
def PySem.W.Fast.tw7532727889093381587:Unit:=()
def PySem.W.Fast.tw832459122595632906:Unit:=()
def PySem.W.Fast.tw4890300707309088802:Unit:=()
def PySem.W.Fast.tw1226373248076259342:Unit:=()
def PySem.W.Fast.tw17247475611429703525:Unit:=()
def PySem.W.Fast.tw12772008049537467206:Unit:=()
def PySem.W.Fast.tw4111524223549793851:Unit:=()
def PySem.W.Fast.tw3561317001397196623:Unit:=()
def PySem.W.Fast.tw17386863231563237097:Unit:=()
def PySem.W.Fast.tw3744960855510320470:Unit:=()
def PySem.W.Fast.tw4534534405109736400:Unit:=()
def PySem.W.Fast.tw13075296529403841186:Unit:=()
def PySem.W.Fast.tw4258615176815874278:Unit:=()
def PySem.W.Fast.tw1235354017749814463:Unit:=()
def PySem.W.Fast.tw2991407597239405415:Unit:=()
def PySem.W.Fast.tw11821696828711473852:Unit:=()
def PySem.W.Fast.tw10241580124417655943:Unit:=()
def PySem.W.Fast.tw17434651804840758962:Unit:=()
def PySem.W.Fast.tw8263862835979293714:Unit:=()
def PySem.W.Fast.tw17640593495604615539:Unit:=()
def PySem.W.Fast.tw1755908217917703525:Unit:=()
def PySem.W.Fast.tw2515807489028807709:Unit:=()
def PySem.W.Fast.tw9280283934893511728:Unit:=()
def PySem.W.Fast.tw5990965187088710197:Unit:=()
def PySem.W.Fast.tw17540210015237302955:Unit:=()
def PySem.W.Fast.tw13883253155094700798:Unit:=()
def PySem.W.Fast.tw10445324871541290133:Unit:=()
def PySem.W.Fast.tw16192858868098236293:Unit:=()
def PySem.W.Fast.tw17242526160711823984:Unit:=()
def PySem.W.Fast.tw17523686310208075684:Unit:=()
def PySem.W.Fast.tw3759079026295080929:Unit:=()
def PySem.W.Fast.tw7226587494870703291:Unit:=()
def PySem.W.Fast.tw16840837751001685071:Unit:=()
def PySem.W.Fast.tw16985412791901202679:Unit:=()
def PySem.W.Fast.tw17997309837675600777:Unit:=()
def PySem.W.Fast.tw7488780791694213665:Unit:=()
def PySem.W.Fast.tw13675348768271160031:Unit:=()
def PySem.W.Fast.tw8367954042652925801:Unit:=()
def PySem.W.Fast.tw13613283174604570558:Unit:=()
def PySem.W.Fast.tw10351679948387511271:Unit:=()
def PySem.W.Fast.tw16342017269545064120:Unit:=()
def PySem.W.Fast.tw5342434688220630066:Unit:=()
def PySem.W.Fast.tw12053367523540659565:Unit:=()
def PySem.W.Fast.tw7261667595295517100:Unit:=()
def PySem.W.Fast.tw16256474919124107530:Unit:=()
def PySem.W.Fast.tw52303533578462618:Unit:=()
def PySem.W.Fast.tw11456876902463902656:Unit:=()
def PySem.W.Fast.tw13560851499337079445:Unit:=()
def PySem.W.Fast.tw17071256375333797582:Unit:=()
def PySem.W.Fast.tw11349702976844606:Unit:=()
def PySem.W.Fast.tw12484781601859211669:Unit:=()
def PySem.W.Fast.tw15994944563563352277:Unit:=()
def PySem.W.Fast.tw12441387433594471443:Unit:=()
def PySem.W.Fast.tw15476417833118485889:Unit:=()
def PySem.W.Fast.tw5889822936105861633:Unit:=()
def PySem.W.Fast.tw5081101893125717636:Unit:=()
def PySem.W.Fast.tw563465357296657445:Unit:=()
def PySem.W.Fast.tw16196926870706532348:Unit:=()
def PySem.W.Fast.tw489535456244205620:Unit:=()
def PySem.W.Fast.tw15682689736134533670:Unit:=()
def PySem.W.Fast.tw6328742978167558168:Unit:=()
def PySem.W.Fast.tw3664472129299084855:Unit:=()
def PySem.W.Fast.tw7433908958654777234:Unit:=()
def PySem.W.Fast.tw8586487039971592661:Unit:=()
def PySem.W.Fast.tw3149573475030214268:Unit:=()
def PySem.W.Fast.tw2510826010216219418:Unit:=()
def PySem.W.Fast.tw4771505817920283140:Unit:=()
def PySem.W.Fast.tw11059664656295261391:Unit:=()
def PySem.W.Fast.tw5383903464500811211:Unit:=()
def PySem.W.Fast.tw2636263585941329687:Unit:=()
def PySem.W.Fast.tw3243852615514024770:Unit:=()
def PySem.W.Fast.tw3753996628714865298:Unit:=()
def PySem.W.Fast.tw8570850999623221191:Unit:=()
def PySem.W.Fast.tw14047647004423030209:Unit:=()
def PySem.W.Fast.tw13007528165996880348:Unit:=()
def PySem.W.Fast.tw18099930299318500603:Unit:=()
def PySem.W.Fast.tw6550221033331770301:Unit:=()
def PySem.W.Fast.tw11951066826792669468:Unit:=()
def PySem.W.Fast.tw17241810351128300216:Unit:=()
def PySem.W.Fast.tw14377069983395448376:Unit:=()
def PySem.W.Fast.tw1870315140472355924:Unit:=()
def PySem.W.Fast.tw17489299016284570328:Unit:=()
def PySem.W.Fast.tw15018912496976800432:Unit:=()
def PySem.W.Fast.tw863674985304579941:Unit:=()
def PySem.W.Fast.tw4757742834512339212:Unit:=()
def PySem.W.Fast.tw15101732187511027408:Unit:=()
def PySem.W.Fast.tw17289355442843573772:Unit:=()
def PySem.W.Fast.tw15505037321632181366:Unit:=()
def PySem.W.Fast.tw4770520349298457416:Unit:=()
def PySem.W.Fast.tw10740926954699104026:Unit:=()
def PySem.W.Fast.tw17051746089346730366:Unit:=()
def PySem.W.Fast.tw4482516755171762128:Unit:=()
def PySem.W.Fast.tw14149609076670496138:Unit:=()
def PySem.W.Fast.tw7844631972744119068:Unit:=()
def PySem.W.Fast.tw11709035606921682842:Unit:=()
def PySem.W.Fast.tw9763686940971588171:Unit:=()
def PySem.W.Fast.tw14750529494653574081:Unit:=()
def PySem.W.Fast.tw13305119582272319076:Unit:=()
def PySem.W.Fast.tw2897731615516074363:Unit:=()
def PySem.W.Fast.tw2561536955485214599:Unit:=()
def PySem.W.Fast.tw12280303506889957307:Unit:=()
def PySem.W.Fast.tw4993760825636779685:Unit:=()
def PySem.W.Fast.tw10074401494251845327:Unit:=()
def PySem.W.Fast.tw14897061332100517078:Unit:=()
def PySem.W.Fast.tw2469827103834487551:Unit:=()
def PySem.W.Fast.tw9996594078019524089:Unit:=()
def PySem.W.Fast.tw3153873212189979918:Unit:=()
def PySem.W.Fast.tw17506192165459404068:Unit:=()
def PySem.W.Fast.tw1237350288517119080:Unit:=()
def PySem.W.Fast.tw9424050422782470902:Unit:=()
def PySem.W.Fast.tw16404069831406333417:Unit:=()
def PySem.W.Fast.tw16351404446477548497:Unit:=()
def PySem.W.Fast.tw16218246021378333279:Unit:=()
def PySem.W.Fast.tw4779903704503759997:Unit:=()
def PySem.W.Fast.tw7536971867867511140:Unit:=()
def PySem.W.Fast.tw11712819494623738502:Unit:=()
def PySem.W.Fast.tw8275118027239510795:Unit:=()
def PySem.W.Fast.tw7171405858108630460:Unit:=()
def PySem.W.Fast.tw15476731708412475873:Unit:=()
def PySem.W.Fast.tw8990036149299418225:Unit:=()
def PySem.W.Fast.tw8079296338823354022:Unit:=()
def PySem.W.Fast.tw12639417485517984742:Unit:=()
def PySem.W.Fast.tw4624414367602887757:Unit:=()
def PySem.W.Fast.tw14917567331215745825:Unit:=()
def PySem.W.Fast.tw18364420872298763872:Unit:=()
def PySem.W.Fast.tw17516677936202422723:Unit:=()
def PySem.W.Fast.tw2786962413830315416:Unit:=()
def PySem.W.Fast.tw9993510958277758592:Unit:=()
def PySem.W.Fast.tw9274944987989249996:Unit:=()
def PySem.W.Fast.tw17339921154417595520:Unit:=()
def PySem.W.Fast.tw18085898231151536250:Unit:=()
def PySem.W.Fast.tw7205325272235149495:Unit:=()
def PySem.W.Fast.tw1878723995193217900:Unit:=()
def PySem.W.Fast.tw5597585301139784310:Unit:=()
def PySem.W.Fast.tw10326959836764420723:Unit:=()
def PySem.W.Fast.tw8732019824576609644:Unit:=()
def PySem.W.Fast.tw16161142782662501917:Unit:=()
def PySem.W.Fast.tw9012946344939432111:Unit:=()
def PySem.W.Fast.tw287874637118867800:Unit:=()
def PySem.W.Fast.tw1685867838336301272:Unit:=()
def PySem.W.Fast.tw12403286928169419274:Unit:=()
def PySem.W.Fast.tw17677016108392663715:Unit:=()
def PySem.W.Fast.tw10530178328848403274:Unit:=()
def PySem.W.Fast.tw11069225888569580695:Unit:=()
def PySem.W.Fast.tw1599534463340964513:Unit:=()
def PySem.W.Fast.tw3695987114583399122:Unit:=()
def PySem.W.Fast.tw15593484540861061099:Unit:=()
def PySem.W.Fast.tw29138215049324444:Unit:=()
def PySem.W.Fast.tw5009401295385224678:Unit:=()
def PySem.W.Fast.tw2841344056028109189:Unit:=()
def PySem.W.Fast.tw14221687674021641058:Unit:=()
def PySem.W.Fast.tw6266749729990727220:Unit:=()
def PySem.W.Fast.tw1313790755251866416:Unit:=()
def PySem.W.Fast.tw4061639610384671512:Unit:=()
def PySem.W.Fast.tw6825222513988541765:Unit:=()
def PySem.W.Fast.tw10366759089834361986:Unit:=()
def PySem.W.Fast.tw2120765228121434135:Unit:=()
def PySem.W.Fast.tw16862941990238559840:Unit:=()
def PySem.W.Fast.tw8455707816021187613:Unit:=()
def PySem.W.Fast.tw4934225260777173820:Unit:=()
def PySem.W.Fast.tw17074056154408560754:Unit:=()
def PySem.W.Fast.tw1523503594830911720:Unit:=()
def PySem.W.Fast.tw7927016117472586317:Unit:=()
def PySem.W.Fast.tw6509026847516337683:Unit:=()
def PySem.W.Fast.tw6885339280639057532:Unit:=()
def PySem.W.Fast.tw12415125046841910484:Unit:=()
def PySem.W.Fast.tw3525357880533208496:Unit:=()
def PySem.W.Fast.tw12897601707656263216:Unit:=()
def PySem.W.Fast.tw2896614917526977158:Unit:=()
def PySem.W.Fast.tw13669138137986203552:Unit:=()
def PySem.W.Fast.tw11047252918957585789:Unit:=()
def PySem.W.Fast.tw1185645423517915572:Unit:=()
def PySem.W.Fast.tw4923532714958040942:Unit:=()
def PySem.W.Fast.tw15621363441147703941:Unit:=()
def PySem.W.Fast.tw1021224225844311485:Unit:=()
def PySem.W.Fast.tw13618690909924748631:Unit:=()
def PySem.W.Fast.tw9404657391337561605:Unit:=()
def PySem.W.Fast.tw11652329142232837325:Unit:=()
def PySem.W.Fast.tw1547473561883584022:Unit:=()
def PySem.W.Fast.tw5142461625144926971:Unit:=()
def PySem.W.Fast.tw17387994735709145322:Unit:=()
def PySem.W.Fast.tw11470093608164877645:Unit:=()
def PySem.W.Fast.tw1395498182903681972:Unit:=()
def PySem.W.Fast.tw3909291734220957151:Unit:=()
def PySem.W.Fast.tw7537831089300395101:Unit:=()
def PySem.W.Fast.tw2052733473940410965:Unit:=()
def PySem.W.Fast.tw4048560183693556168:Unit:=()
def PySem.W.Fast.tw6184398364332205209:Unit:=()
def PySem.W.Fast.tw2678043579948906603:Unit:=()
def PySem.W.Fast.tw5672915059430767785:Unit:=()
def PySem.W.Fast.tw2051983636215965514:Unit:=()
def PySem.W.Fast.tw3235991236765488899:Unit:=()
def PySem.W.Fast.tw6858980038697077223:Unit:=()
def PySem.W.Fast.tw11837013159191994037:Unit:=()
def PySem.W.Fast.tw11559596731656714486:Unit:=()
def PySem.W.Fast.tw10893568959371011411:Unit:=()
def PySem.W.Fast.tw17307541589976022666:Unit:=()
def PySem.W.Fast.tw11873486475907634649:Unit:=()
def PySem.W.Fast.tw2139576590883555629:Unit:=()
def PySem.W.Fast.tw3431295475804241847:Unit:=()
def PySem.W.Fast.tw16287675336927823471:Unit:=()
def PySem.W.Fast.tw9928811388875791482:Unit:=()
def PySem.W.Fast.tw10277162752755602717:Unit:=()
def PySem.W.Fast.tw3040842917259082783:Unit:=()
def PySem.W.Fast.tw7756362291697494788:Unit:=()
def PySem.W.Fast.tw12042835839156941301:Unit:=()
def PySem.W.Fast.tw1891648671654238929:Unit:=()
def PySem.W.Fast.tw18383433855972321311:Unit:=()
def PySem.W.Fast.tw10296452638904593390:Unit:=()
def PySem.W.Fast.tw16990787869669726981:Unit:=()
def PySem.W.Fast.tw3825247073685021231:Unit:=()
def PySem.W.Fast.tw16795788135087952830:Unit:=()
def PySem.W.Fast.tw3976004680723900664:Unit:=()
def PySem.W.Fast.tw12358668752859175740:Unit:=()
def PySem.W.Fast.tw1312569167391898698:Unit:=()
def PySem.W.Fast.tw2039307602792918303:Unit:=()
def PySem.W.Fast.tw8685823171428715574:Unit:=()
def PySem.W.Fast.tw4969985043874488011:Unit:=()
def PySem.W.Fast.tw15460114591643003405:Unit:=()
def PySem.W.Fast.tw1254370741597467196:Unit:=()
def PySem.W.Fast.tw14531450561995706890:Unit:=()
def PySem.W.Fast.tw10295253104012917959:Unit:=()
def PySem.W.Fast.tw12852581392078741672:Unit:=()
def PySem.W.Fast.tw1210647749678112437:Unit:=()
def PySem.W.Fast.tw5578105687554918144:Unit:=()
def PySem.W.Fast.tw6309751835421106147:Unit:=()
open PySem PySem.W PyProof.Rows
set_option maxRecDepth 100000 in
set_option maxHeartbeats 0 in
theorem PySem.Challenge.cw_surefoot_k17_whole_roots_and_ratios_holds : PySem.Challenge.rw_surefoot_k17_whole_roots_and_ratios.Holds := by
 w_on;o_law;k_head;(case hw=>w_witness2)
 k_fill
 refine cW.walk (l:=PySem.Challenge.rw_surefoot_k17_whole_roots_and_ratios) (j:=64) rfl rfl ?rcx (fun w h Y=>PySem.W.km_in_of Y) ?ntx ?F ?I
 case rcx=>kernel_rfl
 case ntx=>intro w;kernel_rfl
 case I=>decide +kernel
 case F=>
  intro w mg fa h KX G NA;have T:cW.Nm mg:=by
   refine'⟨PySem.W.mg_none_of KX G ?t1,PySem.W.mg_none_of KX G ?t2,PySem.W.mg_none_of KX G ?t3,PySem.W.mg_none_of KX G ?t4,PySem.W.mg_none_of KX G ?t5,PySem.W.mg_none_of KX G ?t6,PySem.W.mg_none_of KX G ?t7,PySem.W.mg_none_of KX G ?t8,PySem.W.mg_none_of KX G ?t9,PySem.W.mg_none_of KX G ?t10,PySem.W.mg_none_of KX G ?t11,PySem.W.mg_none_of KX G ?t12,PySem.W.mg_none_of KX G ?t13,PySem.W.mg_none_of KX G ?t14⟩
   all_goals k_is
  have L:=by
   refine' cW.Nq KX G NA ?a ?l ?c ?k
   (case a=>k_is);(case l=>k_is);(case c=>k_is);(case k=>k_is)
  obtain⟨fd,lk,hb,F⟩:=L;have C:=by
   refine' cW.Nn KX G ?ef ?e0 ?e1 ?e2 ?e3 ?e4 ?ok
   (case ef=>k_is);(case e0=>k_is);(case e1=>k_is);(case e2=>k_is);(case e3=>k_is);(case e4=>k_is)
   (case ok=>kernel_rfl)
  have X:=by
   refine' cW.Np C ?x
   (case x=>kernel_rfl)
  have R:=by
   refine' cW.Rn KX G ?e ?o2 ?lk ?cd ?o1 ?o3 ?o4 ⟨?pg,?hd,?po,?sa⟩ ?n1 ?n2 ?n3 ?i1 ?i2 ?i3 ?i4
   (case e=>k_is);(case o2=>k_is);(case lk=>k_is);(case cd=>k_is)
   all_goals kernel_rfl
  obtain⟨fI,Yt,RC,RI⟩:=R;refine⟨fd,lk,hb,fun base c Pt NH _ _ B hc=>?_⟩;refine' cW.IK T (by rfl) ⟨PySem.W.mg_of KX G ?g1,?h1⟩ RC RI C X F (L2.aJ KX G ?a1 ?l1 ?c1 ?k1 ?b1) (L2.aJ KX G ?a2 ?l2 ?c2 ?k2 ?b2) (L2.aJ KX G ?a3 ?l3 ?c3 ?k3 ?b3) (L2.aJ KX G ?a4 ?l4 ?c4 ?k4 ?b4) (L2.aJ KX G ?a5 ?l5 ?c5 ?k5 ?b5) (L2.aJ KX G ?a6 ?l6 ?c6 ?k6 ?b6) (L2.aJ KX G ?a7 ?l7 ?c7 ?k7 ?b7) (L2.aJ KX G ?a8 ?l8 ?c8 ?k8 ?b8) (L2.aJ KX G ?a9 ?l9 ?c9 ?k9 ?b9) (L2.aJ KX G ?a10 ?l10 ?c10 ?k10 ?b10) (L2.aJ KX G ?a11 ?l11 ?c11 ?k11 ?b11) (L2.aJ KX G ?a12 ?l12 ?c12 ?k12 ?b12) (L2.aJ KX G ?a13 ?l13 ?c13 ?k13 ?b13) (L2.aJ KX G ?a14 ?l14 ?c14 ?k14 ?b14) (L2.aJ KX G ?a15 ?l15 ?c15 ?k15 ?b15) (L2.aJ KX G ?a16 ?l16 ?c16 ?k16 ?b16) (L2.aJ KX G ?a17 ?l17 ?c17 ?k17 ?b17) (L2.aJ KX G ?a18 ?l18 ?c18 ?k18 ?b18) (L2.aJ KX G ?a19 ?l19 ?c19 ?k19 ?b19) (L2.aJ KX G ?a20 ?l20 ?c20 ?k20 ?b20) (L2.aJ KX G ?a21 ?l21 ?c21 ?k21 ?b21) (L2.aJ KX G ?a22 ?l22 ?c22 ?k22 ?b22) (L2.aJ KX G ?a23 ?l23 ?c23 ?k23 ?b23) (L2.aJ KX G ?a24 ?l24 ?c24 ?k24 ?b24) (L2.aJ KX G ?a25 ?l25 ?c25 ?k25 ?b25) (L2.aJ KX G ?a26 ?l26 ?c26 ?k26 ?b26) (L2.aJ KX G ?a27 ?l27 ?c27 ?k27 ?b27) (L2.aJ KX G ?a28 ?l28 ?c28 ?k28 ?b28) (L2.aJ KX G ?a29 ?l29 ?c29 ?k29 ?b29) (L2.aJ KX G ?a30 ?l30 ?c30 ?k30 ?b30) (L2.aJ KX G ?a31 ?l31 ?c31 ?k31 ?b31) (L2.aJ KX G ?a32 ?l32 ?c32 ?k32 ?b32) (L2.aJ KX G ?a33 ?l33 ?c33 ?k33 ?b33) (L2.aJ KX G ?a34 ?l34 ?c34 ?k34 ?b34) (L2.aJ KX G ?a35 ?l35 ?c35 ?k35 ?b35) (L2.aJ KX G ?a36 ?l36 ?c36 ?k36 ?b36) (L2.aJ KX G ?a37 ?l37 ?c37 ?k37 ?b37) (L2.aJ KX G ?a38 ?l38 ?c38 ?k38 ?b38) (L2.aJ KX G ?a39 ?l39 ?c39 ?k39 ?b39) (L2.aJ KX G ?a40 ?l40 ?c40 ?k40 ?b40) (L2.aJ KX G ?a41 ?l41 ?c41 ?k41 ?b41) (L2.aJ KX G ?a42 ?l42 ?c42 ?k42 ?b42) (L2.aJ KX G ?a43 ?l43 ?c43 ?k43 ?b43) (L2.aJ KX G ?a44 ?l44 ?c44 ?k44 ?b44) (L2.aJ KX G ?a45 ?l45 ?c45 ?k45 ?b45) (L2.aJ KX G ?a46 ?l46 ?c46 ?k46 ?b46) (L2.aJ KX G ?a47 ?l47 ?c47 ?k47 ?b47) (L2.aJ KX G ?a48 ?l48 ?c48 ?k48 ?b48) (L2.aJ KX G ?a49 ?l49 ?c49 ?k49 ?b49) (L2.aJ KX G ?a50 ?l50 ?c50 ?k50 ?b50) (L2.aJ KX G ?a51 ?l51 ?c51 ?k51 ?b51) (L2.aJ KX G ?a52 ?l52 ?c52 ?k52 ?b52) (L2.aJ KX G ?a53 ?l53 ?c53 ?k53 ?b53) (L2.aJ KX G ?a54 ?l54 ?c54 ?k54 ?b54) (L2.aJ KX G ?a55 ?l55 ?c55 ?k55 ?b55) (L2.aJ KX G ?a56 ?l56 ?c56 ?k56 ?b56) (L2.aJ KX G ?a57 ?l57 ?c57 ?k57 ?b57) (L2.aJ KX G ?a58 ?l58 ?c58 ?k58 ?b58) (L2.aJ KX G ?a59 ?l59 ?c59 ?k59 ?b59) (L2.aJ KX G ?a60 ?l60 ?c60 ?k60 ?b60) (L2.aJ KX G ?a61 ?l61 ?c61 ?k61 ?b61) (L2.aJ KX G ?a62 ?l62 ?c62 ?k62 ?b62) (L2.aJ KX G ?a63 ?l63 ?c63 ?k63 ?b63) NH hc B
  (case a1=>k_is);(case l1=>k_is);(case c1=>k_is);(case k1=>k_is);(case b1=>exact fun _ _ _ _ _ _ us hl=>match us,hl with|[_,_],_=>rfl)
  (case a2=>k_is);(case l2=>k_is);(case c2=>k_is);(case k2=>k_is);(case b2=>exact fun _ _ _ _ _ _ us hl=>match us,hl with|[_],_=>rfl)
  (case a3=>k_is);(case l3=>k_is);(case c3=>k_is);(case k3=>k_is);(case b3=>exact fun _ _ _ _ _ _ us hl=>match us,hl with|[_,_],_=>rfl)
  (case a4=>k_is);(case l4=>k_is);(case c4=>k_is);(case k4=>k_is);(case b4=>exact fun _ _ _ _ _ _ us hl=>match us,hl with|[_,_],_=>rfl)
  (case a5=>k_is);(case l5=>k_is);(case c5=>k_is);(case k5=>k_is);(case b5=>exact fun _ _ _ _ _ _ us hl=>match us,hl with|[_,_],_=>rfl)
  (case a6=>k_is);(case l6=>k_is);(case c6=>k_is);(case k6=>k_is);(case b6=>exact fun _ _ _ _ _ _ us hl=>match us,hl with|[_,_],_=>rfl)
  (case a7=>k_is);(case l7=>k_is);(case c7=>k_is);(case k7=>k_is);(case b7=>exact fun _ _ _ _ _ _ us hl=>match us,hl with|[_,_],_=>rfl)
  (case a8=>k_is);(case l8=>k_is);(case c8=>k_is);(case k8=>k_is);(case b8=>exact fun _ _ _ _ _ _ us hl=>match us,hl with|[_],_=>rfl)
  (case a9=>k_is);(case l9=>k_is);(case c9=>k_is);(case k9=>k_is);(case b9=>exact fun _ _ _ _ _ _ us hl=>match us,hl with|[_],_=>rfl)
  (case a10=>k_is);(case l10=>k_is);(case c10=>k_is);(case k10=>k_is);(case b10=>exact fun _ _ _ _ _ _ us hl=>match us,hl with|[_],_=>rfl)
  (case a11=>k_is);(case l11=>k_is);(case c11=>k_is);(case k11=>k_is);(case b11=>exact fun _ _ _ _ _ _ us hl=>match us,hl with|[_],_=>rfl)
  (case a12=>k_is);(case l12=>k_is);(case c12=>k_is);(case k12=>k_is);(case b12=>exact fun _ _ _ _ _ _ us hl=>match us,hl with|[_],_=>rfl)
  (case a13=>k_is);(case l13=>k_is);(case c13=>k_is);(case k13=>k_is);(case b13=>exact fun _ _ _ _ _ _ us hl=>match us,hl with|[_,_],_=>rfl)
  (case a14=>k_is);(case l14=>k_is);(case c14=>k_is);(case k14=>k_is);(case b14=>exact fun _ _ _ _ _ _ us hl=>match us,hl with|[_,_],_=>rfl)
  (case a15=>k_is);(case l15=>k_is);(case c15=>k_is);(case k15=>k_is);(case b15=>exact fun _ _ _ _ _ _ us hl=>match us,hl with|[_,_],_=>rfl)
  (case a16=>k_is);(case l16=>k_is);(case c16=>k_is);(case k16=>k_is);(case b16=>exact fun _ _ _ _ _ _ us hl=>match us,hl with|[_],_=>rfl)
  (case a17=>k_is);(case l17=>k_is);(case c17=>k_is);(case k17=>k_is);(case b17=>exact fun _ _ _ _ _ _ us hl=>match us,hl with|[_,_],_=>rfl)
  (case a18=>k_is);(case l18=>k_is);(case c18=>k_is);(case k18=>k_is);(case b18=>exact fun _ _ _ _ _ _ us hl=>match us,hl with|[_,_],_=>rfl)
  (case a19=>k_is);(case l19=>k_is);(case c19=>k_is);(case k19=>k_is);(case b19=>exact fun _ _ _ _ _ _ us hl=>match us,hl with|[_],_=>rfl)
  (case a20=>k_is);(case l20=>k_is);(case c20=>k_is);(case k20=>k_is);(case b20=>exact fun _ _ _ _ _ _ us hl=>match us,hl with|[_,_,_],_=>rfl)
  (case a21=>k_is);(case l21=>k_is);(case c21=>k_is);(case k21=>k_is);(case b21=>exact fun _ _ _ _ _ _ us hl=>match us,hl with|[_,_],_=>rfl)
  (case a22=>k_is);(case l22=>k_is);(case c22=>k_is);(case k22=>k_is);(case b22=>exact fun _ _ _ _ _ _ us hl=>match us,hl with|[_],_=>rfl)
  (case a23=>k_is);(case l23=>k_is);(case c23=>k_is);(case k23=>k_is);(case b23=>exact fun _ _ _ _ _ _ us hl=>match us,hl with|[_,_],_=>rfl)
  (case a24=>k_is);(case l24=>k_is);(case c24=>k_is);(case k24=>k_is);(case b24=>exact fun _ _ _ _ _ _ us hl=>match us,hl with|[_],_=>rfl)
  (case a25=>k_is);(case l25=>k_is);(case c25=>k_is);(case k25=>k_is);(case b25=>exact fun _ _ _ _ _ _ us hl=>match us,hl with|[_,_],_=>rfl)
  (case a26=>k_is);(case l26=>k_is);(case c26=>k_is);(case k26=>k_is);(case b26=>exact fun _ _ _ _ _ _ us hl=>match us,hl with|[_,_],_=>rfl)
  (case a27=>k_is);(case l27=>k_is);(case c27=>k_is);(case k27=>k_is);(case b27=>exact fun _ _ _ _ _ _ us hl=>match us,hl with|[_],_=>rfl)
  (case a28=>k_is);(case l28=>k_is);(case c28=>k_is);(case k28=>k_is);(case b28=>exact fun _ _ _ _ _ _ us hl=>match us,hl with|[_],_=>rfl)
  (case a29=>k_is);(case l29=>k_is);(case c29=>k_is);(case k29=>k_is);(case b29=>exact fun _ _ _ _ _ _ us hl=>match us,hl with|[_,_],_=>rfl)
  (case a30=>k_is);(case l30=>k_is);(case c30=>k_is);(case k30=>k_is);(case b30=>exact fun _ _ _ _ _ _ us hl=>match us,hl with|[_],_=>rfl)
  (case a31=>k_is);(case l31=>k_is);(case c31=>k_is);(case k31=>k_is);(case b31=>exact fun _ _ _ _ _ _ us hl=>match us,hl with|[_],_=>rfl)
  (case a32=>k_is);(case l32=>k_is);(case c32=>k_is);(case k32=>k_is);(case b32=>exact fun _ _ _ _ _ _ us hl=>match us,hl with|[_,_],_=>rfl)
  (case a33=>k_is);(case l33=>k_is);(case c33=>k_is);(case k33=>k_is);(case b33=>exact fun _ _ _ _ _ _ us hl=>match us,hl with|[_,_,_,_,_],_=>rfl)
  (case a34=>k_is);(case l34=>k_is);(case c34=>k_is);(case k34=>k_is);(case b34=>exact fun _ _ _ _ _ _ us hl=>match us,hl with|[_,_,_],_=>rfl)
  (case a35=>k_is);(case l35=>k_is);(case c35=>k_is);(case k35=>k_is);(case b35=>exact fun _ _ _ _ _ _ us hl=>match us,hl with|[_,_],_=>rfl)
  (case a36=>k_is);(case l36=>k_is);(case c36=>k_is);(case k36=>k_is);(case b36=>exact fun _ _ _ _ _ _ us hl=>match us,hl with|[_,_,_],_=>rfl)
  (case a37=>k_is);(case l37=>k_is);(case c37=>k_is);(case k37=>k_is);(case b37=>exact fun _ _ _ _ _ _ us hl=>match us,hl with|[_],_=>rfl)
  (case a38=>k_is);(case l38=>k_is);(case c38=>k_is);(case k38=>k_is);(case b38=>exact fun _ _ _ _ _ _ us hl=>match us,hl with|[_,_,_],_=>rfl)
  (case a39=>k_is);(case l39=>k_is);(case c39=>k_is);(case k39=>k_is);(case b39=>exact fun _ _ _ _ _ _ us hl=>match us,hl with|[_],_=>rfl)
  (case a40=>k_is);(case l40=>k_is);(case c40=>k_is);(case k40=>k_is);(case b40=>exact fun _ _ _ _ _ _ us hl=>match us,hl with|[_,_],_=>rfl)
  (case a41=>k_is);(case l41=>k_is);(case c41=>k_is);(case k41=>k_is);(case b41=>exact fun _ _ _ _ _ _ us hl=>match us,hl with|[_],_=>rfl)
  (case a42=>k_is);(case l42=>k_is);(case c42=>k_is);(case k42=>k_is);(case b42=>exact fun _ _ _ _ _ _ us hl=>match us,hl with|[_],_=>rfl)
  (case a43=>k_is);(case l43=>k_is);(case c43=>k_is);(case k43=>k_is);(case b43=>exact fun _ _ _ _ _ _ us hl=>match us,hl with|[_,_],_=>rfl)
  (case a44=>k_is);(case l44=>k_is);(case c44=>k_is);(case k44=>k_is);(case b44=>exact fun _ _ _ _ _ _ us hl=>match us,hl with|[_,_],_=>rfl)
  (case a45=>k_is);(case l45=>k_is);(case c45=>k_is);(case k45=>k_is);(case b45=>exact fun _ _ _ _ _ _ us hl=>match us,hl with|[_,_],_=>rfl)
  (case a46=>k_is);(case l46=>k_is);(case c46=>k_is);(case k46=>k_is);(case b46=>exact fun _ _ _ _ _ _ us hl=>match us,hl with|[_,_],_=>rfl)
  (case a47=>k_is);(case l47=>k_is);(case c47=>k_is);(case k47=>k_is);(case b47=>exact fun _ _ _ _ _ _ us hl=>match us,hl with|[_],_=>rfl)
  (case a48=>k_is);(case l48=>k_is);(case c48=>k_is);(case k48=>k_is);(case b48=>exact fun _ _ _ _ _ _ us hl=>match us,hl with|[_,_],_=>rfl)
  (case a49=>k_is);(case l49=>k_is);(case c49=>k_is);(case k49=>k_is);(case b49=>exact fun _ _ _ _ _ _ us hl=>match us,hl with|[_],_=>rfl)
  (case a50=>k_is);(case l50=>k_is);(case c50=>k_is);(case k50=>k_is);(case b50=>exact fun _ _ _ _ _ _ us hl=>match us,hl with|[_,_],_=>rfl)
  (case a51=>k_is);(case l51=>k_is);(case c51=>k_is);(case k51=>k_is);(case b51=>exact fun _ _ _ _ _ _ us hl=>match us,hl with|[_,_],_=>rfl)
  (case a52=>k_is);(case l52=>k_is);(case c52=>k_is);(case k52=>k_is);(case b52=>exact fun _ _ _ _ _ _ us hl=>match us,hl with|[_,_],_=>rfl)
  (case a53=>k_is);(case l53=>k_is);(case c53=>k_is);(case k53=>k_is);(case b53=>exact fun _ _ _ _ _ _ us hl=>match us,hl with|[_],_=>rfl)
  (case a54=>k_is);(case l54=>k_is);(case c54=>k_is);(case k54=>k_is);(case b54=>exact fun _ _ _ _ _ _ us hl=>match us,hl with|[_],_=>rfl)
  (case a55=>k_is);(case l55=>k_is);(case c55=>k_is);(case k55=>k_is);(case b55=>exact fun _ _ _ _ _ _ us hl=>match us,hl with|[_,_],_=>rfl)
  (case a56=>k_is);(case l56=>k_is);(case c56=>k_is);(case k56=>k_is);(case b56=>exact fun _ _ _ _ _ _ us hl=>match us,hl with|[_,_],_=>rfl)
  (case a57=>k_is);(case l57=>k_is);(case c57=>k_is);(case k57=>k_is);(case b57=>exact fun _ _ _ _ _ _ us hl=>match us,hl with|[_,_],_=>rfl)
  (case a58=>k_is);(case l58=>k_is);(case c58=>k_is);(case k58=>k_is);(case b58=>exact fun _ _ _ _ _ _ us hl=>match us,hl with|[_],_=>rfl)
  (case a59=>k_is);(case l59=>k_is);(case c59=>k_is);(case k59=>k_is);(case b59=>exact fun _ _ _ _ _ _ us hl=>match us,hl with|[_,_],_=>rfl)
  (case a60=>k_is);(case l60=>k_is);(case c60=>k_is);(case k60=>k_is);(case b60=>exact fun _ _ _ _ _ _ us hl=>match us,hl with|[_],_=>rfl)
  (case a61=>k_is);(case l61=>k_is);(case c61=>k_is);(case k61=>k_is);(case b61=>exact fun _ _ _ _ _ _ us hl=>match us,hl with|[_,_],_=>rfl)
  (case a62=>k_is);(case l62=>k_is);(case c62=>k_is);(case k62=>k_is);(case b62=>exact fun _ _ _ _ _ _ us hl=>match us,hl with|[_],_=>rfl)
  (case a63=>k_is);(case l63=>k_is);(case c63=>k_is);(case k63=>k_is);(case b63=>exact fun _ _ _ _ _ _ us hl=>match us,hl with|[_,_,_],_=>rfl)
  (case g1=>k_is)
  (case h1=>exact⟨_,rfl⟩)
#print axioms PySem.Challenge.cw_surefoot_k17_whole_roots_and_ratios_holds
