import PyProof.Rows.All
import Wide.All
import OpenK.AllK
import Wide.FinOn
import Lean
import PyProof.EqAt
import PyProof.EqKinds
import PyProof.TupleCall
import KE.KIntText
import KE.KTryMore
import KE.KLam
import PySem.Challenge.RW_surefoot_k15_whole_no_root_is_missed
set_option Elab.async false
set_option linter.all false
set_option maxRecDepth 100000
namespace L2
open PySem PySem.Spec PyProof.Rows
noncomputable abbrev Key:=Sum Int Str
noncomputable def EY:Key->Value->Bool
 |.inl k,v=>Value.isInt k v
 |.inr x,v=>Value.isStrOf x v
noncomputable def NT(w:World):Key->Int
 |.inl k=>hashInt k
 |.inr x=>hashStr w x
theorem cA:∀{k:Key}{v:Value},EY k v=true->(∃i t,k=Sum.inl i/\v=Value.int i t)\/(∃x t,k=Sum.inr x/\v=Value.str x t)
 |.inl i,v,h=>by
  obtain⟨t,e⟩:=Value.isInt_shape (k:=i) (v:=v) h;exact .inl ⟨i,t,rfl,e⟩
 |.inr x,v,h=>by
  obtain⟨t,e⟩:=Value.isStrOf_shape (x:=x) (v:=v) h;exact .inr ⟨x,t,rfl,e⟩
theorem Gp(a b:Int):decide ((Sum.inl a:Key)=Sum.inl b)=(a==b):=by
 by_cases e:a=b
 ·subst e;simp
 ·have h:¬(Sum.inl a:Key)=Sum.inl b:=fun q=>e (Sum.inl.inj q);rw[decide_eq_false h];exact(beq_eq_false_iff_ne.mpr e).symm
theorem Gq(a b:Str):decide ((Sum.inr a:Key)=Sum.inr b)=decide (a=b):=by
 by_cases e:a=b
 ·subst e;simp
 ·have h:¬(Sum.inr a:Key)=Sum.inr b:=fun q=>e (Sum.inr.inj q);rw[decide_eq_false h,decide_eq_false e]
theorem Gr(a:Int)(b:Str):decide ((Sum.inl a:Key)=Sum.inr b)=false:=decide_eq_false (fun q=>nomatch q)
theorem Gs(a:Str)(b:Int):decide ((Sum.inr a:Key)=Sum.inl b)=false:=decide_eq_false (fun q=>nomatch q)
noncomputable def qb(prog:Program)(w:World):PySem.KeyKind prog w Key where
 is:=EY
 hash:=NT w
 inj:=fun v a b ha hb=>by
  rcases cA ha with⟨i,t,rfl,rfl⟩|⟨x,t,rfl,rfl⟩
  ·rcases cA hb with⟨j,u,rfl,e⟩|⟨y,u,rfl,e⟩
   ·injection e with e1 _;rw[e1]
   ·exact nomatch e
  ·rcases cA hb with⟨j,u,rfl,e⟩|⟨y,u,rfl,e⟩
   ·exact nomatch e
   ·injection e with e1 _;rw[e1]
 byValue:=fun k v h=>by
  rcases cA h with⟨i,t,rfl,rfl⟩|⟨x,t,rfl,rfl⟩<;>rfl
 pyHash:=fun hv h=>by
  rcases cA hv with⟨i,t,rfl,rfl⟩|⟨x,t,rfl,rfl⟩
  ·exact wpAny_pyHash_int h
  ·exact wpAny_pyHash_str h
 eqBool:=fun hu hv h=>by
  rcases cA hu with⟨i,t,rfl,rfl⟩|⟨x,t,rfl,rfl⟩
  ·rcases cA hv with⟨j,u,rfl,rfl⟩|⟨y,u,rfl,rfl⟩
   ·rw[Gp] at h;exact wpAny_eqBool_int h
   ·rw[Gr] at h;exact SeqAt.EqAt.int_str i t y u _ _ _ _ h
  ·rcases cA hv with⟨j,u,rfl,rfl⟩|⟨y,u,rfl,rfl⟩
   ·rw[Gs] at h;exact SeqAt.EqAt.str_int x t j u _ _ _ _ h
   ·rw[Gq] at h;exact wpAny_eqBool_str h
 «strs»:=fun k x t v h=>by
  rcases cA h with⟨i,u,rfl,e⟩|⟨y,u,rfl,e⟩
  ·exact nomatch e
  ·injection e with e1 _;subst e1;cases v<;>rfl
end L2
namespace L2
open PySem PySem.Spec PyProof.Rows
inductive V where
 |gf|bl (b:Bool)|int (i:Int)|str (x:Str)|yu (b:Array UInt8)|Jj (b:UInt64)|ref (a:Addr)|ty (n:String)
 deriving DecidableEq
noncomputable def RelV:V->Value->Prop
 |.gf,u=>u=Value.none
 |.bl b,u=>u=Value.bool b
 |.int i,u=>∃t,u=Value.int i t
 |.str x,u=>∃t,u=Value.str x t
 |.yu b,u=>∃t,u=Value.bytes b t
 |.Jj b,u=>∃t,u=Value.float b t
 |.ref a,u=>u=Value.ref a
 |.ty n,u=>u=Value.type n
noncomputable abbrev Vals:List V->List Value->Prop:=Paired RelV
theorem Vals.length{xs:List V}{us:List Value}(r:Vals xs us):xs.length=us.length:=Paired.length r
theorem Vals.get:∀{xs:List V}{us:List Value}{i:Nat}{x:V},Vals xs us->xs[i]?=some x->∃u,us[i]?=some u/\RelV x u
 |_,_,_,_,.nil,e=>by simp at e
 |_,_,0,_,.cons r _,e=>by simp at e;subst e;exact⟨_,rfl,r⟩
 |_,_,i+1,x,.cons _ t,e=>by
  obtain⟨u,h1,h2⟩:=Vals.get (i:=i) (x:=x) t (by simpa using e);exact⟨u,by simpa using h1,h2⟩
theorem Vals.set{x:V}{u:Value}(r:RelV x u):∀{xs:List V}{us:List Value}(i:Nat),Vals xs us->Vals (xs.set i x) (us.set i u)
 |_,_,_,.nil=>.nil
 |_,_,0,.cons _ t=>.cons r t
 |_,_,i+1,.cons q t=>.cons q (Vals.set r i t)
theorem Vals.append:∀{xs ys:List V}{us ws:List Value},Vals xs us->Vals ys ws->Vals (xs++ys) (us++ws)
 |_,_,_,_,.nil,s=>s
 |_,_,_,_,.cons r t,s=>.cons r (Vals.append t s)
theorem Vals.take:∀{xs:List V}{us:List Value}(n:Nat),Vals xs us->Vals (xs.take n) (us.take n)
 |_,_,0,_=>.nil
 |_,_,_+1,.nil=>.nil
 |_,_,n+1,.cons r t=>.cons r (Vals.take n t)
theorem Vals.drop:∀{xs:List V}{us:List Value}(n:Nat),Vals xs us->Vals (xs.drop n) (us.drop n)
 |_,_,0,r=>r
 |_,_,_+1,.nil=>.nil
 |_,_,n+1,.cons _ t=>Vals.drop n t
noncomputable def Gu:Option V->Option Value->Prop
 |some v,some u=>RelV v u
 |none,none=>True
 |_,_=>False
noncomputable def KV{κ:Type}:List (κ×V)->List (κ×Value)->Prop:=Paired fun(p:κ×V)(q:κ×Value)=>p.1=q.1/\RelV p.2 q.2
noncomputable def kV:Key->V
 |.inl i=>.int i
 |.inr x=>.str x
inductive HO where
 |lst (xs:List V)
 |tup (xs:List V)
 |dK (gF:List (Key×V))|dT (gF:List (List Key×V))
 |set (S:Int->Bool) (n:Nat)
 |ins (C dx:Addr) (fs:List (Str×V))
 |own (x:Addr)
 |xd (fs:List (Str×V))
 |met (f x:Addr)
 |MX (lo hi:Int)
 |uO (o:Obj) (u:HO)
 |oX (ps:Array Value)
 |ext (φ:Heap->Prop)
noncomputable abbrev Hp:=Addr->Option HO
noncomputable def upd(H:Hp)(a:Addr)(o:HO):Hp:=fun b=>if b=a then some o else H b
theorem ai{H:Hp}{a:Addr}{o:HO}:upd H a o a=some o:=by unfold upd;rw[if_pos rfl]
theorem aq{H:Hp}{a b:Addr}{o:HO}(h:b≠a):upd H a o b=H b:=by unfold upd;rw[if_neg h]
theorem wL{H:Hp}{a:Addr}{o u:HO}:upd (upd H a o) a u=upd H a u:=by
 funext b;unfold upd;split<;>rfl
theorem aH{H:Hp}{a b:Addr}{o:HO}(h:H a=some o)(h':H b=none):a≠b:=by
 intro e;subst e;rw[h] at h';cases h'
section
variable (P:Program) (w:World)
noncomputable def cI(H:Hp)(h:Heap)(a:Addr):HO->Prop
 |.lst xs=>xs.length<=sizeLine/\∃(aK:List Value)(n:Nat),Vals xs aK/\h.get? a=some {cls:=.type "list",data:=.seq aK.toArray n}
 |.tup xs=>xs.length<=sizeLine/\∃aK:List Value,Vals xs aK/\IsTup h a aK.toArray
 |.dK gF=>gF.length<=sizeLine/\(a==sysModules)=false/\∃vs,KV gF vs/\h.DictOf (qb P w) a vs
 |.dT gF=>gF.length<=sizeLine/\(a==sysModules)=false/\∃xs:List (List Key×Addr×Value),
  Paired (fun(p:List Key×V)(q:List Key×Addr×Value)=>p.1=q.1/\H q.2.1=some (.tup (p.1.map kV))/\RelV p.2 q.2.2) gF xs/\
  ∃o es ep,h.get? a=some o/\o.ExactDict/\o.data=.dict es ep/\es.toList=xs.map (entryOfKey (tupleKind (qb P w)))/\(xs.map (·.1)).Nodup
 |.set S n=>h.SetOf (intKind P w) a S n
 |.ins C dx fs=>H dx=some (.own a)/\fs.length<=1000/\dx≠a/\h.get? a=some (PySem.W.instObj C dx)/\
  ∃mA,h.Ns1 dx mA/\(∀f,Gu (fs.lookup f) (mA f))/\PySem.Within mA (fs.map (·.1))
 |.own _=>∃o,h.get? a=some o
 |.xd fs=>∃mA,h.Ns1 a mA/\∀f,Gu (fs.lookup f) (mA f)
 |.MX lo hi=>∃t u v,h.get? a=some {cls:=.type "range",data:=.fields #[.int lo t,.int hi u,.int 1 v]}
 |.uO o u=>h.get? a=some o/\cI H h a u
 |.oX ps=>h.get? a=some {cls:=.none,data:=.fields ps}
 |.met f x=>h.get? a=some (PySem.W.methodObj (.ref f) (.ref x))
 |.ext φ=>φ h/\(∃o,h.get? a=some o)/\∀h1 h2:Heap,φ h1->(∀o,h1.get? a=some o->h2.get? a=some o)->φ h2
noncomputable def jc(H:Hp)(h:Heap):Prop:=∀a o,H a=some o->cI P w H h a o
end
section
variable {P:Program} {w:World} {H H':Hp} {h h':Heap} {a:Addr} {o:HO}
theorem cI.lt(x:cI P w H h a o):a<h.objs.size:=by
 cases o with
 |lst xs=>obtain⟨_,_,_,_,e⟩:=x;exact Heap.lt_size e
 |tup xs=>obtain⟨_,_,_,p⟩:=x;exact p.lt
 |dK gF=>obtain⟨_,_,_,_,o,_,_,e,_⟩:=x;exact Heap.lt_size e
 |dT gF=>obtain⟨_,_,_,_,o,_,_,e,_⟩:=x;exact Heap.lt_size e
 |set S n=>obtain⟨o,_,_,_,e,_⟩:=x;exact Heap.lt_size e
 |ins C dx fs=>obtain⟨_,_,_,e,_⟩:=x;exact Heap.lt_size e
 |own y=>obtain⟨_,e⟩:=x;exact Heap.lt_size e
 |xd fs=>obtain⟨_,⟨_,_,_,e,_⟩,_⟩:=x;exact Heap.lt_size e
 |MX lo hi=>obtain⟨_,_,_,e⟩:=x;exact Heap.lt_size e
 |uO ob u=>obtain⟨e,_⟩:=x;exact Heap.lt_size e
 |oX ps=>exact Heap.lt_size (show h.get? a=some _ from x)
 |met f y=>exact Heap.lt_size (show h.get? a=some _ from x)
 |ext φ=>obtain⟨_,⟨_,e⟩,_⟩:=x;exact Heap.lt_size e
theorem Paired.JV{α β:Type}{F G:α->β->Prop}:∀{l₁:List α}{JW:List β},Paired F l₁ JW->(∀a b,F a b->G a b)->Paired G l₁ JW
 |_,_,.nil,_=>.nil
 |_,_,.cons r t,f=>.cons (f _ _ r) (Paired.JV t f)
theorem cI.oy(x:cI P w H h a o)(k:∀b u,(b=a\/H b=some (.own a))->h.get? b=some u->h'.get? b=some u)(ho:∀b,H b=some (.own a)->H' b=some (.own a))(ht:∀b xs,H b=some (.tup xs)->H' b=some (.tup xs)):cI P w H' h' a o:=by
 induction o with
 |lst xs=>obtain⟨z,aK,n,r,e⟩:=x;exact⟨z,aK,n,r,k _ _ (.inl rfl) e⟩
 |tup xs=>obtain⟨z,aK,r,ob,e,c⟩:=x;exact⟨z,aK,r,ob,k _ _ (.inl rfl) e,c⟩
 |dK gF=>obtain⟨z,y,vs,r,ob,es,ep,e,c⟩:=x;exact⟨z,y,vs,r,ob,es,ep,k _ _ (.inl rfl) e,c⟩
 |dT gF=>
  obtain⟨z,y,xs,r,ob,es,ep,e,c⟩:=x;exact⟨z,y,xs,Paired.JV r fun p q z=>⟨z.1,ht _ _ z.2.1,z.2.2⟩,ob,es,ep,k _ _ (.inl rfl) e,c⟩
 |set S n=>obtain⟨ob,es,ep,t,e,c⟩:=x;exact⟨ob,es,ep,t,k _ _ (.inl rfl) e,c⟩
 |ins C dx fs=>
  obtain⟨d,z,ne,e,mA,⟨od,es,ep,e2,c⟩,r⟩:=x;exact⟨ho _ d,z,ne,k _ _ (.inl rfl) e,mA,⟨od,es,ep,k _ _ (.inr d) e2,c⟩,r⟩
 |own y=>obtain⟨ob,e⟩:=x;exact⟨ob,k _ _ (.inl rfl) e⟩
 |xd fs=>obtain⟨mA,⟨od,es,ep,e,c⟩,r⟩:=x;exact⟨mA,⟨od,es,ep,k _ _ (.inl rfl) e,c⟩,r⟩
 |MX lo hi=>obtain⟨t,u,v,e⟩:=x;exact⟨t,u,v,k _ _ (.inl rfl) e⟩
 |uO ob u ih=>obtain⟨e,q⟩:=x;exact⟨k _ _ (.inl rfl) e,ih q⟩
 |oX ps=>
  have e:h.get? a=some {cls:=.none,data:=.fields ps}:=x;show h'.get? a=some {cls:=.none,data:=.fields ps};exact k a _ (.inl rfl) e
 |met f y=>
  have e:h.get? a=some (PySem.W.methodObj (.ref f) (.ref y)):=x;show h'.get? a=some (PySem.W.methodObj (.ref f) (.ref y));exact k a _ (.inl rfl) e
 |ext φ=>obtain⟨p,⟨o,e⟩,st⟩:=x;exact⟨st _ _ p fun o q=>k _ _ (.inl rfl) q,⟨o,k _ _ (.inl rfl) e⟩,st⟩
theorem jc.lt(x:jc P w H h)(e:H a=some o):a<h.objs.size:=(x a o e).lt
theorem jc.fresh(x:jc P w H h)(e:h.objs.size<=a):H a=none:=by
 cases q:H a with
 |none=>rfl
 |some u=>exact absurd (Nat.lt_of_lt_of_le (x.lt q) e) (Nat.lt_irrefl _)
theorem jc.kept(x:jc P w H h)(k:∀b u,h.get? b=some u->h'.get? b=some u):jc P w H h':=fun a o e=>
 (x a o e).oy (fun b u _ q=>k b u q) (fun _ q=>q) fun _ _ q=>q
theorem jc.laid(x:jc P w H h)(k:∀b u,h.get? b=some u->h'.get? b=some u)(hp:h.objs.size<=a)(new:cI P w (upd H a o) h' a o):jc P w (upd H a o) h':=fun b u e=>by
 have hn:=x.fresh hp;by_cases hb:b=a
 ·subst hb;rw[ai] at e;cases e;exact new
 ·rw[aq hb] at e;exact(x b u e).oy (fun c v _ q=>k c v q) (fun c q=>by rw[aq (aH q hn)];exact q) fun c xs q=>by rw[aq (aH q hn)];exact q
end
noncomputable def Rd(H:Hp)(a:Addr)(u:HO):Prop:=H a=some u\/∃o,H a=some (.uO o u)
theorem Rd.ok{P:Program}{w:World}{H:Hp}{h:Heap}{a:Addr}{u:HO}(r:Rd H a u)(x:jc P w H h):cI P w H h a u:=by
 rcases r with r|⟨o,r⟩
 ·exact x a u r
 ·obtain⟨_,q⟩:=x a _ r;exact q
noncomputable def Jk:Option HO->Prop
 |some (.lst _)=>True
 |some (.dK _)=>True
 |some (.dT _)=>True
 |some (.set _ _)=>True
 |some (.ins _ _ _)=>True
 |some (.ext _)=>True
 |_=>False
section
variable {P:Program} {w:World} {H:Hp} {h h':Heap} {x e:Addr} {o':HO}
theorem jc.write(ok:jc P w H h)(mu:Jk (H x))(he:e=x\/H e=some (.own x))(k:∀b u,b≠e->h.get? b=some u->h'.get? b=some u)(Jl:∃u,h'.get? e=some u)(new:cI P w (upd H x o') h' x o'):jc P w (upd H x o') h':=fun b u q=>by
 have JX:∀c y,H c=some (.own y)->c≠x:=fun c y r z=>by subst z;rw[r] at mu;exact mu
 have NU:∀c xs,H c=some (.tup xs)->c≠x:=fun c xs r z=>by subst z;rw[r] at mu;exact mu
 by_cases hb:b=x
 ·subst hb;rw[ai] at q;cases q;exact new
 ·rw[aq hb] at q;by_cases rO:b=e
  ·have q':H b=some (.own x):=by
    rcases he with z|z
    ·exact absurd (rO.trans z) hb
    ·rw[rO];exact z
   rw[q] at q';cases q';obtain⟨v,hv⟩:=Jl;exact⟨v,by rw[rO];exact hv⟩
  ·refine(ok b u q).oy (fun c v hc r=>k c v ?_ r) (fun c r=>by rw[aq (JX c b r)];exact r) fun c xs r=>by rw[aq (NU c xs r)];exact r
   rcases hc with rfl|hc
   ·exact rO
   ·rintro rfl;rcases he with z|z
    ·exact JX c b hc z
    ·rw[hc] at z;cases z;exact hb rfl
end
structure Un(fs ex:List Addr)(H H':Hp)(h h':Heap):Prop where
 keep:∀b o,h.get? b=some o->H b=none->b∉fs->b∉ex->h'.get? b=some o
 slot:∀b o,h.get? b=some o->H b=none->b∈fs->b∉ex->∃sl,h'.get? b=some {o with slots:=sl}
 free:∀b o,h.get? b=some o->H b=none->b∉ex->H' b=none
 there:∀b o,h.get? b=some o->b∉ex->∃o',h'.get? b=some o'
 oz:∀b xs,H b=some (.tup xs)->H' b=some (.tup xs)
 mH:∀b o u,H b=some (.uO o u)->H' b=some (.uO o u)
 mI:∀b ps,H b=some (.oX ps)->∃more,H' b=some (.oX (ps++more))
section
variable {fs T6 ex Xt:List Addr} {H H1 H2:Hp} {h h1 h2 h':Heap} {a x e:Addr} {o:HO}
theorem Un.any(u:Un fs ex H H1 h h1){b:Addr}{ob:Obj}(q:h.get? b=some ob)(n:H b=none)(hx:b∉ex):∃sl,h1.get? b=some {ob with slots:=sl}:=by
 by_cases hb:b∈fs
 ·exact u.slot b ob q n hb hx
 ·exact⟨ob.slots,u.keep b ob q n hb hx⟩
theorem Un.kept(k:∀b u,h.get? b=some u->h'.get? b=some u):Un fs ex H H h h':=
 ⟨fun b ob q _ _ _=>k b ob q,fun b ob q _ _ _=>⟨ob.slots,k b ob q⟩,fun _ _ _ n _=>n,fun b ob q _=>⟨ob,k b ob q⟩,fun _ _ q=>q,fun _ _ _ q=>q,fun _ ps q=>⟨#[],by rw[q];simp⟩⟩
theorem Un.refl:Un fs ex H H h h:=Un.kept fun _ _ q=>q
theorem Un.laid(k:∀b u,h.get? b=some u->h'.get? b=some u)(hp:h.objs.size<=a)(hn:H a=none):Un fs ex H (upd H a o) h h' where
 keep:=fun b u q _ _ _=>k b u q
 slot:=fun b u q _ _ _=>⟨u.slots,k b u q⟩
 free:=fun b u q n _=>by rw[aq (Nat.ne_of_lt (Nat.lt_of_lt_of_le (Heap.lt_size q) hp))];exact n
 there:=fun b u q _=>⟨u,k b u q⟩
 oz:=fun b xs q=>by rw[aq (aH q hn)];exact q
 mH:=fun b u xs q=>by rw[aq (aH q hn)];exact q
 mI:=fun b ps q=>⟨#[],by rw[aq (aH q hn),q];simp⟩
theorem Un.write(mu:Jk (H x))(he:e=x\/H e=some (.own x))(k:∀b u,b≠e->h.get? b=some u->h'.get? b=some u)(Jl:∃u,h'.get? e=some u):Un fs ex H (upd H x o) h h':=by
 have hx:∀b,H b=none->b≠x:=fun b n z=>by subst z;rw[n] at mu;exact mu
 have hb:∀b,H b=none->b≠e:=fun b n z=>by
  subst z;rcases he with r|r
  ·exact hx b n r
  ·rw[n] at r;cases r
 have hm:∀b u,H b=some u->¬Jk (some u)->b≠x:=fun b u q nm z=>by subst z;rw[q] at mu;exact nm mu
 refine⟨fun b u q n _ _=>k b u (hb b n) q,fun b u q n _ _=>⟨u.slots,k b u (hb b n) q⟩,fun b u q n _=>by rw[aq (hx b n)];exact n,fun b u q _=>?_,
  fun b xs q=>by rw[aq (hm b _ q fun z=>z)];exact q,fun b u xs q=>by rw[aq (hm b _ q fun z=>z)];exact q,fun b ps q=>⟨#[],by rw[aq (hm b _ q fun z=>z),q];simp⟩⟩;by_cases rO:b=e
 ·subst rO;exact Jl
 ·exact⟨u,k b u rO q⟩
end
noncomputable def rP(h:Heap)(H:Hp):List Addr:=(List.range h.objs.size).filter fun a=>(H a).isSome
noncomputable def mJ(h:Heap)(H:Hp):Heap:=PySem.W.hideAll h (rP h H)
theorem yv(h:Heap)(H:Hp):(mJ h H).objs.size=h.objs.size:=PySem.W.hideAll_size _ _
theorem jO{h:Heap}{H:Hp}{b:Addr}{o:Obj}(e:h.get? b=some o)(n:H b=none):(mJ h H).get? b=some o:=
 PySem.W.hideAll_get _ e fun hm=>by
  have q:(H b).isSome=true:=(List.mem_filter.mp hm).2;rw[n] at q;simp at q
theorem Dc{h:Heap}{H:Hp}{b:Addr}{o:Obj}(e:(mJ h H).get? b=some o):h.get? b=some o/\H b=none:=by
 have e':h.get? b=some o:=PySem.W.of_hideAll (rP h H) e;refine⟨e',?_⟩;cases q:H b with
 |none=>rfl
 |some x=>
  have hm:b∈rP h H:=List.mem_filter.mpr ⟨List.mem_range.mpr (Heap.lt_size e'),by simp[q]⟩;have z:(mJ h H).get? b=none:=PySem.W.hideAll_none (rP h H) hm;rw[z] at e;cases e
noncomputable def Dd(g h:Heap)(L:Addr):List (Addr×Obj):=(List.range h.objs.size).filterMap fun a=>if a=L\/(g.get? a).isSome=true then none else(h.get? a).map fun o=>(a,o)
noncomputable def rest(g h:Heap)(L d:Addr):List (Addr×Obj):=(Dd g h L).filter fun p=>decide (p.1≠d)
end L2
namespace L2
open PySem PySem.Spec PyProof.Rows
structure Mod(K:PySem.W.Frag)(mg:Str->Option Value)(base:Heap):Prop where
 Gv:K.In base
 glob:base.Ns mainGlobals mg
 blt:∃mb,base.Ns builtinsNs mb/\∀x:Str,x≠"__name__"->mb x=bootBuiltins x
 nolimit:base.NoLimit
 seer:base.NoSeer
structure Cx where
 prog:Program
 w:World
 K:PySem.W.Frag
 mg:Str->Option Value
 base:Heap
 A:Around
 N:List Str
 fh:Shared
 yw:Hp
 env:Env
 outer:List Env
 stack:List Env
 ex:List Addr
 fn:Str->Bool
 calm:Bool
 pn:List (Addr×Obj)
 xe:Value->Shared->Prop
noncomputable def rH(l:List Env):List Addr:=l.filterMap (·.frame)
noncomputable abbrev Cx.fs(X:Cx):List Addr:=rH X.outer
noncomputable def JY(sc:Scope)(x:Str):Prop:=sc.names.lookup x=some .local\/sc.names.lookup x=some .cell\/sc.names.lookup x=some .free
noncomputable def Loc(sc:Scope)(x:Str):Prop:=sc.names.lookup x=some .local\/sc.names.lookup x=some .cell
noncomputable def Look(env:Env)(h:Heap)(m:Str->Option Value)(x:Str)(u:Value):Prop:=
 (env.kindOf x=some .local/\m x=some u)\/((env.kindOf x=some .cell\/env.kindOf x=some .free)/\∃c,env.cells.lookup x=some c/\h.IsCell c (some u))
structure Cx.Ok(X:Cx):Prop where
 mod:Mod X.K X.mg X.base
 kind:X.env.scope.kind=.function
 glob:X.env.globals=mainGlobals
 blt:X.env.builtins=builtinsNs
 above:X.fh.heap.objs.size<=X.env.locals
 inj:∀x y c,X.env.cells.lookup x=some c->X.env.cells.lookup y=some c->x=y
 has:∀x,(X.env.kindOf x=some .cell\/X.env.kindOf x=some .free)->∃c,X.env.cells.lookup x=some c
 EZ:∀x c,X.fn x=true->X.env.cells.lookup x=some c->X.fh.heap.objs.size<=c
 hd:X.calm=true->X.A.handled=none
 frames:X.A.frames=some X.stack
 Gw:X.stack=X.outer\/(X.stack=X.env::X.outer/\X.env.frame=some X.env.locals)
 JZ:∀b∈X.ex,b≠X.env.locals/\∀x c,X.env.cells.lookup x=some c->c≠b
 bs:∀b o,X.base.get? b=some o->X.fh.heap.get? b=some o/\X.yw b=none
 yx:X.base.objs.size<=X.fh.heap.objs.size
 rQ:∀b o,X.base.get? b=some o->b∉X.ex
 uS:∀b∈X.ex,b∉X.fs
 jo:X.fh.heap.FunFrames X.base X.outer
 z_:∀b∈X.fs,X.yw b=none
structure Inv(X:Cx)(pins:List (Addr×Obj))(σ:List (Option V))(H:Hp)(s:Shared):Prop where
 ok:X.Ok
 os:s.os=X.fh.os
 bare:AllBare s.gens
 base:Un X.fs X.ex X.yw H X.fh.heap s.heap
 loc:∃m,s.heap.Ns X.env.locals m/\∀(i:Nat)(x:Str)(v:V),X.N[i]?=some x->σ[i]?=some (some v)->JY X.env.scope x->∃u,RelV v u/\Look X.env s.heap m x u
 cell:∀x c,X.env.cells.lookup x=some c->∃v,s.heap.IsCell c v
 free:H X.env.locals=none
 fj:∀x c,X.env.cells.lookup x=some c->H c=none
 pin:∀p∈X.pn++pins,s.heap.get? p.1=some p.2/\H p.1=none/\p.1≠X.env.locals/\p.1∉X.fs/\∀v,p.2.data≠.cell v
 bO:jc X.prog X.w H s.heap
 len:σ.length=X.N.length
section
variable {X:Cx} {pins:List (Addr×Obj)} {σ:List (Option V)} {H H':Hp} {s:Shared} {h':Heap}
theorem Cx.Ok.NV(ok:X.Ok){b:Addr}{o:Obj}(e:X.base.get? b=some o):b∉X.fs:=fun hb=>by
 have:=(ok.jo.mem hb).1;rw[e] at this;cases this
theorem Inv.bs(I:Inv X pins σ H s):∀b o,X.base.get? b=some o->s.heap.get? b=some o/\H b=none:=fun b o e=>
 ⟨I.base.keep b o (I.ok.bs b o e).1 (I.ok.bs b o e).2 (I.ok.NV e) (I.ok.rQ b o e),I.base.free b o (I.ok.bs b o e).1 (I.ok.bs b o e).2 (I.ok.rQ b o e)⟩
theorem Inv.bk(I:Inv X pins σ H s):∀b o,X.base.get? b=some o->s.heap.get? b=some o:=fun b o e=>(I.bs b o e).1
theorem Inv.mod(I:Inv X pins σ H s):Mod X.K X.mg X.base:=I.ok.mod
theorem Inv.ou(I:Inv X pins σ H s):X.K.In s.heap:=I.ok.mod.Gv.keeps I.bk
theorem Inv.nolimit(I:Inv X pins σ H s):s.heap.NoLimit:=I.ok.mod.nolimit.keeps I.bk
theorem Inv.lt(I:Inv X pins σ H s):X.env.locals<s.heap.objs.size:=let⟨_,hn,_⟩:=I.loc;hn.lt
theorem Inv.sz(I:Inv X pins σ H s):X.fh.heap.objs.size<=s.heap.objs.size:=Nat.le_trans I.ok.above (Nat.le_of_lt I.lt)
theorem Inv.NW(I:Inv X pins σ H s){a:Addr}(h:s.heap.objs.size<=a):a∉X.fs:=fun hb=>by
 obtain⟨_,o,ho,_⟩:=I.ok.jo.mem hb;exact absurd (Nat.lt_of_lt_of_le (Heap.lt_size ho) (Nat.le_trans I.sz h)) (Nat.lt_irrefl _)
theorem Inv.De(I:Inv X pins σ H s):∀x c,X.env.cells.lookup x=some c->c≠X.env.locals:=fun x c e z=>by
 obtain⟨v,o,ho,hd⟩:=I.cell x c e;obtain⟨m,⟨o',es,ep,Aa,CV,_⟩,_⟩:=I.loc;rw[z,Aa] at ho;cases ho;rw[CV] at hd;cases hd
theorem Inv.jo(I:Inv X pins σ H s):s.heap.FunFrames X.base X.outer:=by
 have all:∀(l:List Env),(∀b∈rH l,b∈X.fs)->X.fh.heap.FunFrames X.base l->s.heap.FunFrames X.base l:=by
  intro l
  induction l with
  |nil=>intro _ _;trivial
  |cons env r ih=>
   intro hs hl;obtain⟨hk,⟨L,o,hf,hn,ho,hd⟩,hr⟩:=hl;have hL:L∈X.fs:=hs L (by unfold rH;rw[List.filterMap_cons,hf];exact List.mem_cons_self);obtain⟨sl,e⟩:=I.base.slot L o ho (I.ok.z_ L hL) hL fun z=>I.ok.uS L z hL;exact⟨hk,⟨L,_,hf,hn,e,hd⟩,ih (fun b hb=>hs b (by unfold rH;rw[List.filterMap_cons,hf];exact List.mem_cons_of_mem _ hb)) hr⟩
 exact all X.outer (fun _ hb=>hb) I.ok.jo
theorem Inv.stack(I:Inv X pins σ H s):s.heap.FunFrames X.base X.stack:=by
 rcases I.ok.Gw with e|⟨e,hf⟩
 ·rw[e];exact I.jo
 ·rw[e];obtain⟨m,hn,_⟩:=I.loc;refine .cons (by rw[I.ok.kind];decide) hf hn ?_ I.jo;exact Heap.get?_none_of_le (Nat.le_trans I.ok.yx I.ok.above)
theorem Inv.qc(I:Inv X pins σ H s):∀b∈rH X.stack,b∈X.env.locals::X.fs:=fun b hb=>by
 rcases I.ok.Gw with e|⟨e,hf⟩
 ·rw[e] at hb;exact List.mem_cons_of_mem _ hb
 ·rw[e] at hb;unfold rH at hb;rw[List.filterMap_cons,hf] at hb;exact hb
theorem Inv.qd(I:Inv X pins σ H s):∀b∈rH X.stack,H b=none:=fun b hb=>by
 rcases List.mem_cons.mp (I.qc b hb) with e|hb
 ·rw[e];exact I.free
 ·obtain⟨_,o,ho,_⟩:=I.ok.jo.mem hb;exact I.base.free b o ho (I.ok.z_ b hb) fun z=>I.ok.uS b z hb
theorem Inv.step{g':Array GenState}{t':Nat}{d':Drawn}{ch:List Addr}(I:Inv X pins σ H s)(uT:∀b∈ch,(b∈X.ex\/X.fh.heap.objs.size<=b)/\b≠X.env.locals/\(∀x c,X.env.cells.lookup x=some c->c≠b)/\∀p∈X.pn++pins,p.1≠b)(keep:∀b o,b≠X.env.locals->b∉X.fs->b∉ch->s.heap.get? b=some o->H b=none->h'.get? b=some o)(slot:∀b o,b≠X.env.locals->b∈X.fs->b∉ch->s.heap.get? b=some o->H b=none->∃sl,h'.get? b=some {o with slots:=sl})(free:∀b o,b∉ch->s.heap.get? b=some o->H b=none->H' b=none)(there:∀b o,b∉ch->s.heap.get? b=some o->∃o',h'.get? b=some o')(oz:∀b xs,H b=some (.tup xs)->H' b=some (.tup xs))(mH:∀b o u,H b=some (.uO o u)->H' b=some (.uO o u))(mI:∀b ps,H b=some (.oX ps)->∃more,H' b=some (.oX (ps++more)))(ns:∀m,s.heap.Ns X.env.locals m->h'.Ns X.env.locals m)(bO:jc X.prog X.w H' h')(hg:AllBare g'):
 Inv X pins σ H' {s with heap:=h',gens:=g',drawn:=d',toks:=t'}:=by
 have Rj:∀b o,X.fh.heap.get? b=some o->b≠X.env.locals:=fun b o e=>Nat.ne_of_lt (Nat.lt_of_lt_of_le (Heap.lt_size e) I.ok.above);have J0:∀b o,X.fh.heap.get? b=some o->b∉X.ex->b∉ch:=fun b o e hx hb=>by
  rcases(uT b hb).1 with z|z
  ·exact hx z
  ·exact absurd (Nat.lt_of_lt_of_le (Heap.lt_size e) z) (Nat.lt_irrefl _)
 have cellK:∀x c,X.env.cells.lookup x=some c->∀v,s.heap.IsCell c v->h'.IsCell c v:=fun x c e v⟨o,ho,hd⟩=>by
  have J4:c∉ch:=fun z=>(uT c z).2.2.1 x c e rfl;by_cases hc:c∈X.fs
  ·obtain⟨sl,q⟩:=slot c o (I.De x c e) hc J4 ho (I.fj x c e);exact⟨_,q,hd⟩
  ·exact⟨o,keep c o (I.De x c e) hc J4 ho (I.fj x c e),hd⟩
 refine⟨I.ok,I.os,hg,⟨fun b o e n hb hx=>?_,fun b o e n hb hx=>?_,fun b o e n hx=>?_,fun b o e hx=>?_,fun b xs e=>oz b xs (I.base.oz b xs e),fun b o xs e=>mH b o xs (I.base.mH b o xs e),fun b ps e=>?_⟩,?_,fun x c e=>?_,?_,fun x c e=>?_,fun p hp=>?_,bO,I.len⟩
 ·exact keep b o (Rj b o e) hb (J0 b o e hx) (I.base.keep b o e n hb hx) (I.base.free b o e n hx)
 ·obtain⟨sl,e1⟩:=I.base.slot b o e n hb hx;obtain⟨NX,e2⟩:=slot b _ (Rj b o e) hb (J0 b o e hx) e1 (I.base.free b o e n hx);exact⟨NX,e2⟩
 ·obtain⟨o',e1⟩:=I.base.there b o e hx;exact free b o' (J0 b o e hx) e1 (I.base.free b o e n hx)
 ·obtain⟨o',e1⟩:=I.base.there b o e hx;exact there b o' (J0 b o e hx) e1
 ·obtain⟨m1,e1⟩:=I.base.mI b ps e;obtain⟨m2,e2⟩:=mI b _ e1;exact⟨m1++m2,by rw[e2,Array.append_assoc]⟩
 ·obtain⟨m,hn,hl⟩:=I.loc;refine⟨m,ns m hn,fun i x v e1 e2 e3=>?_⟩;obtain⟨u,r,l⟩:=hl i x v e1 e2 e3;refine⟨u,r,?_⟩;rcases l with l|⟨k,c,e,z⟩
  ·exact .inl l
  ·exact .inr ⟨k,c,e,cellK x c e _ z⟩
 ·obtain⟨v,z⟩:=I.cell x c e;exact⟨v,cellK x c e v z⟩
 ·obtain⟨m,⟨o,_,_,ho,_⟩,_⟩:=I.loc;exact free _ o (fun z=>(uT _ z).2.1 rfl) ho I.free
 ·obtain⟨v,o,ho,hd⟩:=I.cell x c e;exact free c o (fun z=>(uT c z).2.2.1 x c e rfl) ho (I.fj x c e)
 ·obtain⟨e,n,ne,nf,d⟩:=I.pin p hp;have J4:p.1∉ch:=fun z=>(uT p.1 z).2.2.2 p hp rfl;exact⟨keep p.1 p.2 ne nf J4 e n,free p.1 p.2 J4 e n,ne,nf,d⟩
theorem Inv.un{t':Nat}(I:Inv X pins σ H s)(u:Un X.fs [] H H' s.heap h')(bO:jc X.prog X.w H' h'):Inv X pins σ H' {s with heap:=h',toks:=t'}:=by
 obtain⟨m,⟨o,es,ep,ho,r⟩,_⟩:=id I.loc;obtain⟨sl,hL⟩:=u.any ho I.free (by simp);exact I.step (g':=s.gens) (d':=s.drawn) (ch:=[]) (fun _ z=>nomatch z) (fun b o _ hb _ e n=>u.keep b o e n hb (by simp)) (fun b o _ hb _ e n=>u.slot b o e n hb (by simp)) (fun b o _ e n=>u.free b o e n (by simp)) (fun b o _ e=>u.there b o e (by simp)) u.oz u.mH u.mI (fun m' hm=>by
  obtain⟨o',NY,NZ,Aa,r'⟩:=hm
  rw[ho] at Aa;cases Aa
  exact⟨_,NY,NZ,hL,r'⟩) bO I.bare
theorem Inv.call{g':Array GenState}{t':Nat}{d':Drawn}{ch:List Addr}(I:Inv X pins σ H s)(u:Un (rH X.stack) ch H H' s.heap h')(bO:jc X.prog X.w H' h')(hg:AllBare g')(uT:∀b∈ch,(b∈X.ex\/X.fh.heap.objs.size<=b)/\b≠X.env.locals/\(∀x c,X.env.cells.lookup x=some c->c≠b)/\∀p∈X.pn++pins,p.1≠b):
 Inv X pins σ H' {s with heap:=h',gens:=g',drawn:=d',toks:=t'}:=by
 obtain⟨m,⟨o,es,ep,ho,r⟩,_⟩:=id I.loc;obtain⟨sl,hL⟩:=u.any ho I.free fun z=>(uT _ z).2.1 rfl;exact I.step (ch:=ch) uT (fun b o hL hb hc e n=>u.keep b o e n (fun z=>(List.mem_cons.mp (I.qc b z)).elim hL hb) hc) (fun b o _ _ hc e n=>u.any e n hc) (fun b o hc e n=>u.free b o e n hc) (fun b o hc e=>u.there b o e hc) u.oz u.mH u.mI (fun m' hm=>by
  obtain⟨o',NY,NZ,Aa,r'⟩:=hm
  rw[ho] at Aa;cases Aa
  exact⟨_,NY,NZ,hL,r'⟩) bO hg
theorem Inv.turned{t':Nat}{it:Addr}(I:Inv X pins σ H s)(k:∀b o,b≠it->s.heap.get? b=some o->h'.get? b=some o)(hn:H it=none)(hL:it≠X.env.locals)(h1:it∈X.ex\/X.fh.heap.objs.size<=it)(h2:∀x c,X.env.cells.lookup x=some c->c≠it)(h3:∀p∈X.pn++pins,p.1≠it):Inv X pins σ H {s with heap:=h',toks:=t'}:=by
 have Rk:∀b u,H b=some u->b≠it:=fun b u e z=>by rw[z,hn] at e;cases e
 refine I.step (g':=s.gens) (d':=s.drawn) (ch:=[it]) (fun b hb=>?_) (fun b o _ _ hc e _=>k b o (fun z=>hc (by simp[z])) e) (fun b o _ _ hc e _=>⟨o.slots,k b o (fun z=>hc (by simp[z])) e⟩) (fun _ _ _ _ n=>n)
  (fun b o hc e=>⟨o,k b o (fun z=>hc (by simp[z])) e⟩) (fun _ _ e=>e) (fun _ _ _ e=>e) (fun b ps e=>⟨#[],by rw[e];simp⟩) (fun m hm=>?_) (fun b u e=>?_) I.bare
 ·have e:b=it:=by simpa using hb
  subst e;exact⟨h1,hL,h2,h3⟩
 ·obtain⟨o,es,ep,ho,r⟩:=hm;exact⟨o,es,ep,k _ o (Ne.symm hL) ho,r⟩
 ·refine(I.bO b u e).oy (fun c v hc q=>k c v ?_ q) (fun _ q=>q) fun _ _ q=>q;rcases hc with z|z
  ·rw[z];exact Rk b u e
  ·exact Rk c _ z
theorem Inv.tok(I:Inv X pins σ H s)(t:Nat):Inv X pins σ H {s with toks:=t}:=I.un (h':=s.heap) (t':=t) Un.refl I.bO
theorem Inv.kept{t':Nat}(I:Inv X pins σ H s)(k:∀b u,s.heap.get? b=some u->h'.get? b=some u):Inv X pins σ H {s with heap:=h',toks:=t'}:=I.un (Un.kept k) (I.bO.kept k)
theorem Inv.laid{a:Addr}{o:HO}{t':Nat}(I:Inv X pins σ H s)(k:∀b u,s.heap.get? b=some u->h'.get? b=some u)(hp:s.heap.objs.size<=a)(new:cI X.prog X.w (upd H a o) h' a o):
 Inv X pins σ (upd H a o) {s with heap:=h',toks:=t'}:=I.un (Un.laid k hp (I.bO.fresh hp)) (I.bO.laid k hp new)
theorem Inv.write{x e:Addr}{o:HO}{t':Nat}(I:Inv X pins σ H s)(mu:Jk (H x))(he:e=x\/H e=some (.own x))(k:∀b u,b≠e->s.heap.get? b=some u->h'.get? b=some u)(Jl:∃u,h'.get? e=some u)(new:cI X.prog X.w (upd H x o) h' x o):Inv X pins σ (upd H x o) {s with heap:=h',toks:=t'}:=I.un (Un.write mu he k Jl) (I.bO.write mu he k Jl new)
theorem Inv.wM{mK:List (Addr×Obj)}(I:Inv X pins σ H s)(h:∀p∈mK,s.heap.get? p.1=some p.2/\H p.1=none/\p.1≠X.env.locals/\p.1∉X.fs/\∀v,p.2.data≠.cell v):Inv X mK σ H s:=
 ⟨I.ok,I.os,I.bare,I.base,I.loc,I.cell,I.free,I.fj,fun p hp=>(List.mem_append.mp hp).elim (fun z=>I.pin p (List.mem_append_left _ z)) (h p),I.bO,I.len⟩
theorem mL{N:List Str}(hN:N.Nodup){i j:Nat}{x:Str}(a:N[i]?=some x)(b:N[j]?=some x):i=j:=by
 obtain⟨h1,e1⟩:=List.getElem?_eq_some_iff.mp a;obtain⟨h2,e2⟩:=List.getElem?_eq_some_iff.mp b;exact(List.getElem_inj hN).mp (e1.trans e2.symm)
theorem oY{M:Model}{A:Around}{E:Value->Shared->Prop}{i:Nat}{x:Str}{v:V}{u:Value}{Q:Unit->Shared->Prop}(I:Inv X pins σ H s)(hN:X.N.Nodup)(hi:X.N[i]?=some x)(hx:Loc X.env.scope x)(r:RelV v u)(h:∀s',Inv X pins (σ.set i (some v)) H s'->(∃a,Heap.SameBut a s.heap s'.heap/\(a=X.env.locals\/X.env.cells.lookup x=some a))->Q () s')(hf:X.fn x=true\/X.env.scope.names.lookup x=some .local:=by first|exact .inl rfl|exact .inr rfl|assumption):wpAny M A (storeName X.env x u) Q E s:=by
 obtain⟨m,hn,hl⟩:=id I.loc;have Gx:(X.env.scope.kind==.class||(X.env.scope.kind==.module&&X.env.locals !=X.env.globals))=false:=by rw[I.ok.kind];rfl
 have Df:i<σ.length:=by rw[I.len];exact(List.getElem?_eq_some_iff.mp hi).1
 have De:=I.De;have tracked:∀{a:Addr}{h':Heap},(∃o,s.heap.get? a=some o/\H a=none)->Heap.SameBut a s.heap h'->jc X.prog X.w H h':=fun{a h'} ha hs b ob e=>by
  obtain⟨_,_,E2⟩:=ha;refine(I.bO b ob e).oy (fun c w' hc q=>(hs.2 c ?_).trans q) (fun _ q=>q) fun _ _ q=>q;rintro rfl;rcases hc with rfl|hc
  ·rw[E2] at e;cases e
  ·rw[E2] at hc;cases hc
 rcases hx with hk|hk
 ·refine wpAny_storeName_local hk hn (fun h' wN hs=>?_) Gx;obtain⟨oL,_,_,T7,_⟩:=id hn;refine h _ ⟨I.ok,I.os,I.bare,⟨fun b o e n hb hx=>?_,fun b o e n hb hx=>?_,I.base.free,fun b o e hx=>?_,I.base.oz,I.base.mH,I.base.mI⟩,⟨_,wN,fun j y v' e1 e2 e3=>?_⟩,fun y c e=>?_,I.free,I.fj,fun p hp=>?_,tracked ⟨oL,T7,I.free⟩ hs,by simpa using I.len⟩ ⟨_,hs,.inl rfl⟩
  ·exact(hs.2 b (Nat.ne_of_lt (Nat.lt_of_lt_of_le (Heap.lt_size e) I.ok.above))).trans (I.base.keep b o e n hb hx)
  ·obtain⟨sl,e1⟩:=I.base.slot b o e n hb hx;exact⟨sl,(hs.2 b (Nat.ne_of_lt (Nat.lt_of_lt_of_le (Heap.lt_size e) I.ok.above))).trans e1⟩
  ·obtain⟨o',e1⟩:=I.base.there b o e hx;exact⟨o',(hs.2 b (Nat.ne_of_lt (Nat.lt_of_lt_of_le (Heap.lt_size e) I.ok.above))).trans e1⟩
  ·by_cases hj:j=i
   ·subst hj;rw[hi] at e1;cases e1;rw[List.getElem?_set_self Df] at e2;cases e2;exact⟨u,r,.inl ⟨hk,by simp⟩⟩
   ·rw[List.getElem?_set_ne (Ne.symm hj)] at e2;obtain⟨u',r',q⟩:=hl j y v' e1 e2 e3;refine⟨u',r',?_⟩;rcases q with⟨k,e⟩|⟨k,c,e,z⟩
    ·refine .inl ⟨k,?_⟩;have:y≠x:=fun e=>hj (mL hN e1 (e▸hi));simp[this,e]
    ·exact .inr ⟨k,c,e,z.sameBut hs (De y c e)⟩
  ·obtain⟨w',z⟩:=I.cell y c e;exact⟨w',z.sameBut hs (De y c e)⟩
  ·obtain⟨e,n,ne,nf,d⟩:=I.pin p hp;exact⟨(hs.2 p.1 ne).trans e,n,ne,nf,d⟩
 ·have Dg:X.fn x=true:=by
   rcases hf with z|z
   ·exact z
   ·rw[z] at hk;cases hk
  obtain⟨c,hc⟩:=I.ok.has x (.inl hk);obtain⟨w',z⟩:=I.cell x c hc;refine wpAny_storeName_cell I.ok.kind hk hc z (fun h' Gy hs=>?_);obtain⟨oc,MY,N0⟩:=id z;refine h {s with heap:=h'} ⟨I.ok,I.os,I.bare,⟨fun b o e n hb hx=>?_,fun b o e n hb hx=>?_,I.base.free,fun b o e hx=>?_,I.base.oz,I.base.mH,I.base.mI⟩,⟨m,hn.sameBut hs (Ne.symm (De x c hc)),fun j y v' e1 e2 e3=>?_⟩,fun y c' e=>?_,I.free,I.fj,fun p hp=>?_,tracked ⟨oc,MY,I.fj x c hc⟩ hs,by simpa using I.len⟩ ⟨c,hs,.inr hc⟩
  ·exact(hs.2 b (Nat.ne_of_lt (Nat.lt_of_lt_of_le (Heap.lt_size e) (I.ok.EZ x c Dg hc)))).trans (I.base.keep b o e n hb hx)
  ·obtain⟨sl,e1⟩:=I.base.slot b o e n hb hx;exact⟨sl,(hs.2 b (Nat.ne_of_lt (Nat.lt_of_lt_of_le (Heap.lt_size e) (I.ok.EZ x c Dg hc)))).trans e1⟩
  ·obtain⟨o',e1⟩:=I.base.there b o e hx;exact⟨o',(hs.2 b (Nat.ne_of_lt (Nat.lt_of_lt_of_le (Heap.lt_size e) (I.ok.EZ x c Dg hc)))).trans e1⟩
  ·by_cases hj:j=i
   ·subst hj;rw[hi] at e1;cases e1;rw[List.getElem?_set_self Df] at e2;cases e2;exact⟨u,r,.inr ⟨.inl hk,c,hc,Gy⟩⟩
   ·rw[List.getElem?_set_ne (Ne.symm hj)] at e2;obtain⟨u',r',q⟩:=hl j y v' e1 e2 e3;refine⟨u',r',?_⟩;rcases q with q|⟨k,c',e,z'⟩
    ·exact .inl q
    ·refine .inr ⟨k,c',e,z'.sameBut hs ?_⟩;rintro rfl;exact hj (mL hN e1 (I.ok.inj _ _ _ e hc▸hi))
  ·by_cases N1:c'=c
   ·subst N1;exact⟨_,Gy⟩
   ·obtain⟨w2,z2⟩:=I.cell y c' e;exact⟨w2,z2.sameBut hs N1⟩
  ·obtain⟨e,n,ne,nf,d⟩:=I.pin p hp;refine⟨(hs.2 p.1 ?_).trans e,n,ne,nf,d⟩;intro q;rw[q,MY] at e;have q':oc=p.2:=Option.some.inj e;exact d w' (by rw[<-q'];exact N0)
theorem mM{M:Model}{A:Around}{E:Value->Shared->Prop}{i:Nat}{x:Str}{v:V}{u:Value}{Q:Unit->Shared->Prop}(I:Inv X pins σ H s)(hN:X.N.Nodup)(hi:X.N[i]?=some x)(hx:Loc X.env.scope x)(r:RelV v u)(h:∀s',Inv X pins (σ.set i (some v)) H s'->Q () s')(hf:X.fn x=true\/X.env.scope.names.lookup x=some .local:=by first|exact .inl rfl|exact .inr rfl|assumption):wpAny M A (storeName X.env x u) Q E s:=
 oY I hN hi hx r (fun s' I' _=>h s' I') hf
theorem Inv.E3{s':Shared}{ch:List Addr}(I:Inv X pins σ H s)(ho:s'.os=s.os)(u:Un (rH X.stack) ch H H' s.heap s'.heap)(bO:jc X.prog X.w H' s'.heap)(hg:AllBare s'.gens)(uT:∀b∈ch,(b∈X.ex\/X.fh.heap.objs.size<=b)/\b≠X.env.locals/\(∀x c,X.env.cells.lookup x=some c->c≠b)/\∀p∈X.pn++pins,p.1≠b):Inv X pins σ H' s':=by
 obtain⟨h',g',d',t',o'⟩:=s';have e:o'=s.os:=ho;subst e;exact I.call (g':=g') (t':=t') (d':=d') u bO hg uT
end
noncomputable abbrev XK:=Value->Option Addr->Hp->Prop
noncomputable abbrev St:=List (Option V)
noncomputable abbrev VK:=V->Hp->Prop
noncomputable abbrev TE:=St->Hp->VK->Prop
noncomputable abbrev TT:=St->Hp->(Bool->Hp->Prop)->Prop
noncomputable abbrev TA:=St->Hp->(List V->Hp->Prop)->Prop
structure Ends where
 nx:St->Hp->Prop
 rt:VK
 bk:St->Hp->Prop:=fun _ _=>False
 ct:St->Hp->Prop:=fun _ _=>False
noncomputable abbrev TS:=Ends->St->Hp->Prop
noncomputable def EP(X:Cx)(pins:List (Addr×Obj))(σ:St)(Q:VK)(u:Value)(s':Shared):Prop:=∃v H',Inv X pins σ H' s'/\RelV v u/\Q v H'
noncomputable def TP(X:Cx)(pins:List (Addr×Obj))(σ:St)(Q:Bool->Hp->Prop)(b:Bool)(s':Shared):Prop:=∃H',Inv X pins σ H' s'/\Q b H'
noncomputable def AP(X:Cx)(pins:List (Addr×Obj))(σ:St)(Q:List V->Hp->Prop)(us:List Value)(s':Shared):Prop:=∃vs H',Inv X pins σ H' s'/\Vals vs us/\Q vs H'
noncomputable def SP(X:Cx)(pins:List (Addr×Obj))(D:Ends)(f:Flow)(s':Shared):Prop:=
 match f with
 |.next=>∃bE H',Inv X pins bE H' s'/\D.nx bE H'
 |.brk=>∃bE H',Inv X pins bE H' s'/\D.bk bE H'
 |.cont=>∃bE H',Inv X pins bE H' s'/\D.ct bE H'
 |.ret u=>∃v bE H',Inv X pins bE H' s'/\RelV v u/\D.rt v H'
noncomputable def PE(X:Cx)(e:Expr)(t:TE):Prop:=
 ∀(pins:List (Addr×Obj))(s:Shared)(σ:St)(H:Hp)(Q:VK),Inv X pins σ H s->t σ H Q->wpAny (model X.prog X.w) X.A (eval e X.env) (EP X pins σ Q) X.xe s
noncomputable def PT(X:Cx)(e:Expr)(t:TT):Prop:=
 ∀(pins:List (Addr×Obj))(s:Shared)(σ:St)(H:Hp)(Q:Bool->Hp->Prop),Inv X pins σ H s->t σ H Q->wpAny (model X.prog X.w) X.A (isTrue e X.env (eval e X.env)) (TP X pins σ Q) X.xe s
noncomputable def PW(X:Cx)(e:Expr)(t:TT):Prop:=
 ∀(whole:Sem Value)(pins:List (Addr×Obj))(s:Shared)(σ:St)(H:Hp)(Q:Bool->Hp->Prop),Inv X pins σ H s->t σ H Q->wpAny (model X.prog X.w) X.A (isTrue e X.env whole) (TP X pins σ Q) X.xe s
theorem PW.pt{X:Cx}{e:Expr}{t:TT}(h:PW X e t):PT X e t:=h _
noncomputable def PA(X:Cx)(es:List Expr)(t:TA):Prop:=
 ∀(pos:Pos)(pins:List (Addr×Obj))(s:Shared)(σ:St)(H:Hp)(Q:List V->Hp->Prop),Inv X pins σ H s->t σ H Q->wpAny (model X.prog X.w) X.A (spliced (backTo pos (starEach es X.env))) (AP X pins σ Q) X.xe s
noncomputable def PS(X:Cx)(st:Stmt)(t:TS):Prop:=
 ∀(pins:List (Addr×Obj))(s:Shared)(σ:St)(H:Hp)(D:Ends),Inv X pins σ H s->t D σ H->wpAny (model X.prog X.w) X.A (exec st X.env) (SP X pins D) X.xe s
noncomputable def oA(X:Cx)(st:List Stmt)(t:TS):Prop:=
 ∀(pins:List (Addr×Obj))(s:Shared)(σ:St)(H:Hp)(D:Ends),Inv X pins σ H s->t D σ H->wpAny (model X.prog X.w) X.A (execs st X.env) (SP X pins D) X.xe s
theorem c_{α:Type}{t:Sem α}{Q Q':α->Shared->Prop}{M:Model}{A:Around}{E:Value->Shared->Prop}{s:Shared}(h:wpAny M A t Q E s)(hQ:∀a s,Q a s->Q' a s):wpAny M A t Q' E s:=wpAny_mono h hQ fun _ _ x=>x
end L2
namespace L2
open PySem PySem.Spec PyProof.Rows
section
variable {X:Cx}
noncomputable def Dh(i:Nat):TE:=fun σ H Q=>∃v,σ[i]?=some (some v)/\Q v H
noncomputable def tC(v:V):TE:=fun _ H Q=>Q v H
theorem Ac{i:Nat}{x:Str}{pos:Pos}(hN:X.N[i]?=some x)(hv:JY X.env.scope x)(hd:(x==("__debug__":Str))=false:=by decide)(lT:(x==("__classdict__":Str))=false:=by decide):PE X (.Name x pos) (Dh i):=by
 intro pins s σ H Q I h;obtain⟨v,e,h⟩:=h;obtain⟨m,hn,hl⟩:=I.loc;obtain⟨u,r,l⟩:=hl i x v hN e hv;have fin:EP X pins σ Q u s:=⟨v,H,I,r,h⟩;rcases l with⟨hk,hm⟩|⟨hk,c,hc,wO⟩
 ·exact wpAny_Name (wpAny_loadName_local I.ok.kind hk hn hm fin) hd
 ·rcases hk with hk|hk
  ·exact wpAny_Name (wpAny_loadName_cell I.ok.kind hk hc wO fin) hd
  ·exact wpAny_Name (wpAny_loadName_free I.ok.kind hk hc wO fin lT) hd
theorem ah{i j pos}:PE X (.Constant (.int i) j pos) (tC (.int i)):=fun _ _ _ H _ I h=>wpAny_Constant_int ⟨.int i,H,I.tok _,⟨_,rfl⟩,h⟩
theorem gj{b j pos}:PE X (.Constant (.bool b) j pos) (tC (.bl b)):=fun _ _ _ H _ I h=>Constant_bool ⟨.bl b,H,I,rfl,h⟩
theorem qe{j pos}:PE X (.Constant .none j pos) (tC .gf):=fun _ _ _ H _ I h=>Constant_none ⟨.gf,H,I,rfl,h⟩
theorem iy{x j pos}:PE X (.Constant (.str x) j pos) (tC (.str x)):=fun _ _ _ H _ I h=>Calls.Constant_str ⟨.str x,H,I.tok _,⟨_,rfl⟩,h⟩
noncomputable def Gl(X:Cx)(x:Str):Prop:=X.env.kindOf x=some .globalImplicit
theorem jd{E:Value->Shared->Prop}{pins:List (Addr×Obj)}{s:Shared}{σ:St}{H:Hp}{x:Str}{u:Value}{pos:Pos}{Q:Value->Shared->Prop}(I:Inv X pins σ H s)(hg:Gl X x)(hm:X.mg x=some u)(h:Q u s)(hd:(x==("__debug__":Str))=false:=by decide):wpAny (model X.prog X.w) X.A (eval (.Name x pos) X.env) Q E s:=
 Calls.Name_function_global I.ok.kind hg (Calls.loadGlobal_global (by rw[I.ok.glob];exact I.mod.glob.keeps I.bk) hm h) hd
theorem gH{E:Value->Shared->Prop}{pins:List (Addr×Obj)}{s:Shared}{σ:St}{H:Hp}{x:Str}{u:Value}{pos:Pos}{Q:Value->Shared->Prop}(I:Inv X pins σ H s)(hg:Gl X x)(hm:X.mg x=none)(hv:bootBuiltins x=some u)(h:Q u s)(hn:x≠"__name__":=by decide)(hd:(x==("__debug__":Str))=false:=by decide):wpAny (model X.prog X.w) X.A (eval (.Name x pos) X.env) Q E s:=by
 obtain⟨mb,h1,h2⟩:=I.mod.blt;exact Calls.Name_function_global I.ok.kind hg (Calls.loadGlobal_builtin (by rw[I.ok.glob];exact I.mod.glob.keeps I.bk) hm (by rw[I.ok.blt];exact h1.keeps I.bk) ((h2 x hn).trans hv) h) hd
theorem qg{x:Str}{v:V}{u:Value}{pos:Pos}(hg:Gl X x)(hm:X.mg x=some u)(r:RelV v u)(hd:(x==("__debug__":Str))=false:=by decide):PE X (.Name x pos) (tC v):=
 fun _ _ _ H _ I h=>jd I hg hm ⟨v,H,I,r,h⟩ hd
theorem Di{x:Str}{v:V}{u:Value}{pos:Pos}(hg:Gl X x)(hm:X.mg x=none)(hv:bootBuiltins x=some u)(r:RelV v u)(hn:x≠"__name__":=by decide)(hd:(x==("__debug__":Str))=false:=by decide):PE X (.Name x pos) (tC v):=
 fun _ _ _ H _ I h=>gH I hg hm hv ⟨v,H,I,r,h⟩ hn hd
variable {a b:Expr} {ta tb:TE} {pos:Pos}
noncomputable def tB(t:TE):TT:=fun σ H Q=>t σ H fun x H1=>∃c,x=.bl c/\Q c H1
theorem jx{e:Expr}{t:TE}(h:PE X e t)(he:∀whole,isTrue e X.env whole=(do let v<-whole;standAt e.pos;holding [v] (truthy v)):=by intro _;rfl):PT X e (tB t):=by
 intro pins s σ H Q I hw;refine isTrue_plain (c_ (h pins s σ H _ I hw) fun v s1⟨x,H1,I1,r1,q1⟩=>?_) (he _);obtain⟨d,rfl,q⟩:=q1;cases r1;exact wpAny_truthy_bool ⟨H1,I1,q⟩
variable {tA MZ:TT} {rest:List Expr}
noncomputable def J5(t u:TT):TT:=fun σ H Q=>t σ H fun c H1=>if c=true then u σ H1 Q else Q false H1
noncomputable def Rl(t u:TT):TT:=fun σ H Q=>t σ H fun c H1=>if c=true then Q true H1 else u σ H1 Q
noncomputable def J6(t:TT):TT:=fun σ H Q=>t σ H fun c H1=>Q (!c) H1
theorem jP(ha:PT X a tA):PW X (.BoolOp .And [a] pos) tA:=by
 intro wh pins s σ H Q I h;refine isTrue_and (c_ (ha pins s σ H Q I h) fun c s1 e=>?_);cases c with
 |true=>exact isTrue_and_nil e
 |false=>exact e
theorem mO(ha:PT X a tA):PW X (.BoolOp .Or [a] pos) tA:=by
 intro wh pins s σ H Q I h;refine isTrue_or (c_ (ha pins s σ H Q I h) fun c s1 e=>?_);cases c with
 |false=>exact isTrue_or_nil e
 |true=>exact e
theorem mP(ha:PT X a tA)(hb:PW X (.BoolOp .And (b::rest) pos) MZ):PW X (.BoolOp .And (a::b::rest) pos) (J5 tA MZ):=by
 intro wh pins s σ H Q I h;refine isTrue_and (c_ (ha pins s σ H _ I h) fun c s1⟨H1,I1,q1⟩=>?_);cases c with
 |true=>exact hb wh pins s1 σ H1 Q I1 q1
 |false=>exact⟨H1,I1,q1⟩
theorem oZ(ha:PT X a tA)(hb:PW X (.BoolOp .Or (b::rest) pos) MZ):PW X (.BoolOp .Or (a::b::rest) pos) (Rl tA MZ):=by
 intro wh pins s σ H Q I h;refine isTrue_or (c_ (ha pins s σ H _ I h) fun c s1⟨H1,I1,q1⟩=>?_);cases c with
 |true=>exact⟨H1,I1,q1⟩
 |false=>exact hb wh pins s1 σ H1 Q I1 q1
theorem iz(ha:PT X a tA):PT X (.UnaryOp .Not a pos) (J6 tA):=by
 intro pins s σ H Q I h;exact isTrue_not (ha pins s σ H (fun c H1=>Q (!c) H1) I h)
noncomputable def J7(ta tb:TE):TE:=fun σ H Q=>ta σ H fun x H1=>∃c,x=.bl c/\if c=true then tb σ H1 Q else Q (.bl false) H1
noncomputable def N2(ta tb:TE):TE:=fun σ H Q=>ta σ H fun x H1=>∃c,x=.bl c/\if c=true then Q (.bl true) H1 else tb σ H1 Q
noncomputable def J8(ta:TE):TE:=fun σ H Q=>ta σ H fun x H1=>∃c,x=.bl c/\Q (.bl (!c)) H1
noncomputable def Rm(t:TT)(ta tb:TE):TE:=fun σ H Q=>t σ H fun c H1=>if c=true then ta σ H1 Q else tb σ H1 Q
theorem rR{c:Expr}(hc:PT X c tA)(ha:PE X a ta)(hb:PE X b tb):PE X (.IfExp c a b pos) (Rm tA ta tb):=by
 intro pins s σ H Q I h;refine wpAny_IfExp (c_ (hc pins s σ H _ I h) fun d s1⟨H1,I1,q1⟩=>?_);cases d with
 |true=>exact ha pins s1 σ H1 Q I1 q1
 |false=>exact hb pins s1 σ H1 Q I1 q1
end
end L2
namespace L2
open PySem PySem.Spec PyProof.Rows
noncomputable def aM(K:PySem.W.Frag)(H:Hp)(a:Addr)(xs:List V):Prop:=
 Rd H a (.lst xs)\/
  ∃(o:Obj)(aK:Array Value)(n:Nat),K.lookup a=some o/\o.cls=.type "list"/\o.dict=none/\o.data=.seq aK n/\aK.size<=sizeLine/\Vals xs aK.toList
noncomputable def cJ(K:PySem.W.Frag)(H:Hp)(a:Addr)(xs:List V):Prop:=
 Rd H a (.tup xs)\/
  ∃(o:Obj)(aK:Array Value)(n:Nat),K.lookup a=some o/\o.cls=.type "tuple"/\o.data=.seq aK n/\aK.size<=sizeLine/\Vals xs aK.toList
noncomputable def N3:Value->Option V
 |.none=>some .gf
 |.bool b=>some (.bl b)
 |.int i _=>some (.int i)
 |.str x _=>some (.str x)
 |.bytes b _=>some (.yu b)
 |.float b _=>some (.Jj b)
 |.ref a=>some (.ref a)
 |.type n=>some (.ty n)
 |_=>none
theorem RelV.abs{x:V}{u:Value}(r:RelV x u):N3 u=some x:=by
 cases x with
 |gf=>cases r;rfl
 |bl _=>cases r;rfl
 |int _=>obtain⟨t,rfl⟩:=r;rfl
 |str _=>obtain⟨t,rfl⟩:=r;rfl
 |yu _=>obtain⟨t,rfl⟩:=r;rfl
 |Jj _=>obtain⟨t,rfl⟩:=r;rfl
 |ref _=>cases r;rfl
 |ty _=>cases r;rfl
theorem RelV.inj{x y:V}{u:Value}(r:RelV x u)(q:RelV y u):x=y:=Option.some.inj (r.abs.symm.trans q.abs)
theorem Vals.inj:∀{xs ys:List V}{us:List Value},Vals xs us->Vals ys us->xs=ys
 |_,_,_,.nil,.nil=>rfl
 |_,_,_,.cons r t,.cons r' t'=>by rw[r.inj r',Vals.inj t t']
section
variable {X:Cx} {pins:List (Addr×Obj)} {σ:St} {H:Hp} {s:Shared} {a:Addr} {xs ys:List V}
theorem aM.of{K:PySem.W.Frag}(h:H a=some (.lst xs)):aM K H a xs:=.inl (.inl h)
theorem cJ.of{K:PySem.W.Frag}(h:H a=some (.tup xs)):cJ K H a xs:=.inl (.inl h)
theorem Inv.list(I:Inv X pins σ H s)(h:aM X.K H a xs):∃aK:List Value,Vals xs aK/\PlainL s.heap a aK.toArray/\xs.length<=sizeLine:=by
 rcases h with h|⟨o,aK,n,hk,hc,hd,hs,hz,r⟩
 ·obtain⟨z,aK,n,r,e⟩:=h.ok I.bO;exact⟨aK,r,⟨_,n,e,rfl,rfl,rfl⟩,z⟩
 ·refine⟨aK.toList,r,⟨o,n,I.ou a o hk,hc,hd,by simpa using hs⟩,?_⟩;have e:=r.length;simp only[Array.length_toList] at e;lia
theorem Inv.tuple(I:Inv X pins σ H s)(h:cJ X.K H a xs):∃aK:List Value,Vals xs aK/\IsTup s.heap a aK.toArray/\xs.length<=sizeLine:=by
 rcases h with h|⟨o,aK,n,hk,hc,hs,hz,r⟩
 ·obtain⟨z,aK,r,p⟩:=h.ok I.bO;exact⟨aK,r,p,z⟩
 ·refine⟨aK.toList,r,⟨o,I.ou a o hk,hc,n,by simpa using hs⟩,?_⟩;have e:=r.length;simp only[Array.length_toList] at e;lia
theorem Inv.iA(I:Inv X pins σ H s)(h:aM X.K H a xs)(h':aM X.K H a ys):xs=ys:=by
 obtain⟨aK,r,⟨o,n,e,_,_,d⟩,_⟩:=I.list h;obtain⟨its',r',⟨o',n',e',_,_,d'⟩,_⟩:=I.list h';rw[e] at e';cases e';rw[d] at d';injection d' with d1 _;have:aK=its':=by simpa using congrArg Array.toList d1
 subst this;exact r.inj r'
theorem Inv.yy(I:Inv X pins σ H s)(h:cJ X.K H a xs)(h':cJ X.K H a ys):xs=ys:=by
 obtain⟨aK,r,⟨o,e,_,n,d⟩,_⟩:=I.tuple h;obtain⟨its',r',⟨o',e',_,n',d'⟩,_⟩:=I.tuple h';rw[e] at e';cases e';rw[d] at d';injection d' with d1 _;have:aK=its':=by simpa using congrArg Array.toList d1
 subst this;exact r.inj r'
end
noncomputable abbrev Cx.oB(X:Cx)(E:Value->Shared->Prop):Cx:={X with xe:=E}
noncomputable abbrev Cx.Gz(X:Cx):Cx:=X.oB fun _ _=>False
theorem Cx.Ok.oB{X:Cx}(ok:X.Ok)(E:Value->Shared->Prop):(X.oB E).Ok:=
 ⟨ok.mod,ok.kind,ok.glob,ok.blt,ok.above,ok.inj,ok.has,ok.EZ,ok.hd,ok.frames,ok.Gw,ok.JZ,ok.bs,ok.yx,ok.rQ,ok.uS,ok.jo,ok.z_⟩
theorem Cx.Ok.iB{X:Cx}{E:Value->Shared->Prop}(ok:(X.oB E).Ok):X.Ok:=
 ⟨ok.mod,ok.kind,ok.glob,ok.blt,ok.above,ok.inj,ok.has,ok.EZ,ok.hd,ok.frames,ok.Gw,ok.JZ,ok.bs,ok.yx,ok.rQ,ok.uS,ok.jo,ok.z_⟩
section
variable {X:Cx} {pins:List (Addr×Obj)} {σ:St} {H:Hp} {s:Shared} {E:Value->Shared->Prop}
theorem Inv.oB(I:Inv X pins σ H s)(E:Value->Shared->Prop):Inv (X.oB E) pins σ H s:=⟨I.ok.oB E,I.os,I.bare,I.base,I.loc,I.cell,I.free,I.fj,I.pin,I.bO,I.len⟩
theorem Inv.iB(I:Inv (X.oB E) pins σ H s):Inv X pins σ H s:=⟨I.ok.iB,I.os,I.bare,I.base,I.loc,I.cell,I.free,I.fj,I.pin,I.bO,I.len⟩
theorem SP.iB{D:Ends}{f:Flow}{s':Shared}(h:SP (X.oB E) pins D f s'):SP X pins D f s':=by
 cases f with
 |next=>obtain⟨bE,H',I,q⟩:=h;exact⟨bE,H',I.iB,q⟩
 |brk=>obtain⟨bE,H',I,q⟩:=h;exact⟨bE,H',I.iB,q⟩
 |cont=>obtain⟨bE,H',I,q⟩:=h;exact⟨bE,H',I.iB,q⟩
 |ret u=>obtain⟨v,bE,H',I,r,q⟩:=h;exact⟨v,bE,H',I.iB,r,q⟩
theorem oA.Gz{st:List Stmt}{t:TS}(h:oA X.Gz st t):oA X st t:=fun pins s σ H D I hw=>
 wpAny_mono (h pins s σ H D (I.oB _) hw) (fun _ _ q=>q.iB) fun _ _ z=>False.elim z
end
section
variable {X:Cx} {st:Stmt} {rest:List Stmt} {t u:TS} {e:Expr} {te:TE} {pos:Pos}
noncomputable def Ae:TS:=fun D σ H=>D.nx σ H
noncomputable def J9(t u:TS):TS:=fun D σ H=>t {D with nx:=u D} σ H
theorem aS:oA X [] Ae:=fun _ _ σ H _ I h=>wpAny_execs_nil ⟨σ,H,I,h⟩
theorem ae(h1:PS X st t)(h2:oA X rest u):oA X (st::rest) (J9 t u):=by
 intro pins s σ H D I h;refine wpAny_execs_cons (c_ (h1 pins s σ H {D with nx:=u D} I h) fun f s1 q=>?_);cases f with
 |next=>
  obtain⟨bE,H',I',q⟩:=q;exact h2 pins s1 bE H' D I' q
 |ret v=>exact q
 |brk=>exact q
 |cont=>exact q
theorem aj(h1:PS X st t):oA X [st] t:=by
 intro pins s σ H D I h;refine wpAny_execs_cons (c_ (h1 pins s σ H D I h) fun f s1 q=>?_);cases f with
 |next=>exact wpAny_execs_nil q
 |ret v=>exact q
 |brk=>exact q
 |cont=>exact q
theorem Inv.quiet{pins:List (Addr×Obj)}{σ:St}{H:Hp}{s:Shared}(I:Inv X pins σ H s):interactive X.env=false:=by simp[interactive,I.ok.kind]
noncomputable def E4(te:TE):TS:=fun D σ H=>te σ H fun _ H1=>D.nx σ H1
theorem fS(he:PE X e te)(hs:swapsWith e none pos.line X.env=pure false:=by rfl):PS X (.Expr e pos) (E4 te):=by
 intro pins s σ H D I h;exact wpAny_Expr_any (c_ (he pins s σ H _ I h) fun v s1⟨x,H1,I1,r1,q1⟩=>⟨σ,H1,I1,q1⟩) I.quiet hs
noncomputable def J_(te:TE):TS:=fun D σ H=>te σ H D.rt
theorem aC(he:PE X e te):PS X (.Return (some e) pos) (J_ te):=by
 intro pins s σ H D I h;exact wpAny_Return_some (c_ (he pins s σ H _ I h) fun v s1⟨x,H1,I1,r1,q1⟩=>⟨x,σ,H1,I1,r1,q1⟩)
noncomputable def J'(c:TT)(t u:TS):TS:=fun D σ H=>c σ H fun b H1=>if b=true then t D σ H1 else u D σ H1
theorem bM{c:Expr}{a b:List Stmt}{tc:TT}(hc:PT X c tc)(ha:oA X a t)(hb:oA X b u):PS X (.If c a b pos) (J' tc t u):=by
 intro pins s σ H D I h;refine wpAny_If (c_ (hc pins s σ H _ I h) fun d s1⟨H1,I1,q1⟩=>?_);cases d with
 |true=>exact ha pins s1 σ H1 D I1 q1
 |false=>exact hb pins s1 σ H1 D I1 q1
noncomputable def Af:TS:=fun _ _ _=>False
theorem rS:PS X st Af:=fun _ _ _ _ _ _ h=>h.elim
theorem yz{T8:List Stmt}:oA X T8 Af:=fun _ _ _ _ _ _ h=>h.elim
end
noncomputable abbrev TG:=V->St->Hp->(St->Hp->Prop)->Prop
noncomputable abbrev CW:=List V->St->Hp->(St->Hp->Prop)->Prop
noncomputable def PG(X:Cx)(target:Expr)(t:TG):Prop:=
 ∀(pins:List (Addr×Obj))(s:Shared)(σ:St)(H:Hp)(v:V)(u:Value)(Q:St->Hp->Prop),Inv X pins σ H s->RelV v u->t v σ H Q->
  wpAny (model X.prog X.w) X.A (assign target X.env u) (fun _ s'=>∃bE H',Inv X pins bE H' s'/\Q bE H') X.xe s
noncomputable def Ka(X:Cx)(ts:List Expr)(t:CW):Prop:=
 ∀(pins:List (Addr×Obj))(s:Shared)(σ:St)(H:Hp)(vs:List V)(us:List Value)(Q:St->Hp->Prop),Inv X pins σ H s->Vals vs us->t vs σ H Q->
  wpAny (model X.prog X.w) X.A (assignInOrder ((assignEach ts X.env).map (·.2)) us) (fun _ s'=>∃bE H',Inv X pins bE H' s'/\Q bE H') X.xe s
noncomputable abbrev Dj:=V->V->V->Hp->(Hp->Prop)->Prop
noncomputable def Kb(X:Cx)(t:Dj):Prop:=
 ∀(pins:List (Addr×Obj))(s:Shared)(σ:St)(H:Hp)(o i v:V)(ov iv u:Value)(Q:Hp->Prop),Inv X pins σ H s->RelV o ov->RelV i iv->RelV v u->t o i v H Q->
  wpAny (model X.prog X.w) X.A (setItem ov iv u) (fun _ s'=>∃H',Inv X pins σ H' s'/\Q H') X.xe s
section
variable {X:Cx} {pos:Pos}
noncomputable def mQ(i:Nat):TG:=fun v σ H Q=>Q (σ.set i (some v)) H
theorem aT{i:Nat}{x:Str}(hN:X.N.Nodup)(hi:X.N[i]?=some x)(hx:Loc X.env.scope x)(hf:X.fn x=true\/X.env.scope.names.lookup x=some .local:=by first|exact .inl rfl|exact .inr rfl|assumption):PG X (.Name x pos) (mQ i):=by
 intro pins s σ H v u Q I r h;exact wpAny_assign_Name (mM I hN hi hx r (fun s' I'=>⟨_,H,I',h⟩) hf)
noncomputable def Kc:CW:=fun vs σ H Q=>vs=[]/\Q σ H
noncomputable def E5(t:TG)(u:CW):CW:=fun vs σ H Q=>∃v r,vs=v::r/\t v σ H fun bE H'=>u r bE H' Q
theorem l_:Ka X [] Kc:=by
 intro pins s σ H vs us Q I r h;obtain⟨e,h⟩:=h;subst e;cases r;exact assignInOrder_nil ⟨σ,H,I,h⟩
theorem e_{e:Expr}{es:List Expr}{t:TG}{u:CW}(h1:PG X e t)(h2:Ka X es u)(hs:(assignEach (e::es) X.env).map (·.2)=assign e X.env::(assignEach es X.env).map (·.2):=by rfl):Ka X (e::es) (E5 t u):=by
 intro pins s σ H vs us Q I r h;obtain⟨v,vr,e1,h⟩:=h;subst e1;cases r with
 |cons r rr=>
  rw[hs];refine assignInOrder_cons (c_ (h1 pins s σ H _ _ _ I r h) fun _ s1 ⟨CY,H1,I1,q1⟩=>?_);exact h2 pins s1 CY H1 _ _ Q I1 rr q1
noncomputable def GA(K:PySem.W.Frag)(n:Nat)(t:CW):TG:=fun v σ H Q=>∃a xs,v=.ref a/\cJ K H a xs/\xs.length=n/\t xs σ H Q
theorem qh{es:List Expr}{k:Nat}{t:CW}{n:Nat}(hc:X.calm=true)(h:Ka X es t)(hn:(assignEach es X.env).length=n:=by rfl)(rT:(assignEach es X.env).findIdx? (·.1)=none:=by rfl):PG X (.Tuple es k pos) (GA X.K n t):=by
 intro pins s σ H v u Q I r hw;obtain⟨a,xs,e1,hq,hl,hw⟩:=hw;subst e1;cases r;obtain⟨aK,rv,ht,hz⟩:=I.tuple hq;refine assign_Tuple_tuple (I.ok.hd hc) ht (by simp[hn,<-hl,rv.length]) rT fun h' hx=>?_;have I1:Inv X pins σ H {s with heap:=h'}:=I.kept (t':=s.toks) fun b o e=>hx b o (Nat.ne_of_lt (Heap.lt_size e)) e;exact h pins _ σ H xs _ Q I1 (by simpa using rv) hw
noncomputable def Kd(to ti:TE)(t:Dj):TG:=fun v σ H Q=>to σ H fun o H1=>ti σ H1 fun i H2=>t o i v H2 fun H3=>Q σ H3
theorem uU{o i:Expr}{to ti:TE}{t:Dj}(ho:PE X o to)(hi:PE X i ti)(hs:Kb X t)(ha:∀v,assign (.Subscript o i pos) X.env v=(do
 let ov<-holding [v] (eval o X.env)
 let iv<-holding [v,ov] (eval i X.env)
 standAt pos
 holding [v,ov,iv] (setItem ov iv v)
 release [v,ov,iv] []):=by intro _;rfl):PG X (.Subscript o i pos) (Kd to ti t):=by
 intro pins s σ H v u Q I r h;rw[ha];refine wpAny_bind (wpAny_holding (c_ (ho pins s σ H _ I h) fun ov s1⟨x,H1,I1,r1,q1⟩=>?_));refine wpAny_bind (wpAny_holding (c_ (hi pins s1 σ H1 _ I1 q1) fun iv s2⟨y,H2,I2,r2,q2⟩=>?_));refine wpAny_bind (wpAny_standAt (wpAny_bind (wpAny_holding (c_ (hs pins s2 σ H2 x y v ov iv u _ I2 r1 r2 r q2) fun _ s3 ⟨H3,I3,q3⟩=>?_))));exact wpAny_release ⟨σ,H3,I3,q3⟩
noncomputable def yA(te:TE)(g:TG):TS:=fun D σ H=>te σ H fun x H1=>g x σ H1 D.nx
theorem qi{tg e:Expr}{te:TE}{g:TG}(he:PE X e te)(hg:PG X tg g)(hs:swapsWithSole [tg] e pos.line X.env=pure false:=by rfl)(hw:swappedStores [tg] e X.env=pure none:=by rfl)(h1:(assignEach [tg] X.env).map (·.2)=[assign tg X.env]:=by rfl):PS X (.Assign [tg] e pos) (yA te g):=by
 intro pins s σ H D I h;refine wpAny_Assign_stores (c_ (he pins s σ H _ I h) fun v s1⟨x,H1,I1,r1,q1⟩=>?_) hs hw;rw[h1];exact c_ (hg pins s1 σ H1 x v _ I1 r1 q1) fun _ s2 q=>q
theorem ar{i:Nat}{x:Str}{e:Expr}{te:TE}{pos':Pos}(hN:X.N.Nodup)(hi:X.N[i]?=some x)(hx:Loc X.env.scope x)(he:PE X e te)(hs:swapsWith e (some (.Name x pos')) pos.line X.env=pure false:=by rfl)(hf:X.fn x=true\/X.env.scope.names.lookup x=some .local:=by first|exact .inl rfl|exact .inr rfl|assumption):
 PS X (.Assign [.Name x pos'] e pos) (yA te (mQ i)):=by
 intro pins s σ H D I h;refine wpAny_Assign_Name (c_ (he pins s σ H _ I h) fun v s1⟨y,H1,I1,r1,q1⟩=>?_) hs;exact mM I1 hN hi hx r1 (fun s2 I2=>⟨_,H1,I2,q1⟩) hf
end
section
variable {X:Cx} {pos:Pos}
noncomputable def Ag(c:TT)(tb:TS):TS:=fun D σ H=>∃W:Nat->St->Hp->Prop,(∃m,W m σ H)/\∀m σ H,W m σ H->
 c σ H fun b H1=>if b=true then ∃N:St->Hp->Prop,(∀bE H',N bE H'->∃m',m'<m/\W m' bE H')/\tb {D with nx:=N,ct:=N,bk:=D.nx} σ H1 else D.nx σ H1
theorem dj{c:Expr}{body:List Stmt}{tc:TT}{tb:TS}(hp:PassesOwn (model X.prog X.w) X.A X.env X.xe)(hc:PT X c tc)(hb:oA X body tb):PS X (.While c body [] pos) (Ag tc tb):=by
 intro pins s σ H D I h;obtain⟨W,⟨m0,w0⟩,turn⟩:=h;refine wpAny_While (codeAny_whileLoop (fun n s'=>∃bE H',Inv X pins bE H' s'/\W n bE H') ?_ m0 ⟨σ,H,I,w0⟩);rintro n s1 ⟨CY,H1,I1,w1⟩;refine wpAny_passesOwn hp (c_ (hc pins s1 CY H1 _ I1 (turn n CY H1 w1)) fun b s2⟨H2,I2,q2⟩=>?_);cases b with
 |true=>
  obtain⟨N,hN,q2⟩:=q2;rw[if_pos rfl];refine wpAny_passesOwn hp (c_ (hb pins s2 CY H2 _ I2 q2) fun f s3 q3=>?_);cases f with
  |next=>
   obtain⟨Ah,H3,I3,n3⟩:=q3;obtain⟨m',hm,w3⟩:=hN Ah H3 n3;exact⟨m',hm,Ah,H3,I3,w3⟩
  |cont=>
   obtain⟨Ah,H3,I3,n3⟩:=q3;obtain⟨m',hm,w3⟩:=hN Ah H3 n3;exact⟨m',hm,Ah,H3,I3,w3⟩
  |brk=>exact q3
  |ret v=>exact q3
 |false=>
  rw[if_neg Bool.false_ne_true];exact wpAny_execs_nil ⟨CY,H2,I2,q2⟩
end
structure It where
 go:Nat->Hp->Prop
 rV:Nat->Hp->V->Hp->Prop
 stop:Nat->Hp->Prop
noncomputable def kD(X:Cx)(pins:List (Addr×Obj))(H:Hp)(b:Addr):Prop:=
 H b=none/\b≠X.env.locals/\b∉X.fs/\(b∈X.ex\/X.fh.heap.objs.size<=b)/\(∀x c,X.env.cells.lookup x=some c->c≠b)/\∀p∈X.pn++pins,p.1≠b
theorem Inv.rW{X:Cx}{pins:List (Addr×Obj)}{σ:St}{H H':Hp}{s:Shared}{b:Addr}(I:Inv X pins σ H s)(hb:s.heap.objs.size<=b)(hn:H' b=none):kD X pins H' b:=by
 refine⟨hn,Nat.ne_of_gt (Nat.lt_of_lt_of_le I.lt hb),I.NW hb,.inr (Nat.le_trans I.sz hb),fun x c e z=>?_,fun p hp z=>?_⟩
 ·obtain⟨v,q⟩:=I.cell x c e;exact absurd (Nat.lt_of_lt_of_le q.lt (by rw[z];exact hb)) (Nat.lt_irrefl _)
 ·exact absurd (Nat.lt_of_lt_of_le (Heap.lt_size (I.pin p hp).1) (by rw[z];exact hb)) (Nat.lt_irrefl _)
structure Turn(P:Program)(w:World)(K:PySem.W.Frag)(tg:Expr)(J:It)(fp:List Addr)(it:Addr)(tn:Nat->Heap->Prop):Prop where
 mem:it∈fp
 obj:∀i h,tn i h->∀b∈fp,∃o,h.get? b=some o/\∀v,o.data≠.cell v
 keep:∀i h h',tn i h->(∀b∈fp,∀o,h.get? b=some o->h'.get? b=some o)->tn i h'
 item:∀(X:Cx),X.prog=P->X.w=w->X.K=K->X.calm=true->∀(i:Nat)(pins:List (Addr×Obj))(s:Shared)(σ:St)(H:Hp)(E:Value->Shared->Prop),Inv X pins σ H s->(∀b∈fp,kD X pins H b)->tn i s.heap->J.go i H->
  wpAny (model P w) X.A (pyNext (.ref it)) (fun r s1=>∃u,r=some u/\
   wpAny (model P w) X.A (letOwnedTupleGo tg (.ref it) u) (fun _ s2=>∃x H',Inv X pins σ H' s2/\RelV x u/\J.rV i H x H'/\tn (i+1) s2.heap/\∀b∈fp,H' b=none) E s1) E s
 done:∀(X:Cx),X.prog=P->X.w=w->X.K=K->X.calm=true->∀(i:Nat)(pins:List (Addr×Obj))(s:Shared)(σ:St)(H:Hp)(E:Value->Shared->Prop),Inv X pins σ H s->(∀b∈fp,kD X pins H b)->tn i s.heap->J.stop i H->
  wpAny (model P w) X.A (pyNext (.ref it)) (fun r s1=>r=none/\Inv X pins σ H s1) E s
 self:∀(A:Around)(i:Nat)(s:Shared)(Q:Value->Shared->Prop)(E:Value->Shared->Prop),tn i s.heap->Q (.ref it) s->wpAny (model P w) A (pyIter (.ref it)) Q E s
noncomputable abbrev TI:=St->Hp->(It->Hp->Prop)->Prop
noncomputable def Rn(X:Cx)(pins:List (Addr×Obj))(σ:St)(tg:Expr)(R:It->Hp->Prop)(M0:Value)(s2:Shared):Prop:=
 ∃(it:Addr)(fp:List Addr)(tn:Nat->Heap->Prop)(J:It)(H':Hp),M0=.ref it/\Inv X pins σ H' s2/\Turn X.prog X.w X.K tg J fp it tn/\tn 0 s2.heap/\(∀b∈fp,kD X pins H' b)/\R J H'
noncomputable def PI(X:Cx)(tg iter:Expr)(wi:TI):Prop:=
 ∀(pins:List (Addr×Obj))(s:Shared)(σ:St)(H:Hp)(R:It->Hp->Prop),Inv X pins σ H s->wi σ H R->
  wpAny (model X.prog X.w) X.A (eval iter X.env) (fun v s1=>wpAny (model X.prog X.w) X.A (pyIter v) (Rn X pins σ tg R) X.xe s1) X.xe s
theorem rX{M:Model}{A:Around}{E:Value->Shared->Prop}{s:Shared}{tg:Expr}{it:Addr}{u:Value}{o:Obj}{n:String}{vs:Array Value}{Q:Unit->Shared->Prop}(ho:s.heap.get? it=some o)(hc:o.cls=.type n)(hd:o.data=.fields vs)(hn:["enumerate","zip","dict_itemiterator","dict_reverseitemiterator","odict_iterator","itertools.zip_longest","itertools.pairwise"].contains n=false)(hQ:Q () s):wpAny M A (letOwnedTupleGo tg (.ref it) u) Q E s:=by
 unfold letOwnedTupleGo;cases tg<;>first
  |exact wpAny_pure hQ
  |(cases u<;>first
     |exact wpAny_pure hQ
     |(refine wpAny_bind (wpAny_load ho ?_)
       rw[hc,hd]
       show wpAny M A (if(["enumerate","zip","dict_itemiterator","dict_reverseitemiterator","odict_iterator","itertools.zip_longest","itertools.pairwise"].contains n&&vs[0]?==some (rawInt _))=true then _ else _) Q E s
       rw[if_neg (by intro h;rw[hn,Bool.false_and] at h;cases h)]
       exact wpAny_pure hQ))
noncomputable def rJ(K:PySem.W.Frag)(a:Addr):It:=
 ⟨fun i H=>∃xs x,aM K H a xs/\xs[i]?=some x,fun i H x H'=>H'=H/\∀xs,aM K H a xs->xs[i]?=some x,fun i H=>∃xs,aM K H a xs/\xs.length<=i⟩
noncomputable def Ke(K:PySem.W.Frag)(a:Addr):It:=
 ⟨fun i H=>∃xs x,cJ K H a xs/\xs[i]?=some x,fun i H x H'=>H'=H/\∀xs,cJ K H a xs->xs[i]?=some x,fun i H=>∃xs,cJ K H a xs/\xs.length<=i⟩
noncomputable def wQ(lo:Int)(n:Nat):It:=⟨fun i _=>i<n,fun i H x H'=>H'=H/\x=.int (lo+i),fun i _=>n<=i⟩
theorem yB{P:Program}{w:World}{K:PySem.W.Frag}{tg:Expr}(a it:Addr):Turn P w K tg (rJ K a) [it] it (fun i h=>h.IsListIter it a i) where
 mem:=by simp
 obj:=fun i h st b hb=>by
  have e:b=it:=by simpa using hb
  subst e;obtain⟨o,e,c,d⟩:=st;exact⟨o,e,fun v z=>by rw[d] at z;cases z⟩
 keep:=fun i h h' st k=>st.at fun o e=>k it (by simp) o e
 item:=by
  intro X hP hw hK hc i pins s σ H E I hf st hg;subst hP hw hK;obtain⟨xs,x,hq,hx⟩:=hg;obtain⟨aK,rv,p,hz⟩:=I.list hq;obtain⟨u,hu,ru⟩:=rv.get hx;obtain⟨f0,f1,f2,f3,f4,f5⟩:=hf it (by simp);refine wpAny_pyNext_list_item st p.isList (x:=u) (by simpa using hu) fun h' E6 sb=>?_;have I1:Inv X pins σ H {s with heap:=h'}:=I.turned (t':=s.toks) (fun b o hb e=>(sb.2 b hb).trans e) f0 f1 f3 f4 f5;obtain⟨o,e,c,d⟩:=id E6;exact⟨u,rfl,rX (s:={s with heap:=h'}) e c d (by decide) ⟨x,H,I1,ru,⟨rfl,fun ys hy=>by rw[I.iA hy hq];exact hx⟩,E6,fun b hb=>(hf b hb).1⟩⟩
 done:=by
  intro X hP hw hK hc i pins s σ H E I hf st hg;subst hP hw hK;obtain⟨xs,hq,hx⟩:=hg;obtain⟨aK,rv,p,hz⟩:=I.list hq;obtain⟨f0,f1,f2,f3,f4,f5⟩:=hf it (by simp);have hl:=rv.length;exact wpAny_pyNext_list_end (I.ok.hd hc) st p.isList (by simp;lia) fun h' eb=>⟨rfl,I.turned (t':=s.toks) (fun b o hb e=>eb b o hb e) f0 f1 f3 f4 f5⟩
 self:=fun _ _ _ _ _ st h=>wpAny_pyIter_listiter st h
theorem uV{P:Program}{w:World}{K:PySem.W.Frag}{tg:Expr}(a it:Addr):Turn P w K tg (Ke K a) [it] it (fun i h=>h.IsTupleIter it a i) where
 mem:=by simp
 obj:=fun i h st b hb=>by
  have e:b=it:=by simpa using hb
  subst e;obtain⟨o,e,c,d⟩:=st;exact⟨o,e,fun v z=>by rw[d] at z;cases z⟩
 keep:=fun i h h' st k=>st.at fun o e=>k it (by simp) o e
 item:=by
  intro X hP hw hK hc i pins s σ H E I hf st hg;subst hP hw hK;obtain⟨xs,x,hq,hx⟩:=hg;obtain⟨aK,rv,p,hz⟩:=I.tuple hq;obtain⟨u,hu,ru⟩:=rv.get hx;obtain⟨f0,f1,f2,f3,f4,f5⟩:=hf it (by simp);refine wpAny_pyNext_tuple_item st (show s.heap.IsTuple a aK.toArray from p) (x:=u) (by simpa using hu) fun h' E6 sb=>?_;have I1:Inv X pins σ H {s with heap:=h'}:=I.turned (t':=s.toks) (fun b o hb e=>(sb.2 b hb).trans e) f0 f1 f3 f4 f5;obtain⟨o,e,c,d⟩:=id E6;exact⟨u,rfl,rX (s:={s with heap:=h'}) e c d (by decide) ⟨x,H,I1,ru,⟨rfl,fun ys hy=>by rw[I.yy hy hq];exact hx⟩,E6,fun b hb=>(hf b hb).1⟩⟩
 done:=by
  intro X hP hw hK hc i pins s σ H E I hf st hg;subst hP hw hK;obtain⟨xs,hq,hx⟩:=hg;obtain⟨aK,rv,p,hz⟩:=I.tuple hq;obtain⟨f0,f1,f2,f3,f4,f5⟩:=hf it (by simp);have hl:=rv.length;exact wpAny_pyNext_tuple_end (I.ok.hd hc) st (show s.heap.IsTuple a aK.toArray from p) (by simp;lia) fun h' eb=>⟨rfl,I.turned (t':=s.toks) (fun b o hb e=>eb b o hb e) f0 f1 f3 f4 f5⟩
 self:=fun _ _ _ _ _ st h=>wpAny_pyIter_tupleiter st h
theorem uW{P:Program}{w:World}{K:PySem.W.Frag}{tg:Expr}(it:Addr)(lo:Int)(n:Nat):Turn P w K tg (wQ lo n) [it] it (fun i h=>IsRangeIter h it (lo+(i:Nat)*1) ((n:Int)-(i:Nat)) 1) where
 mem:=by simp
 obj:=fun i h st b hb=>by
  have e:b=it:=by simpa using hb
  subst e;exact⟨_,st,fun v z=>by
   have z':Data.fields _=Data.cell v:=z
   cases z'⟩
 keep:=fun i h h' st k=>k it (by simp) _ st
 item:=by
  intro X hP hw hK hc i pins s σ H E I hf st hg;subst hP hw hK;obtain⟨f0,f1,f2,f3,f4,f5⟩:=hf it (by simp);have W:=Walks.range (prog:=X.prog) (w:=X.w) (I.ok.hd hc) it lo 1 n;refine W.item i s _ _ hg st fun v h' tk hv E6 kk=>?_;obtain⟨t,rfl⟩:=hv;have I1:Inv X pins σ H {s with heap:=h',toks:=tk}:=I.turned (fun b o hb e=>kk b o (by simpa using hb) e) f0 f1 f3 f4 f5;refine⟨_,rfl,rX (s:={s with heap:=h',toks:=tk}) (n:="range_iterator") E6 rfl rfl (by decide) ⟨.int (lo+i),H,I1,⟨t,?_⟩,⟨rfl,rfl⟩,E6,fun b hb=>(hf b hb).1⟩⟩;rw[Int.mul_one]
 done:=by
  intro X hP hw hK hc i pins s σ H E I hf st hg;subst hP hw hK;obtain⟨f0,f1,f2,f3,f4,f5⟩:=hf it (by simp);exact wpAny_pyNext_range_end (I.ok.hd hc) st (by have:n<=i:=hg;lia) fun h' eb=>⟨rfl,I.turned (t':=s.toks) (fun b o hb e=>eb b o hb e) f0 f1 f3 f4 f5⟩
 self:=fun _ _ _ _ _ st h=>wpAny_pyIter_rangeiter st h
end L2
namespace L2
open PySem PySem.Spec PyProof.Rows
section
variable {X:Cx} {tg:Expr}
noncomputable def E7(K:PySem.W.Frag)(tl:TE):TI:=fun σ H R=>tl σ H fun x H1=>∃a,x=.ref a/\(∃xs,aM K H1 a xs)/\R (rJ K a) H1
noncomputable def N4(K:PySem.W.Frag)(tl:TE):TI:=fun σ H R=>tl σ H fun x H1=>∃a,x=.ref a/\(∃xs,cJ K H1 a xs)/\R (Ke K a) H1
theorem fu{l:Expr}{tl:TE}(hl:PE X l tl):PI X tg l (E7 X.K tl):=by
 intro pins s σ H R I h;refine c_ (hl pins s σ H _ I h) fun v s1⟨x,H1,I1,r1,q1⟩=>?_;obtain⟨a,e,⟨xs,hq⟩,q⟩:=q1;subst e;cases r1;obtain⟨aK,rv,p,hz⟩:=I1.list hq;refine wpAny_pyIter_list p.isList ?_;refine⟨s1.heap.objs.size,[s1.heap.objs.size],_,_,H1,rfl,I1.kept (t':=s1.toks) fun b o e=>Heap.get?_push_of_some _ e,yB a _,⟨_,Heap.get?_push_size _ rfl,rfl,rfl⟩,fun b hb=>?_,q⟩;have e:b=s1.heap.objs.size:=by simpa using hb
 subst e;exact I1.rW (Nat.le_refl _) (I1.bO.fresh (Nat.le_refl _))
theorem GB{l:Expr}{tl:TE}(hl:PE X l tl):PI X tg l (N4 X.K tl):=by
 intro pins s σ H R I h;refine c_ (hl pins s σ H _ I h) fun v s1⟨x,H1,I1,r1,q1⟩=>?_;obtain⟨a,e,⟨xs,hq⟩,q⟩:=q1;subst e;cases r1;obtain⟨aK,rv,p,hz⟩:=I1.tuple hq;refine wpAny_pyIter_tuple (show s1.heap.IsTuple a aK.toArray from p) ?_;refine⟨s1.heap.objs.size,[s1.heap.objs.size],_,_,H1,rfl,I1.kept (t':=s1.toks) fun b o e=>Heap.get?_push_of_some _ e,uV a _,⟨_,Heap.get?_push_size _ rfl,rfl,rfl⟩,fun b hb=>?_,q⟩;have e:b=s1.heap.objs.size:=by simpa using hb
 subst e;exact I1.rW (Nat.le_refl _) (I1.bO.fresh (Nat.le_refl _))
theorem Ai{pins:List (Addr×Obj)}{σ:St}{H:Hp}{s:Shared}{R:It->Hp->Prop}{E:Value->Shared->Prop}{lo hi:Int}{t u v:Tok}{tk:Nat}(I:Inv X pins σ H s)(h1:-(2^62)<=lo)(h2:lo<2^62)(h3:-(2^62)<=hi)(h4:hi<2^62)(q:R (wQ lo (hi-lo).toNat) H):wpAny (model X.prog X.w) X.A (pyIter (.ref s.heap.objs.size)) (Rn X pins σ tg R) E {s with heap:=s.heap.push {cls:=.type "range",data:=.fields #[.int lo t,.int hi u,.int 1 v]},toks:=tk}:=by
 refine wpAny_pyIter_range (IsRange.new ..) (small_one h1 h2 h3 h4) ?_;have I1:Inv X pins σ H {s with heap:=s.heap.push {cls:=.type "range",data:=.fields #[.int lo t,.int hi u,.int 1 v]},toks:=tk}:=I.kept fun b o e=>Heap.get?_push_of_some _ e;refine⟨(s.heap.push {cls:=.type "range",data:=.fields #[.int lo t,.int hi u,.int 1 v]}).objs.size,[(s.heap.push {cls:=.type "range",data:=.fields #[.int lo t,.int hi u,.int 1 v]}).objs.size],_,_,H,rfl,
  I1.kept (t':=tk) fun b o e=>Heap.get?_push_of_some _ e,uW _ lo (hi-lo).toNat,?_,fun b hb=>?_,q⟩
 ·have e1:lo+((0:Nat):Int)*1=lo:=by simp
  have e2:(((hi-lo).toNat:Nat):Int)-((0:Nat):Int)=Builtin.Range.rangeSize lo hi 1:=by rw[rangeSize_one];split<;>lia
  show IsRangeIter _ _ (lo+((0:Nat):Int)*1) ((((hi-lo).toNat:Nat):Int)-((0:Nat):Int)) 1;rw[e1,e2];exact Heap.get?_push_size _ rfl
 ·have e:b=(s.heap.push {cls:=.type "range",data:=.fields #[.int lo t,.int hi u,.int 1 v]}).objs.size:=by simpa using hb
  subst e;exact I1.rW (Nat.le_refl _) (I1.bO.fresh (Nat.le_refl _))
noncomputable def E8(ta:TA):TI:=fun σ H R=>ta σ H fun vs H1=>∃j:Int,vs=[.int j]/\-(2^62)<=j/\j<2^62/\R (wQ 0 j.toNat) H1
noncomputable def Kf(ta:TA):TI:=fun σ H R=>ta σ H fun vs H1=>∃i j:Int,vs=[.int i,.int j]/\(-(2^62)<=i/\i<2^62/\-(2^62)<=j/\j<2^62)/\R (wQ i (j-i).toNat) H1
theorem dB{a:Expr}{ta:TA}{p pos:Pos}(hg:Gl X "range")(hm:X.mg "range"=none)(ha:PA X [a] ta)(hs:starEach [a] X.env=[(false,eval a X.env)]:=by rfl):PI X tg (.Call (.Name "range" p) [a] [] pos) (E8 ta):=by
 intro pins s σ H R I h;refine Call_ (gH I hg hm boot_range (PyProof.Rows.callWith_type1 (c_ (ha pos pins s σ H _ I h) fun us s1⟨vs,H1,I1,r1,q1⟩=>?_) hs rfl));obtain⟨j,e,q1,q2,q⟩:=q1;subst e;cases r1 with
 |cons r rr=>
  cases rr;obtain⟨t,rfl⟩:=r;exact call_range_1 (Ai I1 (by lia) (by lia) q1 q2 (by simpa using q))
noncomputable def Kg(wi:TI)(g:TG)(tb:TS):TS:=fun D σ H=>wi σ H fun J H1=>∃W:Nat->Nat->St->Hp->Prop,(∃m,W 0 m σ H1)/\∀i m σ H,W i m σ H->
 (J.stop i H/\D.nx σ H)\/(J.go i H/\∃N:St->Hp->Prop,(∀bE H',N bE H'->∃m',m'<m/\W (i+1) m' bE H')/\∀x H',J.rV i H x H'->g x σ H' fun eI H2=>tb {D with nx:=N,ct:=N,bk:=D.nx} eI H2)
noncomputable def qj(fp:List Addr)(h:Heap):List (Addr×Obj):=fp.filterMap fun b=>(h.get? b).map fun o=>(b,o)
theorem gI{fp:List Addr}{h:Heap}{b:Addr}{o:Obj}(hb:b∈fp)(e:h.get? b=some o):(b,o)∈qj fp h:=List.mem_filterMap.mpr ⟨b,hb,by rw[e];rfl⟩
theorem yC{fp:List Addr}{h:Heap}{p:Addr×Obj}(hp:p∈qj fp h):p.1∈fp/\h.get? p.1=some p.2:=by
 obtain⟨b,hb,e⟩:=List.mem_filterMap.mp hp;cases q:h.get? b with
 |none=>rw[q] at e;cases e
 |some o=>
  rw[q] at e;have e':(b,o)=p:=Option.some.inj e;subst e';exact⟨hb,q⟩
theorem Inv.pinned{pins:List (Addr×Obj)}{σ:St}{H:Hp}{s:Shared}{fp:List Addr}(I:Inv X pins σ H s)(hf:∀b∈fp,kD X pins H b)(ho:∀b∈fp,∃o,s.heap.get? b=some o/\∀v,o.data≠.cell v):Inv X (pins++qj fp s.heap) σ H s:=
 I.wM fun p hp=>(List.mem_append.mp hp).elim (fun z=>I.pin p (List.mem_append_right _ z)) fun z=>by
  obtain⟨hb,e⟩:=yC z;obtain⟨f0,f1,f2,_⟩:=hf p.1 hb;obtain⟨o,e',d⟩:=ho p.1 hb;rw[e] at e';cases e';exact⟨e,f0,f1,f2,d⟩
theorem Inv.jQ{pins pl:List (Addr×Obj)}{σ:St}{H:Hp}{s:Shared}(I:Inv X (pins++pl) σ H s):Inv X pins σ H s:=I.wM fun p hp=>I.pin p (List.mem_append_right _ (List.mem_append_left _ hp))
theorem dm{iter:Expr}{body:List Stmt}{wi:TI}{g:TG}{tb:TS}{pos:Pos}(hp:PassesOwn (model X.prog X.w) X.A X.env X.xe)(hc:X.calm=true)(hi:PI X tg iter wi)(hg:PG X tg g)(hb:oA X body tb)(hs:∀x,foldedSetIterable iter X.env x=pure x:=by intro _;rfl):PS X (.For tg iter body [] pos) (Kg wi g tb):=by
 intro pins s σ H D I h;refine wpAny_For (c_ (hi pins s σ H _ I h) fun v s1 h1=>c_ h1 fun M0 s2 h2=>?_) hs;obtain⟨it,fp,tn,J,H2,e,I2,T,GD,f2,W,⟨m0,w0⟩,turn⟩:=h2;subst e;have uX:∀{H':Hp},(∀b∈fp,H' b=none)->∀b∈fp,kD X pins H' b:=fun hn b hb=>⟨hn b hb,(f2 b hb).2⟩;refine codeAny_forLoop_any (fun n s'=>∃i bE H',Inv X pins bE H' s'/\tn i s'.heap/\(∀b∈fp,H' b=none)/\W i n bE H') ?_ m0 ⟨0,σ,H2,I2,GD,fun b hb=>(f2 b hb).1,w0⟩;rintro n s3 ⟨i,Ah,H3,I3,Jm,Ro,w3⟩;rcases turn i n Ah H3 w3 with⟨stop,qn⟩|⟨go,N,hN,step⟩
 ·refine wpAny_passesOwn hp (c_ (T.done X rfl rfl rfl hc i pins s3 Ah H3 X.xe I3 (uX Ro) Jm stop) fun r s4⟨hr,I4⟩=>?_);subst hr;exact wpAny_execs_nil ⟨Ah,H3,I4,qn⟩
 ·refine wpAny_passesOwn hp (c_ (T.item X rfl rfl rfl hc i pins s3 Ah H3 X.xe I3 (uX Ro) Jm go) fun r s4⟨u,hr,h4⟩=>?_);subst hr;refine wpAny_passesOwn hp (c_ h4 fun _ s5 ⟨x,H5,I5,r5,y5,Jn,M1⟩=>?_);have T9:=I5.pinned (uX M1) (T.obj _ _ Jn);refine wpAny_passesOwn hp (c_ (hg _ s5 Ah H5 x u _ T9 r5 (step x H5 y5)) fun _ s6 ⟨Kh,H6,I6,q6⟩=>?_);refine wpAny_passesOwn hp (c_ (hb _ s6 Kh H6 _ I6 q6) fun f s7 q7=>?_);have again:∀{Aj:St}{H7:Hp},Inv X (pins++qj fp s5.heap) Aj H7 s7->N Aj H7->∃m,m<n/\∃i bE H',Inv X pins bE H' s7/\tn i s7.heap/\(∀b∈fp,H' b=none)/\W i m bE H':=fun{Aj H7} I7 n7=>by
   obtain⟨m',hm,w7⟩:=hN Aj H7 n7;refine⟨m',hm,i+1,Aj,H7,I7.jQ,T.keep _ _ _ Jn fun b hb o e=>(I7.pin (b,o) (List.mem_append_right _ (List.mem_append_right _ (gI hb e)))).1,fun b hb=>?_,w7⟩;obtain⟨o,e,d⟩:=T.obj _ _ Jn b hb;exact(I7.pin (b,o) (List.mem_append_right _ (List.mem_append_right _ (gI hb e)))).2.1
  cases f with
  |next=>obtain⟨Aj,H7,I7,n7⟩:=q7;exact again I7 n7
  |cont=>obtain⟨Aj,H7,I7,n7⟩:=q7;exact again I7 n7
  |brk=>obtain⟨Aj,H7,I7,q7⟩:=q7;exact⟨Aj,H7,I7.jQ,q7⟩
  |ret v=>obtain⟨x7,Aj,H7,I7,r7,q7⟩:=q7;exact⟨x7,Aj,H7,I7.jQ,r7,q7⟩
end
theorem rY{K:PySem.W.Frag}{a:Addr}{xs:List V}{g:TG}{tb:TS}{D:Ends}{σ:St}{H:Hp}(Pv:Nat->St->Hp->Prop)(h0:Pv 0 σ H)(hl:∀i σ H,i<=xs.length->Pv i σ H->aM K H a xs)(hs:∀i x σ H,xs[i]?=some x->Pv i σ H->g x σ H fun eI H2=>tb {D with nx:=Pv (i+1),ct:=Pv (i+1),bk:=D.nx} eI H2)(hd:∀σ H,Pv xs.length σ H->D.nx σ H):
 ∃W:Nat->Nat->St->Hp->Prop,(∃m,W 0 m σ H)/\∀i m σ H,W i m σ H->
  ((rJ K a).stop i H/\D.nx σ H)\/((rJ K a).go i H/\∃N:St->Hp->Prop,(∀bE H',N bE H'->∃m',m'<m/\W (i+1) m' bE H')/\∀x H',(rJ K a).rV i H x H'->g x σ H' fun eI H2=>tb {D with nx:=N,ct:=N,bk:=D.nx} eI H2):=by
 refine⟨fun i m σ H=>m=xs.length-i/\i<=xs.length/\Pv i σ H,⟨xs.length,by simp,Nat.zero_le _,h0⟩,?_⟩;rintro i m σ H ⟨rfl,hi,p⟩;have q:=hl i σ H hi p;by_cases eL:i<xs.length
 ·refine .inr ⟨⟨xs,xs[i],q,by simp[eL]⟩,Pv (i+1),fun bE H' p'=>⟨xs.length-(i+1),by lia,rfl,eL,p'⟩,fun x H' y=>?_⟩;obtain⟨e,y⟩:=y;subst e;exact hs i x σ _ (y xs q) p
 ·have e:i=xs.length:=by lia
  subst e;exact .inl ⟨⟨xs,q,Nat.le_refl _⟩,hd σ H p⟩
theorem Dk{K:PySem.W.Frag}{a:Addr}{xs:List V}{g:TG}{tb:TS}{D:Ends}{σ:St}{H:Hp}(Pv:Nat->St->Hp->Prop)(h0:Pv 0 σ H)(hl:∀i σ H,i<=xs.length->Pv i σ H->cJ K H a xs)(hs:∀i x σ H,xs[i]?=some x->Pv i σ H->g x σ H fun eI H2=>tb {D with nx:=Pv (i+1),ct:=Pv (i+1),bk:=D.nx} eI H2)(hd:∀σ H,Pv xs.length σ H->D.nx σ H):
 ∃W:Nat->Nat->St->Hp->Prop,(∃m,W 0 m σ H)/\∀i m σ H,W i m σ H->
  ((Ke K a).stop i H/\D.nx σ H)\/((Ke K a).go i H/\∃N:St->Hp->Prop,(∀bE H',N bE H'->∃m',m'<m/\W (i+1) m' bE H')/\∀x H',(Ke K a).rV i H x H'->g x σ H' fun eI H2=>tb {D with nx:=N,ct:=N,bk:=D.nx} eI H2):=by
 refine⟨fun i m σ H=>m=xs.length-i/\i<=xs.length/\Pv i σ H,⟨xs.length,by simp,Nat.zero_le _,h0⟩,?_⟩;rintro i m σ H ⟨rfl,hi,p⟩;have q:=hl i σ H hi p;by_cases eL:i<xs.length
 ·refine .inr ⟨⟨xs,xs[i],q,by simp[eL]⟩,Pv (i+1),fun bE H' p'=>⟨xs.length-(i+1),by lia,rfl,eL,p'⟩,fun x H' y=>?_⟩;obtain⟨e,y⟩:=y;subst e;exact hs i x σ _ (y xs q) p
 ·have e:i=xs.length:=by lia
  subst e;exact .inl ⟨⟨xs,q,Nat.le_refl _⟩,hd σ H p⟩
theorem dU{lo:Int}{n:Nat}{g:TG}{tb:TS}{D:Ends}{σ:St}{H:Hp}(Pv:Nat->St->Hp->Prop)(h0:Pv 0 σ H)(hs:∀i σ H,i<n->Pv i σ H->g (.int (lo+i)) σ H fun eI H2=>tb {D with nx:=Pv (i+1),ct:=Pv (i+1),bk:=D.nx} eI H2)(hd:∀σ H,Pv n σ H->D.nx σ H):
 ∃W:Nat->Nat->St->Hp->Prop,(∃m,W 0 m σ H)/\∀i m σ H,W i m σ H->
  ((wQ lo n).stop i H/\D.nx σ H)\/((wQ lo n).go i H/\∃N:St->Hp->Prop,(∀bE H',N bE H'->∃m',m'<m/\W (i+1) m' bE H')/\∀x H',(wQ lo n).rV i H x H'->g x σ H' fun eI H2=>tb {D with nx:=N,ct:=N,bk:=D.nx} eI H2):=by
 refine⟨fun i m σ H=>m=n-i/\i<=n/\Pv i σ H,⟨n,by simp,Nat.zero_le _,h0⟩,?_⟩;rintro i m σ H ⟨rfl,hi,p⟩;by_cases eL:i<n
 ·refine .inr ⟨eL,Pv (i+1),fun bE H' p'=>⟨n-(i+1),by lia,rfl,eL,p'⟩,fun x H' y=>?_⟩;obtain⟨e,y⟩:=y;subst e y;exact hs i σ _ eL p
 ·have e:i=n:=by lia
  subst e;exact .inl ⟨Nat.le_refl _,hd σ H p⟩
end L2
namespace L2
open PySem PySem.Spec PyProof.Rows
noncomputable abbrev R2:=V->V->Hp->VK->Prop
noncomputable def kC(X:Cx)(f:Value->Value->Sem Value)(r:R2):Prop:=
 ∀(pins:List (Addr×Obj))(s:Shared)(σ:St)(H:Hp)(x y:V)(v u:Value)(Q:VK),Inv X pins σ H s->RelV x v->RelV y u->r x y H Q->
  wpAny (model X.prog X.w) X.A (f v u) (EP X pins σ Q) X.xe s
noncomputable def N5(X:Cx)(f:Value->Sem Value)(r:V->Hp->VK->Prop):Prop:=
 ∀(pins:List (Addr×Obj))(s:Shared)(σ:St)(H:Hp)(x:V)(v:Value)(Q:VK),Inv X pins σ H s->RelV x v->r x H Q->
  wpAny (model X.prog X.w) X.A (f v) (EP X pins σ Q) X.xe s
noncomputable def gn(X:Cx)(f:Value)(r:List V->Hp->VK->Prop):Prop:=
 ∀(pins:List (Addr×Obj))(s:Shared)(σ:St)(H:Hp)(xs:List V)(us:List Value)(Q:VK),Inv X pins σ H s->Vals xs us->r xs H Q->
  wpAny (model X.prog X.w) X.A (call f us) (EP X pins σ Q) X.xe s
noncomputable def N6(X:Cx)(r:V->Hp->(Bool->Hp->Prop)->Prop):Prop:=
 ∀(pins:List (Addr×Obj))(s:Shared)(σ:St)(H:Hp)(x:V)(v:Value)(Q:Bool->Hp->Prop),Inv X pins σ H s->RelV x v->r x H Q->
  wpAny (model X.prog X.w) X.A (truthy v) (TP X pins σ Q) X.xe s
noncomputable def Ki(r:R2)(ta tb:TE):TE:=fun σ H Q=>ta σ H fun x H1=>tb σ H1 fun y H2=>r x y H2 Q
noncomputable def Rp(r:V->Hp->VK->Prop)(ta:TE):TE:=fun σ H Q=>ta σ H fun x H1=>r x H1 Q
noncomputable def rI(C:Int->Int->Prop)(g:Int->Int->V):R2:=fun x y H Q=>∃i j,x=.int i/\y=.int j/\C i j/\Q (g i j) H
noncomputable def E9(g:Int->Int->V):R2:=fun x y H Q=>∃i j,x=.int i/\y=.int j/\Q (g i j) H
noncomputable def rU(g:Int->V):V->Hp->VK->Prop:=fun x H Q=>∃i,x=.int i/\Q (g i) H
section
variable {X:Cx} {a b c:Expr} {ta tb tc:TE} {pos:Pos}
theorem GF(ha:PE X a ta)(hb:PE X b tb){pins:List (Addr×Obj)}{s:Shared}{σ:St}{H:Hp}{R:V->V->Hp->Prop}(I:Inv X pins σ H s)(h:ta σ H fun x H1=>tb σ H1 fun y H2=>R x y H2){Q:Value->Shared->Prop}{f:Value->Value->Sem Value}(hf:∀v u s2 x y H2,Inv X pins σ H2 s2->RelV x v->RelV y u->R x y H2->wpAny (model X.prog X.w) X.A (f v u) Q X.xe s2):
 wpAny (model X.prog X.w) X.A (eval a X.env) (fun v bR=>wpAny (model X.prog X.w) X.A (eval b X.env) (fun u uY=>wpAny (model X.prog X.w) X.A (f v u) Q X.xe uY) X.xe bR) X.xe s:=by
 refine c_ (ha pins s σ H _ I h) fun v s1⟨x,H1,I1,r1,q1⟩=>?_;refine c_ (hb pins s1 σ H1 _ I1 q1) fun u s2⟨y,H2,I2,r2,q2⟩=>?_;exact hf v u s2 x y H2 I2 r1 r2 q2
theorem ak{op:Operator}{r:R2}(ho:kC X (binaryOp op) r)(ha:PE X a ta)(hb:PE X b tb):PE X (.BinOp a op b pos) (Ki r ta tb):=by
 intro pins s σ H Q I h;exact wpAny_BinOp (GF ha hb I h fun v u s2 x y H2 I2 rx ry q=>ho pins s2 σ H2 x y v u Q I2 rx ry q)
theorem dH{op:UnaryOp}{r:V->Hp->VK->Prop}(ho:N5 X (unaryOp op) r)(ha:PE X a ta):PE X (.UnaryOp op a pos) (Rp r ta):=by
 intro pins s σ H Q I h;exact UnaryOp_ (c_ (ha pins s σ H _ I h) fun v s1⟨x,H1,I1,r1,q1⟩=>ho pins s1 σ H1 x v Q I1 r1 q1)
theorem M3{f:Value->Value->Sem Value}{C:Int->Int->Prop}{g:Int->Int->Int}(rule:∀(i j:Int)(t u:Tok)(s:Shared)(Q:Value->Shared->Prop)(E:Value->Shared->Prop),C i j->Q (.int (g i j) s.toks) {s with toks:=s.toks+1}->wpAny (model X.prog X.w) X.A (f (.int i t) (.int j u)) Q E s):
 kC X f (rI C fun i j=>.int (g i j)):=by
 intro pins s σ H x y v u Q I rx ry h;obtain⟨i,j,rfl,rfl,hc,q⟩:=h;obtain⟨t,rfl⟩:=rx;obtain⟨t',rfl⟩:=ry;exact rule i j t t' s _ _ hc ⟨.int (g i j),H,I.tok _,⟨_,rfl⟩,q⟩
theorem Kj{f:Value->Value->Sem Value}{g:Int->Int->Int}(rule:∀(i j:Int)(t u:Tok)(s:Shared)(Q:Value->Shared->Prop)(E:Value->Shared->Prop),Q (.int (g i j) s.toks) {s with toks:=s.toks+1}->wpAny (model X.prog X.w) X.A (f (.int i t) (.int j u)) Q E s):
 kC X f (E9 fun i j=>.int (g i j)):=by
 intro pins s σ H x y v u Q I rx ry h;obtain⟨i,j,rfl,rfl,q⟩:=h;obtain⟨t,rfl⟩:=rx;obtain⟨t',rfl⟩:=ry;exact rule i j t t' s _ _ ⟨.int (g i j),H,I.tok _,⟨_,rfl⟩,q⟩
theorem GG{f:Value->Value->Sem Value}{g:Int->Int->Bool}(rule:∀(i j:Int)(t u:Tok)(s:Shared)(Q:Value->Shared->Prop)(E:Value->Shared->Prop),Q (.bool (g i j)) s->wpAny (model X.prog X.w) X.A (f (.int i t) (.int j u)) Q E s):
 kC X f (E9 fun i j=>.bl (g i j)):=by
 intro pins s σ H x y v u Q I rx ry h;obtain⟨i,j,rfl,rfl,q⟩:=h;obtain⟨t,rfl⟩:=rx;obtain⟨t',rfl⟩:=ry;exact rule i j t t' s _ _ ⟨.bl (g i j),H,I,rfl,q⟩
noncomputable def N7(i j:Int):Prop:=0<=j/\j<=1000000/\i.natAbs<2^64
theorem aZ:kC X (binaryOp .Add) (E9 fun i j=>.int (i+j)):=Kj fun _ _ _ _ _ _ _ q=>add_int q
theorem bB:kC X (binaryOp .Sub) (E9 fun i j=>.int (i-j)):=Kj fun _ _ _ _ _ _ _ q=>sub_int q
theorem bL:kC X (binaryOp .Mod) (rI (fun _ j=>j≠0) fun i j=>.int (i.fmod j)):=M3 fun _ _ _ _ _ _ _ hc q=>mod_int' hc q
theorem GH:kC X (binaryOp .Pow) (rI N7 fun i j=>.int (i^j.toNat)):=M3 fun _ _ _ _ _ _ _ hc q=>pow_int_small hc.1 hc.2.1 hc.2.2 q
theorem T_{f:Value->Sem Value}{g:Int->Int}(rule:∀(i:Int)(t:Tok)(s:Shared)(Q:Value->Shared->Prop)(E:Value->Shared->Prop),Q (.int (g i) s.toks) {s with toks:=s.toks+1}->wpAny (model X.prog X.w) X.A (f (.int i t)) Q E s):
 N5 X f (rU fun i=>.int (g i)):=by
 intro pins s σ H x v Q I rx h;obtain⟨i,rfl,q⟩:=h;obtain⟨t,rfl⟩:=rx;exact rule i t s _ _ ⟨.int (g i),H,I.tok _,⟨_,rfl⟩,q⟩
theorem cC:N5 X (unaryOp .USub) (rU fun i=>.int (-i)):=T_ fun _ _ _ _ _ q=>neg_int q
end
noncomputable def GI:V->V->Bool
 |.gf,.gf=>true|.gf,.int _=>true|.int _,.gf=>true|.gf,.bl _=>true|.bl _,.gf=>true|.gf,.str _=>true|.str _,.gf=>true
 |.int _,.int _=>true|.bl _,.bl _=>true|.str _,.str _=>true|.yu _,.yu _=>true
 |.int _,.str _=>true|.str _,.int _=>true|.bl _,.str _=>true|.str _,.bl _=>true
 |_,_=>false
noncomputable def N8:R2:=fun x y H Q=>GI x y=true/\Q (.bl (decide (x=y))) H
noncomputable def Rq:R2:=fun x y H Q=>GI x y=true/\Q (.bl (!decide (x=y))) H
theorem wR{i j:Int}:decide (V.int i=V.int j)=(i==j):=by
 rw[Bool.eq_iff_iff];simp
theorem Ak{i j:Bool}:decide (V.bl i=V.bl j)=(i==j):=by
 rw[Bool.eq_iff_iff];simp
theorem wU{i j:Str}:decide (V.str i=V.str j)=(i==j):=by
 rw[Bool.eq_iff_iff];simp
theorem wV{i j:Array UInt8}:decide (V.yu i=V.yu j)=(i.toList==j.toList):=by
 rw[Bool.eq_iff_iff];cases i;cases j;simp
section
variable {X:Cx} {a b c:Expr} {ta tb tc:TE} {pos:Pos}
theorem a0{pins:List (Addr×Obj)}{σ:St}{H:Hp}{s:Shared}{Q:VK}{k k':Bool}(I:Inv X pins σ H s)(q:Q (.bl k) H)(e:k=k'):EP X pins σ Q (.bool k') s:=by
 subst e;exact⟨.bl k,H,I,rfl,q⟩
theorem jr:kC X (compareOp .Eq) N8:=by
 intro pins s σ H x y v u Q I rx ry h;obtain⟨hs,q⟩:=h;cases x with
 |gf=>
  cases rx
  cases y with
  |gf=>cases ry;exact PySem.EqNone.eq_none_none (a0 I q (by simp))
  |bl j=>cases ry;exact PySem.EqNone.eq_none_bool (a0 I q (by simp))
  |int j=>obtain⟨t',rfl⟩:=ry;exact PySem.EqNone.eq_none_int (a0 I q (by simp))
  |str j=>obtain⟨t',rfl⟩:=ry;exact PySem.EqNone.eq_none_str (a0 I q (by simp))
  |_=>exact absurd (show false=true from hs) Bool.false_ne_true
 |bl i=>
  cases rx
  cases y with
  |gf=>cases ry;exact PySem.EqNone.eq_bool_none (a0 I q (by simp))
  |bl j=>cases ry;exact eq_bool (a0 I q Ak)
  |str j=>obtain⟨t',rfl⟩:=ry;exact PySem.EqMixed.eq_bool_str (a0 I q (by simp))
  |_=>exact absurd (show false=true from hs) Bool.false_ne_true
 |int i=>
  obtain⟨t,rfl⟩:=rx;cases y with
  |gf=>cases ry;exact PySem.EqNone.eq_int_none (a0 I q (by simp))
  |int j=>obtain⟨t',rfl⟩:=ry;exact eq_int (a0 I q wR)
  |str j=>obtain⟨t',rfl⟩:=ry;exact PySem.EqMixed.eq_int_str (a0 I q (by simp))
  |_=>exact absurd (show false=true from hs) Bool.false_ne_true
 |str i=>
  obtain⟨t,rfl⟩:=rx;cases y with
  |gf=>cases ry;exact PySem.EqNone.eq_str_none (a0 I q (by simp))
  |bl j=>cases ry;exact PySem.EqMixed.eq_str_bool (a0 I q (by simp))
  |int j=>obtain⟨t',rfl⟩:=ry;exact PySem.EqMixed.eq_str_int (a0 I q (by simp))
  |str j=>obtain⟨t',rfl⟩:=ry;exact eq_str (a0 I q wU)
  |_=>exact absurd (show false=true from hs) Bool.false_ne_true
 |yu i=>
  obtain⟨t,rfl⟩:=rx;cases y with
  |yu j=>obtain⟨t',rfl⟩:=ry;exact PySem.W.eq_bytes (a0 I q wV)
  |_=>exact absurd (show false=true from hs) Bool.false_ne_true
 |_=>cases y<;>exact absurd (show false=true from hs) Bool.false_ne_true
theorem o4:kC X (compareOp .NotEq) Rq:=by
 intro pins s σ H x y v u Q I rx ry h;obtain⟨hs,q⟩:=h;cases x with
 |gf=>
  cases rx
  cases y with
  |gf=>cases ry;exact PySem.EqNone.ne_none_none (a0 I q (by simp))
  |bl j=>cases ry;exact PySem.EqNone.ne_none_bool (a0 I q (by simp))
  |int j=>obtain⟨t',rfl⟩:=ry;exact PySem.EqNone.ne_none_int (a0 I q (by simp))
  |str j=>obtain⟨t',rfl⟩:=ry;exact PySem.EqNone.ne_none_str (a0 I q (by simp))
  |_=>exact absurd (show false=true from hs) Bool.false_ne_true
 |bl i=>
  cases rx
  cases y with
  |gf=>cases ry;exact PySem.EqNone.ne_bool_none (a0 I q (by simp))
  |bl j=>cases ry;exact ne_bool (a0 I q (congrArg not Ak))
  |str j=>obtain⟨t',rfl⟩:=ry;exact PySem.EqMixed.ne_bool_str (a0 I q (by simp))
  |_=>exact absurd (show false=true from hs) Bool.false_ne_true
 |int i=>
  obtain⟨t,rfl⟩:=rx;cases y with
  |gf=>cases ry;exact PySem.EqNone.ne_int_none (a0 I q (by simp))
  |int j=>obtain⟨t',rfl⟩:=ry;exact ne_int (a0 I q (congrArg not wR))
  |str j=>obtain⟨t',rfl⟩:=ry;exact PySem.EqMixed.ne_int_str (a0 I q (by simp))
  |_=>exact absurd (show false=true from hs) Bool.false_ne_true
 |str i=>
  obtain⟨t,rfl⟩:=rx;cases y with
  |gf=>cases ry;exact PySem.EqNone.ne_str_none (a0 I q (by simp))
  |bl j=>cases ry;exact PySem.EqMixed.ne_str_bool (a0 I q (by simp))
  |int j=>obtain⟨t',rfl⟩:=ry;exact PySem.EqMixed.ne_str_int (a0 I q (by simp))
  |str j=>obtain⟨t',rfl⟩:=ry;exact ne_str (a0 I q (congrArg not wU))
  |_=>exact absurd (show false=true from hs) Bool.false_ne_true
 |yu i=>
  obtain⟨t,rfl⟩:=rx;cases y with
  |yu j=>obtain⟨t',rfl⟩:=ry;exact PySem.W.ne_bytes (a0 I q (congrArg not wV))
  |_=>exact absurd (show false=true from hs) Bool.false_ne_true
 |_=>cases y<;>exact absurd (show false=true from hs) Bool.false_ne_true
theorem jR:kC X (compareOp .Lt) (E9 fun i j=>.bl (decide (i<j))):=GG fun _ _ _ _ _ _ _ q=>lt_int q
theorem fb:kC X (compareOp .Gt) (E9 fun i j=>.bl (decide (j<i))):=GG fun _ _ _ _ _ _ _ q=>gt_int q
theorem Al:kC X (compareOp .GtE) (E9 fun i j=>.bl (decide (j<=i))):=GG fun _ _ _ _ _ _ _ q=>ge_int q
theorem wW:kC X (compareOp .IsNot) (fun x y H Q=>y=.gf/\Q (.bl (!decide (x=.gf))) H):=by
 intro pins s σ H x y v u Q I rx ry h;obtain⟨rfl,q⟩:=h;cases ry;refine isnot_none_gen (a0 I q ?_);cases x<;>first
  |(cases rx;rfl)
  |(obtain⟨t,rfl⟩:=rx;rfl)
theorem aI(b:Expr){op:CmpOp}(h:op≠.In:=by decide)(h2:op≠.NotIn:=by decide):behindInMarks op b=false:=by
 have e1:(op==CmpOp.In)=false:=by cases op<;>first|rfl|exact absurd rfl h
 have e2:(op==CmpOp.NotIn)=false:=by cases op<;>first|rfl|exact absurd rfl h2
 cases b<;>simp[behindInMarks,e1,e2]
theorem fv{op:CmpOp}{r:R2}(ho:kC X (compareOp op) r)(ha:PE X a ta)(hb:PE X b tb)(hm:behindInMarks op b=false):PE X (.Compare a [op] [b] pos) (Ki r ta tb):=by
 intro pins s σ H Q I h;exact wpAny_Compare1 (GF ha hb I h fun v u s2 x y H2 I2 rx ry q=>ho pins s2 σ H2 x y v u Q I2 rx ry q) hm
noncomputable def E_(t:TE):TT:=fun σ H Q=>t σ H fun x H'=>∃k,x=.bl k/\Q k H'
theorem aG{op:CmpOp}{r:R2}(ho:kC X (compareOp op) r)(ha:PE X a ta)(hb:PE X b tb)(hm:behindInMarks op b=false):PT X (.Compare a [op] [b] pos) (E_ (Ki r ta tb)):=by
 intro pins s σ H Q I h;refine wpAny_isTrue_Compare1 (c_ (ha pins s σ H _ I h) fun v s1⟨x,H1,I1,r1,q1⟩=>c_ (hb pins s1 σ H1 _ I1 q1) fun u s2⟨y,H2,I2,r2,q2⟩=>
  c_ (ho pins s2 σ H2 x y v u _ I2 r1 r2 q2) fun c s3⟨z,H3,I3,r3,k,e,q3⟩=>?_) hm;subst e;cases r3;exact wpAny_truthy_bool ⟨H3,I3,q3⟩
noncomputable def Dl(K:PySem.W.Frag)(x:V)(H:Hp)(k:Bool):Prop:=
 match x with
 |.gf=>k=false
 |.bl b=>k=b
 |.int i=>k=(i !=0)
 |.str y=>y.length<=sizeLine/\k=((y.length:Int)!=0)
 |.yu y=>y.size<=sizeLine/\k=((y.size:Int)!=0)
 |.ref p=>(∃xs,aM K H p xs/\k=!xs.isEmpty)\/(∃xs,cJ K H p xs/\k=!xs.isEmpty)\/∃gF,H p=some (.dK gF)/\k=!gF.isEmpty
 |_=>False
theorem uZ{κ:Type}{gF:List (κ×V)}{vs:List (κ×Value)}(r:KV gF vs):(!vs.isEmpty)=!gF.isEmpty:=by
 cases r<;>rfl
theorem mR{xs:List V}{aK:List Value}(r:Vals xs aK):(!aK.toArray.isEmpty)=!xs.isEmpty:=by
 cases r<;>simp
theorem mS:(sizeLine:Nat)<2^63:=by rw[sizeLine_eq];decide
theorem GJ:N6 X (fun x H Q=>∃k,Dl X.K x H k/\Q k H):=by
 intro pins s σ H x v Q I rx h;obtain⟨k,e,q⟩:=h;have hl:=mS;have hs:sizeLine=16777216:=sizeLine_eq;cases x with
 |gf=>
  cases rx;have e':k=false:=e;subst e';exact truthy_none ⟨H,I,q⟩
 |bl b=>
  cases rx;have e':k=b:=e;subst e';exact wpAny_truthy_bool ⟨H,I,q⟩
 |int i=>
  obtain⟨t,rfl⟩:=rx;have e':k=(i !=0):=e;subst e';exact PySem.P.truthy_int ⟨H,I,q⟩
 |str y=>
  obtain⟨t,rfl⟩:=rx;obtain⟨hy,e'⟩:y.length<=sizeLine/\k=((y.length:Int)!=0):=e;subst e';exact PySem.P.truthy_str (by lia) ⟨H,I.tok _,q⟩
 |yu y=>
  obtain⟨t,rfl⟩:=rx;obtain⟨hy,e'⟩:y.size<=sizeLine/\k=((y.size:Int)!=0):=e;subst e';exact PySem.W.truthy_bytes (by lia) ⟨H,I.tok _,q⟩
 |ref p=>
  cases rx;have e':(∃xs,aM X.K H p xs/\k=!xs.isEmpty)\/(∃xs,cJ X.K H p xs/\k=!xs.isEmpty)\/∃gF,H p=some (.dK gF)/\k=!gF.isEmpty:=e;rcases e' with⟨xs,hx,e'⟩|⟨xs,hx,e'⟩|⟨gF,hx,e'⟩
  ·subst e';obtain⟨aK,r,pl,hz⟩:=I.list hx;have hlen:=r.length;exact wpAny_truthy_list pl.isList (by simp only[List.size_toArray];lia) ⟨H,I.tok _,by rw[mR r];exact q⟩
  ·subst e';obtain⟨aK,r,pl,hz⟩:=I.tuple hx;have hlen:=r.length;exact truthy_tuple pl (by simp only[List.size_toArray];lia) ⟨H,I.tok _,by rw[mR r];exact q⟩
  ·subst e';obtain⟨hz,hS,vs,r,m⟩:gF.length<=sizeLine/\(p==sysModules)=false/\∃vs,KV gF vs/\s.heap.DictOf (qb X.prog X.w) p vs:=I.bO p _ hx;have hlen:gF.length=vs.length:=Paired.length r;exact wpAny_truthy_dict hS m (by lia) ⟨H,I.tok _,by rw[uZ r];exact q⟩
 |_=>exact(show False from e).elim
theorem fE(ha:PE X a ta)(he:∀whole,isTrue a X.env whole=(do let v<-whole;standAt a.pos;holding [v] (truthy v))):
 PT X a (fun σ H Q=>ta σ H fun x H'=>∃k,Dl X.K x H' k/\Q k H'):=by
 intro pins s σ H Q I h;exact isTrue_plain (c_ (ha pins s σ H _ I h) fun v s1⟨x,H1,I1,r1,q1⟩=>GJ pins s1 σ H1 x v Q I1 r1 q1) (he _)
theorem vals1{x:V}{us:List Value}(r:Vals [x] us):∃u,us=[u]/\RelV x u:=by
 cases r with
 |cons r1 r2=>cases r2;exact⟨_,rfl,r1⟩
theorem vals2{x y:V}{us:List Value}(r:Vals [x,y] us):∃u w',us=[u,w']/\RelV x u/\RelV y w':=by
 cases r with
 |cons r1 r2=>
  cases r2 with
  |cons r3 r4=>cases r4;exact⟨_,_,rfl,r1,r3⟩
theorem d9:gn X (.builtin "abs") (fun xs H Q=>∃i,xs=[.int i]/\Q (.int (if i<0 then -i else i)) H):=by
 intro pins s σ H xs us Q I r h;obtain⟨i,rfl,q⟩:=h;obtain⟨u,rfl,t,rfl⟩:=vals1 r;exact call_abs_int fun u tk=>⟨.int (if i<0 then -i else i),H,I.tok _,⟨_,rfl⟩,q⟩
theorem yD(hc:X.calm=true):gn X (.builtin "min") (fun xs H Q=>∃i j,xs=[.int i,.int j]/\Q (.int (if j<i then j else i)) H):=by
 intro pins s σ H xs us Q I r h;obtain⟨i,j,rfl,q⟩:=h;obtain⟨u,w',rfl,⟨t,rfl⟩,⟨t',rfl⟩⟩:=vals2 r;refine min_two_ints (I.ok.hd hc) fun h' tk k=>⟨_,H,I.kept k,?_,q⟩;by_cases hj:j<i
 ·rw[if_pos hj,if_pos hj];exact⟨_,rfl⟩
 ·rw[if_neg hj,if_neg hj];exact⟨_,rfl⟩
theorem fA:gn X (.type "int") (fun xs H Q=>(∃i,xs=[.int i]/\Q (.int i) H)\/∃k,xs=[.bl k]/\Q (.int (if k then 1 else 0)) H):=by
 intro pins s σ H xs us Q I r h;rcases h with⟨i,rfl,q⟩|⟨k,rfl,q⟩
 ·obtain⟨u,rfl,t,rfl⟩:=vals1 r;exact call_int_int ⟨.int i,H,I,⟨_,rfl⟩,q⟩
 ·obtain⟨u,rfl,r1⟩:=vals1 r;cases r1;exact call_int_bool ⟨.int (if k then 1 else 0),H,I.tok _,⟨_,rfl⟩,q⟩
end
end L2
namespace L2
open PySem PySem.Spec PyProof.Rows
structure GK(h:Heap)(x dx C:Addr)(mA:Str->Option Value):Prop where
 obj:h.get? x=some (PySem.W.instObj C dx)
 ns:h.Ns1 dx mA
 ne:dx≠x
theorem yE{h:Heap}{dx:Addr}{mA:Str->Option Value}(n:h.Ns1 dx mA):∃od,h.get? dx=some od/\∀name,PySem.W.lookIn name od=some (mA name):=by
 obtain⟨o,es,ep,ho,hd,hk,_,hm⟩:=n;refine⟨o,ho,fun name=>?_⟩;have e:=hm name;unfold nsFind findBy at e;rw[<-Array.find?_toList] at e;unfold PySem.W.lookIn;rw[hd]
 dsimp only
 split
 ·rename_i y q;rw[q] at e;exact congrArg some e
 ·rename_i q;rw[q] at e;have a:es.toList.any (·.refKey)=false:=by
   rw[List.any_eq_false];intro y hy;obtain⟨z,t,N9⟩:=hk y (Array.mem_toList_iff.mp hy);simp[DictEntry.refKey,N9]
  have a':¬es.toList.any (·.refKey)=true:=by rw[a];exact Bool.false_ne_true
  rw[if_neg a'];exact congrArg some e
theorem GK.look{h:Heap}{x dx C:Addr}{mA:Str->Option Value}(I:GK h x dx C mA):∃od,PySem.W.InstAt h x (PySem.W.instObj C dx) C (some od)/\∀name,PySem.W.lookIn name od=some (mA name):=
 let⟨od,ho,hl⟩:=yE I.ns
 ⟨od,⟨I.obj,rfl,rfl,ho⟩,hl⟩
section
variable {prog:Program} {w:World} {A:Around} {E:Value->Shared->Prop} {s:Shared} {K:PySem.W.Frag} {x dx C f:Addr} {mA:Str->Option Value} {name:Str} {v:Value}
end
section
variable {P:Program} {w:World} {H H':Hp} {h h':Heap} {a C dx:Addr} {fs T6:List (Str×V)}
theorem Dm(bO:jc P w H h)(e:H a=some (.ins C dx fs)):∃mA,GK h a dx C mA/\(∀f,Gu (fs.lookup f) (mA f))/\PySem.Within mA (fs.map (·.1))/\fs.length<=1000/\H dx=some (.own a):=by
 obtain⟨d,z,ne,ob,mA,n,r,q⟩:=(show cI P w H h a (.ins C dx fs) from bO a _ e);exact⟨mA,⟨ob,n,ne⟩,r,q,z,d⟩
end
structure N_(K:PySem.W.Frag)(C:Addr):Prop where
 pg:PySem.W.plainGet K C Str.empty=true
 hd:PySem.W.hasDictIn K C=true
 po:PySem.W.plainOver K C=true
 sa:PySem.W.findIn K (.ref C) "__setattr__"=some (some (.builtin "object.__setattr__"))
theorem N_.get{K:PySem.W.Frag}{C:Addr}(c:N_ K C)(f:Str):PySem.W.plainGet K C f=true:=c.pg
structure Xu(K:PySem.W.Frag)(C:Addr)(f:Str)(v:V)(u:Value):Prop where
 at_:PySem.W.findIn K (.ref C) f=some (some u)
 rel:RelV v u
 get:PySem.W.specialIn K u "__get__"=some none
 cp:PySem.W.copiedNames.contains f=false
structure Meth(K:PySem.W.Frag)(C:Addr)(m:Str)(f:Addr):Prop where
 at_:PySem.W.findIn K (.ref C) m=some (some (.ref f))
 fn:PySem.W.isFn K (.ref f)=true
 kp:PySem.W.keepIn K (.ref f)=true
section
variable {X:Cx} {pins:List (Addr×Obj)} {σ:St} {H:Hp} {s:Shared} {a C dx:Addr} {fs:List (Str×V)} {f:Str} {v:V} {A:Around} {E:Value->Shared->Prop}
end
section
variable {X:Cx} {o e value:Expr} {f:Str} {pos pos' Ua:Pos} {ta tv:TE}
end
section
variable {X:Cx} {pins:List (Addr×Obj)} {σ:St} {H:Hp} {s:Shared} {A:Around} {E:Value->Shared->Prop} {Q:Value->Shared->Prop} {c:Value} {b:Bool}
inductive kE(K:PySem.W.Frag)(H:Hp):V->Value->Prop where
 |gf:kE K H .gf (.type "NoneType")
 |bl (x:Bool):kE K H (.bl x) (.type "bool")
 |int (i:Int):kE K H (.int i) (.type "int")
 |str (x:Str):kE K H (.str x) (.type "str")
 |Jj (x:UInt64):kE K H (.Jj x) (.type "float")
 |lst {a:Addr} {xs:List V} (e:H a=some (.lst xs)):kE K H (.ref a) (.type "list")
 |uO {a:Addr} {o:Obj} {xs:List V} (e:H a=some (.uO o (.lst xs))):kE K H (.ref a) (.type "list")
 |tup {a:Addr} {xs:List V} (e:H a=some (.tup xs)):kE K H (.ref a) (.type "tuple")
 |dK {a:Addr} {gF:List (Key×V)} (e:H a=some (.dK gF)):kE K H (.ref a) (.type "dict")
 |dT {a:Addr} {gF:List (List Key×V)} (e:H a=some (.dT gF)):kE K H (.ref a) (.type "dict")
 |ins {a C dx:Addr} {fs:List (Str×V)} (e:H a=some (.ins C dx fs)) (cl:N_ K C) (ha:PySem.W.findIn K (.ref C) "__class__"=some (some (.builtin "object.__class__")))
  (hn:PySem.W.specialIn K (.builtin "object.__class__") "__get__"=some (some (.builtin "getset_descriptor.__get__"))) (Rr:PySem.W.takesIn K (.builtin "object.__class__")=some true)
  (hm:PySem.W.mroIn K C (.type "object")=some true):kE K H (.ref a) (.ref C)
theorem yF{x:V}{u t:Value}(I:Inv X pins σ H s)(rx:RelV x u)(ty:kE X.K H x t)(e:PySem.W.kitOne X.K t c=some b)(h:∀tk,Q (.bool b) {s with toks:=tk}):
 wpAny (model X.prog X.w) A (call (.builtin "isinstance") [u,c]) Q E s:=by
 cases ty with
 |gf=>cases (show u=Value.none from rx);exact PySem.W.kia_one PySem.W.kitx_none I.ou True.intro e (fun z=>nomatch z) h
 |bl y=>cases (show u=Value.bool y from rx);exact PySem.W.kia_one PySem.W.kitx_bool I.ou True.intro e (fun z=>nomatch z) h
 |int i=>obtain⟨t,q⟩:=(show ∃t,u=Value.int i t from rx);cases q;exact PySem.W.kia_one PySem.W.kitx_int I.ou True.intro e (fun z=>nomatch z) h
 |str y=>obtain⟨t,q⟩:=(show ∃t,u=Value.str y t from rx);cases q;exact PySem.W.kia_one PySem.W.kitx_str I.ou True.intro e (fun z=>nomatch z) h
 |Jj y=>obtain⟨t,q⟩:=(show ∃t,u=Value.float y t from rx);cases q;exact PySem.W.kia_one PySem.W.kitx_float I.ou True.intro e (fun z=>nomatch z) h
 |@lst a xs ea=>
  cases (show u=Value.ref a from rx);obtain⟨_,_,n,_,h1⟩:=(show cI X.prog X.w H s.heap a (.lst xs) from I.bO a _ ea);exact PySem.W.kia_one PySem.W.kitx_list I.ou ⟨_,h1,rfl⟩ e (fun z=>nomatch z) h
 |@uO a ob xs ea=>
  cases (show u=Value.ref a from rx);obtain⟨_,_,_,n,_,h1⟩:=(show cI X.prog X.w H s.heap a (.uO ob (.lst xs)) from I.bO a _ ea);exact PySem.W.kia_one PySem.W.kitx_list I.ou ⟨_,h1,rfl⟩ e (fun z=>nomatch z) h
 |@tup a xs ea=>
  cases (show u=Value.ref a from rx);obtain⟨_,_,_,p⟩:=(show cI X.prog X.w H s.heap a (.tup xs) from I.bO a _ ea);obtain⟨o,h1,h2,_⟩:=p;exact PySem.W.kia_one PySem.W.kitx_tuple I.ou ⟨o,h1,h2⟩ e (fun z=>nomatch z) h
 |@dK a gF ea=>
  cases (show u=Value.ref a from rx);obtain⟨_,_,vs,_,p⟩:=(show cI X.prog X.w H s.heap a (.dK gF) from I.bO a _ ea);obtain⟨o,es,ep,h1,h2,_⟩:=p;exact PySem.W.kia_one PySem.W.kitx_dict I.ou ⟨o,h1,h2.1⟩ e (fun z=>nomatch z) h
 |@dT a gF ea=>
  cases (show u=Value.ref a from rx);obtain⟨_,_,xs,_,o,es,ep,h1,h2,_⟩:=(show cI X.prog X.w H s.heap a (.dT gF) from I.bO a _ ea);exact PySem.W.kia_one PySem.W.kitx_dict I.ou ⟨o,h1,h2.1⟩ e (fun z=>nomatch z) h
 |@ins a C dx fs ea cl ha hn Rr hm=>
  cases (show u=Value.ref a from rx);obtain⟨mA,O,_⟩:=Dm I.bO ea;obtain⟨od,J,_⟩:=O.look;exact PySem.W.kia_one (PySem.W.kitx_own (cl.get _) cl.hd ha hn Rr hm) I.ou J e (fun z=>nomatch z) h
end
end L2
namespace L2
open PySem PySem.Spec PyProof.Rows
structure fi(k:Nat)(A:Around):Prop where
 hd:A.handled=none
 dp:A.depth+3*k+5<recursionLimit
 un:A.units+16*k+200<cLine
theorem fi.mono{j k:Nat}{A:Around}(r:fi k A)(h:j<=k):fi j A:=⟨r.hd,by have:=r.dp;lia,by have:=r.un;lia⟩
theorem fi.deeper{k:Nat}{A:Around}(r:fi (k+1) A)(env:Env):fi k (A.deeper env):=
 ⟨r.hd,by have:=r.dp;show A.depth+1+3*k+5<_;lia,by have:=r.un;show A.units+3+16*k+200<_;lia⟩
theorem fi.depth{k:Nat}{A:Around}(r:fi k A):A.depth<recursionLimit:=by have:=r.dp;lia
theorem fi.units{k:Nat}{A:Around}(r:fi k A):A.units+64<cLine:=by have:=r.un;lia
theorem fi.u4{k:Nat}{A:Around}(r:fi k A):A.units<cLine:=by have:=r.un;lia
noncomputable def Kk:TA:=fun _ H Q=>Q [] H
noncomputable def Fb(ta:TE)(tr:TA):TA:=fun σ H Q=>ta σ H fun x H1=>tr σ H1 fun xs H2=>Q (x::xs) H2
section
variable {X:Cx} {e:Expr} {es:List Expr} {te:TE} {t:TA} {pos:Pos}
theorem af:PA X [] Kk:=fun _ _ _ _ H Q I h=>Calls.spliced_nil ⟨[],H,I,.nil,h⟩
theorem aa(ha:PE X e te)(hr:PA X es t)(hs:starEach (e::es) X.env=(false,eval e X.env)::starEach es X.env:=by rfl):PA X (e::es) (Fb te t):=by
 intro pos pins s σ H Q I h;rw[hs];show wpAny _ _ (spliced ((false,eval e X.env)::backTo pos (starEach es X.env))) _ _ s;refine Calls.spliced_cons (c_ (ha pins s σ H _ I h) fun u s1⟨x,H1,I1,r1,q1⟩=>?_);exact c_ (hr pos pins s1 σ H1 _ I1 q1) fun us s2⟨xs,H2,I2,r2,q2⟩=>⟨x::xs,H2,I2,.cons r1 r2,q2⟩
noncomputable def Km(t:TA):TE:=fun σ H Q=>t σ H fun xs H1=>xs.length<=sizeLine/\∀p,H1 p=none->Q (.ref p) (upd H1 p (.tup xs))
noncomputable def Kn(t:TA):TE:=fun σ H Q=>t σ H fun xs H1=>xs.length<=sizeLine/\∀p,H1 p=none->Q (.ref p) (upd H1 p (.lst xs))
theorem iC{x1}(h:PA X es t):PE X (.Tuple es x1 pos) (Km t):=by
 intro pins s σ H Q I hq;refine wpAny_Tuple_spliced (c_ (h pos pins s σ H _ I hq) fun us s1⟨xs,H1,I1,r,z,q⟩=>⟨by rw[<-r.length];exact z,?_⟩);have hf:H1 s1.heap.objs.size=none:=I1.bO.fresh (Nat.le_refl _);refine⟨.ref s1.heap.objs.size,upd H1 s1.heap.objs.size (.tup xs),I1.laid (t':=s1.toks) (fun b u e=>Heap.get?_push_of_some _ e) (Nat.le_refl _) ?_,rfl,q _ hf⟩;exact⟨z,us,r,⟨_,Heap.get?_push_size _ rfl,rfl,_,rfl⟩⟩
theorem bS(h:PA X es t):PE X (.List es pos) (Kn t):=by
 intro pins s σ H Q I hq;refine wpAny_List_spliced (c_ (h pos pins s σ H _ I hq) fun us s1⟨xs,H1,I1,r,z,q⟩=>⟨by rw[<-r.length];exact z,?_⟩);have hf:H1 s1.heap.objs.size=none:=I1.bO.fresh (Nat.le_refl _);refine⟨.ref s1.heap.objs.size,upd H1 s1.heap.objs.size (.lst xs),I1.laid (t':=s1.toks) (fun b u e=>Heap.get?_push_of_some _ e) (Nat.le_refl _) ?_,rfl,q _ hf⟩;exact⟨z,us,0,r,Heap.get?_push_size _ rfl⟩
end
noncomputable abbrev Sp:=List V->Hp->VK->XK->Prop
noncomputable abbrev ow:=List Env->Hp->Shared->XK->Value->Shared->Prop
structure rZ(P:Program)(w:World)(K:PySem.W.Frag)(mg:Str->Option Value)(base:Heap)(A:Around)(outer:List Env)(s:Shared)(H:Hp):Prop where
 frames:A.frames=some outer
 mod:Mod K mg base
 bs:∀b o,base.get? b=some o->s.heap.get? b=some o/\H b=none
 yx:base.objs.size<=s.heap.objs.size
 jo:s.heap.FunFrames base outer
 z_:∀b∈rH outer,H b=none
 bO:jc P w H s.heap
 bare:AllBare s.gens
noncomputable def CE(outer:List Env)(P:Program)(w:World)(H:Hp)(s:Shared)(Q:VK)(u:Value)(s':Shared):Prop:=
 ∃v H',s'.os=s.os/\AllBare s'.gens/\Un (rH outer) [] H H' s.heap s'.heap/\jc P w H' s'.heap/\RelV v u/\Q v H'
noncomputable def CR(CX:ow)(outer:List Env)(P:Program)(w:World)(H:Hp)(s:Shared)(Q:VK)(E:XK)(r:Result)(s':Shared):Prop:=
 match r with
 |.ok (.ret u)=>CE outer P w H s Q u s'
 |.ok _=>False
 |.error e=>CX outer H s E e s'
structure r0(P:Program)(w:World)(K:PySem.W.Frag)(mg:Str->Option Value)(base:Heap)(CX:ow)(k:Nat)(f:Addr)(fd:FuncData)(ps:List Str)(sp:Sp):Prop where
 len:∀vs H Q E,sp vs H Q E->vs.length=ps.length
 run:∀(A:Around)(outer:List Env)(s:Shared)(H:Hp)(args:Args)(us:List Value)(vs:List V)(Q:VK)(E:XK),fi k A->rZ P w K mg base A outer s H->BindsTo s fd args (ps.zip us)->Vals vs us->sp vs H Q E->
  codeAny (model P w) A (.call (.ref f) args) (CR CX outer P w H s Q E) s
theorem r0.mono{P:Program}{w:World}{K:PySem.W.Frag}{mg:Str->Option Value}{base:Heap}{CX:ow}{j k:Nat}{f:Addr}{fd:FuncData}{ps:List Str}{sp:Sp}(F:r0 P w K mg base CX j f fd ps sp)(h:j<=k):
 r0 P w K mg base CX k f fd ps sp:=⟨F.len,fun A outer s H args us vs Q E hr=>F.run A outer s H args us vs Q E (hr.mono h)⟩
section
variable {X:Cx} {pins:List (Addr×Obj)} {σ:St} {H:Hp} {s s':Shared}
theorem Inv.GL(I:Inv X pins σ H s):rZ X.prog X.w X.K X.mg X.base X.A X.stack s H:=
 ⟨I.ok.frames,I.ok.mod,I.bs,Nat.le_trans I.ok.yx I.sz,I.stack,I.qd,I.bO,I.bare⟩
theorem Inv.after{Q:VK}{u:Value}(I:Inv X pins σ H s)(h:CE X.stack X.prog X.w H s Q u s'):EP X pins σ Q u s':=by
 obtain⟨v,H',os,bare,un,bO,r,q⟩:=h;obtain⟨hh,g,d,t,Ub⟩:=s';obtain rfl:Ub=s.os:=os;exact⟨v,H',I.call (h':=hh) (g':=g) (d':=d) (t':=t) (ch:=[]) un bO bare (fun b z=>absurd z (by simp)),r,q⟩
end
noncomputable def wX(sp:Sp)(Fc:List V)(E:XK)(t:TA):TE:=fun σ H Q=>t σ H fun vs H1=>sp (vs++Fc) H1 Q E
noncomputable def Binds(K:PySem.W.Frag)(fd:FuncData)(ps:List Str)(ds:List Value):Prop:=
 ∀(s:Shared)(us:List Value),K.In s.heap->(us++ds).length=ps.length->BindsTo s fd ⟨us,[]⟩ (ps.zip (us++ds))
theorem Binds.all{K:PySem.W.Frag}{fd:FuncData}{ps:List Str}(h:∀us:List Value,us.length=ps.length->bindArgs fd ⟨us,[]⟩=pure (ps.zip us)):Binds K fd ps []:=fun s us _ hl=>by
 rw[List.append_nil] at hl ⊢;exact .of_eq (h us hl)
noncomputable def Passes(CX:ow)(X:Cx)(E:XK):Prop:=∀(pins:List (Addr×Obj))(σ:St)(H:Hp)(s:Shared)(e:Value)(s':Shared),Inv X pins σ H s->CX X.stack H s E e s'->X.xe e s'
section
variable {X:Cx} {CX:ow} {k:Nat} {f C:Addr} {fd:FuncData} {ps:List Str} {sp:Sp} {Fc:List V} {ds:List Value} {E:XK} {x m:Str} {p pos apos:Pos} {e o:Expr} {es:List Expr} {ta:TE} {t:TA}
theorem GN{pins:List (Addr×Obj)}{σ:St}{H:Hp}{s:Shared}{Q:VK}{us:List Value}{vs:List V}(F:r0 X.prog X.w X.K X.mg X.base CX k f fd ps sp)(hr:fi k X.A)(hb:Binds X.K fd ps ds)(hd:Vals Fc ds)(hx:Passes CX X E)(I:Inv X pins σ H s)(r:Vals vs us)(h:sp (vs++Fc) H Q E):wpAny (model X.prog X.w) X.A (call (.ref f) us) (EP X pins σ Q) X.xe s:=by
 have r2:Vals (vs++Fc) (us++ds):=r.append hd;have hl:(us++ds).length=ps.length:=by rw[<-r2.length];exact F.len _ _ _ _ h
 refine wpAny_call (codeAny_mono (F.run X.A X.stack s H ⟨us,[]⟩ (us++ds) (vs++Fc) Q E hr I.GL (hb s us I.ou hl) r2 h) fun r s' hq=>?_);cases r with
 |error e=>exact hx pins σ H s e s' I hq
 |ok fl=>
  cases fl with
  |ret u=>exact I.after hq
  |next=>exact False.elim hq
  |brk=>exact False.elim hq
  |cont=>exact False.elim hq
theorem Dn(F:r0 X.prog X.w X.K X.mg X.base CX k f fd ps sp)(hr:fi k X.A)(hg:Gl X x)(hm:X.mg x=some (.ref f))(hk:PySem.W.keepIn X.K (.ref f)=true)(hb:Binds X.K fd ps ds)(hd:Vals Fc ds)(hx:Passes CX X E)(ha:PA X (e::es) t)(u5:(x==("__debug__":Str))=false:=by decide)(he:starEach (e::es) X.env=(false,eval e X.env)::starEach es X.env:=by rfl)(r_:(backTo pos (starEach es X.env)).any (·.1)=false:=by rfl):
 PE X (.Call (.Name x p) (e::es) [] pos) (wX sp Fc E t):=by
 intro pins s σ H Q I h;refine wpAny_Call_Name_kw (jd I hg hm ?_ u5);refine PySem.W.callWith_K (h₀:=X.base) I.ok.mod.Gv hk (c_ (ha pos pins s σ H _ I h) fun us s1⟨vs,H1,I1,r,q⟩=>⟨I1.ou,?_⟩) he r_;exact GN F hr hb hd hx I1 r q
structure Mk(K:PySem.W.Frag)(C f:Addr):Prop where
 makes:PySem.W.makesIn K C=true
 init:PySem.W.findIn K (.ref C) "__init__"=some (some (.ref f))
 fn:PySem.W.isFn K (.ref f)=true
 kp:PySem.W.keepIn K (.ref C)=true
end
section
variable {X:Cx} {CX:ow} {k:Nat} {f C:Addr} {fd:FuncData} {ps ks:List Str} {sp:Sp} {E:XK} {x m:Str} {p pos apos Uc:Pos} {e o:Expr} {es:List Expr} {Xv:List Keyword} {te ta:TE} {t tk:TA} {nm:Option Str}
structure N'(K:PySem.W.Frag)(fd:FuncData)(ps ks:List Str)(g:List Value->List Value->List Value)(gV:List V->List V->List V):Prop where
 to:∀(s:Shared)(us ws:List Value),K.In s.heap->(g us ws).length=ps.length->BindsTo s fd ⟨us,ks.zip ws⟩ (ps.zip (g us ws))
 rel:∀{vs:List V}{us:List Value}{zs:List V}{ws:List Value},Vals vs us->Vals zs ws->Vals (gV vs zs) (g us ws)
variable {g:List Value->List Value->List Value} {gV:List V->List V->List V}
end
structure aB(N P:List Str)(sc:Scope):Prop where
 kind:sc.kind=.function
 co:sc.isCoroutine=false
 gen:sc.isGenerator=false
 nd:N.Nodup
 pre:N.take P.length=P
 par:∀x∈P,sc.names.lookup x=some .local\/sc.names.lookup x=some .cell
 GO:∀y∈sc.names,y.2≠.free
theorem o5{kindOf:Str->Option NameKind}{x:Str}:∀{binds:List (Str×Value)}{m:Str->Option Value},(∀v,(x,v)∉binds)->bindL kindOf binds m x=m x
 |[],_,_=>rfl
 |(n,v)::r,m,h=>by
  unfold bindL;rw[o5 fun w hw=>h w (List.mem_cons_of_mem _ hw)];split
  ·have:x≠n:=by rintro rfl;exact h v List.mem_cons_self
   simp[this]
  ·rfl
theorem o6{kindOf:Str->Option NameKind}{x:Str}:∀{binds:List (Str×Value)}{m:Str->Option Value},(∀v,(x,v)∉binds)->bindC kindOf binds m x=m x
 |[],_,_=>rfl
 |(n,v)::r,m,h=>by
  unfold bindC;rw[o6 fun w hw=>h w (List.mem_cons_of_mem _ hw)];split
  ·rfl
  ·have:x≠n:=by rintro rfl;exact h v List.mem_cons_self
   simp[this]
theorem o7{kindOf:Str->Option NameKind}{x:Str}{v:Value}:∀{P:List Str}{vs:List Value}{i:Nat}{m:Str->Option Value},P.Nodup->P[i]?=some x->vs[i]?=some v->kindOf x=some .local->
 bindL kindOf (P.zip vs) m x=some v
 |[],_,_,_,_,h,_,_=>by simp at h
 |_::_,[],_,_,_,_,h,_=>by simp at h
 |p::P,w::vs,0,m,nd,h1,h2,hk=>by
  simp at h1 h2;subst h1;subst h2;show bindL kindOf ((p,w)::P.zip vs) m p=_;unfold bindL;rw[o5 fun v hv=>(List.nodup_cons.mp nd).1 (List.of_mem_zip hv).1,if_pos hk];simp
 |p::P,w::vs,i+1,m,nd,h1,h2,hk=>by
  show bindL kindOf ((p,w)::P.zip vs) m x=_;unfold bindL;exact o7 (i:=i) (List.nodup_cons.mp nd).2 (by simpa using h1) (by simpa using h2) hk
theorem o8{kindOf:Str->Option NameKind}{x:Str}{v:Value}:∀{P:List Str}{vs:List Value}{i:Nat}{m:Str->Option Value},P.Nodup->P[i]?=some x->vs[i]?=some v->kindOf x≠some .local->
 bindC kindOf (P.zip vs) m x=some v
 |[],_,_,_,_,h,_,_=>by simp at h
 |_::_,[],_,_,_,_,h,_=>by simp at h
 |p::P,w::vs,0,m,nd,h1,h2,hk=>by
  simp at h1 h2;subst h1;subst h2;show bindC kindOf ((p,w)::P.zip vs) m p=_;unfold bindC;rw[o6 fun v hv=>(List.nodup_cons.mp nd).1 (List.of_mem_zip hv).1,if_neg hk];simp
 |p::P,w::vs,i+1,m,nd,h1,h2,hk=>by
  show bindC kindOf ((p,w)::P.zip vs) m x=_;unfold bindC;exact o8 (i:=i) (List.nodup_cons.mp nd).2 (by simpa using h1) (by simpa using h2) hk
noncomputable def start(N:List Str)(vs:List V):St:=vs.map some++List.replicate (N.length-vs.length) none
noncomputable def oC(CX:ow)(P:Program)(w:World)(K:PySem.W.Frag)(mg:Str->Option Value)(base:Heap)(N:List Str)(qual:Str)(scope:Scope)(f:Addr)(cd:Value)(A:Around)(outer:List Env)(s:Shared)(H:Hp)(E:XK):Cx where
 prog:=P
 w:=w
 K:=K
 mg:=mg
 base:=base
 A:=A.deeper (envOfC qual scope s.heap.objs.size f cd)
 N:=N
 fh:=s
 yw:=H
 env:=envOfC qual scope s.heap.objs.size f cd
 outer:=outer
 stack:=envOfC qual scope s.heap.objs.size f cd::outer
 ex:=[]
 calm:=true
 fn:=fun _=>true
 pn:=[]
 xe:=fun e s'=>wpAny (model P w) (A.deeper (envOfC qual scope s.heap.objs.size f cd)) (leaving (envOfC qual scope s.heap.objs.size f cd) e) (fun _ GP=>CX outer H s E e GP) (fun e' GP=>CX outer H s E e' GP) s'
theorem sh{sc:Scope}{n:Nat}{x:Str}(h:sc.names.lookup x=some .cell):∃c,(cellsFrom n sc.names []).lookup x=some c:=by
 have q:=PySem.W.cellsFrom_some sc.names n [] (.inl h);exact Option.isSome_iff_exists.mp q
theorem o9{CX:ow}{P:Program}{w:World}{K:PySem.W.Frag}{mg:Str->Option Value}{base:Heap}{N ps:List Str}{qual:Str}{scope:Scope}{f:Addr}{cd:Value}{A:Around}{outer:List Env}{s s1:Shared}{H:Hp}{E:XK}{us:List Value}{vs:List V}(S:aB N ps scope)(hd:A.handled=none)(e0:rZ P w K mg base A outer s H)(hl:vs.length=ps.length)(r:Vals vs us)(x:InCallC s s.heap.objs.size (bindL (envOfC qual scope s.heap.objs.size f cd).kindOf (ps.zip us) fun _=>none) (cellsFrom (s.heap.objs.size+1) scope.names []) (bindC (envOfC qual scope s.heap.objs.size f cd).kindOf (ps.zip us) fun _=>none) s1):
 Inv (oC CX P w K mg base N qual scope f cd A outer s H E) [] (start N vs) H s1:=by
 have r_:ps.length<=N.length:=by have:=congrArg List.length S.pre;rw[List.length_take] at this;lia
 obtain⟨h1,tk,rfl,hk⟩:=x.done;have Am:∀b:Addr,b∉(oC CX P w K mg base N qual scope f cd A outer s H E).ex:=fun b z=>absurd (show b∈([]:List Addr) from z) (by simp);refine⟨⟨e0.mod,S.kind,rfl,rfl,Nat.le_refl _,fun y z c h1 h2=>?_,fun y hy=>?_,fun y c _ h=>?_,fun _=>hd,Around.frames_deeper e0.frames,.inr ⟨rfl,rfl⟩,fun b z=>absurd z (Am b),e0.bs,e0.yx,fun b _ _=>Am b,fun b z=>absurd z (Am b),e0.jo,e0.z_⟩,
  rfl,e0.bare,Un.kept hk,⟨_,x.toInCall.ns,fun i y v h1 h2 h3=>?_⟩,fun y c h=>⟨_,x.cell y c h⟩,e0.bO.fresh (Nat.le_refl _),fun y c h=>?_,fun p hp=>absurd (show p∈([]:List (Addr×Obj)) from hp) (by simp),e0.bO.kept hk,?_⟩
 ·exact name_of_addr x.apart (PySem.mem_of_lookup h1) (PySem.mem_of_lookup h2)
 ·have hy:scope.names.lookup y=some .cell\/scope.names.lookup y=some .free:=hy;rcases hy with hy|hy
  ·exact sh hy
  ·exact absurd rfl (S.GO _ (PySem.mem_of_lookup hy))
 ·exact Nat.le_of_lt (x.above y c (PySem.mem_of_lookup h))
 ·have hi:i<vs.length:=by
   unfold start at h2;by_cases hi:i<vs.length
   ·exact hi
   ·rw[List.getElem?_append_right (by simpa using hi)] at h2;rw[List.getElem?_replicate] at h2;split at h2<;>cases h2
  have ha:vs[i]?=some v:=by
   unfold start at h2;rw[List.getElem?_append_left (by simpa using hi),List.getElem?_map] at h2;cases e:vs[i]? with
   |none=>rw[e] at h2;cases h2
   |some a=>rw[e] at h2;cases h2;rfl
  obtain⟨u,hu,rv⟩:=r.get ha;have hp:ps[i]?=some y:=by
   rw[<-S.pre,List.getElem?_take_of_lt (by lia)];exact h1
  have Ru:ps.Nodup:=by rw[<-S.pre];exact S.nd.sublist (List.take_sublist _ _)
  refine⟨u,rv,?_⟩;rcases S.par y (List.mem_of_getElem? hp) with k|k
  ·exact .inl ⟨k,o7 Ru hp hu k⟩
  ·obtain⟨c,e⟩:=sh (n:=s.heap.objs.size+1) k;refine .inr ⟨.inl k,c,e,?_⟩;have q:=x.cell y c e;rw[o8 Ru hp hu (by show scope.names.lookup y≠_;rw[k];decide)] at q;exact q
 ·exact e0.bO.fresh (Nat.le_of_lt (x.above y c (PySem.mem_of_lookup h)))
 ·unfold start;show _=N.length;rw[List.length_append,List.length_map,List.length_replicate];lia
theorem Ko{CX:ow}{P:Program}{w:World}{K:PySem.W.Frag}{mg:Str->Option Value}{base:Heap}{k:Nat}{f:Addr}{name qual:Str}{params:Arguments}{body:List Stmt}{scope:Scope}{dV kV doc pm cq ct oc:Value}{an od:Option Addr}{Dp:Array (Option Value)}{N ps:List Str}{sp:Sp}(lk:K.lookup f=some ⟨oc,od,.func (PySem.W.fnOf name qual params body scope dV kV doc pm an cq ct),Dp⟩)(lT:PySem.W.codeIn K cq qual=true)(S:aB N ps scope)(len:∀vs H Q E,sp vs H Q E->vs.length=ps.length)(iD:∀(A:Around)(outer:List Env)(s:Shared)(H:Hp)(vs:List V)(Q:VK)(E:XK),fi k (A.deeper (envOfC qual scope s.heap.objs.size f cq))->sp vs H Q E->
 ∃t,oA (oC CX P w K mg base N qual scope f cq A outer s H E) body t/\t {nx:=fun _ H'=>Q .gf H',rt:=Q} (start N vs) H):
 r0 P w K mg base CX (k+1) f (PySem.W.fnOf name qual params body scope dV kV doc pm an cq ct) ps sp:=by
 refine⟨len,fun A outer s H args us vs Q E hr e0 hb r An=>?_⟩;have hl:=len _ _ _ _ An;have KX:K.In s.heap:=e0.mod.Gv.keeps fun b o e=>(e0.bs b o e).1;have lim:s.heap.NoLimit:=e0.mod.nolimit.keeps fun b o e=>(e0.bs b o e).1;have Kp:∀y∈ps.zip us,scope.names.lookup y.1=some .local\/(scope.names.lookup y.1=some .cell/\((cellsFrom (s.heap.objs.size+1) scope.names []).lookup y.1).isSome=true):=fun⟨n,v⟩ hy=>by
  rcases S.par n (List.of_mem_zip hy).1 with q|q
  ·exact .inl q
  ·exact .inr ⟨q,PySem.W.cellsFrom_some _ _ _ (.inl q)⟩
 refine codeAny_call_function hr.depth (KX _ _ lk) rfl S.co S.gen rfl (PySem.W.codeRec_of KX lT) (hb _ _ _ _ ?_);refine wpAny_newFunctionEnv_cells S.kind Kp fun env he s1 x=>?_;subst he;refine⟨lim.keeps x.toInCall.keep,codeAny_func ?_⟩;obtain⟨t,ht,hq⟩:=iD A outer s H vs Q E (hr.deeper _) An;have I:Inv (oC CX P w K mg base N qual scope f cq A outer s H E) [] (start N vs) H s1:=o9 S hr.hd e0 hl r x;refine wpAny_mono (ht [] s1 (start N vs) H _ I hq) (fun fl s' hs=>?_) fun e s' hs=>hs;have fin:∀{bE:St}{H':Hp}{v:V}{u:Value},Inv (oC CX P w K mg base N qual scope f cq A outer s H E) [] bE H' s'->RelV v u->Q v H'->CE outer P w H s Q u s':=
  fun{bE H' v u} J rv q=>⟨v,H',J.os,J.bare,J.base,J.bO,rv,q⟩
 cases fl with
 |ret u=>
  obtain⟨v,bE,H',J,rv,q⟩:=hs;exact fin J rv q
 |next=>
  obtain⟨bE,H',J,q⟩:=hs;exact fin (v:=V.gf) (u:=Value.none) J rfl q
 |brk=>
  obtain⟨_,_,_,q⟩:=hs;exact False.elim q
 |cont=>
  obtain⟨_,_,_,q⟩:=hs;exact False.elim q
end L2
namespace L2
open PySem PySem.Spec PyProof.Rows
section
variable {X:Cx} {x:Str} {p pos:Pos} {e:Expr} {es:List Expr} {t:TA} {id T:String} {r:List V->Hp->VK->Prop}
noncomputable def Oa(r:List V->Hp->VK->Prop)(t:TA):TE:=fun σ H Q=>t σ H fun vs H1=>r vs H1 Q
theorem aw(hc:gn X (.builtin id) r)(hg:Gl X x)(hm:X.mg x=none)(hv:bootBuiltins x=some (.builtin id))(ha:PA X (e::es) t)(hn:x≠"__name__":=by decide)(u5:(x==("__debug__":Str))=false:=by decide)(he:starEach (e::es) X.env=(false,eval e X.env)::starEach es X.env:=by rfl)(r_:(backTo pos (starEach es X.env)).any (·.1)=false:=by rfl):PE X (.Call (.Name x p) (e::es) [] pos) (Oa r t):=by
 intro pins s σ H Q I h;refine wpAny_Call_Name_kw (gH I hg hm hv ?_ hn u5);exact PyProof.Rows.callWith_builtin1 (c_ (ha pos pins s σ H _ I h) fun us s1⟨vs,H1,I1,r1,q1⟩=>hc pins s1 σ H1 vs us Q I1 r1 q1) he r_
theorem dC(hc:gn X (.type T) r)(hg:Gl X x)(hm:X.mg x=none)(hv:bootBuiltins x=some (.type T))(ha:PA X (e::es) t)(hn:x≠"__name__":=by decide)(u5:(x==("__debug__":Str))=false:=by decide)(he:starEach (e::es) X.env=(false,eval e X.env)::starEach es X.env:=by rfl)(r_:(backTo pos (starEach es X.env)).any (·.1)=false:=by rfl):PE X (.Call (.Name x p) (e::es) [] pos) (Oa r t):=by
 intro pins s σ H Q I h;refine wpAny_Call_Name_kw (gH I hg hm hv ?_ hn u5);exact PyProof.Rows.callWith_type1 (c_ (ha pos pins s σ H _ I h) fun us s1⟨vs,H1,I1,r1,q1⟩=>hc pins s1 σ H1 vs us Q I1 r1 q1) he r_
end
end L2
namespace HT
open PySem PyProof.Rows
section
open PySem.SeqAt
open PySem.AutoSeq1 (wpAny_loadPart')
open PySem.MeetsSeq PySem.MeetsSeq2 PySem.MeetsSeq3
end
section
variable {prog:Program} {w:World} {A:Around} {E:Value->Shared->Prop} {s:Shared}
noncomputable def rK(n d:Nat):Option Int->Nat
 |none=>d
 |some v=>if v<0 then(v+(n:Int)).toNat else min v.toNat n
theorem mT(n d:Nat):rK n d none=d:=rfl
theorem wY(n d k:Nat):rK n d (some (k:Int))=min k n:=by
 show(if(k:Int)<0 then((k:Int)+(n:Int)).toNat else min (k:Int).toNat n)=min k n;rw[if_neg (by lia),Int.toNat_natCast]
end
end HT
namespace L2
open PySem PySem.Spec PyProof.Rows
noncomputable abbrev TO:=St->Hp->(Option Int->Hp->Prop)->Prop
noncomputable def PO(X:Cx)(e:Option Expr)(t:TO):Prop:=
 ∀(pins:List (Addr×Obj))(s:Shared)(σ:St)(H:Hp)(Q:Option Int->Hp->Prop),Inv X pins σ H s->t σ H Q->
  wpAny (model X.prog X.w) X.A (evalPart e X.env) (fun u s'=>∃o H',Inv X pins σ H' s'/\IsPart u o/\Q o H') X.xe s
noncomputable def wZ:TO:=fun _ H Q=>Q none H
noncomputable def Fd(t:TE):TO:=fun σ H Q=>t σ H fun x H1=>∃i,x=.int i/\Q (some i) H1
theorem intsAre_of{ns:List Int}:∀{us:List Value},Vals (ns.map V.int) us->IntsAre us ns:=by
 induction ns with
 |nil=>intro us r;rw[List.map_nil] at r;cases r;exact .nil
 |cons n ns ih=>
  intro us r;rw[List.map_cons] at r;cases r with
  |cons r1 r2=>
   obtain⟨t,e⟩:=r1;subst e;exact .cons n t (ih r2)
section
variable {X:Cx} {e:Expr} {te:TE} {lo hi:Option Expr} {tl th:TO} {pos p2:Pos}
theorem md:PO X none wZ:=by
 intro pins s σ H Q I h;rw[evalPart_none];exact wpAny_pure ⟨none,H,I,.none,h⟩
theorem me(h:PE X e te):PO X (some e) (Fd te):=by
 intro pins s σ H Q I hw;rw[evalPart_some];refine c_ (h pins s σ H _ I hw) fun u s1⟨x,H1,I1,r1,q1⟩=>?_;obtain⟨i,rfl,q⟩:=q1;obtain⟨t,rfl⟩:=r1;exact⟨some i,H1,I1,.int i t,q⟩
noncomputable def Rv(X:Cx)(r:V->Option Int->Option Int->Hp->VK->Prop):Prop:=
 ∀(pins:List (Addr×Obj))(s:Shared)(σ:St)(H:Hp)(x:V)(v vl vu:Value)(lo hi:Option Int)(sl:Addr)(Q:VK),Inv X pins σ H s->RelV x v->s.heap.IsSliceOf sl vl vu .none->IsPart vl lo->IsPart vu hi->r x lo hi H Q->
  ∃T id,typeLookup (.type T) "__getitem__"=pure (some (.builtin id))/\s.TypeIs v T/\wpAny (model X.prog X.w) X.A (getItem v (.ref sl)) (EP X pins σ Q) X.xe s
noncomputable def Rw(r:V->Option Int->Option Int->Hp->VK->Prop)(te:TE)(tl th:TO):TE:=fun σ H Q=>te σ H fun x H1=>tl σ H1 fun l H2=>th σ H2 fun u H3=>r x l u H3 Q
theorem jS{r:V->Option Int->Option Int->Hp->VK->Prop}(hr:Rv X r)(he:PE X e te)(hl:PO X lo tl)(hu:PO X hi th):PE X (.Subscript e (.Slice lo hi none p2) pos) (Rw r te tl th):=by
 intro pins s σ H Q I h;refine Subscript_ (c_ (he pins s σ H _ I h) fun v s1⟨x,H1,I1,r1,q1⟩=>?_);refine wpAny_Slice (c_ (hl pins s1 σ H1 _ I1 q1) fun vl s2⟨l,H2,I2,pl,q2⟩=>c_ (hu pins s2 σ H2 _ I2 q2) fun vu s3⟨u,H3,I3,pu,q3⟩=>?_);rw[evalPart_none];refine wpAny_pure ?_;have I4:Inv X pins σ H3 {s3 with heap:=s3.heap.push {cls:=.type "slice",data:=.fields #[vl,vu,.none]}}:=I3.kept (t':=s3.toks) fun b ob q=>Heap.get?_push_of_some _ q;obtain⟨T,id,hT,ht,hg⟩:=hr pins {s3 with heap:=s3.heap.push {cls:=.type "slice",data:=.fields #[vl,vu,.none]}} σ H3 x v vl vu l u s3.heap.objs.size Q I4 r1 (Heap.IsSliceOf.new ..) pl pu q3;show wpAny (model X.prog X.w) X.A (subscriptTail e (.Slice lo hi none p2) v (.ref s3.heap.objs.size)) (EP X pins σ Q) X.xe {s3 with heap:=s3.heap.push {cls:=.type "slice",data:=.fields #[vl,vu,.none]}};exact tail_any (ops:=[.ref s3.heap.objs.size,v]) ht hT hg (by with_unfolding_all rfl)
noncomputable def gp(xs:List V)(lo hi:Option Int):List V:=(xs.drop (HT.rK xs.length 0 lo)).take (HT.rK xs.length xs.length hi-HT.rK xs.length 0 lo)
theorem si(xs:List V)(lo hi:Option Int):(gp xs lo hi).length<=xs.length:=by
 unfold gp;rw[List.length_take,List.length_drop];lia
end
end L2
namespace L2
open PySem PySem.Spec PyProof.Rows
noncomputable def u6(n:Nat)(i:Int):Option Nat:=if 0<=i then(if i<n then some i.toNat else none) else if -(n:Int)<=i then some (i+n).toNat else none
noncomputable def qk{α:Type}(xs:List α)(i:Int):Option α:=(u6 xs.length i).bind fun j=>xs[j]?
theorem w4{n:Nat}{i:Int}{j:Nat}(h:u6 n i=some j):seqIndex? i n=some j/\j<n/\-(n:Int)<=i/\i<n:=by
 unfold u6 at h;by_cases h0:0<=i
 ·rw[if_pos h0] at h;by_cases h1:i<n
  ·rw[if_pos h1] at h;have e:i.toNat=j:=Option.some.inj h;exact⟨by rw[seqIndex_of h0 h1,e],by lia,by lia,h1⟩
  ·rw[if_neg h1] at h;cases h
 ·rw[if_neg h0] at h;by_cases h1:-(n:Int)<=i
  ·rw[if_pos h1] at h;have e:(i+n).toNat=j:=Option.some.inj h;exact⟨by rw[seqIndex_neg (by lia) h1,e],by lia,h1,by lia⟩
  ·rw[if_neg h1] at h;cases h
theorem w6{α:Type}{xs:List α}{i:Int}{v:α}(h:qk xs i=some v):∃j,seqIndex? i xs.length=some j/\xs[j]?=some v/\j<xs.length/\-(xs.length:Int)<=i/\i<xs.length:=by
 unfold qk at h;cases e:u6 xs.length i with
 |none=>rw[e] at h;cases h
 |some j=>
  rw[e] at h;obtain⟨h1,h2,h3,h4⟩:=w4 e;exact⟨j,h1,h,h2,h3,h4⟩
theorem fw{α:Type}{xs:List α}{j:Nat}{v:α}(h:xs[j]?=some v):qk xs (j:Int)=some v:=by
 have hj:j<xs.length:=(List.getElem?_eq_some_iff.mp h).1;have e:u6 xs.length (j:Int)=some j:=by
  unfold u6;rw[if_pos (by lia),if_pos (by lia)];simp
 unfold qk;rw[e];exact h
noncomputable def Dq(b:Expr):Prop:=∀o i,subscripted b false o i=operate [o,i] (getItem o i)
noncomputable def Ob(X:Cx)(r:R2):Prop:=
 ∀(value slice:Expr)(pins:List (Addr×Obj))(s:Shared)(σ:St)(H:Hp)(x y:V)(v u:Value)(Q:VK),Inv X pins σ H s->RelV x v->RelV y u->r x y H Q->
  subscripted slice false v u=operate [v,u] (getItem v u)->wpAny (model X.prog X.w) X.A (subscriptTail value slice v u) (EP X pins σ Q) X.xe s
noncomputable def Rx(X:Cx)(id:String)(r:V->List V->Hp->VK->Prop):Prop:=
 ∀(pins:List (Addr×Obj))(s:Shared)(σ:St)(H:Hp)(x:V)(xs:List V)(v:Value)(us:List Value)(Q:VK),Inv X pins σ H s->RelV x v->Vals xs us->r x xs H Q->
  wpAny (model X.prog X.w) X.A (call (.builtin id) (v::us)) (EP X pins σ Q) X.xe s
section
variable {X:Cx} {a b:Expr} {ta tb:TE} {pos:Pos}
theorem aL{r:R2}(hr:Ob X r)(ha:PE X a ta)(hb:PE X b tb)(hs:Dq b):PE X (.Subscript a b pos) (Ki r ta tb):=by
 intro pins s σ H Q I h;exact Subscript_ (GF ha hb I h fun v u s2 x y H2 I2 rx ry q=>hr a b pins s2 σ H2 x y v u Q I2 rx ry q (hs _ _))
noncomputable def Kq(K:PySem.W.Frag):R2:=fun x y H Q=>∃p xs i v,x=.ref p/\y=.int i/\aM K H p xs/\qk xs i=some v/\Q v H
noncomputable def Kr(K:PySem.W.Frag):R2:=fun x y H Q=>∃p xs i v,x=.ref p/\y=.int i/\cJ K H p xs/\qk xs i=some v/\Q v H
theorem aP:Ob X (Kq X.K):=by
 intro value slice pins s σ H x y v u Q I rx ry h hs;obtain⟨p,xs,i,z,rfl,rfl,hq,he,q⟩:=h;cases rx;obtain⟨t,rfl⟩:=ry;obtain⟨aK,r,pl,hz⟩:=I.list hq;obtain⟨j,h1,h2,h3,h4,h5⟩:=w6 he;obtain⟨w,ew,Oc⟩:=r.get h2;have hl:=r.length;have hn:=mS;have fin:EP X pins σ Q w s:=⟨z,H,I,Oc,q⟩;by_cases h0:0<=i
 ·have hj:i.toNat=j:=by
   rw[seqIndex_of h0 h5] at h1;exact Option.some.inj h1
  exact item_listR pl.isList h0 (by lia) (by rw[hj];simpa using ew) fin hs
 ·have hj:(i+(aK.toArray.size:Int)).toNat=j:=by
   rw[seqIndex_neg (by lia) h4] at h1;rw[List.size_toArray,<-hl];exact Option.some.inj h1
  exact subscriptTail_builtinR (x:=w) pl.isList.typeIs slot_list_getitem.lookup
   (wpAny_getItem_list_neg (Q:=fun r s'=>r=w/\EP X pins σ Q r s') pl.isList (by lia) (by rw[List.size_toArray]<;>lia) (by lia) (by rw[hj];simpa using ew) ⟨rfl,fin⟩) hs
theorem bq:Ob X (Kr X.K):=by
 intro value slice pins s σ H x y v u Q I rx ry h hs;obtain⟨p,xs,i,z,rfl,rfl,hq,he,q⟩:=h;cases rx;obtain⟨t,rfl⟩:=ry;obtain⟨aK,r,pl,hz⟩:=I.tuple hq;obtain⟨j,h1,h2,h3,h4,h5⟩:=w6 he;obtain⟨w,ew,Oc⟩:=r.get h2;have hl:=r.length;have hn:=mS;have fin:EP X pins σ Q w s:=⟨z,H,I,Oc,q⟩;exact subscriptTail_builtinR (x:=w) pl.typeIs slot_tuple_getitem.lookup
  (getItem_tuple (j:=j) (Q:=fun r s'=>r=w/\EP X pins σ Q r s') pl (by lia) (by lia) (by rw[List.size_toArray,<-hl];exact h1) (by simpa using ew) ⟨rfl,fin⟩) hs
theorem u7(aK:List Value)(n j:Nat)(u:Value):Obj.mapSeq (·.setIfInBounds j u) {cls:=.type "list",data:=.seq aK.toArray n}={cls:=.type "list",data:=.seq (aK.set j u).toArray n}:=by
 simp[Obj.mapSeq]
theorem Inv.lst{pins:List (Addr×Obj)}{σ:St}{H:Hp}{s:Shared}{p:Addr}{xs:List V}(I:Inv X pins σ H s)(h:H p=some (.lst xs)):
 ∃(aK:List Value)(n:Nat),Vals xs aK/\s.heap.get? p=some {cls:=.type "list",data:=.seq aK.toArray n}/\xs.length<=sizeLine:=by
 obtain⟨z,aK,n,r,e⟩:=I.bO p _ h;exact⟨aK,n,r,e,z⟩
theorem Inv.GQ{pins:List (Addr×Obj)}{σ:St}{H:Hp}{s:Shared}{p:Addr}{xs ys:List V}{aK its':List Value}{n n':Nat}{f:Obj->Obj}(I:Inv X pins σ H s)(h:H p=some (.lst xs))(ho:s.heap.get? p=some {cls:=.type "list",data:=.seq aK.toArray n})(hf:f {cls:=.type "list",data:=.seq aK.toArray n}={cls:=.type "list",data:=.seq its'.toArray n'})(r:Vals ys its')(hz:ys.length<=sizeLine)(t:Nat):
 Inv X pins σ (upd H p (.lst ys)) {s with heap:=s.heap.update p f,toks:=t}:=by
 have e:(s.heap.update p f).get? p=some {cls:=.type "list",data:=.seq its'.toArray n'}:=by
  rw[Heap.get?_update_self f ho (by rw[hf]<;>rfl),hf]
 refine I.write (x:=p) (e:=p) (by rw[h];trivial) (.inl rfl) (fun b u hb q=>(Heap.get?_update_other _ _ (Ne.symm hb)).trans q) ⟨_,e⟩ ?_;exact⟨hz,its',n',r,e⟩
noncomputable def Ks:V->V->V->Hp->(Hp->Prop)->Prop:=fun o i v H Q=>∃p xs k j,o=.ref p/\i=.int k/\H p=some (.lst xs)/\u6 xs.length k=some j/\Q (upd H p (.lst (xs.set j v)))
theorem set_list:Kb X Ks:=by
 intro pins s σ H o i v ov iv u Q I ro ri rv h;obtain⟨p,xs,k,j,rfl,rfl,hp,hj,q⟩:=h;cases ro;obtain⟨t,rfl⟩:=ri;obtain⟨aK,n,r,ho,hz⟩:=I.lst hp;obtain⟨h1,h2,h3,h4⟩:=w4 hj;have hl:=r.length;have hn:=mS;have I':Inv X pins σ (upd H p (.lst (xs.set j v))) {s with heap:=s.heap.update p (Obj.mapSeq (·.setIfInBounds j u))}:=
  I.GQ hp ho (u7 aK n j u) (r.set rv j) (by rw[List.length_set];exact hz) s.toks
 by_cases h0:0<=k
 ·have hk:k.toNat=j:=by
   rw[seqIndex_of h0 h4] at h1;exact Option.some.inj h1
  exact PySem.W.ki_setAt ho h0 (by lia) (by rw[List.size_toArray,<-hl];exact h4) (by rw[hk];exact⟨_,I',q⟩)
 ·have hk:(k+(aK.toArray.size:Int)).toNat=j:=by
   rw[seqIndex_neg (by lia) h3] at h1;rw[List.size_toArray,<-hl];exact Option.some.inj h1
  exact PySem.W.ki_setBack ho (by lia) (by rw[List.size_toArray,<-hl];exact h3) (by lia) (by rw[hk];exact⟨_,I',q⟩)
theorem ql(lo hi:Option Int)(n:Nat):(sliceBounds lo hi none n).1=((HT.rK n 0 lo:Nat):Int)/\(sliceBounds lo hi none n).2.1=((HT.rK n n hi:Nat):Int)/\(sliceBounds lo hi none n).2.2=1:=by
 refine⟨?_,?_,rfl⟩
 ·cases lo with
  |none=>simp[sliceBounds,HT.rK]
  |some i=>
   simp only[sliceBounds,HT.rK,Option.getD_none,show(1:Int)>0 by decide,if_true];by_cases h:i<0
   ·simp only[h,if_true]<;>lia
   ·simp only[h,if_false]<;>lia
 ·cases hi with
  |none=>simp[sliceBounds,HT.rK]
  |some i=>
   simp only[sliceBounds,HT.rK,Option.getD_none,show(1:Int)>0 by decide,if_true];by_cases h:i<0
   ·simp only[h,if_true]<;>lia
   ·simp only[h,if_false]<;>lia
theorem oD(aK:List Value)(lo hi:Option Int):slicePick aK.toArray lo hi none=((aK.drop (HT.rK aK.length 0 lo)).take (HT.rK aK.length aK.length hi-HT.rK aK.length 0 lo)).toArray:=by
 obtain⟨h1,h2,h3⟩:=ql lo hi aK.toArray.size;unfold slicePick;rw[h1,h2,h3];simp only[sliceRange_one,pick_run,List.size_toArray]<;>rfl
noncomputable def Od(K:PySem.W.Frag):V->Option Int->Option Int->Hp->VK->Prop:=fun x lo hi H Q=>∃a xs,x=.ref a/\aM K H a xs/\∀p,H p=none->Q (.ref p) (upd H p (.lst (gp xs lo hi)))
theorem mi:Rv X (Od X.K):=by
 intro pins s σ H x v vl vu lo hi sl Q I rx hs pl pu h;obtain⟨a,xs,rfl,hx,q⟩:=h;cases rx;obtain⟨aK,r,ht,hz⟩:=I.list hx;have hlen:=r.length;refine⟨"list",_,slot_list_getitem.lookup,ht.isList.typeIs,?_⟩;refine wpAny_getItem_list_slice ht.isList hs pl pu .none (by simp) ?_ (by rw[List.size_toArray]<;>lia);rw[oD,<-hlen];refine⟨.ref s.heap.objs.size,_,I.laid (t':=s.toks) (o:=.lst (gp xs lo hi)) (fun b ob q=>Heap.get?_push_of_some _ q) (Nat.le_refl _) ?_,rfl,q _ (I.bO.fresh (Nat.le_refl _))⟩;exact⟨Nat.le_trans (si xs lo hi) hz,_,0,(r.drop (HT.rK xs.length 0 lo)).take (HT.rK xs.length xs.length hi-HT.rK xs.length 0 lo),Heap.get?_push_size _ rfl⟩
theorem ay:gn X (.builtin "len") (fun xs H Q=>∃p ys,xs=[.ref p]/\(aM X.K H p ys\/cJ X.K H p ys)/\Q (.int ys.length) H):=by
 intro pins s σ H xs us Q I r h;obtain⟨p,ys,rfl,hq,q⟩:=h;obtain⟨u,rfl,rx⟩:=vals1 r;cases rx
 have hn:=mS;rcases hq with hq|hq
 ·obtain⟨aK,r',pl,hz⟩:=I.list hq;have hlen:=r'.length;exact Calls.call_len_list pl.isList (by simp only[List.size_toArray]<;>lia) ⟨.int ys.length,H,I.tok _,⟨s.toks+1,by rw[List.size_toArray,hlen]⟩,q⟩
 ·obtain⟨aK,r',pl,hz⟩:=I.tuple hq;have hlen:=r'.length;exact len_tuple pl (by simp only[List.size_toArray]<;>lia) ⟨.int ys.length,H,I.tok _,⟨s.toks+1,by rw[List.size_toArray,hlen]⟩,q⟩
theorem gJ:gn X (.type "list") (fun xs H Q=>∃p ys,xs=[.ref p]/\(aM X.K H p ys\/cJ X.K H p ys)/\∀l,H l=none->Q (.ref l) (upd H l (.lst ys))):=by
 intro pins s σ H xs us Q I r h;obtain⟨p,ys,rfl,hq,q⟩:=h;obtain⟨u,rfl,rx⟩:=vals1 r;cases rx;have fin:∀(aK:List Value),Vals ys aK->ys.length<=sizeLine->∀(h':Heap)(c':Nat),(∀b o',s.heap.get? b=some o'->h'.get? b=some o')->
  h'.get? s.heap.objs.size=some {cls:=.type "list",dict:=none,data:=.seq aK.toArray c',slots:=#[]}->EP X pins σ Q (.ref s.heap.objs.size) {s with heap:=h'}:=fun aK r' hz h' c' kp e=>
  ⟨.ref s.heap.objs.size,_,I.laid (t':=s.toks) kp (Nat.le_refl _) (show cI X.prog X.w _ h' _ (.lst ys) from⟨hz,aK,c',r',e⟩),rfl,q _ (I.bO.fresh (Nat.le_refl _))⟩
 rcases hq with hq|hq
 ·obtain⟨aK,r',pl,hz⟩:=I.list hq;have hlen:=r'.length;obtain⟨o,ho,hc,n,hd⟩:=pl.isList;exact call_list_seq p (.inl rfl) ho hc hd (fun h' c' kp e=>fin aK r' hz h' c' kp e) (by simp only[List.size_toArray]<;>lia)
 ·obtain⟨aK,r',pl,hz⟩:=I.tuple hq;have hlen:=r'.length;obtain⟨o,ho,hc,n,hd⟩:=pl;exact call_list_seq p (.inr rfl) ho hc hd (fun h' c' kp e=>fin aK r' hz h' c' kp e) (by simp only[List.size_toArray]<;>lia)
noncomputable def Oe(K:PySem.W.Frag)(T:String)(x:V)(H:Hp):Prop:=match x with
 |.str _=>T="str"
 |.int _=>T="int"
 |.ref p=>(T="list"/\∃xs,aM K H p xs)\/(T="tuple"/\∃o,K.lookup p=some o/\o.cls=.type "tuple"/\o.dict=none)\/
  (T="dict"/\((∃gF,H p=some (.dK gF))\/∃gF,H p=some (.dT gF)))\/(T="set"/\∃S n,H p=some (.set S n))
 |_=>False
theorem Ao{pins:List (Addr×Obj)}{σ:St}{H:Hp}{s:Shared}{T:String}{x:V}{v:Value}(I:Inv X pins σ H s)(r:RelV x v)(ty:Oe X.K T x H):
 s.TypeIs v T/\∀a,v=.ref a->∃ob,s.heap.get? a=some ob/\ob.dict=none:=by
 cases x with
 |str z=>
  obtain⟨t,rfl⟩:=r;cases (show T="str" from ty);exact⟨typeIs_str s z t,fun _ e=>nomatch e⟩
 |int i=>
  obtain⟨t,rfl⟩:=r;cases (show T="int" from ty);exact⟨typeIs_int s i t,fun _ e=>nomatch e⟩
 |ref p=>
  cases r
  rcases ty with⟨rfl,xs,hq⟩|⟨rfl,o,hk,hc,hd⟩|⟨rfl,hk⟩|⟨rfl,S,n,hk⟩
  ·obtain⟨aK,_,pl,_⟩:=I.list hq;refine⟨pl.isList.typeIs,fun a e=>?_⟩;cases e;obtain⟨o,n,e,c,hd,_⟩:=pl;exact⟨o,e,hd⟩
  ·refine⟨⟨o,I.ou p o hk,hc⟩,fun a e=>?_⟩;cases e;exact⟨o,I.ou _ o hk,hd⟩
  ·have z:∃o,s.heap.get? p=some o/\o.ExactDict:=by
    rcases hk with⟨gF,hk⟩|⟨gF,hk⟩
    ·obtain⟨_,_,_,_,o,_,_,e,ex,_⟩:=I.bO p _ hk;exact⟨o,e,ex⟩
    ·obtain⟨_,_,_,_,o,_,_,e,ex,_⟩:=I.bO p _ hk;exact⟨o,e,ex⟩
   obtain⟨o,e,ex⟩:=z;refine⟨⟨o,e,ex.1⟩,fun a e2=>?_⟩;cases e2;exact⟨o,e,ex.2.1⟩
  ·obtain⟨o,_,_,_,e,ex,_⟩:=I.bO p _ hk;refine⟨⟨o,e,ex.1⟩,fun a e2=>?_⟩;cases e2;exact⟨o,e,ex.2.1⟩
 |_=>exact False.elim ty
noncomputable def Og(K:PySem.W.Frag)(T:String)(r:V->List V->Hp->VK->Prop)(to:TE):TE:=fun σ H Q=>to σ H fun x H1=>Oe K T x H1/\r x [] H1 Q
noncomputable def Ud(K:PySem.W.Frag)(T:String)(r:V->List V->Hp->VK->Prop)(to:TE)(t:TA):TE:=fun σ H Q=>to σ H fun x H1=>Oe K T x H1/\t σ H1 fun xs H2=>r x xs H2 Q
variable {o e:Expr} {es:List Expr} {to:TE} {t:TA} {name:Str} {apos kG:Pos} {T id:String} {r:V->List V->Hp->VK->Prop}
theorem u9(pa:PlainAttrs T)(slot:Slot T name id)(Oh:typeOf (.builtin id)=pure (.type "method_descriptor"))(hm:Rx X id r)(ho:PE X o to)(Ap:attributeBase o name X.env (eval o X.env)=eval o X.env:=by rfl)(Aq:(apos.endLine==kG.line)=true:=by rfl):PE X (.Call (.Attribute o name apos) [] [] kG) (Og X.K T r to):=by
 intro pins s σ H Q I h;refine wpAny_Call_method0_late Ap Aq (c_ (ho pins s σ H _ I h) fun v s1⟨x,H1,I1,r1,ty,q1⟩=>?_);obtain⟨h1,h2⟩:=Ao I1 r1 ty;exact⟨T,id,pa,slot,Oh,h1,h2,Calls.callWith_builtin rfl (PySem.evalArgs_none (hm pins s1 σ H1 x [] v [] Q I1 r1 .nil q1))⟩
theorem js(pa:PlainAttrs T)(slot:Slot T name id)(Oh:typeOf (.builtin id)=pure (.type "method_descriptor"))(hm:Rx X id r)(ho:PE X o to)(ha:PA X (e::es) t)(Ap:attributeBase o name X.env (eval o X.env)=eval o X.env:=by rfl)(Oi:((backTo kG (starEach (e::es) X.env)).all (fun x=>!x.1)&&(backToKw kG (keywordEach [] X.env)).all (fun x=>x.1.isSome)
 &&decide ((e::es).length+([]:List Keyword).length+(if([]:List Keyword).isEmpty then 0 else 1)<30))=true:=by rfl)(Aq:(apos.endLine==kG.line)=true:=by rfl)(hs:starEach (e::es) X.env=(false,eval e X.env)::starEach es X.env:=by rfl)(GR:(backTo kG (starEach es X.env)).any (·.1)=false:=by rfl):
 PE X (.Call (.Attribute o name apos) (e::es) [] kG) (Ud X.K T r to t):=by
 intro pins s σ H Q I h;refine wpAny_Call_method_late Ap Oi Aq rfl (c_ (ho pins s σ H _ I h) fun v s1⟨x,H1,I1,r1,ty,q1⟩=>?_);obtain⟨h1,h2⟩:=Ao I1 r1 ty;refine⟨T,id,pa,slot,Oh,h1,h2,?_⟩;have hA:=ha kG pins s1 σ H1 _ I1 q1;rw[hs] at hA ⊢;refine Calls.callWith_builtin (by show(false||(backTo kG (starEach es X.env)).any (·.1))=false;rw[GR]<;>rfl) (Calls.evalArgs_plain ?_);exact c_ hA fun us s2⟨vs,H2,I2,r2,q2⟩=>hm pins s2 σ H2 x vs v us Q I2 r1 r2 q2
end
end L2
namespace L2
open PySem PySem.Spec PyProof.Rows
noncomputable def M4(X:Cx)(id:String)(r:V->List V->Hp->VK->Prop):Prop:=
 ∀(pins:List (Addr×Obj))(s:Shared)(σ:St)(H:Hp)(x:V)(xs:List V)(v:Value)(us:List Value)(Q:VK),Inv X pins σ H s->RelV x v->Vals xs us->r x xs H Q->
  wpAny (model X.prog X.w) X.A (call (.builtin id) (v::us)) (EP X pins σ Q) X.xe s
theorem Vals.one:∀{x:V}{us:List Value},Vals [x] us->∃u,us=[u]/\RelV x u
 |_,_,.cons r .nil=>⟨_,rfl,r⟩
theorem Vals.two:∀{x y:V}{us:List Value},Vals [x,y] us->∃u v,us=[u,v]/\RelV x u/\RelV y v
 |_,_,_,.cons r (.cons q .nil)=>⟨_,_,rfl,r,q⟩
theorem Vals.zero:∀{us:List Value},Vals [] us->us=[]
 |_,.nil=>rfl
theorem Vals.dropLast{xs:List V}{us:List Value}(h:Vals xs us):Vals xs.dropLast us.dropLast:=by
 induction h with
 |nil=>exact .nil
 |cons r t ih=>
  cases t with
  |nil=>exact .nil
  |cons q t'=>exact .cons r ih
theorem Vals.rep{xs:List V}{us:List Value}(h:Vals xs us):∀k:Nat,Vals (List.replicate k xs).flatten (List.replicate k us).flatten
 |0=>.nil
 |k+1=>by
  rw[List.replicate_succ,List.replicate_succ,List.flatten_cons,List.flatten_cons];exact Vals.append h (Vals.rep h k)
theorem u_{α:Type}(l:List α):l.eraseIdx (l.length-1)=l.dropLast:=by
 induction l with
 |nil=>rfl
 |cons a r ih=>
  cases r with
  |nil=>rfl
  |cons b r=>
   have e:(a::b::r).length-1=((b::r).length-1)+1:=by
    have h1:(a::b::r).length=r.length+2:=rfl;have h2:(b::r).length=r.length+1:=rfl;lia
   rw[e,List.eraseIdx_cons_succ,ih]
   all_goals rfl
theorem foldl_rep(aK:List Value):∀(k:Nat)(acc:List Value),
 List.foldl (fun x1 x2=>x1++x2) acc.toArray (List.replicate k aK.toArray)=(acc++(List.replicate k aK).flatten).toArray
 |0,acc=>by simp
 |k+1,acc=>by
  have e:acc.toArray++aK.toArray=(acc++aK).toArray:=by simp
  have e2:(acc++aK)++(List.replicate k aK).flatten=acc++(List.replicate (k+1) aK).flatten:=by
   rw[List.replicate_succ,List.flatten_cons,List.append_assoc]
  rw[<-e2,<-foldl_rep aK k (acc++aK),<-e,List.replicate_succ,List.foldl_cons]
section
variable {X:Cx} {pins:List (Addr×Obj)} {σ:St} {H:Hp} {s:Shared} {l b:Addr} {xs ys zs:List V}
theorem Inv.Kt{aK its':List Value}{n:Nat}{f:Array Value->Array Value}{t':Nat}(I:Inv X pins σ H s)(hH:H l=some (.lst xs))(e:s.heap.get? l=some {cls:=.type "list",data:=.seq aK.toArray n})(hf:f aK.toArray=its'.toArray)(hv:Vals ys its')(hz:ys.length<=sizeLine):
 Inv X pins σ (upd H l (.lst ys)) {s with heap:=s.heap.update l (Obj.mapSeq f),toks:=t'}:=by
 have q:=PySem.IsL.update e f;rw[hf] at q;refine I.write (x:=l) (e:=l) (by rw[hH];exact trivial) (.inl rfl) (fun b' u hb hu=>(Heap.get?_update_other s.heap (Obj.mapSeq f) (Ne.symm hb)).trans hu) ⟨_,q⟩ ?_;exact⟨hz,its',_,hv,q⟩
theorem Inv.Dr{aK:List Value}{t':Nat}(I:Inv X pins σ H s)(hv:Vals ys aK)(hz:ys.length<=sizeLine):
 Inv X pins σ (upd H s.heap.objs.size (.lst ys)) {s with heap:=s.heap.push {cls:=.type "list",data:=.seq aK.toArray},toks:=t'}:=
 I.laid (fun _ _ q=>Heap.get?_push_of_some _ q) (Nat.le_refl _) ⟨hz,aK,0,hv,Heap.get?_push_size _ rfl⟩
theorem Inv.fresh(I:Inv X pins σ H s):H s.heap.objs.size=none:=I.bO.fresh (Nat.le_refl _)
theorem Inv.Ar(I:Inv X pins σ H s)(hH:H l=some (.lst xs)):xs.length<=sizeLine/\∃(aK:List Value)(n:Nat),Vals xs aK/\xs.length=aK.length/\s.heap.get? l=some {cls:=.type "list",data:=.seq aK.toArray n}:=by
 obtain⟨z,aK,n,r,e⟩:=I.bO l _ hH;exact⟨z,aK,n,r,r.length,e⟩
theorem As{n:Nat}(h:n<=sizeLine):Builtin.List.listTooLong n=false:=by
 unfold Builtin.List.listTooLong;exact decide_eq_false (by lia)
end
section
variable {X:Cx}
noncomputable def Ds:V->List V->Hp->VK->Prop:=fun x vs H Q=>∃l xs y,x=.ref l/\vs=[y]/\H l=some (.lst xs)/\xs.length<sizeLine/\Q .gf (upd H l (.lst (xs++[y])))
theorem dD:M4 X "list.append" Ds:=by
 intro pins s σ H x vs v us Q I rx rv h;obtain⟨l,xs,y,rfl,rfl,hH,hz,q⟩:=h;cases rx;obtain⟨u,rfl,ru⟩:=rv.one;obtain⟨z,aK,n,r,hl,e⟩:=I.Ar hH;refine call_meets F.slot_list_append ⟨_,e,rfl⟩ F.entry_list_append (F.args_list_append_2 _ _) (PySem.list_append l aK.toArray n u (by rw[List.size_toArray];lia)) ⟨e,?_⟩;refine⟨.gf,_,I.Kt (its':=aK++[u]) hH e (by simp) (r.append (.cons ru .nil)) ?_,rfl,q⟩;rw[List.length_append,List.length_singleton];lia
noncomputable def Oj:V->List V->Hp->VK->Prop:=fun x vs H Q=>∃l xs y,x=.ref l/\vs=[]/\H l=some (.lst xs)/\xs[xs.length-1]?=some y/\Q y (upd H l (.lst xs.dropLast))
theorem va:M4 X "list.pop" Oj:=by
 intro pins s σ H x vs v us Q I rx rv h;obtain⟨l,xs,y,rfl,rfl,hH,hy,q⟩:=h;cases rx;have Ue:=rv.zero;subst Ue;obtain⟨z,aK,n,r,hl,e⟩:=I.Ar hH;obtain⟨u,hu,ru⟩:=r.get hy;have Ol:aK.toArray[aK.toArray.size-1]?=some u:=by
  show aK.toArray[aK.length-1]?=some u;rw[<-Array.getElem?_toList,<-hl];exact hu
 refine call_meets F.slot_list_pop ⟨_,e,rfl⟩ F.entry_list_pop (F.args_list_pop_1 _) (MeetsSeq.list_pop_last l aK.toArray n u Ol (by rw[List.size_toArray];lia)) ⟨e,?_⟩;refine⟨y,_,I.Kt (its':=aK.dropLast) hH e ?_ r.dropLast ?_,ru,q⟩
 ·show aK.toArray.eraseIdxIfInBounds (aK.toArray.size-1)=aK.dropLast.toArray;rw[List.size_toArray,List.eraseIdxIfInBounds_toArray,u_]
 ·rw[List.length_dropLast];lia
noncomputable def Om:R2:=fun x y H Q=>∃l b xs zs,x=.ref l/\y=.ref b/\H l=some (.lst xs)/\H b=some (.lst zs)/\xs.length+zs.length<=sizeLine/\∀p,H p=none->Q (.ref p) (upd H p (.lst (xs++zs)))
theorem vb:kC X (binaryOp .Add) Om:=by
 intro pins s σ H x y v u Q I rx ry h;obtain⟨l,b,xs,zs,rfl,rfl,hH,hB,hz,q⟩:=h;cases rx;cases ry;obtain⟨z,aK,n,r,hl,e⟩:=I.Ar hH;obtain⟨z2,jT,n2,r2,uP,e2⟩:=I.Ar hB;refine PySem.P.add_list e e2 ?_ (by rw[List.size_toArray,List.size_toArray];lia);have ea:aK.toArray++jT.toArray=(aK++jT).toArray:=by simp
 rw[ea];exact⟨.ref _,_,I.Dr (t':=s.toks) (r.append r2) (by rw[List.length_append];lia),rfl,q _ I.fresh⟩
noncomputable def Oo:R2:=fun x y H Q=>∃l k xs,x=.ref l/\y=.int k/\H l=some (.lst xs)/\-(2^63)<=k/\k<2^63/\xs.length*k.toNat<=sizeLine/\
 ∀p,H p=none->Q (.ref p) (upd H p (.lst (List.replicate k.toNat xs).flatten))
theorem len_rep{α:Type}(xs:List α)(k:Nat):(List.replicate k xs).flatten.length=k*xs.length:=by
 induction k with
 |zero=>simp
 |succ k ih=>rw[List.replicate_succ,List.flatten_cons,List.length_append,ih,Nat.succ_mul,Nat.add_comm]
theorem vc:kC X (binaryOp .Mult) Oo:=by
 intro pins s σ H x y v u Q I rx ry h;obtain⟨l,k,xs,rfl,rfl,hH,h1,h2,hz,q⟩:=h;cases rx;obtain⟨t,rfl⟩:=ry;obtain⟨z,aK,n,r,hl,e⟩:=I.Ar hH;have hlen:aK.toArray.size*k.toNat<=sizeLine:=by rw[List.size_toArray,<-hl];exact hz
 have Oq:¬aK.toArray.size*k.toNat>(2^63-1)/8:=by
  have:(sizeLine:Nat)<=(2^63-1)/8:=by decide
  lia
 have Ot:¬(!Builtin.List.listFitsIndex k)=true:=by
  rw[fitsIndex_both h1 h2];exact Bool.false_ne_true
 have Ku:¬Builtin.List.listTooLong (aK.toArray.size*k.toNat)=true:=by
  rw[As hlen];exact Bool.false_ne_true
 have Ou:List.foldl (fun x1 x2=>x1++x2) #[] (List.replicate (if aK.toArray.isEmpty=true then 0 else k.toNat) aK.toArray)=(List.replicate k.toNat aK).flatten.toArray:=by
  have f0:∀m:Nat,List.foldl (fun x1 x2=>x1++x2) #[] (List.replicate m aK.toArray)=(List.replicate m aK).flatten.toArray:=fun m=>by
   have:=foldl_rep aK m [];rw[List.nil_append] at this;exact this
  rw[f0];cases aK with
  |nil=>simp
  |cons a r'=>rw[if_neg (by simp)]
 refine wpAny_binaryOp_repeat_ref (T:="list") (U:="int") (by decide) ⟨_,e,rfl⟩ (fun s'=>typeIs_int s' k t) noFill_list_mul F.fills_int_mul F.slot_int_rmul repeat_list F.slot_int_index.lookup
  (call_meets F.slot_int_rmul (typeIs_int s k t) F.entry_int_rmul (F.args_int_rmul_2 _ _) (int___rmul___int_list k t l aK.toArray n)
   ⟨e,rfl,⟨_,e,rfl⟩,call_meets F.slot_list_mul ⟨_,e,rfl⟩ F.entry_list_mul (F.args_list_mul_2 _ _) (AutoListH.list___mul___list_int_3 l aK.toArray n k t Ot Oq Ku) ⟨e,?_⟩⟩)
 rw[Ou];exact⟨.ref _,_,I.Dr (t':=s.toks) (r.rep k.toNat) (by rw[len_rep,Nat.mul_comm];exact hz),rfl,q _ I.fresh⟩
end
section
variable {prog:Program} {w:World} {A:Around} {E:Value->Shared->Prop} {s:Shared}
end
section
variable {X:Cx}
end
end L2
namespace Ry
open PySem PySem.W PySem.Calls PyProof.Rows
theorem lW{P:Params}{h:Heap}:∀(ns:List Int)(vs:List Value),WellAll P h vs (ns.map WData.int)->IntsAre vs ns:=by
 intro ns
 induction ns with
 |nil=>
  intro vs w;rw[List.map_nil] at w;cases w;exact .nil
 |cons n ns ih=>
  intro vs w;rw[List.map_cons] at w;cases w with
  |cons a b=>
   cases a;exact .cons _ _ (ih _ b)
theorem yG{l:OpenLaw}{n:Nat}(hn:l.most=some n){P:Params}{h:Heap}{args:List WData}{vals:List Value}(yH:l.row.toRowW.claim.pre args=true)(Ov:WellAll P h vals args):
 ∃a vs ns,vals=[Value.ref a]/\args=[WData.list (ns.map WData.int)]/\h.get? a=some {cls:=.type "list",data:=.seq vs.toArray}/\IntsAre vs ns/\ns.length<=n:=by
 have M5:WShape.hasAll [] args [.list .int]=true:=(pre_splitW yH).1;have hc:l.pre.holds [] {args:=args}=true:=(pre_splitW yH).2;obtain⟨d,r,rfl,h1,h2⟩:=hasAllW_cons M5;obtain rfl:=hasAllW_nil h2;obtain⟨xs,rfl,h3⟩:=hasW_list h1;obtain⟨ns,rfl⟩:=items_int h3;have hlen:ns.length<=n:=by
  unfold OpenLaw.pre at hc;have h4:(WTm.not (.lt (.lit (.int (n:Int))) (.len (.arg 0)))).holds [] {args:=[.list (ns.map .int)]}=true:=by
   have h4:=(holds_andW hc).1;rw[hn] at h4;exact h4
  have h5:=condW_of h4 (w_not (w_lt w_lit (w_len_list (w_arg rfl))));rw[List.length_map] at h5;refine Nat.le_of_not_lt fun q=>?_;have q':(n:Int)<((ns.length:Nat):Int):=by lia
  first
   |(rw[decide_eq_true q'] at h5;exact absurd h5 (by decide))
   |(simp at h5;lia)
 cases Ov with
 |cons w1 w2=>
  cases w2
  cases w1 with
  |list ho jU=>exact⟨_,_,ns,rfl,rfl,ho,lW ns _ jU,hlen⟩
theorem yI(l:OpenLaw)(args:List WData):l.row.toRowW.claim.post args (.bool true) args=true:=
 postW_of (r:=l.row.toRowW) (X:=(true==true))
  (show WShape.has [] (.bool true) .bool=true by first|rfl|decide|simp[WShape.has,WShape.arms,WShape.armsAll])
  (show(WTm.eq .res (.lit (.bool true))).value [] {args:=args,res:=some (.bool true),after:=args}=some (.bool (true==true)) from w_eq_bool (w_res rfl) w_lit) rfl
theorem sj{l:OpenLaw}{n:Nat}{q:Program}{loose:List Str}{XP:(Str->Option Value)->Heap->Prop}{YP:World->Heap->Prop}{d:DefRec}(hn:l.most=some n)(Kv:d.params.defaults=[])(call:∀(w:World)(fh bR:Shared)(mg mb:Str->Option Value)(fa:Addr)(o:Obj)(pm cd doc:Value)(a:Addr)(vs:List Value)(ns:List Int),
 Ground q loose [] XP w fh mg mb bR.heap->YP w bR.heap->
 bR.heap.get? fa=some o->o.data=.func (docDef d.name d.params d.body d.scope pm cd doc)->bR.heap.CodeRec cd d.name->mg d.name=some (.ref fa)->
 bR.heap.get? a=some {cls:=.type "list",data:=.seq vs.toArray}->IntsAre vs ns->ns.length<=n->bR.gens=#[]->
 codeAny (model l.prog w) callerA (.call (.ref fa) ⟨[.ref a],[]⟩) (fun r s'=>r=.ok (.ret (.bool true))/\OldK bR.heap s'.heap/\s'.os=bR.os/\AllBare s'.gens) bR):
 WalkO q loose XP YP l.row.toRowW d [] (fun f vs=>PySem.call f vs):=by
 intro w fh bR mg mb G Y fa o pm cd doc dV kV ho hd lT hD Jo hg args vals as yH Ug Xw Ov RA;obtain rfl:dV=.none:=Dflts.none hD Kv;obtain rfl:kV=.none:=Dflts.noKw hD;obtain⟨a,vs,ns,rfl,rfl,GS,hints,hlen⟩:=yG hn yH Ov;refine enter_call (codeAny_mono (call w fh bR mg mb fa o pm cd doc a vs ns G Y ho (fd_plain hd) lT Jo GS hints hlen hg) fun r s' hq=>?_);obtain⟨rfl,h2,h3,h4⟩:=hq;exact⟨.inl ⟨.bool true,.bool true,[],rfl,fun _=>rfl,.bool true,yI l _,fun _=>⟨List.Pairwise.nil,fun _ hm=>(nomatch hm)⟩⟩,h2,h3,h4⟩
section
variable {prog:Program} {w:World} {A:Around} {E:Value->Shared->Prop} {s:Shared} {K:Frag}
end
end Ry
namespace L2
open PySem PySem.Spec PyProof.Rows
theorem o_:∀{vs:List Value}{ns:List Int},IntsAre vs ns->Vals (ns.map V.int) vs
 |_,_,.nil=>.nil
 |_,_,.cons n t h=>.cons ⟨t,rfl⟩ (o_ h)
end L2
namespace L2
open PySem PySem.Spec PyProof.Rows
noncomputable abbrev Xx{K:PySem.W.Frag}{h:Heap}(_:K.In h):PySem.W.Frag:=K
end L2
namespace L2
open PySem PySem.Spec PyProof.Rows
noncomputable def gK(s:Stmt):Arguments:=match s with
 |.FunctionDef _ a _ _ _ _ _ _ _ _=>a
 |_=>{posonlyargs:=[],args:=[],vararg:=none,kwonlyargs:=[],kw_defaults:=[],kwarg:=none,defaults:=[]}
noncomputable def dM(s:Stmt):List Stmt:=match s with
 |.FunctionDef _ _ b _ _ _ _ _ _ _=>b
 |_=>[]
noncomputable def au(s:Stmt):Scope:=match s with
 |.FunctionDef _ _ _ _ _ _ sc _ _ _=>sc
 |_=>{kind:=.function,names:=[],isGenerator:=false,isCoroutine:=false}
noncomputable abbrev vd:ow:=fun _ _ _ _ _ _=>False
noncomputable abbrev E0:XK:=fun _ _ _=>False
theorem Au{X:Cx}:Passes vd X E0:=fun _ _ _ _ _ _ _ h=>h.elim
structure Av(K:PySem.W.Frag)(x qual:Str)(st:Stmt)(f:Addr)(fd:FuncData):Prop where
 ex:∃(oc:Value)(od:Option Addr)(kV doc pm:Value)(an:Option Addr)(cq ct:Value)(Dp:Array (Option Value)),
  fd=PySem.W.fnOf x qual (gK st) (dM st) (au st) .none kV doc pm an cq ct/\K.lookup f=some ⟨oc,od,.func fd,Dp⟩/\PySem.W.codeIn K cq qual=true
 kp:PySem.W.keepIn K (.ref f)=true
section
variable {P:Program} {w:World} {K:PySem.W.Frag} {mg:Str->Option Value} {base:Heap}
theorem Av.ok{x qual:Str}{st:Stmt}{f:Addr}{fd:FuncData}{N ps:List Str}{k:Nat}{sp:Sp}(F:Av K x qual st f fd)(S:aB N ps (au st))(len:∀vs H Q E,sp vs H Q E->vs.length=ps.length)(iD:∀(cq:Value)(A:Around)(outer:List Env)(s:Shared)(H:Hp)(vs:List V)(Q:VK)(E:XK),fi k (A.deeper (envOfC qual (au st) s.heap.objs.size f cq))->sp vs H Q E->
 ∃t,oA (oC vd P w K mg base N qual (au st) f cq A outer s H E).Gz (dM st) t/\t {nx:=fun _ H'=>Q .gf H',rt:=Q} (start N vs) H):r0 P w K mg base vd (k+1) f fd ps sp:=by
 obtain⟨oc,od,kV,doc,pm,an,cq,ct,Dp,rfl,lk,lT⟩:=F.ex;refine Ko lk lT S len fun A outer s H vs Q E hr An=>?_;obtain⟨t,h,q⟩:=iD cq A outer s H vs Q E hr An;exact⟨t,h.Gz,q⟩
theorem Av.binds{x qual:Str}{st:Stmt}{f:Addr}{fd:FuncData}{ps:List Str}(F:Av K x qual st f fd)(h:∀(kV doc pm:Value)(an:Option Addr)(cq ct:Value)(us:List Value),us.length=ps.length->bindArgs (PySem.W.fnOf x qual (gK st) (dM st) (au st) .none kV doc pm an cq ct) ⟨us,[]⟩=pure (ps.zip us)):Binds K fd ps []:=by
 obtain⟨oc,od,kV,doc,pm,an,cq,ct,Dp,rfl,lk,lT⟩:=F.ex;exact .all (h kV doc pm an cq ct)
theorem Aw{x qual:Str}{st:Stmt}{f:Addr}{oc:Value}{od an:Option Addr}{Dp:Array (Option Value)}{kV doc pm cq ct:Value}(l:K.lookup f=some ⟨oc,od,.func (PySem.W.fnOf x qual (gK st) (dM st) (au st) .none kV doc pm an cq ct),Dp⟩)(c:PySem.W.codeIn K cq qual=true)(k:PySem.W.keepIn K (.ref f)=true):Av K x qual st f (PySem.W.fnOf x qual (gK st) (dM st) (au st) .none kV doc pm an cq ct):=⟨⟨oc,od,kV,doc,pm,an,cq,ct,Dp,rfl,l,c⟩,k⟩
end
theorem yJ{n:Nat}(h:n<=1000):n<sizeLine:=Nat.lt_of_le_of_lt h (by decide)
section
variable {X:Cx}
theorem pv(i:Nat){x:Str}{pos:Pos}(hN:X.N[i]?=some x:=by rfl)(hv:JY X.env.scope x:=by first|exact Or.inl rfl|exact Or.inr (Or.inl rfl)|exact Or.inr (Or.inr rfl))(hd:(x==("__debug__":Str))=false:=by decide)(lT:(x==("__classdict__":Str))=false:=by decide):PE X (.Name x pos) (Dh i):=Ac hN hv hd lT
end
theorem iE{A B:Prop}(h:B):if false=true then A else B:=by
 rw[if_neg Bool.false_ne_true];exact h
theorem Kw{A B:Prop}(h:A):if true=true then A else B:=by
 rw[if_pos rfl];exact h
theorem eM{c A B:Prop}[Decidable c](h1:c->A)(h2:¬c->B):if c then A else B:=by
 by_cases h:c
 ·rw[if_pos h];exact h1 h
 ·rw[if_neg h];exact h2 h
theorem Kx{c A B:Prop}[Decidable c](hc:c)(h:B):if(!decide c)=true then A else B:=by
 rw[decide_eq_true hc];exact iE h
noncomputable def av(H H':Hp):Prop:=∀b o,H b=some o->H' b=some o
theorem av.refl(H:Hp):av H H:=fun _ _ h=>h
theorem av.trans{H H1 H2:Hp}(a:av H H1)(b:av H1 H2):av H H2:=fun c o h=>b c o (a c o h)
theorem av.free{H H':Hp}(e:av H H'){l:Addr}(h:H' l=Option.none):H l=Option.none:=by
 cases q:H l with
 |none=>rfl
 |some o=>
  rw[e l o q] at h;cases h
theorem av.seq{K:PySem.W.Frag}{H H':Hp}{a:Addr}{xs:List V}(e:av H H')(h:aM K H a xs):aM K H' a xs:=by
 rcases h with(h|⟨o,h⟩)|h
 ·exact .inl (.inl (e _ _ h))
 ·exact .inl (.inr ⟨o,e _ _ h⟩)
 ·exact .inr h
end L2
set_option maxHeartbeats 4000000
namespace L2
open PySem PySem.Spec PyProof.Rows
section
variable {X:Cx} {a b c:Expr} {ta tb tc:TE} {pos:Pos}
theorem aF:kC X (binaryOp .Mult) (rI (fun i j=>IntMulOk i j) fun i j=>.int (i*j)):=
 M3 fun _ _ _ _ _ _ _ hc q=>mul_int q hc
theorem dn:kC X (binaryOp .FloorDiv) (rI (fun _ j=>j≠0/\j.natAbs.log2<9000) fun i j=>.int (i.fdiv j)):=
 M3 fun _ _ _ _ _ _ _ hc q=>floordiv_int hc.1 q (.inl (PyProof.noPylong_of_log2 hc.2))
theorem Ax{x:Str}{T:String}{pos:Pos}(hg:Gl X x)(hm:X.mg x=none)(hv:bootBuiltins x=some (.type T))(hn:x≠"__name__":=by decide)(hd:(x==("__debug__":Str))=false:=by decide):PE X (.Name x pos) (tC (.ty T)):=
 Di (v:=V.ty T) hg hm hv rfl hn hd
noncomputable def Ow(K:PySem.W.Frag):List V->Hp->VK->Prop:=fun xs H Q=>∃x T t r,xs=[x,.ty T]/\kE K H x t/\PySem.W.kitOne K t (.type T)=some r/\Q (.bl r) H
theorem lE:gn X (.builtin "isinstance") (Ow X.K):=by
 intro pins s σ H xs us Q I r h;obtain⟨x,T,t,bb,rfl,ty,e,q⟩:=h;obtain⟨u,w',rfl,rx,ry⟩:=vals2 r;obtain rfl:w'=Value.type T:=ry;exact yF I rx ty e fun tk=>⟨.bl bb,H,I.tok _,rfl,q⟩
theorem sk{K:PySem.W.Frag}(T:String):PySem.W.kitOne K (.type T) (.type T)=some true:=by
 unfold PySem.W.kitOne;rw[if_pos (beq_self_eq_true _)]
noncomputable def Ox(K:PySem.W.Frag):R2:=fun x y H Q=>∃(p q:Addr)(xs ys:List Int),x=.ref p/\y=.ref q/\aM K H p (xs.map V.int)/\aM K H q (ys.map V.int)/\Q (.bl (decide (xs=ys))) H
theorem int_at{xs:List Int}{aK:List Value}(r:Vals (xs.map V.int) aK){j:Nat}(h:j<xs.length)(h':j<aK.length):∃t,aK[j]=Value.int xs[j] t:=by
 have e:(xs.map V.int)[j]?=some (V.int xs[j]):=by rw[List.getElem?_map,List.getElem?_eq_getElem h]<;>rfl
 obtain⟨u,hu,t,rfl⟩:=r.get e;rw[List.getElem?_eq_getElem h'] at hu;exact⟨t,Option.some.inj hu⟩
theorem Ay(xs ys:List Int)(hl:xs.length=ys.length):((List.range xs.length).all fun j=>xs.getD j 0==ys.getD j 0)=decide (xs=ys):=by
 rw[Bool.eq_iff_iff,List.all_eq_true,decide_eq_true_eq];constructor
 ·intro h;refine List.ext_getElem hl fun j h1 h2=>?_;have:=h j (List.mem_range.mpr h1);rw[beq_iff_eq,List.getD_eq_getElem?_getD,List.getD_eq_getElem?_getD,List.getElem?_eq_getElem h1,List.getElem?_eq_getElem h2] at this;exact this
 ·rintro rfl j _;exact beq_self_eq_true _
theorem GU(hu:X.A.units<cLine):kC X (compareOp .Eq) (Ox X.K):=by
 intro pins s σ H x y v u Q I rx ry h;obtain⟨p,q,xs,ys,rfl,rfl,hp,hq,h⟩:=h;cases rx;cases ry;obtain⟨aK,r,pl,hz⟩:=I.list hp;obtain⟨jT,r2,oE,Az⟩:=I.list hq;have l1:=r.length;have l2:=r2.length;rw[List.length_map] at l1 l2;by_cases hl:xs.length=ys.length
 ·refine SeqAt.eq_listAt (e:=fun j=>xs.getD j 0==ys.getD j 0) pl.isList oE.isList (by simp only[List.size_toArray];lia) hu (fun j h1 h2=>?_) ?_
  ·simp only[List.size_toArray] at h1 h2;obtain⟨t,e⟩:=int_at r (j:=j) (by lia) h1;obtain⟨t',e'⟩:=int_at r2 (j:=j) (by lia) h2;have z:SeqAt.EqAt X.A.in1 s aK[j] jT[j] (xs[j]==ys[j]):=by
    rw[e,e'];exact SeqAt.EqAt.int_int _ _ _ _
   rw[List.getD_eq_getElem?_getD,List.getD_eq_getElem?_getD,List.getElem?_eq_getElem (show j<xs.length by lia),List.getElem?_eq_getElem (show j<ys.length by lia)];simpa using z
  ·have e:(List.range aK.toArray.size).all (fun j=>xs.getD j 0==ys.getD j 0)=decide (xs=ys):=by
    rw[<-Ay xs ys hl,l1,List.size_toArray]
   rw[e];exact⟨.bl _,H,I,rfl,h⟩
 ·have e:decide (xs=ys)=false:=decide_eq_false fun z=>hl (by rw[z]);rw[e] at h;exact SeqAt.eq_list_lengthsAt pl.isList oE.isList (by simp only[List.size_toArray,bne_iff_ne,ne_eq];lia) hu ⟨.bl false,H,I,rfl,h⟩
end
noncomputable def yK(lo st:Int)(n:Nat):It:=⟨fun i _=>i<n,fun i H x H'=>H'=H/\x=.int (lo+i*st),fun i _=>n<=i⟩
theorem su{P:Program}{w:World}{K:PySem.W.Frag}{tg:Expr}(it:Addr)(lo st:Int)(n:Nat):
 Turn P w K tg (yK lo st n) [it] it (fun i h=>IsRangeIter h it (lo+(i:Nat)*st) ((n:Int)-(i:Nat)) st) where
 mem:=List.mem_singleton.mpr rfl
 obj:=fun i h q b hb=>by
  obtain rfl:=List.mem_singleton.mp hb;exact⟨_,q,fun v z=>by cases (show Data.fields _=Data.cell v from z)⟩
 keep:=fun i h h' q k=>k it (List.mem_singleton.mpr rfl) _ q
 item:=by
  intro X e1 e2 e3 hc i pins s σ H E I hf q hg;subst e1 e2 e3;obtain⟨f0,f1,f2,f3,f4,f5⟩:=hf it (List.mem_singleton.mpr rfl);refine(Walks.range (prog:=X.prog) (w:=X.w) (I.ok.hd hc) it lo st n).item i s _ _ hg q fun v h' tk hv q' kk=>?_;obtain⟨t,rfl⟩:=hv;have I1:Inv X pins σ H {s with heap:=h',toks:=tk}:=I.turned (fun b o hb e=>kk b o (fun z=>hb (List.mem_singleton.mp z)) e) f0 f1 f3 f4 f5;exact⟨_,rfl,rX (s:={s with heap:=h',toks:=tk}) (n:="range_iterator") q' rfl rfl (by decide) ⟨.int (lo+i*st),H,I1,⟨t,rfl⟩,⟨rfl,rfl⟩,q',fun b hb=>(hf b hb).1⟩⟩
 done:=by
  intro X e1 e2 e3 hc i pins s σ H E I hf q hg;subst e1 e2 e3;obtain⟨f0,f1,f2,f3,f4,f5⟩:=hf it (List.mem_singleton.mpr rfl);exact wpAny_pyNext_range_end (I.ok.hd hc) q (by have:n<=i:=hg;lia) fun h' eb=>⟨rfl,I.turned (t':=s.toks) (fun b o hb e=>eb b o hb e) f0 f1 f3 f4 f5⟩
 self:=fun _ _ _ _ _ q h=>wpAny_pyIter_rangeiter q h
noncomputable def Fe(ta:TA):TI:=fun σ H R=>ta σ H fun vs H1=>∃(i j k:Int)(n:Nat),vs=[.int i,.int j,.int k]/\k≠0/\k.natAbs<1073741824/\Builtin.Range.small i j k=true/\Builtin.Range.rangeSize i j k=n/\R (yK i k n) H1
theorem yL{X:Cx}{tg a b c:Expr}{ta:TA}{p pos:Pos}(hg:Gl X "range")(hm:X.mg "range"=none)(ha:PA X [a,b,c] ta)(hs:starEach [a,b,c] X.env=[(false,eval a X.env),(false,eval b X.env),(false,eval c X.env)]:=by rfl)(AA:starEach [b,c] X.env=[(false,eval b X.env),(false,eval c X.env)]:=by rfl):PI X tg (.Call (.Name "range" p) [a,b,c] [] pos) (Fe ta):=by
 intro pins s σ H R I h;refine Call_ (gH I hg hm boot_range (PyProof.Rows.callWith_type1 (c_ (ha pos pins s σ H _ I h) fun us s1 q1=>?_) (by rw[hs,AA]) (by rw[AA];rfl)));obtain⟨vs,H1,I1,r1,i,j,k,n,rfl,hk,Uh,Ui,hn,q⟩:=q1;cases r1 with
 |cons ra rr=>
  cases rr with
  |cons rb rr=>
   cases rr with
   |cons rc rr=>
    cases rr;obtain⟨t,rfl⟩:=ra;obtain⟨u,rfl⟩:=rb;obtain⟨v,rfl⟩:=rc;refine call_range_3 hk ?_ (.inl (PyProof.noPylong_small Uh));refine wpAny_pyIter_range (IsRange.new ..) Ui ?_;have I2:Inv X pins σ H1 {s1 with heap:=s1.heap.push {cls:=.type "range",data:=.fields #[.int i t,.int j u,.int k v]}}:=I1.kept (t':=s1.toks) fun b o e=>Heap.get?_push_of_some _ e;refine⟨_,[_],_,_,H1,rfl,I2.kept (t':=s1.toks) fun b o e=>Heap.get?_push_of_some _ e,su _ i k n,?_,fun b hb=>?_,q⟩
    ·have e1:i+((0:Nat):Int)*k=i:=by simp
     have e2:((n:Nat):Int)-((0:Nat):Int)=Builtin.Range.rangeSize i j k:=by rw[hn];simp
     show IsRangeIter _ _ (i+((0:Nat):Int)*k) (((n:Nat):Int)-((0:Nat):Int)) k;rw[e1,e2];exact Heap.get?_push_size _ rfl
    ·obtain rfl:=List.mem_singleton.mp hb;exact I2.rW (Nat.le_refl _) (I2.bO.fresh (Nat.le_refl _))
theorem ve{lo st:Int}{n:Nat}{g:TG}{tb:TS}{D:Ends}{σ:St}{H:Hp}(Pv:Nat->St->Hp->Prop)(h0:Pv 0 σ H)(hs:∀i σ H,i<n->Pv i σ H->g (.int (lo+i*st)) σ H fun eI H2=>tb {D with nx:=Pv (i+1),ct:=Pv (i+1),bk:=D.nx} eI H2)(hd:∀σ H,Pv n σ H->D.nx σ H):
 ∃W:Nat->Nat->St->Hp->Prop,(∃m,W 0 m σ H)/\∀i m σ H,W i m σ H->
  ((yK lo st n).stop i H/\D.nx σ H)\/((yK lo st n).go i H/\∃N:St->Hp->Prop,(∀bE H',N bE H'->∃m',m'<m/\W (i+1) m' bE H')/\∀x H',(yK lo st n).rV i H x H'->g x σ H' fun eI H2=>tb {D with nx:=N,ct:=N,bk:=D.nx} eI H2):=by
 refine⟨fun i m σ H=>m=n-i/\i<=n/\Pv i σ H,⟨n,rfl,Nat.zero_le _,h0⟩,fun i m σ H q=>?_⟩;obtain⟨rfl,hi,p⟩:=q;by_cases eL:i<n
 ·refine .inr ⟨eL,Pv (i+1),fun bE H' p'=>⟨n-(i+1),by lia,rfl,eL,p'⟩,fun x H' y=>?_⟩;obtain⟨rfl,rfl⟩:=y;exact hs i σ _ eL p
 ·obtain rfl:i=n:=by lia
  exact .inl ⟨Nat.le_refl _,hd σ H p⟩
structure cb(P:Program)(w:World)(K:PySem.W.Frag)(mg:Str->Option Value)(base:Heap)(k:Nat)(x:Str)(ps:List Str)(sp:Sp):Prop where
 ex:∃f fd,r0 P w K mg base vd k f fd ps sp/\mg x=some (.ref f)/\PySem.W.keepIn K (.ref f)=true/\Binds K fd ps []
structure aN(K:PySem.W.Frag)(mg:Str->Option Value)(x:Str)(st:Stmt)(ps:List Str):Prop where
 ex:∃f fd,Av K x x st f fd/\mg x=some (.ref f)/\Binds K fd ps []
section
variable {P:Program} {w:World} {K:PySem.W.Frag} {mg:Str->Option Value} {base:Heap} {x:Str} {st:Stmt} {N ps:List Str} {j k:Nat} {sp Xy:Sp}
theorem cb.mono(F:cb P w K mg base j x ps sp)(h:j<=k):cb P w K mg base k x ps sp:=
 let⟨f,fd,a,b,c,d⟩:=F.ex
 ⟨f,fd,a.mono h,b,c,d⟩
theorem aN.ok(D:aN K mg x st ps)(S:aB N ps (au st))(len:∀vs H Q E,sp vs H Q E->vs.length=ps.length)(iD:∀(f:Addr)(cq:Value)(A:Around)(outer:List Env)(s:Shared)(H:Hp)(vs:List V)(Q:VK)(E:XK),fi k (A.deeper (envOfC x (au st) s.heap.objs.size f cq))->sp vs H Q E->
 ∃t,oA (oC vd P w K mg base N x (au st) f cq A outer s H E).Gz (dM st) t/\t {nx:=fun _ H'=>Q .gf H',rt:=Q} (start N vs) H):cb P w K mg base (k+1) x ps sp:=
 let⟨f,fd,a,b,c⟩:=D.ex
 ⟨f,fd,a.ok S len fun cq A outer s H vs Q E=>iD f cq A outer s H vs Q E,b,a.kp,c⟩
end
theorem aQ{K:PySem.W.Frag}{h:Heap}{mg:Str->Option Value}{x:Str}{st:Stmt}{ps:List Str}{f:Addr}{od an:Option Addr}{sl:Array (Option Value)}{oc kV doc pm cd ct:Value}(X:K.In h)(G:h.Ns mainGlobals mg)(a:PySem.W.nsIn K mainGlobals x=some (some (.ref f)))(l:K.lookup f=some ⟨oc,od,.func (PySem.W.fnOf x x (gK st) (dM st) (au st) .none kV doc pm an cd ct),sl⟩)(c:PySem.W.codeIn K cd x=true)(k:PySem.W.keepIn K (.ref f)=true)(b:∀(kV doc pm:Value)(an:Option Addr)(cq ct:Value)(us:List Value),us.length=ps.length->bindArgs (PySem.W.fnOf x x (gK st) (dM st) (au st) .none kV doc pm an cq ct) ⟨us,[]⟩=pure (ps.zip us)):aN K mg x st ps:=
 have F:=Aw (st:=st) l c k
 ⟨_,_,F,PySem.W.mg_of X G a,F.binds b⟩
theorem aJ{X:Cx}{k:Nat}{x:Str}{ps:List Str}{sp:Sp}{p pos:Pos}{e:Expr}{es:List Expr}{t:TA}(F:cb X.prog X.w X.K X.mg X.base k x ps sp)(hr:fi k X.A)(ha:PA X (e::es) t)(hg:Gl X x:=by rfl)(u5:(x==("__debug__":Str))=false:=by decide)(he:starEach (e::es) X.env=(false,eval e X.env)::starEach es X.env:=by rfl)(r_:(backTo pos (starEach es X.env)).any (·.1)=false:=by rfl):PE X (.Call (.Name x p) (e::es) [] pos) (wX sp [] E0 t):=
 let⟨_,_,a,b,c,d⟩:=F.ex
 Dn a hr hg b c d .nil Au ha u5 he r_
section
variable {σ:St} {H:Hp} {Q:VK} {D:Ends} {te ta tb:TE} {tr:TA} {ts us:TS} {tt uu:TT} {QB:Bool->Hp->Prop} {QA:List V->Hp->Prop}
theorem Ky(h:ts {D with nx:=us D} σ H):J9 ts us D σ H:=h
theorem Kz{i:Nat}(h:te σ H fun x H1=>D.nx (σ.set i (some x)) H1):yA te (mQ i) D σ H:=h
theorem KA{g:TG}(h:te σ H fun x H1=>g x σ H1 D.nx):yA te g D σ H:=h
theorem KC(h:te σ H D.rt):J_ te D σ H:=h
theorem GV(h:te σ H fun _ H1=>D.nx σ H1):E4 te D σ H:=h
theorem GW(h:D.nx σ H):Ae D σ H:=h
theorem KD{i:Nat}{v:V}(e:σ[i]?=some (some v))(h:Q v H):Dh i σ H Q:=⟨v,e,h⟩
theorem KG{wi:TI}{g:TG}(h:wi σ H fun J H1=>∃W:Nat->Nat->St->Hp->Prop,(∃m,W 0 m σ H1)/\∀i m σ H,W i m σ H->
 (J.stop i H/\D.nx σ H)\/(J.go i H/\∃N:St->Hp->Prop,(∀bE H',N bE H'->∃m',m'<m/\W (i+1) m' bE H')/\∀x H',J.rV i H x H'->g x σ H' fun eI H2=>ts {D with nx:=N,ct:=N,bk:=D.nx} eI H2)):Kg wi g ts D σ H:=h
theorem GX{R:It->Hp->Prop}(h:tr σ H fun vs H1=>∃(i j k:Int)(n:Nat),vs=[.int i,.int j,.int k]/\k≠0/\k.natAbs<1073741824/\Builtin.Range.small i j k=true/\Builtin.Range.rangeSize i j k=n/\R (yK i k n) H1):Fe tr σ H R:=h
theorem Dt{i:Nat}{v:V}{R:St->Hp->Prop}(h:R (σ.set i (some v)) H):mQ i v σ H R:=h
theorem qm{K:PySem.W.Frag}{n:Nat}{t:CW}{a:Addr}{xs:List V}{R:St->Hp->Prop}(hs:cJ K H a xs)(hl:xs.length=n)(h:t xs σ H R):GA K n t (.ref a) σ H R:=⟨a,xs,rfl,hs,hl,h⟩
theorem Du{t:TG}{u:CW}{v:V}{r:List V}{R:St->Hp->Prop}(h:t v σ H fun bE H'=>u r bE H' R):E5 t u (v::r) σ H R:=⟨v,r,rfl,h⟩
theorem GY{R:St->Hp->Prop}(h:R σ H):Kc [] σ H R:=⟨rfl,h⟩
theorem Uj{v:V}(h:Q v H):tC v σ H Q:=h
theorem Oy{r:R2}(h:ta σ H fun x H1=>tb σ H1 fun y H2=>r x y H2 Q):Ki r ta tb σ H Q:=h
theorem Oz{r:V->Hp->VK->Prop}(h:ta σ H fun x H1=>r x H1 Q):Rp r ta σ H Q:=h
theorem OA{g:Int->Int->V}{i j:Int}(h:Q (g i j) H):E9 g (.int i) (.int j) H Q:=⟨i,j,rfl,rfl,h⟩
theorem cB{C:Int->Int->Prop}{g:Int->Int->V}{i j:Int}(c:C i j)(h:Q (g i j) H):rI C g (.int i) (.int j) H Q:=⟨i,j,rfl,rfl,c,h⟩
theorem Uk{g:Int->V}{i:Int}(h:Q (g i) H):rU g (.int i) H Q:=⟨i,rfl,h⟩
theorem GZ(h:te σ H fun x H'=>∃k,x=.bl k/\QB k H'):E_ te σ H QB:=h
theorem OB(h:te σ H fun x H'=>∃k,x=.bl k/\QB k H'):tB te σ H QB:=h
theorem OC{k:Bool}{R:Bool->Prop}(h:R k):∃k',V.bl k=.bl k'/\R k':=⟨k,rfl,h⟩
theorem KH{i j:Int}(h:Q (.bl (decide (i=j))) H):N8 (.int i) (.int j) H Q:=⟨rfl,by rw[show decide (V.int i=V.int j)=decide (i=j) by rw[Bool.eq_iff_iff];simp];exact h⟩
theorem KI{i j:Int}(h:Q (.bl (!decide (i=j))) H):Rq (.int i) (.int j) H Q:=⟨rfl,by rw[show decide (V.int i=V.int j)=decide (i=j) by rw[Bool.eq_iff_iff];simp];exact h⟩
theorem KJ(h:tt σ H fun b H1=>if b=true then ts D σ H1 else us D σ H1):J' tt ts us D σ H:=h
theorem KL(h:tt σ H fun c H1=>if c=true then ta σ H1 Q else tb σ H1 Q):Rm tt ta tb σ H Q:=h
theorem KN(h:tt σ H fun c H1=>if c=true then uu σ H1 QB else QB false H1):J5 tt uu σ H QB:=h
theorem OD(h:tt σ H fun c H1=>if c=true then QB true H1 else uu σ H1 QB):Rl tt uu σ H QB:=h
theorem KO(h:tt σ H fun c H1=>QB (!c) H1):J6 tt σ H QB:=h
theorem G0(h:ta σ H fun x H1=>∃c,x=.bl c/\if c=true then tb σ H1 Q else Q (.bl false) H1):J7 ta tb σ H Q:=h
theorem KP(h:ta σ H fun x H1=>∃c,x=.bl c/\if c=true then Q (.bl true) H1 else tb σ H1 Q):N2 ta tb σ H Q:=h
theorem G1(h:ta σ H fun x H1=>∃c,x=.bl c/\Q (.bl (!c)) H1):J8 ta σ H Q:=h
theorem KQ(h:QA [] H):Kk σ H QA:=h
theorem G2(h:te σ H fun x H1=>tr σ H1 fun xs H2=>QA (x::xs) H2):Fb te tr σ H QA:=h
theorem G3{sp:Sp}{E:XK}(h:tr σ H fun vs H1=>sp (vs++[]) H1 Q E):wX sp [] E tr σ H Q:=h
theorem OE{r:List V->Hp->VK->Prop}(h:tr σ H fun vs H1=>r vs H1 Q):Oa r tr σ H Q:=h
theorem KR(h:tr σ H fun xs H1=>xs.length<=sizeLine/\∀p,H1 p=none->Q (.ref p) (upd H1 p (.tup xs))):Km tr σ H Q:=h
theorem KS(h:tr σ H fun xs H1=>xs.length<=sizeLine/\∀p,H1 p=none->Q (.ref p) (upd H1 p (.lst xs))):Kn tr σ H Q:=h
theorem KU{K:PySem.W.Frag}{i:Int}{R:Bool->Prop}(h:R (i !=0)):∃k,Dl K (.int i) H k/\R k:=⟨_,rfl,h⟩
theorem cu{K:PySem.W.Frag}{p:Addr}{xs:List V}{i:Int}{v:V}(hs:cJ K H p xs)(he:qk xs i=some v)(h:Q v H):Kr K (.ref p) (.int i) H Q:=⟨p,xs,i,v,rfl,rfl,hs,he,h⟩
theorem bP{K:PySem.W.Frag}{p:Addr}{xs:List V}{i:Int}{v:V}(hs:aM K H p xs)(he:qk xs i=some v)(h:Q v H):Kq K (.ref p) (.int i) H Q:=⟨p,xs,i,v,rfl,rfl,hs,he,h⟩
theorem cD{n:Nat}(h:n<=1000):n<=sizeLine:=Nat.le_of_lt (yJ h)
theorem av.new{H:Hp}{p:Addr}(h:H p=none)(o:HO):av H (upd H p o):=fun b u q=>by rw[aq (aH q h)];exact q
end
end L2
namespace L2
open PySem PySem.Spec PyProof.Rows
noncomputable def AB(K:PySem.W.Frag)(a:Addr):It:=
 ⟨fun i H=>∃xs x,aM K H a xs/\xs[i]?=some x,fun i H x H'=>∃p y,H p=none/\x=.ref p/\H'=upd H p (.tup [.int (i:Int),y])/\∀xs,aM K H a xs->xs[i]?=some y,fun i H=>∃xs,aM K H a xs/\xs.length<=i⟩
noncomputable def Jp(K:PySem.W.Frag)(a:Addr)(n:Nat):It:=
 ⟨fun i H=>i<n/\∃xs x,aM K H a xs/\xs[n-1-i]?=some x,fun i H x H'=>H'=H/\∀xs,aM K H a xs->xs[n-1-i]?=some x,fun i _=>i=n⟩
theorem mj{b e it:Addr}(h:b∈[e,it]):b=e\/b=it:=by
 rcases List.mem_cons.mp h with z|z
 ·exact .inl z
 ·exact .inr (List.mem_singleton.mp z)
theorem yM{P:Program}{w:World}{K:PySem.W.Frag}{es:List Expr}{k:Nat}{tp:Pos}(a e it:Addr)(dA:e≠it):
 Turn P w K (.Tuple es k tp) (AB K a) [e,it] e (fun i h=>∃old,IsEnum h e it ((i:Nat):Int) old/\h.IsListIter it a i) where
 mem:=List.mem_cons_self
 obj:=fun i h q b hb=>by
  obtain⟨old,q1,o,q2,c2,d2⟩:=q;rcases mj hb with rfl|rfl
  ·exact⟨_,q1,fun v z=>by cases (show Data.fields _=Data.cell v from z)⟩
  ·exact⟨o,q2,fun v z=>by rw[d2] at z;cases z⟩
 keep:=fun i h h' q kk=>by
  obtain⟨old,q1,q2⟩:=q;exact⟨old,kk e List.mem_cons_self _ q1,q2.at fun o z=>kk it (List.mem_cons_of_mem _ (List.mem_singleton.mpr rfl)) o z⟩
 item:=by
  intro X e1 e2 e3 hc i pins s σ H E I hf q hg;subst e1 e2 e3;obtain⟨old,q1,q2⟩:=q;obtain⟨xs,x,hq,hx⟩:=hg;obtain⟨aK,rv,pl,hz⟩:=I.list hq;obtain⟨u,hu,ru⟩:=rv.get hx;obtain⟨f0,f1,f2,f3,f4,f5⟩:=hf e List.mem_cons_self;obtain⟨g0,g1,g2,g3,g4,g5⟩:=hf it (List.mem_cons_of_mem _ (List.mem_singleton.mpr rfl));refine wpAny_pyNext_enum_item q1 q2 pl.isList (x:=u) (by simpa using hu) dA fun h1 eo Ul tu hsz hk=>?_;refine⟨_,rfl,wpAny_letOwnedTupleGo_enum eo fun h2 Um sb=>?_⟩;have OF:Heap.SameBut e h1 h2:=sb;have sv:H s.heap.objs.size=none:=I.fresh;have hp:e≠s.heap.objs.size:=Nat.ne_of_lt (Heap.lt_size q1);have kp:∀b o,b≠e->b≠it->s.heap.get? b=some o->h2.get? b=some o:=fun b o h3 h4 z=>OF.extBut b o h3 (hk b o h3 h4 z);have M6:∀b o,H b=some o->b≠e/\b≠it:=fun b o z=>⟨aH z f0,aH z g0⟩;have OG:IsTup h2 s.heap.objs.size [Value.int (i:Int) s.toks,u].toArray:=⟨_,(OF.2 _ (Ne.symm hp)).trans tu,rfl,_,rfl⟩;have rt:Vals [V.int (i:Int),x] [Value.int (i:Int) s.toks,u]:=.cons ⟨_,rfl⟩ (.cons ru .nil);have bO:jc X.prog X.w (upd H s.heap.objs.size (.tup [.int (i:Int),x])) h2:=fun b o z=>by
   by_cases hb:b=s.heap.objs.size
   ·subst hb;rw[ai] at z;cases z;exact⟨by show 2<=sizeLine;decide,_,rt,OG⟩
   ·rw[aq hb] at z;refine(I.bO b o z).oy (fun c v Gy r=>?_) (fun c r=>by rw[aq (aH r sv)];exact r) fun c ys r=>by rw[aq (aH r sv)];exact r
    rcases Gy with rfl|Gy
    ·exact kp _ _ (M6 _ _ z).1 (M6 _ _ z).2 r
    ·exact kp _ _ (M6 _ _ Gy).1 (M6 _ _ Gy).2 r
  have Jq:∀{b:Addr},b∉[e,it]->b≠e/\b≠it:=fun h3=>⟨fun z=>h3 (by rw[z];exact List.mem_cons_self),fun z=>h3 (by rw[z];exact List.mem_cons_of_mem _ (List.mem_singleton.mpr rfl))⟩;have un:Un (rH X.stack) [e,it] H (upd H s.heap.objs.size (.tup [.int (i:Int),x])) s.heap h2:=
   ⟨fun b o z _ _ h4=>kp b o (Jq h4).1 (Jq h4).2 z,fun b o z _ _ h4=>⟨o.slots,kp b o (Jq h4).1 (Jq h4).2 z⟩,
    fun b o z n _=>by rw[aq (Nat.ne_of_lt (Heap.lt_size z))];exact n,fun b o z h4=>⟨o,kp b o (Jq h4).1 (Jq h4).2 z⟩,
    fun b ys z=>by rw[aq (aH z sv)];exact z,fun b o u z=>by rw[aq (aH z sv)];exact z,fun b ps z=>⟨#[],by rw[aq (aH z sv),z];simp⟩⟩
  have I2:Inv X pins σ (upd H s.heap.objs.size (.tup [.int (i:Int),x])) {s with heap:=h2,toks:=s.toks+1}:=
   I.call (g':=s.gens) (d':=s.drawn) (t':=s.toks+1) (ch:=[e,it]) un bO I.bare fun b hb=>by
    rcases mj hb with rfl|rfl
    ·exact⟨f3,f1,f4,f5⟩
    ·exact⟨g3,g1,g4,g5⟩
  have i2:h2.IsListIter it a (i+1):=Ul.at fun o z=>OF.extBut it o (Ne.symm dA) z;refine⟨.ref s.heap.objs.size,_,I2,rfl,⟨_,x,sv,rfl,rfl,fun ys hy=>by rw[I.iA hy hq];exact hx⟩,⟨u,Um,i2⟩,fun b hb=>?_⟩;rcases mj hb with rfl|rfl
  ·rw[aq hp];exact f0
  ·obtain⟨o,z,_⟩:=q2;rw[aq (Nat.ne_of_lt (Heap.lt_size z))];exact g0
 done:=by
  intro X e1 e2 e3 hc i pins s σ H E I hf q hg;subst e1 e2 e3;obtain⟨old,q1,q2⟩:=q;obtain⟨xs,hq,hx⟩:=hg;obtain⟨aK,rv,pl,hz⟩:=I.list hq;have hl:=rv.length;obtain⟨g0,g1,g2,g3,g4,g5⟩:=hf it (List.mem_cons_of_mem _ (List.mem_singleton.mpr rfl));exact wpAny_pyNext_enum_end (I.ok.hd hc) q1 q2 pl.isList (by simp;lia) fun h' eb=>⟨rfl,I.turned (t':=s.toks) (fun b o hb z=>eb b o hb z) g0 g1 g3 g4 g5⟩
 self:=fun _ _ _ _ _ q h=>let⟨_,q1,_⟩:=q;wpAny_pyIter_enum q1 h
noncomputable def Ff(K:PySem.W.Frag)(ta:TA):TI:=fun σ H R=>ta σ H fun vs H1=>∃a,vs=[.ref a]/\(∃xs,aM K H1 a xs)/\R (AB K a) H1
theorem qo{X:Cx}{es:List Expr}{k:Nat}{tp:Pos}{a:Expr}{ta:TA}{p pos:Pos}(hg:Gl X "enumerate")(hm:X.mg "enumerate"=none)(ha:PA X [a] ta)(hs:starEach [a] X.env=[(false,eval a X.env)]:=by rfl):
 PI X (.Tuple es k tp) (.Call (.Name "enumerate" p) [a] [] pos) (Ff X.K ta):=by
 intro pins s σ H R I h;refine Call_ (gH I hg hm boot_enumerate (PyProof.Rows.callWith_type1 (c_ (ha pos pins s σ H _ I h) fun us s1 q1=>?_) hs rfl));obtain⟨vs,H1,I1,r1,l,rfl,⟨xs,hq⟩,q⟩:=q1;obtain⟨u,rfl,rx⟩:=vals1 r1;cases rx;obtain⟨aK,rv,pl,hz⟩:=I1.list hq;refine call_enumerate_list pl.isList fun h' he hit hsz hk=>?_;have I2:Inv X pins σ H1 {s1 with heap:=h'}:=I1.kept (t':=s1.toks) hk;refine wpAny_pyIter_enum he ?_;have old:∀b,s1.heap.objs.size<=b->kD X pins H1 b:=fun b hb=>I1.rW hb (I1.bO.fresh hb);refine⟨_,[_,_],_,_,H1,rfl,I2,yM l _ _ (Nat.succ_ne_self _),⟨_,he,hit⟩,fun b hb=>?_,q⟩;rcases mj hb with rfl|rfl
 ·exact old _ (Nat.le_succ _)
 ·exact old _ (Nat.le_refl _)
theorem AD{P:Program}{w:World}{K:PySem.W.Frag}{tg:Expr}(a it:Addr)(n:Nat):Turn P w K tg (Jp K a n) [it] it (fun i h=>i<=n/\h.IsRevIter it a ((n:Int)-1-(i:Nat))) where
 mem:=List.mem_singleton.mpr rfl
 obj:=fun i h q b hb=>by
  obtain rfl:=List.mem_singleton.mp hb;obtain⟨_,o,e,c,d⟩:=q;exact⟨o,e,fun v z=>by rw[d] at z;cases z⟩
 keep:=fun i h h' q kk=>⟨q.1,q.2.at fun o z=>kk it (List.mem_singleton.mpr rfl) o z⟩
 item:=by
  intro X e1 e2 e3 hc i pins s σ H E I hf q hg;subst e1 e2 e3;obtain⟨M7,q⟩:=q;obtain⟨hi,xs,x,hq,hx⟩:=hg;obtain⟨aK,rv,pl,hz⟩:=I.list hq;obtain⟨u,hu,ru⟩:=rv.get hx;obtain⟨f0,f1,f2,f3,f4,f5⟩:=hf it (List.mem_singleton.mpr rfl);have ei:(n:Int)-1-(i:Nat)=((n-1-i:Nat):Int):=by lia
  rw[ei] at q;refine wpAny_pyNext_rev_item q pl.isList (x:=u) (by simpa using hu) fun h' q' sb=>?_;have I1:Inv X pins σ H {s with heap:=h'}:=I.turned (t':=s.toks) (fun b o hb z=>sb.extBut b o hb z) f0 f1 f3 f4 f5;obtain⟨o,eo,co,Uo⟩:=id q';refine⟨u,rfl,rX (s:={s with heap:=h'}) eo co Uo (by decide) ⟨x,H,I1,ru,⟨rfl,fun ys hy=>by rw[I.iA hy hq];exact hx⟩,⟨by lia,?_⟩,fun b hb=>(hf b hb).1⟩⟩;have e2:(n:Int)-1-((i+1:Nat):Int)=((n-1-i:Nat):Int)-1:=by lia
  show h'.IsRevIter it a ((n:Int)-1-((i+1:Nat):Int));rw[e2];exact q'
 done:=by
  intro X e1 e2 e3 hc i pins s σ H E I hf q hg;subst e1 e2 e3;obtain⟨M7,q⟩:=q;have Dw:i=n:=hg;subst Dw;obtain⟨f0,f1,f2,f3,f4,f5⟩:=hf it (List.mem_singleton.mpr rfl);have ei:(i:Int)-1-(i:Nat)=-1:=by lia
  rw[ei] at q;exact wpAny_pyNext_rev_end (I.ok.hd hc) q fun h' eb=>⟨rfl,I.turned (t':=s.toks) (fun b o hb z=>eb b o hb z) f0 f1 f3 f4 f5⟩
 self:=fun _ _ _ _ _ q h=>wpAny_pyIter_revIter q.2 h
noncomputable def KW(K:PySem.W.Frag)(ta:TA):TI:=fun σ H R=>ta σ H fun vs H1=>∃a xs,vs=[.ref a]/\aM K H1 a xs/\R (Jp K a xs.length) H1
theorem vf{X:Cx}{tg a:Expr}{ta:TA}{p pos:Pos}(hg:Gl X "reversed")(hm:X.mg "reversed"=none)(ha:PA X [a] ta)(hs:starEach [a] X.env=[(false,eval a X.env)]:=by rfl):
 PI X tg (.Call (.Name "reversed" p) [a] [] pos) (KW X.K ta):=by
 intro pins s σ H R I h;refine Call_ (gH I hg hm boot_reversed (PyProof.Rows.callWith_type1 (c_ (ha pos pins s σ H _ I h) fun us s1 q1=>?_) hs rfl));obtain⟨vs,H1,I1,r1,l,xs,rfl,hq,q⟩:=q1;obtain⟨u,rfl,rx⟩:=vals1 r1;cases rx;obtain⟨aK,rv,pl,hz⟩:=I1.list hq;refine call_reversed_list pl.isList ?_;have e0:(aK.toArray.size:Int)-1=(xs.length:Int)-1-((0:Nat):Int):=by rw[List.size_toArray,<-rv.length];simp
 rw[e0];have I2:Inv X pins σ H1 {s1 with heap:=s1.heap.push (revObj l ((xs.length:Int)-1-((0:Nat):Int)))}:=I1.kept (t':=s1.toks) fun b o e=>Heap.get?_push_of_some _ e;have q0:(s1.heap.push (revObj l ((xs.length:Int)-1-((0:Nat):Int)))).IsRevIter s1.heap.objs.size l ((xs.length:Int)-1-((0:Nat):Int)):=⟨_,Heap.get?_push_size _ rfl,rfl,rfl⟩;refine wpAny_pyIter_revIter q0 ?_;refine⟨_,[_],_,_,H1,rfl,I2,AD l _ xs.length,⟨Nat.zero_le _,q0⟩,fun b hb=>?_,q⟩;obtain rfl:=List.mem_singleton.mp hb;exact I1.rW (Nat.le_refl _) (I1.bO.fresh (Nat.le_refl _))
end L2
namespace L2
open PySem PySem.Spec PyProof.Rows
section
variable {prog:Program} {w:World} {A:Around} {R:Result->Shared->Prop} {s:Shared}
theorem yN{elt tg RB:Expr}{sc:Scope}{ps:Pos}{it acc:Value}{en:Env}(J:Nat->Shared->Prop)(turn:∀n s,J n s->wpAny (model prog w) A (pyNext it) (fun r s1=>match r with
 |none=>R (.ok .next) s1
 |some v=>wpAny (model prog w) A (letOwnedTupleGo tg it v) (fun _ s2=>wpAny (model prog w) A (assign tg en v) (fun _ s3=>wpAny (model prog w) A (eval elt en) (fun x s4=>
  wpAny (model prog w) A (call (.builtin "list.append") [acc,x]) (fun _ s5=>∃m,m<n/\J m s5) (fun _ _=>False) s4) (fun _ _=>False) s3) (fun _ _=>False) s2) (fun _ _=>False) s1) (fun _ _=>False) s)(n:Nat)(h:J n s):codeAny (model prog w) A (.compLoop (.ListComp elt [⟨tg,RB,[],0⟩] sc ps) 0 it acc en) R s:=by
 refine codeAny_loop rfl J (fun n s hJ=>?_) n h;show wpAny (model prog w) A ((compTurn (.ListComp elt [⟨tg,RB,[],0⟩] sc ps) 0 it acc en).onRaise (fun x=>do noteFrame x en;theTreesLotGoes x)) _ _ s;refine wpAny_noted ?_;rw[compTurn_list1];have no:∀{α:Type}{t:Sem α}{Q:α->Shared->Prop}{E:Value->Shared->Prop}{s:Shared},wpAny (model prog w) A t Q (fun _ _=>False) s->wpAny (model prog w) A t Q E s:=
  fun h=>wpAny_mono h (fun _ _ q=>q) fun _ _ z=>z.elim
 refine wpAny_bind (wpAny_standAt (wpAny_bind (c_ (no (turn n s hJ)) fun r s1 h1=>?_)));cases r with
 |none=>exact wpAny_pure h1
 |some v=>
  refine wpAny_bind (c_ (no h1) fun _ s2 h2=>?_);refine wpAny_bind (c_ (no h2) fun _ s3 h3=>?_);refine wpAny_bind (wpAny_bind (c_ (no h3) fun x s4 h4=>?_));refine wpAny_bind (c_ (no h4) fun _ s5 h5=>?_);exact wpAny_pure (wpAny_pure ⟨rfl,h5⟩)
end
noncomputable def eN(X:Cx)(scope:Scope)(cl:List (Str×Addr))(C:Addr)(s:Shared)(H:Hp)(M:List Str)(ex:List Addr)(pins:List (Addr×Obj)):Cx:=
 {X with N:=M,fh:=s,yw:=H,env:=compEnvC scope cl C X.env,outer:=X.stack,ex:=ex,fn:=fun _=>false,pn:=X.pn++pins,xe:=fun _ _=>False}
structure mU(X:Cx)(scope:Scope)(cl:List (Str×Addr))(own:List Str)(fr:List Nat)(M:List Str):Prop where
 AE:closureFor scope X.env=pure cl
 kind:scope.kind=.function
 names:∀x∈scope.names,x.2=.local->scope.names.lookup x.1=some .local
 iF:∀x∈scope.names,x.2≠.cell
 cls:∀x c,cl.lookup x=some c->X.env.cells.lookup x=some c
 has:∀x,((relabel scope X.env).names.lookup x=some .cell\/(relabel scope X.env).names.lookup x=some .free)->∃c,cl.lookup x=some c
 len:M.length=own.length+fr.length
 OH:∀(i:Nat) x,own[i]?=some x->M[i]?=some x
 Fg:∀(j i:Nat) x,fr[j]?=some i->M[own.length+j]?=some x->X.N[i]?=some x/\X.env.scope.names.lookup x=some .cell/\(∃c,cl.lookup x=some c)/\((relabel scope X.env).names.lookup x=some .cell\/(relabel scope X.env).names.lookup x=some .free)
noncomputable def fZ(own:List Str)(fr:List Nat)(σ:St):St:=List.replicate own.length none++fr.map fun i=>(σ[i]?).join
section
variable {X:Cx} {pins:List (Addr×Obj)} {σ:St} {H:Hp} {s:Shared} {scope:Scope} {cl:List (Str×Addr)} {own:List Str} {fr:List Nat} {M:List Str}
theorem Inv.comp(I:Inv X pins σ H s)(K:mU X scope cl own fr M){fp:List Addr}(hf:∀b∈fp,kD X pins H b)(ho:∀b∈fp,∃o,s.heap.get? b=some o/\∀v,o.data≠.cell v){h':Heap}{m:Str->Option Value}{tk:Nat}(hn:h'.Ns s.heap.objs.size m)(hk:∀b u,s.heap.get? b=some u->h'.get? b=some u):
 Inv (eN X scope cl s.heap.objs.size s H M fp pins) [] (fZ own fr σ) H {s with heap:=h',toks:=tk}:=by
 have hC:H s.heap.objs.size=none:=I.bO.fresh (Nat.le_refl _);have OI:∀{b o},s.heap.get? b=some o->b≠s.heap.objs.size:=fun e=>Nat.ne_of_lt (Heap.lt_size e);have J0:∀x c,X.env.cells.lookup x=some c->c≠s.heap.objs.size:=fun x c e=>by
  obtain⟨v,o,q,_⟩:=I.cell x c e;exact OI q
 have RC:∀b,b≠X.env.locals->b∉X.fs->b∉rH X.stack:=fun b h1 h2 z=>(List.mem_cons.mp (I.qc b z)).elim h1 h2;refine⟨⟨I.ok.mod,K.kind,I.ok.glob,I.ok.blt,Nat.le_refl _,fun x y c h1 h2=>I.ok.inj x y c (K.cls x c h1) (K.cls y c h2),fun x hx=>K.has x hx,(fun x c h _=>Bool.noConfusion h),I.ok.hd,I.ok.frames,.inl rfl,fun b hb=>?_,I.bs,Nat.le_trans I.ok.yx I.sz,fun b o e hb=>?_,fun b hb=>?_,I.stack,I.qd⟩,
  rfl,I.bare,Un.kept hk,⟨m,hn,fun i x v h1 h2 h3=>?_⟩,fun x c h=>?_,hC,fun x c h=>I.fj x c (K.cls x c h),fun p hp=>?_,I.bO.kept hk,?_⟩
 ·obtain⟨o,e,_⟩:=ho b hb;exact⟨OI e,fun x c h z=>(hf b hb).2.2.2.2.1 x c (K.cls x c h) z⟩
 ·have:=(hf b hb);rcases this.2.2.2.1 with z|z
  ·exact I.ok.rQ b o e z
  ·exact absurd (Nat.lt_of_lt_of_le (Heap.lt_size e) (Nat.le_trans I.ok.yx z)) (Nat.lt_irrefl _)
 ·exact RC b (hf b hb).2.1 (hf b hb).2.2.1
 ·unfold fZ at h2;by_cases hi:i<own.length
  ·rw[List.getElem?_append_left (by simpa using hi),List.getElem?_replicate,if_pos hi] at h2;cases h2
  ·obtain⟨j,rfl⟩:∃j,i=own.length+j:=⟨i-own.length,by lia⟩;rw[List.getElem?_append_right (by simp),List.length_replicate,Nat.add_sub_cancel_left,List.getElem?_map] at h2;cases e:fr[j]? with
   |none=>rw[e] at h2;cases h2
   |some k=>
    rw[e] at h2;have KY:(σ[k]?).join=some v:=Option.some.inj h2;obtain⟨q1,q2,⟨c,q3⟩,q4⟩:=K.Fg j k x e h1;have h5:σ[k]?=some (some v):=by
     cases z:σ[k]? with
     |none=>rw[z] at KY;cases KY
     |some y=>
      rw[z] at KY;exact congrArg some KY
    obtain⟨m0,_,hl⟩:=I.loc;obtain⟨u,r,l⟩:=hl k x v q1 h5 (.inr (.inl q2));refine⟨u,r,.inr ⟨q4,c,q3,?_⟩⟩;rcases l with⟨k1,_⟩|⟨_,c',e1,z⟩
    ·have RD:X.env.scope.names.lookup x=some .local:=k1;rw[q2] at RD;cases RD
    ·have e2:=K.cls x c q3;rw[e1] at e2;cases e2;obtain⟨o,eo,ed⟩:=z;exact⟨o,hk _ _ eo,ed⟩
 ·obtain⟨v,o,eo,ed⟩:=I.cell x c (K.cls x c h);exact⟨v,o,hk _ _ eo,ed⟩
 ·have Up:p∈X.pn++pins:=by
   rcases List.mem_append.mp hp with z|z
   ·exact z
   ·cases z
  obtain⟨e,n,ne,nf,d⟩:=I.pin p Up;exact⟨hk _ _ e,n,OI e,RC _ ne nf,d⟩
 ·unfold fZ;rw[List.length_append,List.length_replicate,List.length_map];exact K.len.symm
theorem Inv.G4{h:Heap}{s':Shared}{H':Hp}{bE:St}{C:Addr}{fp:List Addr}(I:Inv X pins σ H s)(hf:∀b∈fp,kD X pins H b)(I':Inv (eN X scope cl C s H M fp pins) [] bE H' s'):Inv X pins σ H' s':=
 I.E3 I'.os I'.base I'.bO I'.bare fun b hb=>⟨(hf b hb).2.2.2.1,(hf b hb).2.1,(hf b hb).2.2.2.2.1,(hf b hb).2.2.2.2.2⟩
noncomputable def w8(own:List Str)(fr:List Nat)(wi:TI)(g:TG)(te:TE):TE:=fun σ H Q=>wi σ H fun J H1=>∀D,H1 D=none->∃W:Nat->Nat->St->Hp->Prop,(∃m,W 0 m (fZ own fr σ) (upd H1 D (.lst [])))/\∀i m eI H2,W i m eI H2->
 (J.stop i H2/\Q (.ref D) H2)\/(J.go i H2/\∀x H3,J.rV i H2 x H3->g x eI H3 fun da H4=>te da H4 fun y H5=>∃ys,H5 D=some (.lst ys)/\ys.length<sizeLine/\∃m',m'<m/\W (i+1) m' da (upd H5 D (.lst (ys++[y]))))
theorem mV{elt tg iter:Expr}{ps:Pos}{g:TG}{te:TE}{it D:Addr}{fp:List Addr}{tn:Nat->Heap->Prop}{J:It}{H1:Hp}{s3:Shared}{W:Nat->Nat->St->Hp->Prop}{Qz:Hp->Prop}{Rz:Result->Shared->Prop}{C:Addr}(hc:X.calm=true)(K:mU X scope cl own fr M)(I3:Inv X pins σ H1 s3)(T:Turn X.prog X.w X.K tg J fp it tn)(st:tn 0 s3.heap)(hf:∀b∈fp,kD X pins H1 b)(hg:PG (eN X scope cl C s3 H1 M fp pins) tg g)(he:PE (eN X scope cl C s3 H1 M fp pins) elt te)(w0:∃m,W 0 m (fZ own fr σ) H1)(turn:∀i m eI H2,W i m eI H2->(J.stop i H2/\Qz H2)\/(J.go i H2/\∀x H3,J.rV i H2 x H3->g x eI H3 fun da H4=>te da H4 fun y H5=>∃ys,H5 D=some (.lst ys)/\ys.length<sizeLine/\∃m',m'<m/\W (i+1) m' da (upd H5 D (.lst (ys++[y]))))){h':Heap}{m0:Str->Option Value}{tk:Nat}(hC:C=s3.heap.objs.size)(hn:h'.Ns C m0)(hk:∀b u,s3.heap.get? b=some u->h'.get? b=some u)(fin:∀s' H' m',Inv X pins σ H' s'->H' C=none->s'.heap.Ns C m'->Qz H'->Rz (.ok .next) s'):
 codeAny (model X.prog X.w) X.A (.compStart (.ListComp elt [⟨tg,iter,[],0⟩] scope ps) 0 (.ref it) (.ref D) (compEnvC scope cl C X.env)) Rz {s3 with heap:=h',toks:=tk}:=by
 subst hC;have I4:=I3.comp K hf (T.obj _ _ st) (tk:=tk) hn hk;have RE:tn 0 h':=T.keep _ _ _ st fun b _ o e=>hk b o e;have uX:∀{H':Hp},(∀b∈fp,H' b=none)->∀b∈fp,kD (eN X scope cl s3.heap.objs.size s3 H1 M fp pins) [] H' b:=fun{H'} hz b hb=>by
  obtain⟨o,e,_⟩:=T.obj _ _ st b hb;obtain⟨_,f1,f2,f3,f4,f5⟩:=hf b hb;refine⟨hz b hb,Nat.ne_of_lt (Heap.lt_size e),fun z=>(List.mem_cons.mp (I3.qc b z)).elim f1 f2,.inl hb,fun x c h=>f4 x c (K.cls x c h),fun p hp=>f5 p ?_⟩;rcases List.mem_append.mp hp with z|z
  ·exact z
  ·cases z
 have loop:codeAny (model X.prog X.w) X.A (.compLoop (.ListComp elt [⟨tg,iter,[],0⟩] scope ps) 0 (.ref it) (.ref D) (compEnvC scope cl s3.heap.objs.size X.env)) Rz {s3 with heap:=h',toks:=tk}:=by
  obtain⟨m,w0⟩:=w0;refine yN (fun n s'=>∃i bE H',Inv (eN X scope cl s3.heap.objs.size s3 H1 M fp pins) [] bE H' s'/\tn i s'.heap/\(∀b∈fp,H' b=none)/\W i n bE H') (fun n s5 hJ=>?_) m ⟨0,_,H1,I4,RE,fun b hb=>(hf b hb).1,w0⟩;obtain⟨i,M8,H5,I5,Jn,M1,w5⟩:=hJ;rcases turn i n M8 H5 w5 with⟨stop,qz⟩|⟨go,step⟩
  ·refine c_ (T.done (eN X scope cl s3.heap.objs.size s3 H1 M fp pins) rfl rfl rfl hc i [] s5 M8 H5 _ I5 (uX M1) Jn stop) fun r s6 q6=>?_;obtain⟨hr,I6⟩:=q6;subst hr;obtain⟨m6,n6,_⟩:=I6.loc;exact fin s6 H5 m6 (I3.G4 (h:=h') hf I6) I6.free n6 qz
  ·refine c_ (T.item (eN X scope cl s3.heap.objs.size s3 H1 M fp pins) rfl rfl rfl hc i [] s5 M8 H5 _ I5 (uX M1) Jn go) fun r s6 q6=>?_;obtain⟨u,hr,h6⟩:=q6;subst hr;refine c_ h6 fun _ s7 q7=>?_;obtain⟨x,H7,I7,r7,y7,OJ,Uq⟩:=q7;have Ur:=I7.pinned (uX Uq) (T.obj _ _ OJ);refine c_ (hg _ s7 M8 H7 x u _ Ur r7 (step x H7 y7)) fun _ s8 q8=>?_;obtain⟨OK,H8,I8,q8⟩:=q8;refine c_ (he _ s8 OK H8 _ I8 q8) fun v s9 q9=>?_;obtain⟨y,H9,I9,r9,ys,hD,hz,m',hm,w9⟩:=q9;refine c_ (dD (X:=eN X scope cl s3.heap.objs.size s3 H1 M fp pins) _ s9 OK H9 (.ref D) [y] (.ref D) [v] (fun v' H'=>v'=.gf/\H'=upd H9 D (.lst (ys++[y]))) I9 rfl (.cons r9 .nil) ⟨D,ys,y,rfl,rfl,hD,hz,rfl,rfl⟩) fun v' G5 Us=>?_;obtain⟨v10,vg,OL,_,rfl,rfl⟩:=Us;refine⟨m',hm,i+1,OK,_,OL.jQ,T.keep _ _ _ OJ fun b hb o e=>(OL.pin (b,o) (List.mem_append_right _ (List.mem_append_right _ (gI hb e)))).1,fun b hb=>?_,w9⟩;obtain⟨o,e,_⟩:=T.obj _ _ OJ b hb;exact(OL.pin (b,o) (List.mem_append_right _ (List.mem_append_right _ (gI hb e)))).2.1
 exact codeAny_compStart_list loop (T.self X.A 0 _ _ _ RE loop)
theorem je{elt tg iter:Expr}{ps:Pos}{wi:TI}{g:TG}{te:TE}(hc:X.calm=true)(hx:X.xe=fun _ _=>False)(K:mU X scope cl own fr M)(hi:PI X tg iter wi)(hg:∀C s3 H1 fp pins,PG (eN X scope cl C s3 H1 M fp pins) tg g)(he:∀C s3 H1 fp pins,PE (eN X scope cl C s3 H1 M fp pins) elt te)(hs:∀x,foldedSetIterable iter X.env x=pure x:=by intro _;rfl):PE X (.ListComp elt [⟨tg,iter,[],0⟩] scope ps) (w8 own fr wi g te):=by
 intro pins s σ H Q I h;rw[eval_ListComp];refine wpAny_comprehension_free (use:=none) rfl hs K.AE K.kind K.names ?_;show wpAny _ _ (eval iter X.env) _ _ _;refine c_ (hi pins s σ H _ I h) fun v s1 h1=>c_ h1 fun M0 s2 h2=>?_;obtain⟨it,fp,tn,J,H2,e,I2,T,GD,f2,hW⟩:=h2;subst e;refine wpAny_newObj_type (hd:=by size_fits) ?_;have I3:Inv X pins σ (upd H2 s2.heap.objs.size (.lst [])) {s2 with heap:=s2.heap.push {cls:=.type "list",dict:=none,data:=.seq ([]:List Value).toArray}}:=I2.Dr (t':=s2.toks) .nil (Nat.zero_le _);obtain⟨W,w0,turn⟩:=hW s2.heap.objs.size I2.fresh;have Jm:tn 0 (s2.heap.push {cls:=.type "list",dict:=none,data:=.seq ([]:List Value).toArray}):=T.keep _ _ _ GD fun b _ o e=>Heap.get?_push_of_some _ e;have f3:∀b∈fp,kD X pins (upd H2 s2.heap.objs.size (.lst [])) b:=fun b hb=>by
  obtain⟨o,e,_⟩:=T.obj _ _ GD b hb;obtain⟨f0,f'⟩:=f2 b hb;exact⟨by rw[aq (Nat.ne_of_lt (Heap.lt_size e))];exact f0,f'⟩
 refine wpAny_newFunctionEnv K.iF (fun y hy=>nomatch hy) (fun h' zV Fh=>?_) K.kind;have hk:∀b u,(s2.heap.push {cls:=.type "list",dict:=none,data:=.seq ([]:List Value).toArray}).get? b=some u->h'.get? b=some u:=fun b u e=>
  Fh.extBut b u (Nat.ne_of_lt (Heap.lt_size e)) (Heap.get?_push_of_some _ e)
 refine mV (g:=g) (te:=te) (W:=W) (Qz:=fun H'=>Q (.ref s2.heap.objs.size) H') hc K I3 T Jm f3 (hg _ _ _ _ _) (he _ _ _ _ _) w0 turn rfl zV hk fun s' H' m' J1 KZ OM qz=>?_;refine⟨m',OM,fun h2 sb=>⟨.ref s2.heap.objs.size,H',?_,rfl,qz⟩⟩;obtain⟨_,f1,_,ON,f4,f5⟩:=I3.rW (H':=H') (Nat.le_refl _) KZ;exact J1.turned (t':=s'.toks) (fun b o hb e=>sb.extBut b o hb e) KZ f1 ON f4 f5
theorem qp{i:Nat}{y:Str}{py:Pos}{elt tg iter:Expr}{ps K0:Pos}{wi:TI}{g:TG}{te:TE}(hN:X.N.Nodup)(OO:X.N[i]?=some y)(hc:X.calm=true)(hx:X.xe=fun _ _=>False)(K:mU X scope cl own fr M)(hi:PI X tg iter wi)(hg:∀C s3 H1 fp pins,PG (eN X scope cl C s3 H1 M fp pins) tg g)(he:∀C s3 H1 fp pins,PE (eN X scope cl C s3 H1 M fp pins) elt te)(hy:X.env.scope.names.lookup y=some .local)(Ut:swapsWith (.ListComp elt [⟨tg,iter,[],0⟩] scope ps) (some (.Name y py)) K0.line X.env=pure true:=by rfl)(hs:∀x,foldedSetIterable iter X.env x=pure x:=by intro _;rfl):PS X (.Assign [.Name y py] (.ListComp elt [⟨tg,iter,[],0⟩] scope ps) K0) (yA (w8 own fr wi g te) (mQ i)):=by
 intro pins s σ H D I h;rw[exec_Assign_Name_used _ _ _ _ Ut];refine wpAny_bind (wpAny_standAt (wpAny_bind ?_));show wpAny _ _ (do let _<-comprehension (.ListComp elt [⟨tg,iter,[],0⟩] scope ps) scope X.env _ (newList []) false (eval iter X.env) (some (assign (.Name y py) X.env))) _ _ s;refine wpAny_bind (c_ (Q:=fun _ s'=>SP X pins D .next s') (wpAny_comprehension_free (use:=some (assign (.Name y py) X.env)) rfl hs K.AE K.kind K.names ?_) fun _ s' q=>wpAny_pure (wpAny_pure q));refine c_ (hi pins s σ H _ I h) fun v s1 h1=>c_ h1 fun M0 s2 h2=>?_;obtain⟨it,fp,tn,J,H2,e,I2,T,GD,f2,hW⟩:=h2;subst e;refine wpAny_newObj_type (hd:=by size_fits) ?_;have I3:Inv X pins σ (upd H2 s2.heap.objs.size (.lst [])) {s2 with heap:=s2.heap.push {cls:=.type "list",dict:=none,data:=.seq ([]:List Value).toArray}}:=I2.Dr (t':=s2.toks) .nil (Nat.zero_le _);obtain⟨W,w0,turn⟩:=hW s2.heap.objs.size I2.fresh;have Jm:tn 0 (s2.heap.push {cls:=.type "list",dict:=none,data:=.seq ([]:List Value).toArray}):=T.keep _ _ _ GD fun b _ o e=>Heap.get?_push_of_some _ e;have f3:∀b∈fp,kD X pins (upd H2 s2.heap.objs.size (.lst [])) b:=fun b hb=>by
  obtain⟨o,e,_⟩:=T.obj _ _ GD b hb;obtain⟨f0,f'⟩:=f2 b hb;exact⟨by rw[aq (Nat.ne_of_lt (Heap.lt_size e))];exact f0,f'⟩
 refine wpAny_newFunctionEnv K.iF (fun y hy=>nomatch hy) (fun h' zV Fh=>?_) K.kind;have hk:∀b u,(s2.heap.push {cls:=.type "list",dict:=none,data:=.seq ([]:List Value).toArray}).get? b=some u->h'.get? b=some u:=fun b u e=>
  Fh.extBut b u (Nat.ne_of_lt (Heap.lt_size e)) (Heap.get?_push_of_some _ e)
 refine mV (g:=g) (te:=te) (W:=W) (Qz:=fun H'=>mQ i (.ref s2.heap.objs.size) σ H' D.nx) hc K I3 T Jm f3 (hg _ _ _ _ _) (he _ _ _ _ _) w0 turn rfl zV hk fun s' H' m' J1 KZ OM qz=>?_;show wpAny _ _ (assign (.Name y py) X.env (.ref s2.heap.objs.size)) _ _ s';obtain⟨_,f1,_,ON,f4,f5⟩:=I3.rW (H':=H') (Nat.le_refl _) KZ;refine wpAny_assign_Name (oY J1 hN OO (.inl hy) (v:=.ref s2.heap.objs.size) rfl (fun s4 J2 sb=>?_) (.inr hy));obtain⟨a,sa,Uu⟩:=sb;have dA:(s2.heap.push {cls:=.type "list",dict:=none,data:=.seq ([]:List Value).toArray}).objs.size≠a:=by
  rcases Uu with z|z
  ·rw[z];exact f1
  ·exact fun e=>f4 y a z e.symm
 refine⟨m',OM.sameBut sa dA,fun h2 Uv=>⟨_,H',?_,qz⟩⟩;exact J2.turned (t':=s4.toks) (fun b o hb e=>Uv.extBut b o hb e) KZ f1 ON f4 f5
end
end L2
namespace L2
open PySem PySem.Spec PyProof.Rows
section
variable {X:Cx}
theorem yO(hc:X.calm=true):gn X (.builtin "sum") (fun xs H Q=>∃(p:Addr)(ns:List Int),xs=[.ref p]/\aM X.K H p (ns.map V.int)/\Q (.int ns.sum) H):=by
 intro pins s σ H xs us Q I r h;obtain⟨p,ns,rfl,hp,q⟩:=h;obtain⟨u,rfl,rx⟩:=vals1 r;cases rx;obtain⟨aK,rv,pl,hz⟩:=I.list hp;have hi:IntsAre aK ns:=intsAre_of rv;obtain⟨ys,hx⟩:=hi.allInts.items;have Jr:s.heap.IsList p (intItems ys):=hx▸pl.isList;refine sum_intListG (I.ok.hd hc) Jr fun h' tk t' hk=>?_;have e1:ns=ys.toList.map (·.1):=by
  rw[<-nums_intItems,<-hx];exact(show numsOf aK.toArray.toList=ns from hi.numsOf).symm
 have e2:preSum (numAt ys) ys.size=ns.sum:=by
  rw[preSum_eq,e1,List.take_of_length_le (by simp)]
 rw[e2];exact⟨.int ns.sum,H,I.kept hk,⟨t',rfl⟩,q⟩
noncomputable def OP(K:PySem.W.Frag):R2:=fun x y H Q=>∃(p q:Addr)(xs ys:List Int),x=.ref p/\y=.ref q/\aM K H p (xs.map V.int)/\aM K H q (ys.map V.int)/\Q (.bl (!decide (xs=ys))) H
theorem G6(hu:X.A.units+64<cLine):kC X (compareOp .NotEq) (OP X.K):=by
 intro pins s σ H x y v u Q I rx ry h;obtain⟨p,q,xs,ys,rfl,rfl,hp,hq,h⟩:=h;cases rx;cases ry;obtain⟨aK,r,pl,hz⟩:=I.list hp;obtain⟨jT,r2,oE,Az⟩:=I.list hq;exact PySem.W.ke_ne_ints pl.isList oE.isList (intsAre_of r) (intsAre_of r2) hu ⟨.bl _,H,I,rfl,h⟩
end
end L2
namespace L2
open PySem PySem.Spec PyProof.Rows
noncomputable def AF(env:Env):List (Str×Addr)->Prop
 |[]=>True
 |p::r=>env.cells.lookup p.1=some p.2/\AF env r
noncomputable def sx(X:Cx)(scope:Scope)(cl:List (Str×Addr)):List Nat->List Str->Prop
 |[],[]=>True
 |i::r,x::y=>(X.N[i]?=some x/\X.env.scope.names.lookup x=some .cell/\(cl.lookup x).isSome=true/\((relabel scope X.env).names.lookup x=some .cell\/(relabel scope X.env).names.lookup x=some .free))/\sx X scope cl r y
 |_,_=>False
theorem AF.get{env:Env}:∀{cl:List (Str×Addr)},AF env cl->∀x c,cl.lookup x=some c->env.cells.lookup x=some c
 |[],_,x,c,h=>by simp at h
 |(y,d)::r,k,x,c,h=>by
  rw[List.lookup_cons] at h;cases e:x==y with
  |true=>
   rw[e] at h;have e1:x=y:=eq_of_beq e;have e2:d=c:=Option.some.inj h;rw[e1,<-e2];exact k.1
  |false=>
   rw[e] at h;exact AF.get k.2 x c h
theorem sx.len{X:Cx}{scope:Scope}{cl:List (Str×Addr)}:∀{fr:List Nat}{fs:List Str},sx X scope cl fr fs->fr.length=fs.length
 |[],[],_=>rfl
 |_::r,_::y,h=>congrArg Nat.succ (sx.len (fr:=r) (fs:=y) h.2)
 |[],_::_,h=>h.elim
 |_::_,[],h=>h.elim
theorem sx.get{X:Cx}{scope:Scope}{cl:List (Str×Addr)}:∀{fr:List Nat}{fs:List Str},sx X scope cl fr fs->∀(j i:Nat) x,fr[j]?=some i->fs[j]?=some x->
 X.N[i]?=some x/\X.env.scope.names.lookup x=some .cell/\(∃c,cl.lookup x=some c)/\((relabel scope X.env).names.lookup x=some .cell\/(relabel scope X.env).names.lookup x=some .free)
 |[],[],_,j,i,x,h,_=>by simp at h
 |k::r,z::y,H,0,i,x,h1,h2=>by
  simp at h1 h2;subst h1 h2;exact⟨H.1.1,H.1.2.1,Option.isSome_iff_exists.mp H.1.2.2.1,H.1.2.2.2⟩
 |k::r,z::y,H,j+1,i,x,h1,h2=>sx.get (fr:=r) (fs:=y) H.2 j i x (by simpa using h1) (by simpa using h2)
 |[],_::_,h,_,_,_,_,_=>h.elim
 |_::_,[],h,_,_,_,_,_=>h.elim
theorem gL{X:Cx}{scope:Scope}{cl:List (Str×Addr)}{own fs:List Str}{fr:List Nat}(AE:closureFor scope X.env=pure cl)(kind:scope.kind=.function)(names:∀x∈scope.names,x.2=.local->scope.names.lookup x.1=some .local)(iF:∀x∈scope.names,x.2≠.cell)(c:AF X.env cl)(h:((relabel scope X.env).names.all fun p=>!(p.2==.cell||p.2==.free)||(cl.lookup p.1).isSome)=true)(f:sx X scope cl fr fs):mU X scope cl own fr (own++fs) where
 AE:=AE
 kind:=kind
 names:=names
 iF:=iF
 cls:=c.get
 has:=fun x hx=>by
  have hm:∃k,(x,k)∈(relabel scope X.env).names/\(k=.cell\/k=.free):=by
   rcases hx with z|z
   ·exact⟨_,PySem.mem_of_lookup z,.inl rfl⟩
   ·exact⟨_,PySem.mem_of_lookup z,.inr rfl⟩
  obtain⟨k,hk,OQ⟩:=hm;have:=List.all_eq_true.mp h (x,k) hk;rcases OQ with rfl|rfl
  ·exact Option.isSome_iff_exists.mp (by simpa using this)
  ·exact Option.isSome_iff_exists.mp (by simpa using this)
 len:=by rw[List.length_append,f.len]
 OH:=fun i x hi=>by
  rw[List.getElem?_append_left (List.getElem?_eq_some_iff.mp hi).1];exact hi
 Fg:=fun j i x h1 h2=>by
  rw[List.getElem?_append_right (Nat.le_add_right _ _),Nat.add_sub_cancel_left] at h2;exact f.get j i x h1 h2
noncomputable def rL(fr:List Nat)(σ:St):St:=fr.map fun i=>(σ[i]?).join
section
variable {own:List Str} {fr:List Nat} {g:TG} {te:TE} {σ:St} {H1:Hp} {Q:VK}
theorem qr{J:It}(n:Nat)(Pv:List V->Prop)(hz:n<=sizeLine)(p0:Pv [])(hs:∀(i:Nat)(r:St)(ys:List V)(H2:Hp),i<n->r.length=own.length->ys.length=i->Pv ys->av H1 H2->J.go i H2/\∀x H3,J.rV i H2 x H3->av H2 H3/\∀Z:V->St->Hp->Prop,(∀y da H5,av H3 H5->Pv (ys++[y])->(∃r',r'.length=own.length/\da=r'++rL fr σ)->Z y da H5)->g x (r++rL fr σ) H3 fun da H4=>te da H4 fun y H5=>Z y da H5)(he:∀H2,av H1 H2->J.stop n H2)(hq:∀D H2 ys,H1 D=none->av H1 H2->H2 D=some (.lst ys)->ys.length=n->Pv ys->Q (.ref D) H2):
 ∀D,H1 D=none->∃W:Nat->Nat->St->Hp->Prop,(∃m,W 0 m (fZ own fr σ) (upd H1 D (.lst [])))/\∀i m eI H2,W i m eI H2->
  (J.stop i H2/\Q (.ref D) H2)\/(J.go i H2/\∀x H3,J.rV i H2 x H3->g x eI H3 fun da H4=>te da H4 fun y H5=>∃ys,H5 D=some (.lst ys)/\ys.length<sizeLine/\∃m',m'<m/\W (i+1) m' da (upd H5 D (.lst (ys++[y])))):=by
 intro D hD;refine⟨fun i m eI H2=>m=n-i/\i<=n/\av H1 H2/\(∃r:St,r.length=own.length/\eI=r++rL fr σ)/\∃ys,ys.length=i/\Pv ys/\H2 D=some (.lst ys),⟨n,rfl,Nat.zero_le _,av.new hD _,⟨_,List.length_replicate,rfl⟩,[],rfl,p0,ai⟩,fun i m eI H2 w=>?_⟩;obtain⟨rfl,hi,d_,⟨r,hr,rfl⟩,ys,hl,hp,hy⟩:=w;by_cases eL:i<n
 ·obtain⟨go,st⟩:=hs i r ys H2 eL hr hl hp d_;refine .inr ⟨go,fun x H3 y=>?_⟩;obtain⟨Dx,gg⟩:=st x H3 y;refine gg (fun v da H5=>∃ys,H5 D=some (.lst ys)/\ys.length<sizeLine/\∃m',m'<n-i/\(m'=n-(i+1)/\i+1<=n/\av H1 (upd H5 D (.lst (ys++[v])))/\(∃r:St,r.length=own.length/\da=r++rL fr σ)/\∃zs,zs.length=i+1/\Pv zs/\upd H5 D (.lst (ys++[v])) D=some (.lst zs))) fun v da H5 G7 pv⟨r',G8,e⟩=>?_;refine⟨ys,G7 _ _ (Dx _ _ hy),by lia,n-(i+1),by lia,rfl,eL,fun b o q=>?_,⟨r',G8,e⟩,ys++[v],by rw[List.length_append,hl];rfl,pv,ai⟩;rw[aq (aH q hD)];exact G7 _ _ (Dx _ _ (d_ _ _ q))
 ·obtain rfl:i=n:=by lia
  exact .inl ⟨he H2 d_,hq D H2 ys hD d_ hy hl hp⟩
theorem pb{K:PySem.W.Frag}{a:Addr}{xs:List V}(hS:aM K H1 a xs)(Pv:List V->Prop)(hz:xs.length<=sizeLine)(p0:Pv [])(hs:∀(i:Nat)(x:V)(r:St)(ys:List V)(H2:Hp),xs[i]?=some x->r.length=own.length->ys.length=i->Pv ys->av H1 H2->∀Z:V->St->Hp->Prop,(∀y da H5,av H2 H5->Pv (ys++[y])->(∃r',r'.length=own.length/\da=r'++rL fr σ)->Z y da H5)->g x (r++rL fr σ) H2 fun da H4=>te da H4 fun y H5=>Z y da H5)(hq:∀D H2 ys,H1 D=none->av H1 H2->H2 D=some (.lst ys)->ys.length=xs.length->Pv ys->Q (.ref D) H2):
 ∀D,H1 D=none->∃W:Nat->Nat->St->Hp->Prop,(∃m,W 0 m (fZ own fr σ) (upd H1 D (.lst [])))/\∀i m eI H2,W i m eI H2->
  ((rJ K a).stop i H2/\Q (.ref D) H2)\/((rJ K a).go i H2/\∀x H3,(rJ K a).rV i H2 x H3->g x eI H3 fun da H4=>te da H4 fun y H5=>∃ys,H5 D=some (.lst ys)/\ys.length<sizeLine/\∃m',m'<m/\W (i+1) m' da (upd H5 D (.lst (ys++[y])))):=
 qr xs.length Pv hz p0 (fun i r ys H2 hi hr hl hp d_=>⟨⟨xs,xs[i],d_.seq hS,by simp[hi]⟩,fun x H3 y=>by
  obtain⟨rfl,y⟩:=y
  exact⟨av.refl _,hs i x r ys _ (y xs (d_.seq hS)) hr hl hp d_⟩⟩) (fun H2 d_=>⟨xs,d_.seq hS,Nat.le_refl _⟩) hq
theorem vh{lo:Int}{n:Nat}(Pv:List V->Prop)(hz:n<=sizeLine)(p0:Pv [])(hs:∀(i:Nat)(r:St)(ys:List V)(H2:Hp),i<n->r.length=own.length->ys.length=i->Pv ys->av H1 H2->∀Z:V->St->Hp->Prop,(∀y da H5,av H2 H5->Pv (ys++[y])->(∃r',r'.length=own.length/\da=r'++rL fr σ)->Z y da H5)->g (.int (lo+i)) (r++rL fr σ) H2 fun da H4=>te da H4 fun y H5=>Z y da H5)(hq:∀D H2 ys,H1 D=none->av H1 H2->H2 D=some (.lst ys)->ys.length=n->Pv ys->Q (.ref D) H2):
 ∀D,H1 D=none->∃W:Nat->Nat->St->Hp->Prop,(∃m,W 0 m (fZ own fr σ) (upd H1 D (.lst [])))/\∀i m eI H2,W i m eI H2->
  ((wQ lo n).stop i H2/\Q (.ref D) H2)\/((wQ lo n).go i H2/\∀x H3,(wQ lo n).rV i H2 x H3->g x eI H3 fun da H4=>te da H4 fun y H5=>∃ys,H5 D=some (.lst ys)/\ys.length<sizeLine/\∃m',m'<m/\W (i+1) m' da (upd H5 D (.lst (ys++[y])))):=
 qr n Pv hz p0 (fun i r ys H2 hi hr hl hp d_=>⟨hi,fun x H3 y=>by
  obtain⟨rfl,rfl⟩:=y
  exact⟨av.refl _,hs i r ys _ hi hr hl hp d_⟩⟩) (fun H2 d_=>Nat.le_refl _) hq
theorem yP{K:PySem.W.Frag}{a:Addr}{xs:List V}(hS:aM K H1 a xs)(Pv:List V->Prop)(hz:xs.length<=sizeLine)(p0:Pv [])(hs:∀(i:Nat)(x:V)(p:Addr)(r:St)(ys:List V)(H2:Hp),xs[i]?=some x->r.length=own.length->ys.length=i->Pv ys->av H1 H2->H2 p=some (.tup [.int (i:Int),x])->
 ∀Z:V->St->Hp->Prop,(∀y da H5,av H2 H5->Pv (ys++[y])->(∃r',r'.length=own.length/\da=r'++rL fr σ)->Z y da H5)->g (.ref p) (r++rL fr σ) H2 fun da H4=>te da H4 fun y H5=>Z y da H5)(hq:∀D H2 ys,H1 D=none->av H1 H2->H2 D=some (.lst ys)->ys.length=xs.length->Pv ys->Q (.ref D) H2):
 ∀D,H1 D=none->∃W:Nat->Nat->St->Hp->Prop,(∃m,W 0 m (fZ own fr σ) (upd H1 D (.lst [])))/\∀i m eI H2,W i m eI H2->
  ((AB K a).stop i H2/\Q (.ref D) H2)\/((AB K a).go i H2/\∀x H3,(AB K a).rV i H2 x H3->g x eI H3 fun da H4=>te da H4 fun y H5=>∃ys,H5 D=some (.lst ys)/\ys.length<sizeLine/\∃m',m'<m/\W (i+1) m' da (upd H5 D (.lst (ys++[y])))):=
 qr xs.length Pv hz p0 (fun i r ys H2 hi hr hl hp d_=>⟨⟨xs,xs[i],d_.seq hS,by simp[hi]⟩,fun x H3 y=>by
  obtain⟨p,z,hn,rfl,rfl,y⟩:=y
  exact⟨av.new hn _,hs i z p r ys _ (y xs (d_.seq hS)) hr hl hp (d_.trans (av.new hn _)) ai⟩⟩) (fun H2 d_=>⟨xs,d_.seq hS,Nat.le_refl _⟩) hq
end
theorem sy{K:PySem.W.Frag}{a:Addr}{xs:List V}{g:TG}{tb:TS}{D:Ends}{σ:St}{H:Hp}(Pv:Nat->St->Hp->Prop)(h0:Pv 0 σ H)(hl:∀i σ H,i<=xs.length->Pv i σ H->aM K H a xs)(hs:∀i x p σ H,xs[i]?=some x->H p=none->Pv i σ H->g (.ref p) σ (upd H p (.tup [.int (i:Int),x])) fun eI H2=>tb {D with nx:=Pv (i+1),ct:=Pv (i+1),bk:=D.nx} eI H2)(hd:∀σ H,Pv xs.length σ H->D.nx σ H):
 ∃W:Nat->Nat->St->Hp->Prop,(∃m,W 0 m σ H)/\∀i m σ H,W i m σ H->
  ((AB K a).stop i H/\D.nx σ H)\/((AB K a).go i H/\∃N:St->Hp->Prop,(∀bE H',N bE H'->∃m',m'<m/\W (i+1) m' bE H')/\∀x H',(AB K a).rV i H x H'->g x σ H' fun eI H2=>tb {D with nx:=N,ct:=N,bk:=D.nx} eI H2):=by
 refine⟨fun i m σ H=>m=xs.length-i/\i<=xs.length/\Pv i σ H,⟨xs.length,rfl,Nat.zero_le _,h0⟩,fun i m σ H w=>?_⟩;obtain⟨rfl,hi,p⟩:=w;have q:=hl i σ H hi p;by_cases eL:i<xs.length
 ·refine .inr ⟨⟨xs,xs[i],q,by simp[eL]⟩,Pv (i+1),fun bE H' p'=>⟨xs.length-(i+1),by lia,rfl,eL,p'⟩,fun x H' y=>?_⟩;obtain⟨t,z,hn,rfl,rfl,y⟩:=y;exact hs i z t σ H (y xs q) hn p
 ·obtain rfl:i=xs.length:=by lia
  exact .inl ⟨⟨xs,q,Nat.le_refl _⟩,hd σ H p⟩
theorem qu{K:PySem.W.Frag}{a:Addr}{xs:List V}{g:TG}{tb:TS}{D:Ends}{σ:St}{H:Hp}(Pv:Nat->St->Hp->Prop)(h0:Pv 0 σ H)(hl:∀i σ H,i<=xs.length->Pv i σ H->aM K H a xs)(hs:∀i x σ H,i<xs.length->xs[xs.length-1-i]?=some x->Pv i σ H->g x σ H fun eI H2=>tb {D with nx:=Pv (i+1),ct:=Pv (i+1),bk:=D.nx} eI H2)(hd:∀σ H,Pv xs.length σ H->D.nx σ H):
 ∃W:Nat->Nat->St->Hp->Prop,(∃m,W 0 m σ H)/\∀i m σ H,W i m σ H->
  ((Jp K a xs.length).stop i H/\D.nx σ H)\/((Jp K a xs.length).go i H/\∃N:St->Hp->Prop,(∀bE H',N bE H'->∃m',m'<m/\W (i+1) m' bE H')/\∀x H',(Jp K a xs.length).rV i H x H'->g x σ H' fun eI H2=>tb {D with nx:=N,ct:=N,bk:=D.nx} eI H2):=by
 refine⟨fun i m σ H=>m=xs.length-i/\i<=xs.length/\Pv i σ H,⟨xs.length,rfl,Nat.zero_le _,h0⟩,fun i m σ H w=>?_⟩;obtain⟨rfl,hi,p⟩:=w;have q:=hl i σ H hi p;by_cases eL:i<xs.length
 ·have hx:xs.length-1-i<xs.length:=by lia
  refine .inr ⟨⟨eL,xs,xs[xs.length-1-i],q,List.getElem?_eq_getElem hx⟩,Pv (i+1),fun bE H' p'=>⟨xs.length-(i+1),by lia,rfl,eL,p'⟩,fun x H' y=>?_⟩;obtain⟨rfl,y⟩:=y;exact hs i x σ _ eL (y xs q) p
 ·obtain rfl:i=xs.length:=by lia
  exact .inl ⟨rfl,hd σ H p⟩
theorem cW{c:TT}{tb:TS}{D:Ends}{σ:St}{H:Hp}(Pv:Nat->St->Hp->Prop)(h0:∃m,Pv m σ H)(hs:∀m σ H,Pv m σ H->c σ H fun b H1=>if b=true then ∃N:St->Hp->Prop,(∀bE H',N bE H'->∃m',m'<m/\Pv m' bE H')/\tb {D with nx:=N,ct:=N,bk:=D.nx} σ H1 else D.nx σ H1):Ag c tb D σ H:=⟨Pv,h0,hs⟩
section
variable {σ:St} {H:Hp} {R:It->Hp->Prop} {tl:TE} {tr:TA} {Q:VK}
theorem Dy{K:PySem.W.Frag}(h:tl σ H fun x H1=>∃a,x=.ref a/\(∃xs,aM K H1 a xs)/\R (rJ K a) H1):E7 K tl σ H R:=h
theorem G9(h:tr σ H fun vs H1=>∃j:Int,vs=[.int j]/\-(2^62)<=j/\j<2^62/\R (wQ 0 j.toNat) H1):E8 tr σ H R:=h
theorem G_(h:tr σ H fun vs H1=>∃i j:Int,vs=[.int i,.int j]/\(-(2^62)<=i/\i<2^62/\-(2^62)<=j/\j<2^62)/\R (wQ i (j-i).toNat) H1):Kf tr σ H R:=h
theorem Dz{K:PySem.W.Frag}(h:tr σ H fun vs H1=>∃a,vs=[.ref a]/\(∃xs,aM K H1 a xs)/\R (AB K a) H1):Ff K tr σ H R:=h
theorem G'{K:PySem.W.Frag}(h:tr σ H fun vs H1=>∃a xs,vs=[.ref a]/\aM K H1 a xs/\R (Jp K a xs.length) H1):KW K tr σ H R:=h
theorem Ha{te:TE}{S:Option Int->Hp->Prop}(h:te σ H fun x H1=>∃i,x=.int i/\S (some i) H1):Fd te σ H S:=h
theorem AG{S:Option Int->Hp->Prop}(h:S none H):wZ σ H S:=h
theorem DA{r:V->Option Int->Option Int->Hp->VK->Prop}{RF RG:TO}(h:tl σ H fun x H1=>RF σ H1 fun l H2=>RG σ H2 fun u H3=>r x l u H3 Q):Rw r tl RF RG σ H Q:=h
theorem K1{to ti:TE}{t:Dj}{v:V}{S:St->Hp->Prop}(h:to σ H fun o H1=>ti σ H1 fun i H2=>t o i v H2 fun H3=>S σ H3):Kd to ti t v σ H S:=h
end
theorem vi{K:PySem.W.Frag}{H:Hp}{p:Addr}{xs:List V}{R:Bool->Prop}(hs:aM K H p xs)(h:R (!xs.isEmpty)):∃k,Dl K (.ref p) H k/\R k:=⟨_,.inl ⟨xs,hs,rfl⟩,h⟩
end L2
namespace SF
open Lean.Grind
section
variable {R:Type} [CommRing R]
noncomputable def ax(f:Nat->R):Nat->R
 |0=>0
 |n+1=>ax f n+f n
theorem aE{f g:Nat->R}:∀{n:Nat},(∀i,i<n->f i=g i)->ax f n=ax g n
 |0,_=>rfl
 |n+1,h=>by
  show ax f n+f n=ax g n+g n;rw[aE (fun i hi=>h i (Nat.lt_succ_of_lt hi)),h n (Nat.lt_succ_self n)]
theorem ee(f g:Nat->R):∀n,ax (fun i=>f i+g i) n=ax f n+ax g n
 |0=>by show(0:R)=0+0;grind
 |n+1=>by
  show ax (fun i=>f i+g i) n+(f n+g n)=ax f n+f n+(ax g n+g n);rw[ee f g n];grind
theorem cj(c:R)(f:Nat->R):∀n,ax (fun i=>c*f i) n=c*ax f n
 |0=>by show(0:R)=c*0;grind
 |n+1=>by
  show ax (fun i=>c*f i) n+c*f n=c*(ax f n+f n);rw[cj c f n];grind
theorem jf(c:R)(f:Nat->R)(n:Nat):ax (fun i=>f i*c) n=ax f n*c:=by
 rw[aE (g:=fun i=>c*f i) (fun i _=>by grind),cj];grind
theorem pd(n:Nat):ax (fun _=>(0:R)) n=0:=by
 induction n with
 |zero=>rfl
 |succ n ih=>show ax (fun _=>(0:R)) n+0=0;rw[ih];grind
theorem bJ{f:Nat->R}{n:Nat}(h:∀i,i<n->f i=0):ax f n=0:=by
 rw[aE h,pd]
theorem dW(f:Nat->R):∀n,ax f (n+1)=f 0+ax (fun i=>f (i+1)) n
 |0=>by show(0:R)+f 0=f 0+0;grind
 |n+1=>by
  show ax f (n+1)+f (n+1)=f 0+(ax (fun i=>f (i+1)) n+f (n+1));rw[dW f n];grind
theorem bK(f:Nat->R)(m:Nat):∀n,ax f (m+n)=ax f m+ax (fun i=>f (m+i)) n
 |0=>by show ax f m=ax f m+0;grind
 |n+1=>by
  show ax f (m+n)+f (m+n)=ax f m+(ax (fun i=>f (m+i)) n+f (m+n));rw[bK f m n];grind
theorem sA(f:Nat->R):∀n,ax f (n+1)=ax (fun i=>f (n-i)) (n+1)
 |0=>rfl
 |n+1=>by
  rw[dW (fun i=>f (n+1-i)) (n+1)];show ax f (n+1)+f (n+1)=f (n+1)+ax (fun i=>f (n+1-(i+1))) (n+1);rw[sA f n,aE (f:=fun i=>f (n+1-(i+1))) (g:=fun i=>f (n-i)) (fun i _=>by rw[Nat.add_sub_add_right])];grind
theorem mW(F:Nat->Nat->R):∀n,ax (fun i=>ax (fun j=>F j (i-j)) (i+1)) n=ax (fun j=>ax (fun k=>F j k) (n-j)) n
 |0=>rfl
 |n+1=>by
  show ax (fun i=>ax (fun j=>F j (i-j)) (i+1)) n+ax (fun j=>F j (n-j)) (n+1)=ax (fun j=>ax (fun k=>F j k) (n+1-j)) n+ax (fun k=>F n k) (n+1-n);rw[mW F n];have e1:ax (fun j=>ax (fun k=>F j k) (n+1-j)) n=ax (fun j=>ax (fun k=>F j k) (n-j)+F j (n-j)) n:=by
   refine aE fun j hj=>?_;have e:n+1-j=(n-j)+1:=by lia
   rw[e];rfl
  rw[e1,ee];have e2:n+1-n=1:=by lia
  rw[e2];show _+(ax (fun j=>F j (n-j)) n+F n (n-n))=_+(0+F n 0);rw[Nat.sub_self];grind
end
structure PS(R:Type) where
 c:Nat->R
namespace PS
variable {R:Type} [CommRing R]
theorem ext{f g:PS R}(h:∀i,f.c i=g.c i):f=g:=by
 cases f;cases g;congr;exact funext h
noncomputable def OR(f g:PS R):PS R:=⟨fun i=>f.c i+g.c i⟩
noncomputable def OS(f g:PS R):PS R:=⟨fun n=>ax (fun i=>f.c i*g.c (n-i)) (n+1)⟩
noncomputable def OT(f:PS R):PS R:=⟨fun i=>-f.c i⟩
noncomputable def OU(f g:PS R):PS R:=⟨fun i=>f.c i-g.c i⟩
noncomputable def C(a:R):PS R:=⟨fun i=>if i=0 then a else 0⟩
noncomputable instance:Add (PS R):=⟨OR⟩
noncomputable instance:Mul (PS R):=⟨OS⟩
noncomputable instance:Neg (PS R):=⟨OT⟩
noncomputable instance:Sub (PS R):=⟨OU⟩
theorem mX(f g:PS R)(i:Nat):(f+g).c i=f.c i+g.c i:=rfl
theorem AH(f:PS R)(i:Nat):(-f).c i=-f.c i:=rfl
theorem Hb(f g:PS R)(i:Nat):(f-g).c i=f.c i-g.c i:=rfl
theorem dc(f g:PS R)(n:Nat):(f*g).c n=ax (fun i=>f.c i*g.c (n-i)) (n+1):=rfl
theorem mY(a:R)(i:Nat):(C a).c i=if i=0 then a else 0:=rfl
theorem mul_comm(f g:PS R):f*g=g*f:=by
 apply ext;intro n;rw[dc,dc,sA];refine aE fun i hi=>?_;have e:n-(n-i)=i:=by lia
 rw[e];grind
theorem lH(a:R)(f:PS R)(n:Nat):(C a*f).c n=a*f.c n:=by
 rw[dc,dW];rw[bJ (fun i _=>by rw[mY,if_neg (by lia)];grind)];rw[mY,if_pos rfl,Nat.sub_zero];grind
theorem mul_assoc(f g h:PS R):f*g*h=f*(g*h):=by
 apply ext;intro n;rw[dc,dc];have e1:ax (fun i=>(f*g).c i*h.c (n-i)) (n+1)=ax (fun i=>ax (fun j=>(fun j k=>f.c j*g.c k*h.c (n-(j+k))) j (i-j)) (i+1)) (n+1):=by
  refine aE fun i hi=>?_;rw[dc,<-jf];refine aE fun j hj=>?_;show f.c j*g.c (i-j)*h.c (n-i)=f.c j*g.c (i-j)*h.c (n-(j+(i-j)));have e:j+(i-j)=i:=by lia
  rw[e]
 have e2:ax (fun i=>f.c i*(g*h).c (n-i)) (n+1)=ax (fun j=>ax (fun k=>(fun j k=>f.c j*g.c k*h.c (n-(j+k))) j k) (n+1-j)) (n+1):=by
  refine aE fun j hj=>?_;rw[dc,<-cj];have e:n+1-j=n-j+1:=by lia
  rw[e];refine aE fun k hk=>?_;show f.c j*(g.c k*h.c (n-j-k))=f.c j*g.c k*h.c (n-(j+k));have e:n-j-k=n-(j+k):=by lia
  rw[e];grind
 rw[e1,e2];exact mW (fun j k=>f.c j*g.c k*h.c (n-(j+k))) (n+1)
theorem add_mul(f g h:PS R):(f+g)*h=f*h+g*h:=by
 apply ext;intro n;rw[dc,mX,dc,dc,<-ee];exact aE fun i _=>by rw[mX];grind
theorem one_mul(f:PS R):C 1*f=f:=by
 apply ext;intro n;rw[lH];grind
theorem AI(a b:R):C (a+b)=C a+C b:=by
 apply ext;intro i;rw[mX,mY,mY,mY];split<;>grind
theorem w_(a:R):C (-a)=-C a:=by
 apply ext;intro i;rw[AH,mY,mY];split<;>grind
theorem gq(i:Nat):(C (0:R)).c i=0:=by rw[mY];split<;>rfl
noncomputable instance instNatCast:NatCast (PS R):=⟨fun n=>C (@NatCast.natCast R Semiring.natCast n)⟩
noncomputable instance instIntCast:IntCast (PS R):=⟨fun n=>C (@IntCast.intCast R Ring.intCast n)⟩
noncomputable instance instOfNat(n:Nat):OfNat (PS R) n:=⟨C (@OfNat.ofNat R n (Semiring.ofNat n))⟩
noncomputable def K2(f:PS R):Nat->PS R
 |0=>C 1
 |n+1=>K2 f n*f
noncomputable instance instHPow:HPow (PS R) Nat (PS R):=⟨K2⟩
noncomputable instance gr:SMul Nat (PS R):=⟨fun n f=>C (@NatCast.natCast R Semiring.natCast n)*f⟩
noncomputable instance gu:SMul Int (PS R):=⟨fun n f=>C (@IntCast.intCast R Ring.intCast n)*f⟩
noncomputable instance instCommRing:CommRing (PS R) where
 natCast:=instNatCast
 ofNat:=instOfNat
 nsmul:=gr
 npow:=instHPow
 intCast:=instIntCast
 zsmul:=gu
 add_zero f:=by apply ext;intro i;show f.c i+(C (0:R)).c i=f.c i;rw[gq];grind
 add_comm f g:=by apply ext;intro i;show f.c i+g.c i=g.c i+f.c i;grind
 add_assoc f g h:=by apply ext;intro i;show f.c i+g.c i+h.c i=f.c i+(g.c i+h.c i);grind
 mul_assoc:=mul_assoc
 mul_one f:=by rw[mul_comm];exact one_mul f
 one_mul:=one_mul
 right_distrib:=add_mul
 left_distrib f g h:=by rw[mul_comm f (g+h),add_mul,mul_comm g f,mul_comm h f]
 zero_mul f:=by apply ext;intro i;show(C (0:R)*f:PS R).c i=(C (0:R)).c i;rw[lH,gq];grind
 mul_zero f:=by apply ext;intro i;show(f*C (0:R):PS R).c i=(C (0:R)).c i;rw[mul_comm,lH,gq];grind
 pow_zero f:=rfl
 pow_succ f n:=rfl
 ofNat_succ n:=by
  show C (@OfNat.ofNat R (n+1) (Semiring.ofNat (n+1)))=C (@OfNat.ofNat R n (Semiring.ofNat n))+C 1;rw[<-AI];exact congrArg C (Semiring.ofNat_succ n)
 ofNat_eq_natCast n:=congrArg C (Semiring.ofNat_eq_natCast n)
 nsmul_eq_natCast_mul n f:=rfl
 neg_add_cancel f:=by apply ext;intro i;show-f.c i+f.c i=(C (0:R)).c i;rw[gq];grind
 sub_eq_add_neg f g:=by apply ext;intro i;show f.c i-g.c i=f.c i+-g.c i;grind
 neg_zsmul n f:=by
  apply ext;intro i;show(C (@IntCast.intCast R Ring.intCast (-n))*f).c i=-((C (@IntCast.intCast R Ring.intCast n)*f).c i);have e:@IntCast.intCast R Ring.intCast (-n)=-@IntCast.intCast R Ring.intCast n:=Ring.intCast_neg n;rw[lH,lH,e];grind
 zsmul_natCast_eq_nsmul n f:=by
  apply ext;intro i;show(C (@IntCast.intCast R Ring.intCast (n:Int))*f).c i=(C (@NatCast.natCast R Semiring.natCast n)*f).c i;rw[lH,lH];have e:@IntCast.intCast R Ring.intCast (n:Int)=@NatCast.natCast R Semiring.natCast n:=Ring.intCast_natCast n;rw[e]
 intCast_ofNat n:=congrArg C (Ring.intCast_ofNat n)
 intCast_neg n:=by
  show C (@IntCast.intCast R Ring.intCast (-n))=-C (@IntCast.intCast R Ring.intCast n);rw[<-w_];exact congrArg C (Ring.intCast_neg n)
 mul_comm:=mul_comm
noncomputable def nat(n:Nat):R:=@NatCast.natCast R Semiring.natCast n
noncomputable def aR(f:PS R):PS R:=⟨fun n=>nat (n+1)*f.c (n+1)⟩
theorem mZ(f:PS R)(n:Nat):(aR f).c n=nat (n+1)*f.c (n+1):=rfl
theorem DB(m n:Nat):(nat (m+n):R)=nat m+nat n:=Semiring.natCast_add m n
theorem gM(f g:PS R):aR (f*g)=aR f*g+f*aR g:=by
 apply ext;intro n;rw[mX,mZ,dc,dc,dc];have e0:nat (n+1)*ax (fun i=>f.c i*g.c (n+1-i)) (n+1+1)=ax (fun i=>nat i*(f.c i*g.c (n+1-i))) (n+1+1)+ax (fun i=>nat (n+1-i)*(f.c i*g.c (n+1-i))) (n+1+1):=by
  rw[<-cj,<-ee];refine aE fun i hi=>?_;have e:n+1=i+(n+1-i):=by lia
  have e2:(nat (n+1):R)=nat i+nat (n+1-i):=by rw[<-DB,<-e]
  rw[e2];grind
 rw[e0];have z:(nat 0:R)=0:=Semiring.natCast_zero;have e1:ax (fun i=>nat i*(f.c i*g.c (n+1-i))) (n+1+1)=ax (fun i=>(aR f).c i*g.c (n-i)) (n+1):=by
  rw[dW,z];have:ax (fun i=>nat (i+1)*(f.c (i+1)*g.c (n+1-(i+1)))) (n+1)=ax (fun i=>(aR f).c i*g.c (n-i)) (n+1):=by
   refine aE fun i _=>?_;rw[Nat.add_sub_add_right,mZ];grind
  rw[this];grind
 have e2:ax (fun i=>nat (n+1-i)*(f.c i*g.c (n+1-i))) (n+1+1)=ax (fun i=>f.c i*(aR g).c (n-i)) (n+1):=by
  show ax (fun i=>nat (n+1-i)*(f.c i*g.c (n+1-i))) (n+1)+nat (n+1-(n+1))*(f.c (n+1)*g.c (n+1-(n+1)))=_;rw[Nat.sub_self,z];have:ax (fun i=>nat (n+1-i)*(f.c i*g.c (n+1-i))) (n+1)=ax (fun i=>f.c i*(aR g).c (n-i)) (n+1):=by
   refine aE fun i hi=>?_;have e:n+1-i=(n-i)+1:=by lia
   rw[e,mZ];grind
  rw[this];grind
 rw[e1,e2]
end PS
end SF
namespace SF
noncomputable def Bd(n:Nat)(x:Int):Prop:=x.natAbs<2^n
theorem Bd.mono{m n:Nat}{x:Int}(h:Bd m x)(OV:m<=n):Bd n x:=
 Nat.lt_of_lt_of_le h (Nat.pow_le_pow_right (by decide) OV)
theorem Bd.mul{m n:Nat}{x y:Int}(h:Bd m x)(h':Bd n y):Bd (m+n) (x*y):=by
 unfold Bd at*;rw[Int.natAbs_mul,Nat.pow_add];exact Nat.mul_lt_mul'' h h'
theorem Bd.neg{n:Nat}{x:Int}(h:Bd n x):Bd n (-x):=by
 unfold Bd at*;rw[Int.natAbs_neg];exact h
theorem Bd.add{n:Nat}{x y:Int}(h:Bd n x)(h':Bd n y):Bd (n+1) (x+y):=by
 unfold Bd at*;have:=Int.natAbs_add_le x y;rw[Nat.pow_succ];lia
theorem Bd.sub{n:Nat}{x y:Int}(h:Bd n x)(h':Bd n y):Bd (n+1) (x-y):=by
 rw[Int.sub_eq_add_neg];exact h.add h'.neg
theorem Bd.of_dvd{n:Nat}{x y:Int}(h:Bd n y)(hd:x∣y)(h0:y≠0):Bd n x:=by
 unfold Bd at*;have h1:x.natAbs∣y.natAbs:=Int.natAbs_dvd_natAbs.mpr hd;have h2:=Nat.le_of_dvd (Int.natAbs_pos.mpr h0) h1;lia
theorem Bd.log2{n:Nat}{x:Int}(h:Bd n x)(hn:n<=9000):x.natAbs.log2<9000:=by
 unfold Bd at h;rcases Nat.eq_zero_or_pos x.natAbs with h0|hp
 ·rw[h0];decide
 ·exact(Nat.log2_lt (Nat.ne_of_gt hp)).mpr (Nat.lt_of_lt_of_le h (Nat.pow_le_pow_right (by decide) hn))
theorem Bd.of_le{n:Nat}{x y:Int}(h:Bd n y)(h':x.natAbs<=y.natAbs):Bd n x:=Nat.lt_of_le_of_lt h' h
theorem Bd.fF{n:Nat}{x:Int}(h1:0<=x)(h2:x<2^n):Bd n x:=by
 unfold Bd;have e:((2:Int)^n)=((2^n:Nat):Int):=by simp
 rw[e] at h2;lia
theorem Bd.of_two{n:Nat}{x:Int}(h1:-(2^n)<x)(h2:x<2^n):Bd n x:=by
 unfold Bd;have e:((2:Int)^n)=((2^n:Nat):Int):=by simp
 rw[e] at h1 h2;lia
theorem dr{g l:Int}(hl:0<l):g.fmod l=g%l:=Int.fmod_eq_emod_of_nonneg g (by lia)
theorem iG{g l:Int}(hl:0<l):g.fdiv l=g/l:=Int.fdiv_eq_ediv_of_nonneg g (by lia)
theorem sC{g l:Int}(hg:0<=g)(hl:0<l):Int.gcd l (g%l)=Int.gcd g l:=by
 obtain⟨m,rfl⟩:=Int.eq_ofNat_of_zero_le hg;obtain⟨n,rfl⟩:=Int.eq_ofNat_of_zero_le (show 0<=l by lia);have e:((m:Int)%(n:Int))=((m%n:Nat):Int):=by simp
 rw[e];show Nat.gcd n (m%n)=Nat.gcd m n;rw[Nat.gcd_comm m n,Nat.gcd_rec n m,Nat.gcd_comm]
theorem xc{a b:Int}:Int.gcd (if a<0 then -a else a) (if b<0 then -b else b)=Int.gcd a b:=by
 split<;>split<;>simp[Int.gcd_neg,Int.neg_gcd]
theorem xf{g:Int}(hg:0<=g):((Int.gcd g 0:Nat):Int)=g:=by
 rw[Int.gcd_zero_right];lia
noncomputable def rs(a b:Int):Int:=if b<0 then -((Int.gcd a b:Nat):Int) else((Int.gcd a b:Nat):Int)
noncomputable def rt(a b:Int):Int:=a.fdiv (rs a b)
noncomputable def ru(a b:Int):Int:=b.fdiv (rs a b)
theorem Fi{a b:Int}(h:b≠0):rs a b≠0:=by
 have:0<Int.gcd a b:=Int.gcd_pos_of_ne_zero_right a h;unfold rs;split<;>lia
theorem sD{a b:Int}:rs a b∣a:=by
 unfold rs;split
 ·exact Int.neg_dvd.mpr (Int.gcd_dvd_left ..)
 ·exact Int.gcd_dvd_left ..
theorem qv{a b:Int}:rs a b∣b:=by
 unfold rs;split
 ·exact Int.neg_dvd.mpr (Int.gcd_dvd_right ..)
 ·exact Int.gcd_dvd_right ..
theorem fG{x y:Int}(hd:y∣x):x.fdiv y*y=x:=Int.fdiv_mul_cancel hd
theorem AJ{a b:Int}:rt a b*rs a b=a:=fG sD
theorem vj{a b:Int}:ru a b*rs a b=b:=fG qv
theorem Hc{a b:Int}(h:b≠0):0<ru a b:=by
 have e:=vj (a:=a) (b:=b);have hg:0<Int.gcd a b:=Int.gcd_pos_of_ne_zero_right a h;by_cases hb:b<0
 ·have hs:rs a b<0:=by unfold rs;rw[if_pos hb];lia
  by_cases hq:0<ru a b
  ·exact hq
  ·have:0<=ru a b*rs a b:=Int.mul_nonneg_of_nonpos_of_nonpos (by lia) (by lia);lia
 ·have hs:0<rs a b:=by unfold rs;rw[if_neg hb];lia
  by_cases hq:0<ru a b
  ·exact hq
  ·have:ru a b*rs a b<=0:=Int.mul_nonpos_of_nonpos_of_nonneg (by lia) (by lia);lia
theorem DC{a b:Int}(h:b≠0):rt a b*b=a*ru a b:=by
 have e1:=AJ (a:=a) (b:=b);have e2:=vj (a:=a) (b:=b);have h0:=Fi (a:=a) h;have:(rt a b*b)*rs a b=(a*ru a b)*rs a b:=by grind
 exact Int.eq_of_mul_eq_mul_right h0 this
theorem K8{a b:Int}(h:b≠0):Int.gcd (rt a b) (ru a b)=1:=by
 have e1:=AJ (a:=a) (b:=b);have e2:=vj (a:=a) (b:=b);have h0:=Fi (a:=a) h;have hg:0<Int.gcd a b:=Int.gcd_pos_of_ne_zero_right a h;have hn:(rs a b).natAbs=Int.gcd a b:=by unfold rs;split<;>lia
 have:Int.gcd (rt a b*rs a b) (ru a b*rs a b)=Int.gcd (rt a b) (ru a b)*(rs a b).natAbs:=Int.gcd_mul_right ..;rw[e1,e2,hn] at this;have h2:1*Int.gcd a b=Int.gcd (rt a b) (ru a b)*Int.gcd a b:=by lia
 exact(Nat.eq_of_mul_eq_mul_right hg h2).symm
structure Xz(p q a b:Int):Prop where
 pos:0<q
 RH:p*b=a*q
 low:Int.gcd p q=1
end SF
namespace SF
open Lean.Grind
noncomputable def co(xs:List Int)(i:Nat):Int:=xs.getD i 0
noncomputable def se(xs:List Int):PS Int:=⟨co xs⟩
theorem qw(xs:List Int):(se xs).c=co xs:=rfl
theorem gN(x:Int)(r:List Int):co (x::r) 0=x:=rfl
theorem eA(x:Int)(r:List Int)(i:Nat):co (x::r) (i+1)=co r i:=rfl
theorem bI{xs:List Int}{i:Nat}(h:i<xs.length):co xs i=xs[i]:=by
 show xs.getD i 0=_;rw[List.getD_eq_getElem?_getD,List.getElem?_eq_getElem h];rfl
theorem cw{xs:List Int}{i:Nat}(h:xs.length<=i):co xs i=0:=by
 show xs.getD i 0=_;rw[List.getD_eq_getElem?_getD,List.getElem?_eq_none h];rfl
theorem gO(xs:List Int)(n i:Nat):co (xs.take n) i=if i<n then co xs i else 0:=by
 show(xs.take n).getD i 0=_;rw[List.getD_eq_getElem?_getD];split
 ·rename_i h;rw[List.getElem?_take_of_lt h];rfl
 ·rename_i h;rw[List.getElem?_eq_none (by rw[List.length_take];lia)];rfl
theorem Hd(f:Int->Int)(h0:f 0=0)(xs:List Int)(i:Nat):co (xs.map f) i=f (co xs i):=by
 show(xs.map f).getD i 0=f (xs.getD i 0);rw[List.getD_eq_getElem?_getD,List.getD_eq_getElem?_getD,List.getElem?_map];cases xs[i]? with
 |none=>exact h0.symm
 |some v=>rfl
noncomputable def dX(f:Nat->Int)(n:Nat):List Int:=(List.range n).map f
theorem aA(f:Nat->Int)(n:Nat):(dX f n).length=n:=by simp[dX]
theorem gP(f:Nat->Int)(n i:Nat):co (dX f n) i=if i<n then f i else 0:=by
 split
 ·rename_i h;rw[bI (by rw[aA];exact h)];simp[dX]
 ·rename_i h;exact cw (by rw[aA];lia)
theorem mq{f:Nat->Int}{n:Nat}(h:∀i,n<=i->f i=0):co (dX f n)=f:=by
 funext i
 rw[gP];split
 ·rfl
 ·rename_i hi;exact(h i (by lia)).symm
theorem He(xs:List Int):dX (co xs) xs.length=xs:=by
 refine List.ext_getElem (aA _ _) fun i h1 h2=>?_;simp only[dX,List.getElem_map,List.getElem_range];exact bI h2
theorem qx{f:Nat->Int}{n i:Nat}{v:Int}(h:i<n):(dX f n).set i v=dX (fun j=>if j=i then v else f j) n:=by
 refine List.ext_getElem (by rw[List.length_set,aA,aA]) fun j h1 h2=>?_;rw[List.getElem_set];simp only[dX,List.getElem_map,List.getElem_range];by_cases e:i=j
 ·rw[if_pos e,if_pos e.symm]
 ·rw[if_neg e,if_neg (Ne.symm e)]
theorem cL{f g:Nat->Int}{n:Nat}(h:∀i,i<n->f i=g i):dX f n=dX g n:=by
 unfold dX;exact List.map_congr_left fun i hi=>h i (List.mem_range.mp hi)
noncomputable def Tr(xs:List Int):Prop:=∀x,xs.getLast?=some x->x≠0
theorem Tr.nil:Tr []:=fun x h=>by cases h
theorem Tr.last{xs:List Int}(h:Tr xs)(hn:xs≠[]):co xs (xs.length-1)≠0:=by
 have hl:0<xs.length:=List.length_pos_iff.mpr hn;rw[bI (by lia)];refine h _ ?_;rw[List.getLast?_eq_getElem?,List.getElem?_eq_getElem (by lia)]
theorem Tr.gQ{xs:List Int}(h:xs≠[]->co xs (xs.length-1)≠0):Tr xs:=by
 intro x hx;have hn:xs≠[]:=by rintro rfl;cases hx
 have hl:0<xs.length:=List.length_pos_iff.mpr hn;have:=h hn;rw[bI (by lia)] at this;rw[List.getLast?_eq_getElem?,List.getElem?_eq_getElem (by lia)] at hx;rw[Option.some.inj hx] at this;exact this
theorem Tr.inj{xs ys:List Int}(hx:Tr xs)(hy:Tr ys)(h:∀i,co xs i=co ys i):xs=ys:=by
 have hl:xs.length=ys.length:=by
  rcases Nat.lt_trichotomy xs.length ys.length with eL|he|eL
  ·have hn:ys≠[]:=by rintro rfl;exact absurd eL (Nat.not_lt_zero _)
   have:=hy.last hn;rw[<-h,cw (by lia)] at this;exact absurd rfl this
  ·exact he
  ·have hn:xs≠[]:=by rintro rfl;exact absurd eL (Nat.not_lt_zero _)
   have:=hx.last hn;rw[h,cw (by lia)] at this;exact absurd rfl this
 refine List.ext_getElem hl fun i h1 h2=>?_;have:=h i;rw[bI h1,bI h2] at this;exact this
noncomputable def dw:List Int->List Int
 |[]=>[]
 |x::r=>match dw r with
  |[]=>if x=0 then[] else[x]
  |y::t=>x::y::t
theorem fH:∀(xs:List Int)(i:Nat),co (dw xs) i=co xs i
 |[],i=>rfl
 |x::r,i=>by
  have ih:=fH r;unfold dw;cases e:dw r with
  |nil=>
   rw[e] at ih
   dsimp only
   split
   ·rename_i hx;cases i with
    |zero=>exact hx.symm
    |succ i=>rw[eA,<-ih i];rfl
   ·cases i with
    |zero=>rfl
    |succ i=>rw[eA,eA,<-ih i]
  |cons y t=>
   rw[e] at ih;cases i with
   |zero=>rfl
   |succ i=>exact ih i
theorem gv:∀xs:List Int,Tr (dw xs)
 |[]=>Tr.nil
 |x::r=>by
  have ih:=gv r;unfold dw;cases e:dw r with
  |nil=>
   dsimp only
   split
   ·exact Tr.nil
   ·rename_i hx;intro z hz;have:x=z:=by simpa using hz
    rw[<-this];exact hx
  |cons y t=>
   rw[e] at ih;intro z hz;exact ih z (by simpa using hz)
theorem AK{xs:List Int}(h:Tr xs):dw xs=xs:=(gv xs).inj h (fH xs)
theorem AL{xs ys:List Int}(h:∀i,co xs i=co ys i):dw xs=dw ys:=
 (gv xs).inj (gv ys) fun i=>by rw[fH,fH,h]
theorem pe:∀xs:List Int,(dw xs).length<=xs.length
 |[]=>Nat.le_refl _
 |x::r=>by
  have ih:=pe r;unfold dw;cases e:dw r with
  |nil=>
   dsimp only
   split<;>simp
  |cons y t=>
   rw[e] at ih;simp only[List.length_cons] at*;lia
theorem vk{xs:List Int}{n:Nat}(h:co xs n=0):dw (xs.take (n+1))=dw (xs.take n):=by
 refine AL fun i=>?_;rw[gO,gO];by_cases h1:i<n
 ·rw[if_pos h1,if_pos (by lia)]
 ·rw[if_neg h1];split
  ·have:i=n:=by lia
   rw[this];exact h
  ·rfl
theorem DD{xs:List Int}{n:Nat}(hn:n<=xs.length)(h:n=0\/co xs (n-1)≠0):Tr (xs.take n):=by
 refine Tr.gQ fun dA=>?_;have hl:(xs.take n).length=n:=by rw[List.length_take];lia
 rw[hl,gO];have:0<n:=by
  rcases Nat.eq_zero_or_pos n with z|z
  ·rw[z] at dA;simp at dA
  ·exact z
 rw[if_pos (by lia)];rcases h with z|z
 ·lia
 ·exact z
noncomputable def mulL(xs ys:List Int):List Int:=if xs=[]\/ys=[] then[] else dX (se xs*se ys).c (xs.length+ys.length-1)
theorem sE{xs ys:List Int}{n:Nat}(h:xs.length+ys.length<=n+1):(se xs*se ys).c n=0:=by
 rw[PS.dc];refine bJ fun i hi=>?_;by_cases h1:i<xs.length
 ·rw[qw,qw,cw (xs:=ys) (by lia)];grind
 ·rw[qw,qw,cw (xs:=xs) (by lia)];grind
theorem mr(xs ys:List Int):co (mulL xs ys)=(se xs*se ys).c:=by
 unfold mulL;split
 ·rename_i h
  funext n
  rw[PS.dc];refine(bJ fun i _=>?_).symm;rcases h with h|h<;>subst h
  ·show(0:Int)*_=0;grind
  ·show _*(0:Int)=0;grind
 ·refine mq fun i hi=>sE ?_;rename_i h;rw[_root_.not_or] at h;have h1:=List.length_pos_iff.mpr h.1;have h2:=List.length_pos_iff.mpr h.2;lia
theorem m5{xs ys:List Int}(hx:xs≠[])(hy:ys≠[]):(se xs*se ys).c (xs.length+ys.length-2)=co xs (xs.length-1)*co ys (ys.length-1):=by
 have h1:=List.length_pos_iff.mpr hx;have h2:=List.length_pos_iff.mpr hy;rw[PS.dc];have e:xs.length+ys.length-2+1=(xs.length-1)+(1+(ys.length-1)):=by lia
 rw[e,bK,bK];rw[bJ (n:=xs.length-1) (fun i hi=>by rw[qw,qw,cw (xs:=ys) (by lia)];grind)];rw[bJ (n:=ys.length-1) (fun i hi=>by rw[qw,qw,cw (xs:=xs) (by lia)];grind)];show 0+((0+co xs (xs.length-1+0)*co ys (xs.length+ys.length-2-(xs.length-1+0)))+0)=_;have e2:xs.length+ys.length-2-(xs.length-1+0)=ys.length-1:=by lia
 rw[e2,Nat.add_zero];grind
theorem xg{xs ys:List Int}(hx:Tr xs)(hy:Tr ys):Tr (mulL xs ys):=by
 by_cases h:xs=[]\/ys=[]
 ·unfold mulL;rw[if_pos h];exact Tr.nil
 ·refine Tr.gQ fun _=>?_;rw[mr];have hl:(mulL xs ys).length=xs.length+ys.length-1:=by unfold mulL;rw[if_neg h,aA]
  rw[hl];rw[_root_.not_or] at h;have h1:=List.length_pos_iff.mpr h.1;have h2:=List.length_pos_iff.mpr h.2;have e:xs.length+ys.length-1-1=xs.length+ys.length-2:=by lia
  rw[e,m5 h.1 h.2];exact Int.mul_ne_zero (hx.last h.1) (hy.last h.2)
noncomputable def bT(xs:List Int):List Int:=dX (PS.aR (se xs)).c (xs.length-1)
theorem jV(xs:List Int):co (bT xs)=(PS.aR (se xs)).c:=by
 refine mq fun i hi=>?_;show PS.nat (i+1)*co xs (i+1)=0;rw[cw (by lia)];grind
theorem DE(n:Nat):(PS.nat n:Int)=(n:Int):=rfl
theorem xh{xs:List Int}(hx:Tr xs):Tr (bT xs):=by
 refine Tr.gQ fun h=>?_;have hl:(bT xs).length=xs.length-1:=aA _ _;have hp:0<(bT xs).length:=List.length_pos_iff.mpr h;rw[hl] at hp;rw[jV,hl];have dA:xs≠[]:=by rintro rfl;simp at hp
 have e:xs.length-1-1+1=xs.length-1:=by lia
 show PS.nat (xs.length-1-1+1)*co xs (xs.length-1-1+1)≠0;rw[e,DE];exact Int.mul_ne_zero (by lia) (hx.last dA)
end SF
namespace SF
noncomputable def eK(xs:List Int):Nat:=xs.foldl (fun g x=>Int.gcd g x) 0
noncomputable def jW(g:Nat)(xs:List Int):Nat:=xs.foldl (fun g x=>Int.gcd g x) g
theorem pj:∀(xs:List Int)(g d:Nat),d∣jW g xs↔(d∣g/\∀x∈xs,(d:Int)∣x)
 |[],g,d=>by simp[jW]
 |x::r,g,d=>by
  have ih:=pj r (Int.gcd g x) d;show d∣jW (Int.gcd g x) r↔_;rw[ih];have h1:d∣Int.gcd g x↔(d∣g/\(d:Int)∣x):=by
   constructor
   ·intro h;have hz:(d:Int)∣((Int.gcd g x:Nat):Int):=Int.ofNat_dvd.mpr h;exact⟨Int.ofNat_dvd.mp (Int.dvd_trans hz (Int.gcd_dvd_left ..)),Int.dvd_trans hz (Int.gcd_dvd_right ..)⟩
   ·rintro⟨h1,h2⟩;exact Int.ofNat_dvd.mp (Int.dvd_coe_gcd (Int.ofNat_dvd.mpr h1) h2)
  rw[h1];constructor
  ·rintro⟨⟨a,b⟩,c⟩;exact⟨a,fun y hy=>by rcases List.mem_cons.mp hy with rfl|hy;exact b;exact c y hy⟩
  ·rintro⟨a,b⟩;exact⟨⟨a,b x List.mem_cons_self⟩,fun y hy=>b y (List.mem_cons_of_mem _ hy)⟩
theorem kH(xs:List Int)(d:Nat):d∣eK xs↔∀x∈xs,(d:Int)∣x:=by
 have:=pj xs 0 d;rw[show jW 0 xs=eK xs from rfl] at this;rw[this];exact⟨fun h=>h.2,fun h=>⟨Nat.dvd_zero d,h⟩⟩
theorem jX{xs:List Int}{x:Int}(h:x∈xs):((eK xs:Nat):Int)∣x:=(kH xs _).mp (Nat.dvd_refl _) x h
theorem kI{xs:List Int}{x:Int}(h:x∈xs)(h0:x≠0):0<eK xs:=by
 rcases Nat.eq_zero_or_pos (eK xs) with z|z
 ·have:=jX h;rw[z] at this;exact absurd (Int.zero_dvd.mp this) h0
 ·exact z
noncomputable def cont(xs:List Int):Int:=if co xs (xs.length-1)<0 then -((eK xs:Nat):Int) else((eK xs:Nat):Int)
theorem sF(xs:List Int):(cont xs).natAbs=eK xs:=by unfold cont;split<;>lia
theorem m7{xs:List Int}{x:Int}(h:x∈xs):cont xs∣x:=by
 unfold cont;split
 ·exact Int.neg_dvd.mpr (jX h)
 ·exact jX h
theorem jY{xs:List Int}(hn:xs≠[]):co xs (xs.length-1)∈xs:=by
 have hl:0<xs.length:=List.length_pos_iff.mpr hn;rw[bI (by lia)];exact List.getElem_mem _
theorem eV{xs:List Int}(h:Tr xs)(hn:xs≠[]):cont xs≠0:=by
 have:=kI (jY hn) (h.last hn);have e:=sF xs;lia
noncomputable def az(xs:List Int):List Int:=xs.map (·.fdiv (cont xs))
theorem bD(xs:List Int):(az xs).length=xs.length:=List.length_map _
theorem m8{xs:List Int}{i:Nat}(h:i<xs.length):co (az xs) i*cont xs=co xs i:=by
 unfold az;rw[Hd (fun y=>y.fdiv (cont xs)) (by simp)];have hm:co xs i∈xs:=by rw[bI h];exact List.getElem_mem _
 exact Int.fdiv_mul_cancel (m7 hm)
theorem m9{xs:List Int}(h:Tr xs)(hn:xs≠[]):0<co (az xs) (xs.length-1):=by
 have hl:0<xs.length:=List.length_pos_iff.mpr hn;have e:=m8 (xs:=xs) (i:=xs.length-1) (by lia);have h0:=h.last hn;have hp:=kI (jY hn) h0;by_cases hc:co xs (xs.length-1)<0
 ·have hs:cont xs<0:=by unfold cont;rw[if_pos hc];lia
  by_cases hq:0<co (az xs) (xs.length-1)
  ·exact hq
  ·have:0<=co (az xs) (xs.length-1)*cont xs:=Int.mul_nonneg_of_nonpos_of_nonpos (by lia) (by lia);lia
 ·have hs:0<cont xs:=by unfold cont;rw[if_neg hc];lia
  by_cases hq:0<co (az xs) (xs.length-1)
  ·exact hq
  ·have:co (az xs) (xs.length-1)*cont xs<=0:=Int.mul_nonpos_of_nonpos_of_nonneg (by lia) (by lia);lia
theorem cM{xs:List Int}(h:Tr xs):Tr (az xs):=by
 refine Tr.gQ fun hn=>?_;have hx:xs≠[]:=by rintro rfl;exact hn rfl
 rw[bD];have:=m9 h hx;lia
theorem sG{xs:List Int}(h:Tr xs)(hn:xs≠[]):eK (az xs)=1:=by
 have h0:=h.last hn;have hp:=kI (jY hn) h0;have hd:eK (az xs)*eK xs∣eK xs:=by
  rw[kH];intro x hx;have hy:x.fdiv (cont xs)∈az xs:=List.mem_map.mpr ⟨x,hx,rfl⟩;have h1:=jX hy;have e:=Int.fdiv_mul_cancel (m7 hx);obtain⟨k,hk⟩:=h1;have ha:(cont xs).natAbs=eK xs:=sF xs;rcases Int.natAbs_eq (cont xs) with hc|hc
  ·rw[ha] at hc;refine⟨k,?_⟩;rw[<-e,hk,hc];push_cast;grind
  ·rw[ha] at hc;refine⟨-k,?_⟩;rw[<-e,hk,hc];push_cast;grind
 have h2:eK (az xs)*eK xs∣1*eK xs:=by rw[Nat.one_mul];exact hd
 have h3:=Nat.dvd_of_mul_dvd_mul_right hp h2;exact Nat.eq_one_of_dvd_one h3
noncomputable def hv(t u:Int)(xs:List Int):Int:=ax (fun i=>co xs i*(t^i*u^(xs.length-1-i))) xs.length
noncomputable def iH(t u:Int)(p:Int×Int)(x:Int):Int×Int:=(p.1*t+x*p.2,p.2*u)
theorem qy(t u x:Int)(r:List Int):hv t u (x::r)=hv t u r*t+x*u^r.length:=by
 unfold hv;rw[List.length_cons,dW,<-jf];have e:ax (fun i=>co (x::r) (i+1)*(t^(i+1)*u^(r.length+1-1-(i+1)))) r.length=ax (fun i=>co r i*(t^i*u^(r.length-1-i))*t) r.length:=by
  refine aE fun i hi=>?_;have e1:r.length+1-1-(i+1)=r.length-1-i:=by lia
  rw[e1,eA,Int.pow_succ];grind
 rw[e];rw[gN,Nat.add_sub_cancel,Nat.sub_zero,Int.pow_zero];grind
theorem xi(t u:Int):∀xs:List Int,xs.reverse.foldl (iH t u) (0,1)=(hv t u xs,u^xs.length)
 |[]=>by show((0:Int),(1:Int))=(0,u^0);rw[Int.pow_zero]
 |x::r=>by
  rw[List.reverse_cons,List.foldl_append,xi t u r,qy];show(hv t u r*t+x*u^r.length,u^r.length*u)=_;rw[List.length_cons,Int.pow_succ]
end SF
namespace SF
noncomputable def cv(xs ys:List Int)(a j:Nat):Int:=ax (fun i=>if i<=j then co xs i*co ys (j-i) else 0) a
theorem DF(xs ys:List Int)(a j:Nat):cv xs ys (a+1) j=cv xs ys a j+(if a<=j then co xs a*co ys (j-a) else 0):=rfl
theorem xj(xs ys:List Int)(j:Nat):cv xs ys xs.length j=(se xs*se ys).c j:=by
 rw[PS.dc];show ax (fun i=>if i<=j then co xs i*co ys (j-i) else 0) xs.length=ax (fun i=>co xs i*co ys (j-i)) (j+1);rcases Nat.le_total xs.length (j+1) with h|h
 ·have e:j+1=xs.length+(j+1-xs.length):=by lia
  rw[e,bK,bJ (n:=j+1-xs.length) (fun i _=>by rw[cw (xs:=xs) (by lia)];grind)];rw[aE (g:=fun i=>co xs i*co ys (j-i)) (fun i hi=>by rw[if_pos (by lia)])];grind
 ·have e:xs.length=(j+1)+(xs.length-(j+1)):=by lia
  rw[e,bK,bJ (n:=xs.length-(j+1)) (fun i _=>by rw[if_neg (by lia)])];rw[aE (g:=fun i=>co xs i*co ys (j-i)) (fun i hi=>by rw[if_pos (by lia)])];grind
theorem AM(xs ys:List Int)(a j:Nat):(cv xs ys a j+if a<=j/\j<a+ys.length then co xs a*co ys (j-a) else 0)=cv xs ys (a+1) j:=by
 rw[DF];by_cases h:a<=j
 ·rw[if_pos h];by_cases h2:j<a+ys.length
  ·rw[if_pos ⟨h,h2⟩]
  ·rw[if_neg (fun z=>h2 z.2),cw (xs:=ys) (by lia)];grind
 ·rw[if_neg h,if_neg (fun z=>h z.1)]
theorem AN{xs ys:List Int}(hx:xs≠[])(hy:ys≠[]):mulL xs ys=dX (cv xs ys xs.length) (xs.length+ys.length-1):=by
 unfold mulL;rw[if_neg (by intro z;rcases z with z|z;exact hx z;exact hy z)];exact cL fun i _=>(xj xs ys i).symm
theorem AO(n:Nat):dX (fun _=>0) n=List.replicate n 0:=by
 refine List.ext_getElem (by rw[aA,List.length_replicate]) fun i h1 h2=>?_;simp[dX]
theorem yQ(xs:List Int):((dX (fun i=>(i:Int)*co xs i) xs.length).drop 1)=bT xs:=by
 unfold bT;refine List.ext_getElem (by rw[List.length_drop,aA,aA]) fun i h1 h2=>?_;rw[List.getElem_drop];have e1:(dX (fun i=>(i:Int)*co xs i) xs.length)[1+i]'(by rw[aA];rw[aA] at h2;lia)=((1+i:Nat):Int)*co xs (1+i):=by simp only[dX,List.getElem_map,List.getElem_range]
 rw[e1];simp only[dX,List.getElem_map,List.getElem_range];rw[PS.mZ,qw,Nat.add_comm 1 i];rfl
noncomputable def AQ(t u:Int)(xs:List Int)(j:Nat):Int×Int:=(xs.reverse.take j).foldl (iH t u) (0,1)
theorem AR(t u:Int)(xs:List Int):AQ t u xs 0=(0,1):=rfl
theorem sI(t u:Int)(xs:List Int)(j:Nat)(h:j<xs.length):AQ t u xs (j+1)=iH t u (AQ t u xs j) (co xs (xs.length-1-j)):=by
 unfold AQ;have hj:j<xs.reverse.length:=by rw[List.length_reverse];exact h
 rw[List.take_add_one,List.getElem?_eq_getElem hj,Option.toList_some,List.foldl_append];have e:xs.reverse[j]=co xs (xs.length-1-j):=by
  rw[List.getElem_reverse,bI (by lia)]
 rw[e];rfl
theorem AS(t u:Int)(xs:List Int):(AQ t u xs xs.length).1=hv t u xs:=by
 unfold AQ;rw[List.take_of_length_le (by rw[List.length_reverse];exact Nat.le_refl _),xi]
noncomputable def AU(t u:Int)(xs:List Int)(k:Nat):Int:=ax (fun i=>co xs i*(t^i*u^(xs.length-1-i))) k
theorem vm(t u:Int)(xs:List Int):AU t u xs xs.length=hv t u xs:=rfl
noncomputable def ir(t u x:Int)(k j:Nat):Int:=x*(t^(min k j)*u^(j-k))
theorem pk(t u x:Int)(k:Nat):ir t u x k 0=x:=by unfold ir;simp
theorem pq(t u x:Int)(k j:Nat):ir t u x k (j+1)=ir t u x k j*(if k<=j then u else t):=by
 unfold ir;by_cases h:k<=j
 ·rw[if_pos h,Nat.min_eq_left h,Nat.min_eq_left (by lia)];have e:j+1-k=j-k+1:=by lia
  rw[e,Int.pow_succ];grind
 ·rw[if_neg h,Nat.min_eq_right (by lia),Nat.min_eq_right (by lia)];have e1:j+1-k=0:=by lia
  have e2:j-k=0:=by lia
  rw[e1,e2,Int.pow_succ];grind
theorem yR(t u:Int)(xs:List Int)(k:Nat)(h:k<xs.length):ir t u (co xs k) k (xs.length-1)=co xs k*(t^k*u^(xs.length-1-k)):=by
 unfold ir;rw[Nat.min_eq_left (by lia)]
end SF
namespace L2
open PySem PySem.Spec PyProof.Rows
section
variable {X:Cx} {K:PySem.W.Frag} {pos:Pos}
theorem pA(h:X.K=K):gn X (.builtin "len") (fun xs H Q=>∃p ys,xs=[.ref p]/\(aM K H p ys\/cJ K H p ys)/\Q (.int ys.length) H):=by subst h;exact ay
theorem DG{es:List Expr}{k:Nat}{t:CW}{n:Nat}(hK:X.K=K)(hc:X.calm=true)(h:Ka X es t)(hn:(assignEach es X.env).length=n)(rT:(assignEach es X.env).findIdx? (·.1)=none):PG X (.Tuple es k pos) (GA K n t):=by subst hK;exact qh hc h hn rT
end
theorem sJ(F:Nat->Int)(n:Nat):SF.dX F (n+1)=SF.dX F n++[F n]:=by
 unfold SF.dX;rw[List.range_succ,List.map_append];rfl
theorem sL{α:Type}{r:List α}(h:r.length=1):∃x,r=[x]:=by
 match r,h with
 |[x],_=>exact⟨x,rfl⟩
theorem OW{α:Type}{r:List α}(h:r.length=2):∃x y,r=[x,y]:=by
 match r,h with
 |[x,y],_=>exact⟨x,y,rfl⟩
noncomputable abbrev kJ(J:It)(own:List Str)(fr:List Nat)(σ:St)(g:TG)(te:TE)(H1:Hp)(Q:VK):Prop:=
 ∀D,H1 D=none->∃W:Nat->Nat->St->Hp->Prop,(∃m,W 0 m (fZ own fr σ) (upd H1 D (.lst [])))/\∀i m eI H2,W i m eI H2->
  (J.stop i H2/\Q (.ref D) H2)\/(J.go i H2/\∀x H3,J.rV i H2 x H3->g x eI H3 fun da H4=>te da H4 fun y H5=>∃ys,H5 D=some (.lst ys)/\ys.length<sizeLine/\∃m',m'<m/\W (i+1) m' da (upd H5 D (.lst (ys++[y]))))
section
variable {K:PySem.W.Frag} {own:List Str} {fr:List Nat} {g:TG} {te:TE} {σ:St} {H1:Hp} {Q:VK}
theorem qA{xs:List Int}{n:Nat}{x:V}(h:(xs.map V.int)[n]?=some x):n<xs.length/\x=.int (SF.co xs n):=by
 have hn:n<xs.length:=by
  have:=(List.getElem?_eq_some_iff.mp h).1
  rwa [List.length_map] at this
 rw[List.getElem?_map,List.getElem?_eq_getElem hn] at h;rw[SF.bI hn];exact⟨hn,(Option.some.inj h).symm⟩
theorem fJ{a:Addr}{xs:List Int}(hS:aM K H1 a (xs.map V.int))(F:Nat->Int)(hz:xs.length<=1000)(hs:∀(i:Nat)(r:St)(H2:Hp),i<xs.length->r.length=own.length->av H1 H2->∀Z:V->St->Hp->Prop,(∀da H5,av H2 H5->(∃r':St,r'.length=own.length/\da=r'++rL fr σ)->Z (.int (F i)) da H5)->g (.int (SF.co xs i)) (r++rL fr σ) H2 fun da H4=>te da H4 fun y H5=>Z y da H5)(hq:∀D H2,H1 D=none->av H1 H2->H2 D=some (.lst ((SF.dX F xs.length).map V.int))->Q (.ref D) H2):kJ (rJ K a) own fr σ g te H1 Q:=
 pb hS (fun ys=>ys=(SF.dX F ys.length).map V.int) (cD (by rw[List.length_map];exact hz)) rfl
  (fun i x r ys H2 hx hr hl hp d_ Z hZ=>by
   obtain⟨hi,rfl⟩:=qA hx
   refine hs i r H2 hi hr d_ Z fun da H5 s e=>hZ _ da H5 s ?_ e
   subst hl
   rw[List.length_append]
   show ys++[V.int (F ys.length)]=(SF.dX F (ys.length+1)).map V.int
   rw[sJ,List.map_append,<-hp];rfl)
  (fun D H2 ys hD d_ h2 hl hp=>hq D H2 hD d_ (by rw[h2,hp,hl,List.length_map]))
theorem vn{a:Addr}{xs:List Int}(hS:aM K H1 a (xs.map V.int))(F:Nat->Int)(hz:xs.length<=1000)(hs:∀(i:Nat)(p:Addr)(r:St)(H2:Hp),i<xs.length->r.length=own.length->av H1 H2->H2 p=some (.tup [.int (i:Int),.int (SF.co xs i)])->
 ∀Z:V->St->Hp->Prop,(∀da H5,av H2 H5->(∃r':St,r'.length=own.length/\da=r'++rL fr σ)->Z (.int (F i)) da H5)->g (.ref p) (r++rL fr σ) H2 fun da H4=>te da H4 fun y H5=>Z y da H5)(hq:∀D H2,H1 D=none->av H1 H2->H2 D=some (.lst ((SF.dX F xs.length).map V.int))->Q (.ref D) H2):kJ (AB K a) own fr σ g te H1 Q:=
 yP hS (fun ys=>ys=(SF.dX F ys.length).map V.int) (cD (by rw[List.length_map];exact hz)) rfl
  (fun i x p r ys H2 hx hr hl hp d_ xk Z hZ=>by
   obtain⟨hi,rfl⟩:=qA hx
   refine hs i p r H2 hi hr d_ xk Z fun da H5 s e=>hZ _ da H5 s ?_ e
   subst hl
   rw[List.length_append]
   show ys++[V.int (F ys.length)]=(SF.dX F (ys.length+1)).map V.int
   rw[sJ,List.map_append,<-hp];rfl)
  (fun D H2 ys hD d_ h2 hl hp=>hq D H2 hD d_ (by rw[h2,hp,hl,List.length_map]))
theorem gR{σ:St}{H H1:Hp}{Q:VK}{own:List Str}{fr:List Nat}{wi:TI}{g:TG}{te:TE}(J:It)(h:∀R:It->Hp->Prop,R J H1->wi σ H R)(h2:kJ J own fr σ g te H1 Q):w8 own fr wi g te σ H Q:=h _ h2
end
end L2
namespace PySem
open Sem (wp)
namespace F
theorem yS:typeLookup (.type "list_reverseiterator") "__len__"=pure none:=by rw[typeLookup_type,builtinLookup_eq_fast];kernel_rfl
theorem AV:typeLookup (.type "list_reverseiterator") "__length_hint__"=pure (some (.builtin "list_reverseiterator.__length_hint__")):=by rw[typeLookup_type,builtinLookup_eq_fast];kernel_rfl
end F
section
variable {prog:Program} {w:World} {A:Around} {E:Value->Shared->Prop} {s:Shared}
theorem AW{I:Addr}{Q:Bool->Shared->Prop}(hT:s.TypeIs (.ref I) "list_reverseiterator")(h:Q false s):wpAny (model prog w) A (Builtin.List.listLengthHint (.ref I)) Q E s:=by
 unfold Builtin.List.listLengthHint;refine wpAny_bind (wpAny_specialOf hT F.yS ?_);show wpAny _ _ (specialOf (Value.ref I) (Str.ofString "__length_hint__") >>= _) _ _ _;refine wpAny_bind (wpAny_specialOf hT F.AV ?_)
 (generalize OX:("list_reverseiterator.__length_hint__":String)=Uw;wp_delta;rw[show splitId Uw=some ("list_reverseiterator","__length_hint__") from by subst OX;decide +kernel];subst OX)
 refine wpAny_bind (wpAny_isInstance (b:=true) hT (by rw[isSubtype_type];kernel_rfl) ?_);exact wpAny_pure h
theorem sM{I l:Addr}{items:Array Value}{Q:Value->Shared->Prop}(hh:A.handled=none)(hit:s.heap.IsRevIter I l ((items.size:Int)-1))(hl:s.heap.IsList l items)(dA:l≠I)(hn:items.size<=sizeLine)(hQ:∀h' tk lX c',(∀b o,b≠I->s.heap.get? b=some o->h'.get? b=some o)->h'.get? s.heap.objs.size=some {cls:=.type "list",dict:=none,data:=.seq lX c',slots:=#[]}->
 ItemsOf (fun i v=>items[items.size-1-i]?=some v) lX items.size->Q (.ref s.heap.objs.size) {s with heap:=h',toks:=tk}):
 wpAny (model prog w) A (call (.type "list") [.ref I]) Q E s:=by
 refine callType_codes (Q₁:=fun obj bR=>obj=.ref s.heap.objs.size/\bR={s with heap:=s.heap.push {cls:=.type "list",data:=.seq #[]}}) PySem.F.called_list (PySem.F.typeCall_list_1 _) PySem.F.entry_list_init
  (code_list_new _ ⟨rfl,rfl⟩) fun obj bR iu=>?_
 obtain⟨rfl,rfl⟩:=iu;have hS:(s.heap.push {cls:=.type "list",data:=.seq #[]}).get? s.heap.objs.size=some {cls:=.type "list",data:=.seq #[]}:=Heap.get?_push_size _ rfl;have hI:I<s.heap.objs.size:=let⟨_,e,_⟩:=hit;Heap.lt_size e;have eL:l<s.heap.objs.size:=let⟨_,e,_⟩:=hl;Heap.lt_size e;refine⟨⟨_,hS,rfl⟩,PySem.F.args_list_init_2 _ _,?_⟩;show wpAny _ _ (do let old<-Builtin.List.listItems (.ref s.heap.objs.size);Builtin.List.listUpdate (.ref s.heap.objs.size) (fun _=>#[]);letGo old.toList.reverse;Builtin.List.listExtendWith (.ref s.heap.objs.size) (.ref I) .none) _ _ _;generalize OY:s.heap.objs.size=S at hS ⊢;generalize K9:s.heap.push {cls:=.type "list",data:=.seq #[]}=h1 at hS ⊢;have k1:∀b o,s.heap.get? b=some o->h1.get? b=some o:=fun b o e=>by rw[<-K9];exact Heap.get?_push_of_some _ e
 refine wpAny_bind ?_;unfold Builtin.List.listItems;refine wpAny_bind (wpAny_seqItems hS rfl (wpAny_pure ?_));show wpAny _ _ (updateSeq S (fun _=>#[]) >>= fun _=>letGo (#[]:Array Value).toList.reverse >>= fun _=>Builtin.List.listExtendWith (.ref S) (.ref I) .none) _ _ _;refine wpAny_bind (wpAny_updateSeq hS rfl ?_);have Fj:=Heap.get?_update_self (Obj.mapSeq (fun _=>(#[]:Array Value))) hS rfl;have M9:∀b o,b≠S->h1.get? b=some o->(h1.update S (Obj.mapSeq (fun _=>(#[]:Array Value)))).get? b=some o:=
  fun b o hb e=>(Heap.get?_update_other _ _ (Ne.symm hb)).trans e
 refine wpAny_bind (wpAny_letGo ?_);have OZ:S≠I:=fun e=>by rw[<-e,<-OY] at hI;exact Nat.lt_irrefl _ hI
 have RI:S≠l:=fun e=>by rw[<-e,<-OY] at eL;exact Nat.lt_irrefl _ eL
 generalize XC:h1.update S (Obj.mapSeq (fun _=>(#[]:Array Value)))=h2 at Fj M9 ⊢;have DH:h2.IsRevIter I l ((items.size:Int)-1):=hit.at fun o e=>M9 _ _ OZ.symm (k1 _ _ e);have uP:h2.IsList l items:=hl.at fun o e=>M9 _ _ RI.symm (k1 _ _ e);have W:=Walks.listRev (prog:=prog) (w:=w) (A:=A.in1.in1) hh I l dA items;have e0:(items.size:Int)-1-((0:Nat):Int)=(items.size:Int)-1:=by lia
 have Ux:(0:Nat)<=items.size/\h2.IsRevIter I l ((items.size:Int)-1-((0:Nat):Int))/\h2.IsList l items:=by
  rw[e0];exact⟨Nat.zero_le _,DH,uP⟩
 unfold Builtin.List.listExtendWith;refine wpAny_bind (wpAny_typeOf (T:="list_reverseiterator") DH.typeIs ?_);have h3:Builtin.List.listSameRef (.ref S) (.ref I)=false:=by simp[Builtin.List.listSameRef,OZ]
 rw[if_neg (by rw[h3];decide)];refine wpAny_bind (wpAny_pyIter_revIter DH ?_);refine wpAny_bind (wpAny_holding (AW DH.typeIs ?_));rw[if_neg (by decide)];refine wpAny_pure ⟨plainId_quiet PySem.F.plain_extend_loop _,?_⟩;obtain⟨c3,Uy⟩:∃c,h2.get? S=some {cls:=.type "list",dict:=none,data:=.seq #[] c,slots:=#[]}:=⟨_,Fj⟩;refine codeAny_extend_loopS W.toS hn S (by simp only[List.mem_cons,List.not_mem_nil,or_false,not_or];exact⟨OZ,RI⟩) .none items.size 0 {s with heap:=h2} #[] c3 rfl (Nat.zero_le _) Ux Uy (ItemsOf.nil _) fun s' lX c' hm Uz DI=>?_;rw[Moved.eq_with hm];subst OY;refine⟨rfl,hQ s'.heap s'.toks lX c' (fun b o hb e=>hm.heap b o (fun jZ=>?_) (M9 b o ?_ (k1 b o e))) Uz DI⟩
 ·rcases List.mem_cons.mp jZ with e'|jZ
  ·have:=Heap.lt_size e;rw[e'] at this;exact Nat.lt_irrefl _ this
  ·exact hb (List.mem_singleton.mp jZ)
 ·intro z;have:=Heap.lt_size e;rw[z] at this;exact Nat.lt_irrefl _ this
theorem vo{l:Addr}{items:Array Value}{Q:Value->Shared->Prop}(hl:s.heap.IsList l items)(h:∀uY:Shared,uY={s with heap:=s.heap.push {cls:=.type "list_iterator",data:=.fields #[.ref l,.int 0 0]}}->
 (uY.heap.IsListIter s.heap.objs.size l 0/\uY.heap.IsList l items)->l≠s.heap.objs.size->Q (.ref s.heap.objs.size) uY):
 wpAny (model prog w) A (pyIter (.ref l)) Q E s:=by
 have eL:l<s.heap.objs.size:=by obtain⟨_,e,_⟩:=hl;exact Heap.lt_size e
 exact wpAny_pyIter_list hl (h _ rfl ⟨⟨_,Heap.get?_push_size _ rfl,rfl,rfl⟩,hl.push _⟩ (Nat.ne_of_lt eL))
end
end PySem
namespace L2
open PySem PySem.Spec PyProof.Rows
section
variable {X:Cx}
theorem yT(hc:X.calm=true):gn X (.builtin "any") (fun xs H Q=>∃(p:Addr)(ns:List Int),xs=[.ref p]/\aM X.K H p (ns.map V.int)/\Q (.bl (ns.any (·!=0))) H):=by
 intro pins s σ H xs us Q I r h;obtain⟨p,ns,rfl,hp,q⟩:=h;obtain⟨u,rfl,rx⟩:=vals1 r;cases rx;obtain⟨aK,rv,pl,hz⟩:=I.list hp;have hlen:=rv.length;rw[List.length_map] at hlen;refine call_any_walk (vo pl.isList fun uY e st UA=>?_);subst e;refine⟨_,_,_,_,_,_,fun i=>(ns.getD i 0)!=0,rfl,Walks.list (A:=X.A.in1) (I.ok.hd hc) _ p UA aK.toArray,st,?_,fun h' tk hk=>?_⟩
 ·intro i v s' Q' E' hv UB;have O0:aK[i]?=some v:=by simpa using hv
  have hi:i<aK.length:=(List.getElem?_eq_some_iff.mp O0).1;obtain⟨t,e⟩:=int_at rv (j:=i) (by lia) hi;rw[List.getElem?_eq_getElem hi,e] at O0;cases O0;have RJ:Q' (ns.getD i 0!=0) s':=UB;rw[List.getD_eq_getElem?_getD,List.getElem?_eq_getElem (by lia)] at RJ;exact truthy_int RJ
 ·have e:(List.range aK.toArray.size).any (fun i=>(ns.getD i 0)!=0)=ns.any (·!=0):=by
   rw[List.size_toArray,<-hlen,Bool.eq_iff_iff,List.any_eq_true,List.any_eq_true];constructor
   ·rintro⟨i,hi,h⟩;have hi:=List.mem_range.mp hi;rw[List.getD_eq_getElem?_getD,List.getElem?_eq_getElem hi] at h;exact⟨_,List.getElem_mem hi,h⟩
   ·rintro⟨x,hx,h⟩;obtain⟨i,hi,rfl⟩:=List.getElem_of_mem hx;refine⟨i,List.mem_range.mpr hi,?_⟩;rw[List.getD_eq_getElem?_getD,List.getElem?_eq_getElem hi];exact h
  rw[e];exact⟨.bl _,H,I.kept (old_kept hk),rfl,q⟩
theorem yU(hc:X.calm=true):gn X (.builtin "max") (fun xs H Q=>∃(p:Addr)(ns:List Int),xs=[.ref p]/\aM X.K H p (ns.map V.int)/\ns≠[]/\∀m,m∈ns->(∀x∈ns,x<=m)->Q (.int m) H):=by
 intro pins s σ H xs us Q I r h;obtain⟨p,ns,rfl,hp,dA,q⟩:=h;obtain⟨u,rfl,rx⟩:=vals1 r;cases rx;obtain⟨aK,rv,pl,hz⟩:=I.list hp;have hi:IntsAre aK ns:=intsAre_of rv;obtain⟨ys,e⟩:=hi.allInts.items;have zV:ns=ys.toList.map (·.1):=by
  rw[<-hi.numsOf,<-nums_intItems,<-e]
 have hsz:0<ys.size:=by
  have h3:=List.length_pos_iff.mpr dA;rw[zV,List.length_map,Array.length_toList] at h3;exact h3
 have Jr:s.heap.IsList p (intItems ys):=e▸pl.isList;refine max_intList (I.ok.hd hc) Jr hsz fun v h' tk hv hk=>?_;obtain⟨t,rfl⟩:=intItems_at hv;obtain⟨h1,h2⟩:=argBest_gt (numAt ys) (ys.size-1);refine⟨.int _,H,I.kept hk,⟨t,rfl⟩,q _ ?_ fun a ha=>?_⟩
 ·rw[zV,numAt_eq];exact getD_mem (by rw[List.length_map,Array.length_toList];lia)
 ·rw[zV] at ha;obtain⟨j,hj,rfl⟩:=mem_getD ha;rw[List.length_map,Array.length_toList] at hj;rw[<-numAt_eq];exact h2 j (by lia)
theorem sO:∀{xs:List V}{us:List Value},Vals xs us->Vals xs.reverse us.reverse
 |_,_,.nil=>.nil
 |_,_,.cons a b=>by
  rw[List.reverse_cons,List.reverse_cons];exact(sO b).append (.cons a .nil)
noncomputable def K_(K:PySem.W.Frag)(ta:TA):TE:=fun σ H Q=>ta σ H fun vs H1=>∃(p:Addr)(ys:List V),vs=[.ref p]/\aM K H1 p ys/\∀l,H1 l=none->Q (.ref l) (upd H1 l (.lst ys.reverse))
theorem DJ{a:Expr}{ta:TA}{p p' pos pos':Pos}(hc:X.calm=true)(hg:Gl X "reversed")(hm:X.mg "reversed"=none)(Dw:Gl X "list")(K':X.mg "list"=none)(ha:PA X [a] ta)(hs:starEach [a] X.env=[(false,eval a X.env)]:=by rfl)(xl:starEach [Expr.Call (.Name "reversed" p) [a] [] pos] X.env=[(false,eval (Expr.Call (.Name "reversed" p) [a] [] pos) X.env)]:=by rfl):
 PE X (.Call (.Name "list" p') [.Call (.Name "reversed" p) [a] [] pos] [] pos') (K_ X.K ta):=by
 intro pins s σ H Q I h;refine wpAny_Call_Name_kw (gH I Dw K' boot_list ?_);refine PyProof.Rows.callWith_type1 ?_ xl rfl;rw[xl];show wpAny _ _ (spliced [(false,eval (Expr.Call (.Name "reversed" p) [a] [] pos) X.env)]) _ _ _;refine Calls.spliced_cons ?_;refine Call_ (gH I hg hm boot_reversed (PyProof.Rows.callWith_type1 (c_ (ha pos pins s σ H _ I h) fun us s1 q1=>?_) hs rfl));obtain⟨vs,H1,I1,r1,l,ys,rfl,hq,q⟩:=q1;obtain⟨u,rfl,rx⟩:=vals1 r1;cases rx;obtain⟨aK,rv,pl,hz⟩:=I1.list hq;have hlen:=rv.length;refine call_reversed_list pl.isList ?_;refine Calls.spliced_nil ?_;have eL:l<s1.heap.objs.size:=by obtain⟨_,e,_⟩:=pl.isList;exact Heap.lt_size e
 have Az:aK.toArray.size<=sizeLine:=by rw[List.size_toArray];lia
 refine sM (items:=aK.toArray) (I.ok.hd hc) ⟨_,Heap.get?_push_size _ rfl,rfl,rfl⟩ (pl.isList.push _) (Nat.ne_of_lt eL) Az fun h' tk lX c' hk hS DI=>?_;have CZ:∀b o,s1.heap.get? b=some o->h'.get? b=some o:=fun b o e=>hk b o (Nat.ne_of_lt (Heap.lt_size e)) (Heap.get?_push_of_some _ e);have hsz:s1.heap.objs.size<=(s1.heap.push (revObj l ((aK.toArray.size:Int)-1))).objs.size:=by rw[Heap.size_push];lia
 have Fl:lX.size=aK.toArray.size:=DI.1;have rr:Vals ys.reverse lX.toList:=by
  have e:lX.toList=aK.reverse:=by
   refine List.ext_getElem ?_ fun i h1 h2=>?_
   ·rw[Array.length_toList,Fl,List.size_toArray,List.length_reverse]
   ·have h3:i<lX.size:=by simpa using h1
    have:=DI.2 i lX[i] (by simp[h3]);have h4:aK.toArray.size-1-i<aK.length:=by rw[List.size_toArray];rw[Fl,List.size_toArray] at h3;lia
    have h5:aK[aK.toArray.size-1-i]?=some lX[i]:=by simpa using this
    rw[List.getElem?_eq_getElem h4] at h5;rw[List.getElem_reverse];simp only[Array.getElem_toList];rw[<-Option.some.inj h5];simp
  rw[e];exact sO rv
 refine⟨.ref _,_,I1.laid (t':=tk) CZ hsz (show cI X.prog X.w _ h' _ (.lst ys.reverse) from⟨by rw[List.length_reverse];exact hz,lX.toList,c',rr,by rw[Array.toArray_toList];exact hS⟩),rfl,q _ (I1.bO.fresh hsz)⟩
end
end L2
namespace L2
open PySem PySem.Spec PyProof.Rows
structure Dv(X:Cx):Prop where
 tree:X.prog.given.tree=none
 top:∃(env:Env)(l:List Env),X.stack=env::l/\env.scope.isGenerator=false/\env.scope.isCoroutine=false/\env.builtins=builtinsNs/\env.globals=mainGlobals
 dp:X.A.depth+100<recursionLimit
theorem fi.py{k:Nat}{A:Around}(r:fi (k+32) A):A.depth+100<recursionLimit:=by have:=r.dp;lia
theorem fK{X:Cx}(h:Dv X):kC X (binaryOp .FloorDiv) (rI (fun _ j=>j≠0) fun i j=>.int (i.fdiv j)):=by
 intro pins s σ H x y v u Q I rx ry hh;obtain⟨i,j,rfl,rfl,hc,q⟩:=hh;obtain⟨t,rfl⟩:=rx;obtain⟨t',rfl⟩:=ry;obtain⟨env,l,e,h1,h2,h3,h4⟩:=h.top;refine floordiv_int hc ?_ (.inr (PySem.PylongRoom.of I.nolimit h.dp (PySem.SeerAt.of (I.ok.mod.seer.keeps I.bk) h.tree (by rw[I.ok.frames,e]) h1 h2 h3 h4)));exact⟨.int (i.fdiv j),H,I.tok _,⟨_,rfl⟩,q⟩
end L2
namespace L2
open PySem PySem.Spec PyProof.Rows
section
variable {X:Cx}
theorem iI:∀{xs ys:List Int},xs.map V.int=ys.map V.int->xs=ys
 |[],[],_=>rfl
 |[],_::_,h=>by simp at h
 |_::_,[],h=>by simp at h
 |x::xs,y::ys,h=>by
  rw[List.map_cons,List.map_cons] at h;injection h with h1 h2;injection h1 with h1;rw[h1,iI h2]
theorem sP{pins:List (Addr×Obj)}{s:Shared}{σ:St}{H:Hp}{p q:Addr}{xs ys:List Int}{A:Around}(hu:A.units<cLine)(I:Inv X pins σ H s)(hp:aM X.K H p (xs.map V.int))(hq:aM X.K H q (ys.map V.int)):
 SeqAt.EqAt A s (.ref p) (.ref q) (decide (xs=ys)):=by
 by_cases e:p=q
 ·subst e;have e2:xs=ys:=iI (I.iA hp hq);subst e2;rw[decide_eq_true rfl];exact SeqAt.EqAt.same _
 ·obtain⟨aK,r,pl,hz⟩:=I.list hp;obtain⟨jT,r2,oE,Az⟩:=I.list hq;have l1:=r.length;have l2:=r2.length;rw[List.length_map] at l1 l2;refine SeqAt.EqAt.of_refs e ?_;by_cases hl:xs.length=ys.length
  ·have z:=SeqAt.RcAt.lists (A:=A) (e:=fun j=>xs.getD j 0==ys.getD j 0) pl.isList oE.isList (by simp only[List.size_toArray];lia) hu (fun j h1 h2=>by
    simp only[List.size_toArray] at h1 h2
    obtain⟨t,e1⟩:=int_at r (j:=j) (by lia) h1
    obtain⟨t',e2⟩:=int_at r2 (j:=j) (by lia) h2
    have z:SeqAt.EqAt A.in1 s aK[j] jT[j] (xs[j]==ys[j]):=by rw[e1,e2];exact SeqAt.EqAt.int_int _ _ _ _
    rw[List.getD_eq_getElem?_getD,List.getD_eq_getElem?_getD,List.getElem?_eq_getElem (show j<xs.length by lia),List.getElem?_eq_getElem (show j<ys.length by lia)]
    simpa using z);have e3:(List.range aK.toArray.size).all (fun j=>xs.getD j 0==ys.getD j 0)=decide (xs=ys):=by
    rw[<-Ay xs ys hl,l1,List.size_toArray]
   rw[e3] at z;exact z
  ·have e3:decide (xs=ys)=false:=decide_eq_false fun z=>hl (by rw[z]);rw[e3];exact SeqAt.RcAt.lists_lengths (A:=A) pl.isList oE.isList (by simp only[List.size_toArray,bne_iff_ne,ne_eq];lia) hu
theorem AX{as:List Addr}{aK:List Value}(r:Vals (as.map V.ref) aK){j:Nat}(h:j<as.length)(h':j<aK.length):aK[j]=Value.ref as[j]:=by
 have e:(as.map V.ref)[j]?=some (V.ref as[j]):=by rw[List.getElem?_map,List.getElem?_eq_getElem h]<;>rfl
 obtain⟨u,hu,hr⟩:=r.get e;rw[List.getElem?_eq_getElem h'] at hu;have G8:u=Value.ref as[j]:=hr;rw[<-G8];exact Option.some.inj hu
noncomputable def DK(K:PySem.W.Frag):R2:=fun x y H Q=>∃(p l:Addr)(xs:List Int)(as:List Addr)(ps:List (List Int)),x=.ref p/\y=.ref l/\aM K H p (xs.map V.int)/\aM K H l (as.map V.ref)/\as.length=ps.length/\
 (∀(i:Nat)(a:Addr)(q:List Int),as[i]?=some a->ps[i]?=some q->aM K H a (q.map V.int))/\Q (.bl (decide (xs∉ps))) H
open Classical in
theorem yV(hu:X.A.units+64<cLine):kC X (compareOp .NotIn) (DK X.K):=by
 intro pins s σ H x y v u Q I rx ry h;obtain⟨p,l,xs,as,ps,rfl,rfl,hp,hl,hlen,jU,q⟩:=h;cases rx;cases ry;obtain⟨aK,r,pl,hz⟩:=I.list hl;have l1:=r.length;rw[List.length_map] at l1;refine SeqAt.notIn_listAt (fun y=>decide (∃(i:Nat)(a:Addr),y=Value.ref a/\as[i]?=some a/\ps[i]?=some xs)) pl.isList (fun y hy=>?_) ?_
 ·have Ol:y∈aK:=by simpa using hy
  obtain⟨i,hi,e⟩:=List.getElem_of_mem Ol;have Hf:i<as.length:=by lia
  have e2:=AX r Hf hi;rw[<-e,e2];have RK:i<ps.length:=by lia
  have h1:=jU i as[i] ps[i] (List.getElem?_eq_getElem Hf) (List.getElem?_eq_getElem RK);have z:=sP (A:=X.A.in1) (by show X.A.units+1<cLine;lia) I h1 hp;have e3:decide (∃(j:Nat)(a:Addr),Value.ref as[i]=Value.ref a/\as[j]?=some a/\ps[j]?=some xs)=decide (ps[i]=xs):=by
   rw[decide_eq_decide];constructor
   ·rintro⟨j,a,ea,e4,e5⟩;injection ea with ea;subst ea;have h2:=jU j as[i] xs e4 e5;exact iI (I.iA h1 h2)
   ·intro e4;exact⟨i,as[i],rfl,List.getElem?_eq_getElem Hf,by rw[List.getElem?_eq_getElem RK,e4]⟩
  rw[e3];exact z
 ·have e3:(!(aK.toArray.any fun y=>decide (∃(i:Nat)(a:Addr),y=Value.ref a/\as[i]?=some a/\ps[i]?=some xs)))=decide (xs∉ps):=by
   rw[Bool.eq_iff_iff,Bool.not_eq_true',decide_eq_true_eq,<-Array.any_toList,List.any_eq_false];constructor
   ·intro hn hm;obtain⟨i,hi,e⟩:=List.getElem_of_mem hm;have Hf:i<as.length:=by lia
    have hit:i<aK.length:=by rw[<-l1];exact Hf
    have h2:=hn (aK[i]'hit) (List.getElem_mem hit);refine h2 (decide_eq_true ?_);exact⟨i,as[i],AX r Hf hit,List.getElem?_eq_getElem Hf,by rw[List.getElem?_eq_getElem hi,e]⟩
   ·intro hn y _ hy;obtain⟨i,a,_,_,e5⟩:=of_decide_eq_true hy;exact hn (List.mem_of_getElem? e5)
  rw[e3];exact⟨.bl _,H,I,rfl,q⟩
end
end L2
namespace L2
open PySem PySem.Spec PyProof.Rows
inductive kK:List Expr->List Int->Prop
 |nil:kK [] []
 |pos {n:Int} {j:Nat} {p:Pos} {es:List Expr} {ns:List Int} (h:kK es ns):kK (.Constant (.int n) j p::es) (n::ns)
 |neg {n:Int} {j:Nat} {p p':Pos} {es:List Expr} {ns:List Int} (h:kK es ns):kK (.UnaryOp .USub (.Constant (.int n) j p) p'::es) (-n::ns)
noncomputable def AY(ns:List Int):TA:=fun _ H Q=>Q (ns.map V.int) H
theorem mv{X:Cx}:∀{es:List Expr}{ns:List Int},kK es ns->PA X es (AY ns)
 |_,_,.nil=>fun pos pins s σ H Q I h=>af pos pins s σ H Q I h
 |_,_,.pos h=>fun pos pins s σ H Q I q=>aa ah (mv h) rfl pos pins s σ H Q I q
 |_,_,.neg h=>fun pos pins s σ H Q I q=>aa (dH cC ah) (mv h) rfl pos pins s σ H Q I ⟨_,rfl,q⟩
end L2
namespace L2
open PySem PySem.Spec PyProof.Rows
section
variable {X:Cx}
noncomputable def O1(K:PySem.W.Frag):R2:=fun x y H Q=>∃(p q:Addr)(a b c d:Int),x=.ref p/\y=.ref q/\cJ K H p [.int a,.int b]/\cJ K H q [.int c,.int d]/\Q (.bl (a==c&&b==d)) H
noncomputable def O2(K:PySem.W.Frag):R2:=fun x y H Q=>∃(p q:Addr)(a b c d:Int),x=.ref p/\y=.ref q/\cJ K H p [.int a,.int b]/\cJ K H q [.int c,.int d]/\Q (.bl (!(a==c&&b==d))) H
theorem Hg(hu:X.A.units<cLine):kC X (compareOp .Eq) (O1 X.K):=by
 intro pins s σ H x y v u Q I rx ry h;obtain⟨p,q,a,b,c,d,rfl,rfl,hp,hq,h⟩:=h;cases rx;cases ry;obtain⟨aK,r,pl,hz⟩:=I.tuple hp;obtain⟨jT,r2,oE,Az⟩:=I.tuple hq;obtain⟨u1,u2,rfl,⟨t1,rfl⟩,⟨t2,rfl⟩⟩:=vals2 r;obtain⟨w1,w2,rfl,⟨t3,rfl⟩,⟨t4,rfl⟩⟩:=vals2 r2;have z:=SeqAt.RcAt.tuples (A:=X.A) (s:=s) (e:=fun j=>if j=0 then a==c else b==d) pl oE hu (fun j h1 h2=>by
  match j,h1,h2 with
  |0,_,_=>exact SeqAt.EqAt.int_int _ _ _ _
  |1,_,_=>exact SeqAt.EqAt.int_int _ _ _ _
  |j+2,h1,_=>exact absurd h1 (by simp));refine z X.prog X.w X.xe _ ?_;have e3:((List.range (min [Value.int a t1,Value.int b t2].toArray.size [Value.int c t3,Value.int d t4].toArray.size)).all (fun j=>if j=0 then a==c else b==d)&&[Value.int a t1,Value.int b t2].toArray.size==[Value.int c t3,Value.int d t4].toArray.size)=(a==c&&b==d):=by
  show(((a==c)&&((b==d)&&true))&&true)=_;cases (a==c)<;>cases (b==d)<;>rfl
 rw[e3];exact⟨.bl _,H,I,rfl,h⟩
theorem Hi(hu:X.A.units<cLine):kC X (compareOp .NotEq) (O2 X.K):=by
 intro pins s σ H x y v u Q I rx ry h;obtain⟨p,q,a,b,c,d,rfl,rfl,hp,hq,h⟩:=h;cases rx;cases ry;obtain⟨aK,r,pl,hz⟩:=I.tuple hp;obtain⟨jT,r2,oE,Az⟩:=I.tuple hq;obtain⟨u1,u2,rfl,⟨t1,rfl⟩,⟨t2,rfl⟩⟩:=vals2 r;obtain⟨w1,w2,rfl,⟨t3,rfl⟩,⟨t4,rfl⟩⟩:=vals2 r2;have z:=SeqAt.RcNeAt.tuples (A:=X.A) (s:=s) (e:=fun j=>if j=0 then a==c else b==d) pl oE hu (fun j h1 h2=>by
  match j,h1,h2 with
  |0,_,_=>exact SeqAt.EqAt.int_int _ _ _ _
  |1,_,_=>exact SeqAt.EqAt.int_int _ _ _ _
  |j+2,h1,_=>exact absurd h1 (by simp));refine z X.prog X.w X.xe _ ?_;have e3:(!((List.range (min [Value.int a t1,Value.int b t2].toArray.size [Value.int c t3,Value.int d t4].toArray.size)).all (fun j=>if j=0 then a==c else b==d)&&[Value.int a t1,Value.int b t2].toArray.size==[Value.int c t3,Value.int d t4].toArray.size))=!(a==c&&b==d):=by
  show(!(((a==c)&&((b==d)&&true))&&true))=_;cases (a==c)<;>cases (b==d)<;>rfl
 rw[e3];exact⟨.bl _,H,I,rfl,h⟩
end
theorem Hj{c:Bool}{i j:Nat}{D:Ends}{σ:St}{H:Hp}{v u:V}(hv:σ[i]?=some (some v))(hw:σ[j]?=some (some u))(h:∀x:V,(c=true/\x=v)\/(c=false/\x=u)->D.nx (σ.set j (some x)) H):
 if c=true then yA (Dh i) (mQ j) D σ H else Ae D σ H:=by
 cases c with
 |true=>
  rw[if_pos rfl];exact⟨v,hv,h v (.inl ⟨rfl,rfl⟩)⟩
 |false=>
  rw[if_neg (by decide)];have e:σ.set j (some u)=σ:=by
   apply List.ext_getElem?;intro n;rw[List.getElem?_set];split
   ·rename_i hn;subst hn;split
    ·exact hw.symm
    ·rename_i hn;rw[List.getElem?_eq_none (by lia)] at hw;cases hw
   ·rfl
  have:=h u (.inr ⟨rfl,rfl⟩);rw[e] at this;exact this
end L2
namespace L2
open PySem PySem.Spec PyProof.Rows
section
variable {X:Cx}
theorem sQ{pins:List (Addr×Obj)}{s:Shared}{σ:St}{H:Hp}{p q:Addr}{a b:Int}{A:Around}(hu:A.units<cLine)(I:Inv X pins σ H s)(hp:cJ X.K H p [.int a,.int b])(hq:cJ X.K H q [.int a,.int b]):SeqAt.EqAt A s (.ref p) (.ref q) true:=by
 by_cases e:p=q
 ·subst e;exact SeqAt.EqAt.same _
 ·obtain⟨aK,r,pl,hz⟩:=I.tuple hp;obtain⟨jT,r2,oE,Az⟩:=I.tuple hq;obtain⟨u1,u2,rfl,⟨t1,rfl⟩,⟨t2,rfl⟩⟩:=vals2 r;obtain⟨w1,w2,rfl,⟨t3,rfl⟩,⟨t4,rfl⟩⟩:=vals2 r2;refine SeqAt.EqAt.of_refs e ?_;have z:=SeqAt.RcAt.tuples (A:=A) (s:=s) (e:=fun j=>true) pl oE hu (fun j h1 h2=>by
   match j,h1,h2 with
   |0,_,_=>have:=SeqAt.EqAt.int_int (A:=A.in1) (s:=s) a t1 a t3;rw[beq_self_eq_true] at this;exact this
   |1,_,_=>have:=SeqAt.EqAt.int_int (A:=A.in1) (s:=s) b t2 b t4;rw[beq_self_eq_true] at this;exact this
   |j+2,h1,_=>exact absurd h1 (by simp));exact z
theorem AZ{pins:List (Addr×Obj)}{s:Shared}{σ:St}{H:Hp}{p q:Addr}{a b c d:Int}{A:Around}(hu:A.units<cLine)(I:Inv X pins σ H s)(e:p≠q)(hp:cJ X.K H p [.int a,.int b])(hq:cJ X.K H q [.int c,.int d]):SeqAt.EqAt A s (.ref p) (.ref q) (a==c&&b==d):=by
 obtain⟨aK,r,pl,hz⟩:=I.tuple hp;obtain⟨jT,r2,oE,Az⟩:=I.tuple hq;obtain⟨u1,u2,rfl,⟨t1,rfl⟩,⟨t2,rfl⟩⟩:=vals2 r;obtain⟨w1,w2,rfl,⟨t3,rfl⟩,⟨t4,rfl⟩⟩:=vals2 r2;refine SeqAt.EqAt.of_refs e ?_;have z:=SeqAt.RcAt.tuples (A:=A) (s:=s) (e:=fun j=>if j=0 then a==c else b==d) pl oE hu (fun j h1 h2=>by
  match j,h1,h2 with
  |0,_,_=>exact SeqAt.EqAt.int_int _ _ _ _
  |1,_,_=>exact SeqAt.EqAt.int_int _ _ _ _
  |j+2,h1,_=>exact absurd h1 (by simp));have e3:((List.range (min [Value.int a t1,Value.int b t2].toArray.size [Value.int c t3,Value.int d t4].toArray.size)).all (fun j=>if j=0 then a==c else b==d)&&[Value.int a t1,Value.int b t2].toArray.size==[Value.int c t3,Value.int d t4].toArray.size)=(a==c&&b==d):=by
  show(((a==c)&&((b==d)&&true))&&true)=_;cases (a==c)<;>cases (b==d)<;>rfl
 rw[e3] at z;exact z
structure Js(K:PySem.W.Frag)(H:Hp)(p g h:Addr)(a b c d:Int):Prop where
 p:cJ K H p [.ref g,.ref h]
 g:cJ K H g [.int a,.int b]
 h:cJ K H h [.int c,.int d]
noncomputable def O3(K:PySem.W.Frag):R2:=fun x y H Q=>∃(p q g h g' h':Addr)(a b c d a' b' c' d':Int),x=.ref p/\y=.ref q/\Js K H p g h a b c d/\Js K H q g' h' a' b' c' d'/\g≠g'/\h≠h'/\Q (.bl ((a==a'&&b==b')&&(c==c'&&d==d'))) H
theorem Hk(hu:X.A.units+64<cLine):kC X (compareOp .Eq) (O3 X.K):=by
 intro pins s σ H x y v u Q I rx ry h;obtain⟨p,q,g,h1,g',Hl,a,b,c,d,a',b',c',d',rfl,rfl,S,S',n1,n2,h⟩:=h;cases rx;cases ry;obtain⟨aK,r,pl,hz⟩:=I.tuple S.p;obtain⟨jT,r2,oE,Az⟩:=I.tuple S'.p;obtain⟨u1,u2,rfl,k1,k2⟩:=vals2 r;obtain⟨w1,w2,rfl,k3,k4⟩:=vals2 r2;cases k1;cases k2;cases k3;cases k4;have Hm:X.A.in1.units<cLine:=by show X.A.units+1<cLine;lia
 generalize hx:(a==a'&&b==b')=x1 at h;generalize hy:(c==c'&&d==d')=y1 at h;have z:=SeqAt.RcAt.tuples (A:=X.A) (s:=s) (e:=fun j=>if j=0 then x1 else y1) pl oE (by lia) (fun j h1 h2=>by
  match j,h1,h2 with
  |0,_,_=>have:=AZ Hm I n1 S.g S'.g;rw[hx] at this;exact this
  |1,_,_=>have:=AZ Hm I n2 S.h S'.h;rw[hy] at this;exact this
  |j+2,h1,_=>exact absurd h1 (by simp));refine z X.prog X.w X.xe _ ?_;have e3:((List.range (min [Value.ref g,Value.ref h1].toArray.size [Value.ref g',Value.ref Hl].toArray.size)).all (fun j=>if j=0 then x1 else y1)&&[Value.ref g,Value.ref h1].toArray.size==[Value.ref g',Value.ref Hl].toArray.size)=(x1&&y1):=by
  show((x1&&(y1&&true))&&true)=_;cases x1<;>cases y1<;>rfl
 rw[e3];exact⟨.bl _,H,I,rfl,h⟩
theorem A0{pins:List (Addr×Obj)}{s:Shared}{σ:St}{H:Hp}{p q g h g' h':Addr}{a b c d:Int}{A:Around}(hu:A.units+1<cLine)(I:Inv X pins σ H s)(S:Js X.K H p g h a b c d)(S':Js X.K H q g' h' a b c d):SeqAt.EqAt A s (.ref p) (.ref q) true:=by
 by_cases e:p=q
 ·subst e;exact SeqAt.EqAt.same _
 ·obtain⟨aK,r,pl,hz⟩:=I.tuple S.p;obtain⟨jT,r2,oE,Az⟩:=I.tuple S'.p;obtain⟨u1,u2,rfl,k1,k2⟩:=vals2 r;obtain⟨w1,w2,rfl,k3,k4⟩:=vals2 r2;cases k1;cases k2;cases k3;cases k4;refine SeqAt.EqAt.of_refs e ?_;have Hm:A.in1.units<cLine:=hu;have z:=SeqAt.RcAt.tuples (A:=A) (s:=s) (e:=fun j=>true) pl oE (by lia) (fun j h1 h2=>by
   match j,h1,h2 with
   |0,_,_=>exact sQ Hm I S.g S'.g
   |1,_,_=>exact sQ Hm I S.h S'.h
   |j+2,h1,_=>exact absurd h1 (by simp));exact z
noncomputable def O4(K:PySem.W.Frag):R2:=fun x y H Q=>∃(l b:Addr)(ps qs:List Addr),x=.ref l/\y=.ref b/\aM K H l (ps.map V.ref)/\aM K H b (qs.map V.ref)/\ps.length=qs.length/\
 (∀(j:Nat)(p q:Addr),ps[j]?=some p->qs[j]?=some q->∃(g h g' h':Addr)(a b c d:Int),Js K H p g h a b c d/\Js K H q g' h' a b c d)/\Q (.bl false) H
theorem xm{ps:List Addr}{aK:List Value}(r:Vals (ps.map V.ref) aK){j:Nat}(h:j<ps.length)(h':j<aK.length):aK[j]=Value.ref ps[j]:=by
 have e:(ps.map V.ref)[j]?=some (V.ref ps[j]):=by rw[List.getElem?_map,List.getElem?_eq_getElem h]<;>rfl
 obtain⟨u,hu,k⟩:=r.get e;rw[List.getElem?_eq_getElem h'] at hu;rw[Option.some.inj hu];cases k;rfl
theorem Hn(hu:X.A.units+64<cLine):kC X (compareOp .NotEq) (O4 X.K):=by
 intro pins s σ H x y v u Q I rx ry h;obtain⟨l,b,ps,qs,rfl,rfl,hl,hb,len,hk,h⟩:=h;cases rx;cases ry;obtain⟨aK,r,pl,hz⟩:=I.list hl;obtain⟨jT,r2,oE,Az⟩:=I.list hb;have l1:=r.length;have l2:=r2.length;rw[List.length_map] at l1 l2;have Hm:X.A.in1.units+1<cLine:=by show X.A.units+1+1<cLine;lia
 have z:=SeqAt.RcNeAt.lists (A:=X.A) (s:=s) (e:=fun _=>true) pl.isList oE.isList (by simp only[List.size_toArray];lia) (by lia) (fun j h1 h2=>by
  simp only[List.size_toArray] at h1 h2
  obtain⟨g,h',g',KY,a,b,c,d,S,S'⟩:=hk j ps[j] qs[j] (List.getElem?_eq_getElem _) (List.getElem?_eq_getElem _)
  have z:=A0 Hm I S S'
  rw[<-xm r (by lia) h1,<-xm r2 (by lia) h2] at z
  simpa using z);refine z X.prog X.w X.xe _ ?_;have e3:(!((List.range aK.toArray.size).all fun _=>true))=false:=by simp
 rw[e3];exact⟨.bl false,H,I,rfl,h⟩
end
end L2
namespace SF
open Lean.Grind
structure Po where
 s:PS Int
 fin:∃n,∀i,n<=i->s.c i=0
namespace Po
theorem inj{f g:Po}(h:f.s=g.s):f=g:=by cases f;cases g;cases h;rfl
noncomputable def c(f:Po)(i:Nat):Int:=f.s.c i
theorem ext{f g:Po}(h:∀i,f.c i=g.c i):f=g:=inj (PS.ext h)
theorem La(a:Int):∃n,∀i,n<=i->(PS.C a).c i=0:=⟨1,fun i hi=>by rw[PS.mY,if_neg (by lia)]⟩
noncomputable def K(a:Int):Po:=⟨PS.C a,La a⟩
theorem DL(f g:Po):∃n,∀i,n<=i->(f.s+g.s).c i=0:=by
 obtain⟨a,ha⟩:=f.fin;obtain⟨b,hb⟩:=g.fin;exact⟨max a b,fun i hi=>by rw[PS.mX,ha i (by lia),hb i (by lia)];rfl⟩
theorem DM(f g:Po):∃n,∀i,n<=i->(f.s-g.s).c i=0:=by
 obtain⟨a,ha⟩:=f.fin;obtain⟨b,hb⟩:=g.fin;exact⟨max a b,fun i hi=>by rw[PS.Hb,ha i (by lia),hb i (by lia)];rfl⟩
theorem DN(f:Po):∃n,∀i,n<=i->(-f.s).c i=0:=by
 obtain⟨a,ha⟩:=f.fin;exact⟨a,fun i hi=>by rw[PS.AH,ha i hi];rfl⟩
theorem DO(f g:Po):∃n,∀i,n<=i->(f.s*g.s).c i=0:=by
 obtain⟨a,ha⟩:=f.fin;obtain⟨b,hb⟩:=g.fin;refine⟨a+b,fun n hn=>?_⟩;rw[PS.dc];refine bJ fun i hi=>?_;by_cases h:i<a
 ·rw[hb (n-i) (by lia)];grind
 ·rw[ha i (by lia)];grind
noncomputable instance instAdd:Add Po:=⟨fun f g=>⟨f.s+g.s,DL f g⟩⟩
noncomputable instance instMul:Mul Po:=⟨fun f g=>⟨f.s*g.s,DO f g⟩⟩
noncomputable instance instNeg:Neg Po:=⟨fun f=>⟨-f.s,DN f⟩⟩
noncomputable instance instSub:Sub Po:=⟨fun f g=>⟨f.s-g.s,DM f g⟩⟩
noncomputable instance instNatCast:NatCast Po:=⟨fun n=>K (n:Int)⟩
noncomputable instance instIntCast:IntCast Po:=⟨fun n=>K n⟩
noncomputable instance instOfNat(n:Nat):OfNat Po n:=⟨K ((n:Nat):Int)⟩
noncomputable def Lb(f:Po):Nat->Po
 |0=>K 1
 |n+1=>Lb f n*f
noncomputable instance instHPow:HPow Po Nat Po:=⟨Lb⟩
noncomputable instance gr:SMul Nat Po:=⟨fun n f=>K (n:Int)*f⟩
noncomputable instance gu:SMul Int Po:=⟨fun n f=>K n*f⟩
theorem Fm:(PS.C (1:Int))=1:=rfl
theorem xn:(PS.C (0:Int))=0:=rfl
noncomputable instance instCommRing:CommRing Po where
 natCast:=instNatCast
 ofNat:=instOfNat
 nsmul:=gr
 npow:=instHPow
 intCast:=instIntCast
 zsmul:=gu
 add_zero f:=inj (by show f.s+PS.C 0=f.s;rw[xn];grind)
 add_comm f g:=inj (by show f.s+g.s=g.s+f.s;grind)
 add_assoc f g h:=inj (by show f.s+g.s+h.s=f.s+(g.s+h.s);grind)
 mul_assoc f g h:=inj (by show f.s*g.s*h.s=f.s*(g.s*h.s);grind)
 mul_one f:=inj (by show f.s*PS.C 1=f.s;rw[Fm];grind)
 one_mul f:=inj (by show PS.C 1*f.s=f.s;rw[Fm];grind)
 right_distrib f g h:=inj (by show(f.s+g.s)*h.s=f.s*h.s+g.s*h.s;grind)
 left_distrib f g h:=inj (by show f.s*(g.s+h.s)=f.s*g.s+f.s*h.s;grind)
 zero_mul f:=inj (by show PS.C 0*f.s=PS.C 0;rw[xn];grind)
 mul_zero f:=inj (by show f.s*PS.C 0=PS.C 0;rw[xn];grind)
 pow_zero f:=rfl
 pow_succ f n:=rfl
 ofNat_succ n:=inj (by show PS.C (((n+1:Nat)):Int)=PS.C ((n:Nat):Int)+PS.C ((1:Nat):Int);rw[<-PS.AI];rfl)
 ofNat_eq_natCast n:=rfl
 nsmul_eq_natCast_mul n f:=rfl
 neg_add_cancel f:=inj (by show -f.s+f.s=PS.C 0;rw[xn];grind)
 sub_eq_add_neg f g:=inj (by show f.s-g.s=f.s+-g.s;grind)
 neg_zsmul n f:=inj (by show PS.C (-n)*f.s=-(PS.C n*f.s);rw[PS.w_];grind)
 zsmul_natCast_eq_nsmul n f:=rfl
 intCast_ofNat n:=rfl
 intCast_neg n:=inj (by show PS.C (-n)=-PS.C n;rw[PS.w_])
 mul_comm f g:=inj (PS.mul_comm f.s g.s)
theorem xo(a b:Int):K (a+b)=K a+K b:=inj (PS.AI a b)
theorem A1(a:Int):K (-a)=-K a:=inj (PS.w_ a)
theorem bN:K 1=1:=rfl
theorem cE:K 0=0:=rfl
theorem dP(i:Nat):(0:Po).c i=0:=PS.gq i
theorem m_(i:Nat):(1:Po).c i=if i=0 then 1 else 0:=PS.mY 1 i
theorem vp(a:Int)(i:Nat):(K a).c i=if i=0 then a else 0:=PS.mY a i
theorem jt(f g:Po)(i:Nat):(f+g).c i=f.c i+g.c i:=rfl
theorem fT(f g:Po)(i:Nat):(f-g).c i=f.c i-g.c i:=rfl
theorem Fn(f:Po)(i:Nat):(-f).c i=-f.c i:=rfl
theorem sR(f g:Po)(n:Nat):(f*g).c n=ax (fun i=>f.c i*g.c (n-i)) (n+1):=rfl
theorem aV(a:Int)(f:Po)(n:Nat):(K a*f).c n=a*f.c n:=PS.lH a f.s n
theorem bF(a b:Int):K (a*b)=K a*K b:=ext fun i=>by
 rw[aV,vp,vp];split<;>grind
theorem Ho(xs:List Int):∃n,∀i,n<=i->(se xs).c i=0:=⟨xs.length,fun i hi=>cw hi⟩
noncomputable def ao(xs:List Int):Po:=⟨se xs,Ho xs⟩
theorem aX(xs:List Int)(i:Nat):(ao xs).c i=co xs i:=rfl
theorem vq(f:Po):∃xs:List Int,Tr xs/\co xs=f.c:=by
 obtain⟨n,hn⟩:=f.fin;refine⟨dw (dX f.c n),gv _,?_⟩
 funext i
 rw[fH,mq (f:=f.c) hn]
noncomputable def lst(f:Po):List Int:=Classical.choose (vq f)
theorem gS(f:Po):Tr (lst f):=(Classical.choose_spec (vq f)).1
theorem iJ(f:Po):co (lst f)=f.c:=(Classical.choose_spec (vq f)).2
noncomputable def len(f:Po):Nat:=(lst f).length
theorem cR(f:Po):ao (lst f)=f:=ext fun i=>by rw[aX,iJ]
theorem qB{xs:List Int}(h:Tr xs):lst (ao xs)=xs:=(gS _).inj h fun i=>by rw[iJ];rfl
theorem aU{xs:List Int}(h:Tr xs):len (ao xs)=xs.length:=by unfold len;rw[qB h]
theorem gT{xs ys:List Int}(hx:Tr xs)(hy:Tr ys)(h:ao xs=ao ys):xs=ys:=by rw[<-qB hx,h,qB hy]
theorem cH:ao []=0:=ext fun i=>by rw[aX,dP];rfl
theorem j3(xs ys:List Int):ao (mulL xs ys)=ao xs*ao ys:=ext fun i=>by rw[aX,mr];rfl
theorem A2(xs:List Int):ao (dw xs)=ao xs:=ext fun i=>by rw[aX,aX,fH]
theorem dQ{f:Po}{i:Nat}(h:len f<=i):f.c i=0:=by rw[<-iJ];exact cw h
theorem lead{f:Po}(h:0<len f):f.c (len f-1)≠0:=by
 rw[<-iJ];exact(gS f).last (List.length_pos_iff.mp h)
theorem cy{f:Po}{n:Nat}(h:∀i,n<=i->f.c i=0):len f<=n:=by
 rcases Nat.lt_or_ge n (len f) with hl|hl
 ·exact absurd (h (len f-1) (by lia)) (lead (by lia))
 ·exact hl
theorem len_eq{f:Po}{n:Nat}(h:∀i,n<=i->f.c i=0)(h0:f.c (n-1)≠0)(hp:0<n):len f=n:=by
 have h1:=cy h;rcases Nat.lt_or_ge (len f) n with hl|hl
 ·exact absurd (dQ (f:=f) (i:=n-1) (by lia)) h0
 ·lia
theorem fe:len (0:Po)=0:=Nat.le_zero.mp (cy fun i _=>dP i)
theorem mw{f:Po}(h:len f=0):f=0:=ext fun i=>by rw[dP];exact dQ (by lia)
theorem len_pos{f:Po}(h:f≠0):0<len f:=Nat.pos_of_ne_zero fun z=>h (mw z)
theorem a_{f:Po}(h:0<len f):f≠0:=by rintro rfl;rw[fe] at h;lia
theorem qC(f g:Po):len (f+g)<=max (len f) (len g):=cy fun i hi=>by
 rw[jt,dQ (by lia),dQ (by lia)];rfl
theorem len_sub(f g:Po):len (f-g)<=max (len f) (len g):=cy fun i hi=>by
 rw[fT,dQ (by lia),dQ (by lia)];rfl
theorem len_K{a:Int}(h:a≠0):len (K a)=1:=len_eq (fun i hi=>by rw[vp,if_neg (by lia)]) (by rw[vp,if_pos rfl];exact h) (by decide)
theorem sS(a:Int):len (K a)<=1:=cy fun i hi=>by rw[vp,if_neg (by lia)]
theorem bW{f:Po}(h:len f<=1):f=K (f.c 0):=ext fun i=>by
 rw[vp];split
 ·rename_i e;rw[e]
 ·exact dQ (by lia)
theorem Lc{a b:Int}(h:K a=K b):a=b:=by
 have:=congrArg (fun f=>f.c 0) h;simpa[vp] using this
theorem jq{a:Int}(h:a≠0):K a≠0:=fun e=>h (Lc (e.trans cE.symm))
theorem len_mul{f g:Po}(hf:f≠0)(hg:g≠0):len (f*g)+1=len f+len g:=by
 have h1:=len_pos hf;have h2:=len_pos hg;have e:(f*g).c=(se (lst f)*se (lst g)).c:=by
  rw[<-mr]
  conv=>lhs;rw[<-cR f,<-cR g,<-j3]
  rfl
 have h3:len (f*g)=len f+len g-1:=by
  refine len_eq (fun i hi=>?_) ?_ (by lia)
  ·rw[e];refine sE ?_;show len f+len g<=i+1;lia
  ·rw[e];have:=m5 (xs:=lst f) (ys:=lst g) (List.length_pos_iff.mp h1) (List.length_pos_iff.mp h2);have e2:len f+len g-1-1=(lst f).length+(lst g).length-2:=by show _=len f+len g-2;lia
   rw[e2,this];exact Int.mul_ne_zero ((gS f).last (List.length_pos_iff.mp h1)) ((gS g).last (List.length_pos_iff.mp h2))
 lia
theorem nc{f g:Po}(hf:f≠0)(hg:g≠0):(f*g).c (len (f*g)-1)=f.c (len f-1)*g.c (len g-1):=by
 have h1:=len_pos hf;have h2:=len_pos hg;have h3:=len_mul hf hg;have e:(f*g).c=(se (lst f)*se (lst g)).c:=by
  rw[<-mr]
  conv=>lhs;rw[<-cR f,<-cR g,<-j3]
  rfl
 have:=m5 (xs:=lst f) (ys:=lst g) (List.length_pos_iff.mp h1) (List.length_pos_iff.mp h2);have e2:len (f*g)-1=(lst f).length+(lst g).length-2:=by show _=len f+len g-2;lia
 rw[e,e2,this,iJ,iJ];rfl
theorem dy{f g:Po}(hf:f≠0)(hg:g≠0):f*g≠0:=by
 have h1:=len_pos hf;have h2:=len_pos hg;have h3:=len_mul hf hg;exact a_ (by lia)
theorem mul_eq_zero{f g:Po}(h:f*g=0):f=0\/g=0:=by
 by_cases hf:f=0
 ·exact .inl hf
 ·by_cases hg:g=0
  ·exact .inr hg
  ·exact absurd h (dy hf hg)
theorem cancel{f g h:Po}(hf:f≠0)(e:f*g=f*h):g=h:=by
 have:f*(g-h)=0:=by grind
 rcases mul_eq_zero this with z|z
 ·exact absurd z hf
 ·grind
theorem fL{a:Int}(h:a≠0)(f:Po):len (K a*f)=len f:=by
 by_cases hf:f=0
 ·rw[hf];have:K a*(0:Po)=0:=by grind
  rw[this]
 ·have:=len_mul (jq h) hf;rw[len_K h] at this;lia
theorem qD{f g:Po}(h:f*g≠0):f≠0:=by rintro rfl;exact h (by grind)
theorem gx{f g:Po}(h:f*g≠0):g≠0:=by rintro rfl;exact h (by grind)
noncomputable def X(n:Nat):Po:=⟨⟨fun i=>if i=n then 1 else 0⟩,n+1,fun i hi=>if_neg (by lia)⟩
theorem xp(n i:Nat):(X n).c i=if i=n then 1 else 0:=rfl
theorem eW(n:Nat)(f:Po)(i:Nat):(X n*f).c i=if i<n then 0 else f.c (i-n):=by
 rw[sR];split
 ·rename_i h;refine bJ fun j hj=>?_;rw[xp,if_neg (by lia)];grind
 ·rename_i h;have e:i+1=n+(1+(i-n)):=by lia
  rw[e,bK,bK];rw[bJ (n:=n) (fun j hj=>by rw[xp,if_neg (by lia)];grind)];rw[bJ (n:=i-n) (fun j hj=>by rw[xp,if_neg (by lia)];grind)];show 0+((0+(X n).c (n+0)*f.c (i-(n+0)))+0)=_;rw[xp,if_pos (Nat.add_zero n),Nat.add_zero];grind
theorem qE:X 0=1:=ext fun i=>by rw[xp,m_]
noncomputable def D(f g:Po):Prop:=∃a:Int,a≠0/\∃q,K a*g=f*q
theorem D.refl(f:Po):D f f:=⟨1,by decide,1,by rw[bN];grind⟩
theorem D.mul(f g:Po):D f (f*g):=⟨1,by decide,g,by rw[bN];grind⟩
theorem D.zero(f:Po):D f 0:=⟨1,by decide,0,by grind⟩
theorem D.trans{f g h:Po}(h1:D f g)(h2:D g h):D f h:=by
 obtain⟨a,ha,q,e⟩:=h1;obtain⟨b,hb,r,e2⟩:=h2;exact⟨a*b,Int.mul_ne_zero ha hb,q*r,by rw[bF];grind⟩
theorem D.add{f g h:Po}(h1:D f g)(h2:D f h):D f (g+h):=by
 obtain⟨a,ha,q,e⟩:=h1;obtain⟨b,hb,r,e2⟩:=h2;exact⟨a*b,Int.mul_ne_zero ha hb,K b*q+K a*r,by rw[bF];grind⟩
theorem D.mulR{f g:Po}(h:D f g)(u:Po):D f (g*u):=by
 obtain⟨a,ha,q,e⟩:=h;exact⟨a,ha,q*u,by grind⟩
theorem D.mulL{f g:Po}(h:D f g)(u:Po):D f (u*g):=by
 obtain⟨a,ha,q,e⟩:=h;exact⟨a,ha,q*u,by grind⟩
theorem D.neg{f g:Po}(h:D f g):D f (-g):=by
 obtain⟨a,ha,q,e⟩:=h;exact⟨a,ha,-q,by grind⟩
theorem D.sub{f g h:Po}(h1:D f g)(h2:D f h):D f (g-h):=by
 have:=h1.add h2.neg;have e:g-h=g+-h:=by grind
 rw[e];exact this
theorem D.xq{f g:Po}{a:Int}(ha:a≠0)(h:D f (K a*g)):D f g:=by
 obtain⟨b,hb,q,e⟩:=h;exact⟨b*a,Int.mul_ne_zero hb ha,q,by rw[bF];grind⟩
theorem D.UC{f:Po}{a:Int}(ha:a≠0):D (K a) f:=⟨a,ha,f,rfl⟩
theorem D.Kl{f g:Po}{a:Int}(ha:a≠0)(h:D f g):D (K a*f) g:=by
 obtain⟨b,hb,q,e⟩:=h;exact⟨a*b,Int.mul_ne_zero ha hb,q,by rw[bF];grind⟩
theorem D.ne{f g:Po}(h:D f g)(hg:g≠0):f≠0:=by
 obtain⟨a,ha,q,e⟩:=h;rintro rfl;exact dy (jq ha) hg (by rw[e];grind)
theorem D.len{f g:Po}(h:D f g)(hg:g≠0):len f<=len g:=by
 have hf:=h.ne hg;obtain⟨a,ha,q,e⟩:=h;have hq:q≠0:=by
  rintro rfl;exact dy (jq ha) hg (by rw[e];grind)
 have h1:=len_mul hf hq;rw[<-e,fL ha] at h1;have:=len_pos hq;lia
theorem D.ng{f g:Po}(h:D f g)(hg:g≠0)(hl:Po.len g<=Po.len f):D g f:=by
 have hf:=h.ne hg;obtain⟨a,ha,q,e⟩:=h;have hq:q≠0:=by
  rintro rfl;exact dy (jq ha) hg (by rw[e];grind)
 have h1:=len_mul hf hq;rw[<-e,fL ha] at h1;have h2:Po.len q<=1:=by lia
 have e2:=bW h2;have hb:q.c 0≠0:=by
  intro z;rw[z,cE] at e2;exact hq e2
 refine⟨q.c 0,hb,K a,?_⟩;rw[<-e2];grind
theorem D.cancel{f g h:Po}(hh:h≠0)(e:D (h*f) (h*g)):D f g:=by
 obtain⟨a,ha,q,e⟩:=e;refine⟨a,ha,q,Po.cancel hh ?_⟩;grind
theorem D.Hq{f g h:Po}(e:D f g):D (h*f) (h*g):=by
 obtain⟨a,ha,q,e⟩:=e;exact⟨a,ha,q,by grind⟩
theorem D.const{f g:Po}(hf:f≠0)(hl:Po.len f<=1):D f g:=by
 have e:=bW hl;have hb:f.c 0≠0:=by
  intro z;rw[z,cE] at e;exact hf e
 rw[e];exact D.UC hb
theorem Ld{g:Po}(hg:g≠0):∀(n:Nat)(f:Po),len f<=n->∃a q r,a≠0/\K a*f=g*q+r/\len r<len g
 |0,f,h=>⟨1,0,f,by decide,by rw[bN];grind,by have:=len_pos hg;lia⟩
 |n+1,f,h=>by
  have Le:=len_pos hg;by_cases hl:len f<len g
  ·exact⟨1,0,f,by decide,by rw[bN];grind,hl⟩
  have XD:0<len f:=by lia
  let b:=g.c (len g-1);let d:=f.c (len f-1);let t:=K d*X (len f-len g);have hb:b≠0:=lead Le;have hx:∀i,(t*g).c i=d*(if i<len f-len g then 0 else g.c (i-(len f-len g))):=fun i=>by
   have e:t*g=K d*(X (len f-len g)*g):=by show K d*X (len f-len g)*g=_;grind
   rw[e,aV,eW]
  have h2:len (K b*f-t*g)<=n:=cy fun i hi=>by
   rw[fT,aV,hx];rw[if_neg (by lia)];by_cases he:i=len f-1
   ·have e2:i-(len f-len g)=len g-1:=by lia
    rw[e2,he];show b*d-d*b=0;grind
   ·rw[dQ (f:=f) (by lia),dQ (f:=g) (by lia)];grind
  obtain⟨a,q,r,ha,e,hr⟩:=Ld hg n _ h2;exact⟨a*b,q+K a*t,r,Int.mul_ne_zero ha hb,by rw[bF];grind,hr⟩
theorem qF:∀(n:Nat)(f g:Po),len g<=n->(f≠0\/g≠0)->∃h u v,h≠0/\u*f+v*g=h/\D h f/\D h g
 |0,f,g,hn,h0=>by
  have hg:g=0:=mw (by lia);have hf:f≠0:=h0.resolve_right fun z=>z hg;exact⟨f,1,0,hf,by grind,D.refl f,by rw[hg];exact D.zero f⟩
 |n+1,f,g,hn,h0=>by
  by_cases hg:g=0
  ·exact qF 0 f g (by rw[hg,fe];exact Nat.le_refl _) h0
  obtain⟨a,q,r,ha,e,hr⟩:=Ld hg _ f (Nat.le_refl _);obtain⟨h,u,v,hh,eb,d1,d2⟩:=qF n g r (by lia) (.inl hg);refine⟨h,v*K a,u-v*q,hh,by grind,?_,d1⟩;refine D.xq ha ?_;rw[e];exact(d1.mulR q).add d2
end Po
end SF
namespace SF
open Lean.Grind
noncomputable def Fo(p:Nat):Prop:=2<=p/\∀d,d∣p->d=1\/d=p
theorem Fo.dvd{p:Nat}(h:Fo p){a b:Int}(hd:(p:Int)∣a*b):(p:Int)∣a\/(p:Int)∣b:=by
 by_cases ha:(p:Int)∣a
 ·exact .inl ha
 refine .inr ?_;have h1:p∣a.natAbs*b.natAbs:=by
  have:=Int.natAbs_dvd_natAbs.mpr hd
  rwa [Int.natAbs_mul,Int.natAbs_natCast] at this
 have hg:Nat.gcd p a.natAbs=1:=by
  rcases h.2 _ (Nat.gcd_dvd_left p a.natAbs) with e|e
  ·exact e
  ·exact absurd (Int.ofNat_dvd_left.mpr (by rw[<-e];exact Nat.gcd_dvd_right ..)) ha
 exact Int.ofNat_dvd_left.mpr (Nat.Coprime.dvd_of_dvd_mul_left hg h1)
theorem Fo.ex:∀(n m:Nat),m<=n->2<=m->∃p,Fo p/\p∣m
 |0,m,h,h2=>by lia
 |n+1,m,h,h2=>by
  by_cases hp:∀d,d∣m->d=1\/d=m
  ·exact⟨m,⟨h2,hp⟩,Nat.dvd_refl m⟩
  ·obtain⟨d,hd⟩:=Classical.not_forall.mp hp;obtain⟨DP,hd2⟩:=Classical.not_imp.mp hd;rw[_root_.not_or] at hd2;have hle:=Nat.le_of_dvd (by lia) DP;have h0:d≠0:=by
    rintro rfl;have:=Nat.eq_zero_of_zero_dvd DP;lia
   obtain⟨p,hp,Fp⟩:=Fo.ex n d (by lia) (by lia);exact⟨p,hp,Nat.dvd_trans Fp DP⟩
theorem least{P:Nat->Prop}:∀(n:Nat),¬P n->∃i,¬P i/\∀j,j<i->P j:=by
 intro n
 induction n using Nat.strongRecOn with
 |_ n ih=>
  intro h;by_cases hx:∀j,j<n->P j
  ·exact⟨n,h,hx⟩
  ·obtain⟨j,hj⟩:=Classical.not_forall.mp hx;obtain⟨h1,h2⟩:=Classical.not_imp.mp hj;exact ih j h1 h2
theorem j4{p:Int}{f:Nat->Int}:∀{n:Nat},(∀i,i<n->p∣f i)->p∣ax f n
 |0,_=>Int.dvd_zero p
 |n+1,h=>Int.dvd_add (j4 fun i hi=>h i (by lia)) (h n (by lia))
namespace Po
noncomputable def Pr(f:Po):Prop:=∀p:Nat,(∀i,(p:Int)∣f.c i)->p=1
theorem Pr.ne{f:Po}(h:Pr f):f≠0:=by
 rintro rfl;have:=h 2 fun i=>by rw[dP];exact Int.dvd_zero _
 lia
theorem lI{p:Nat}(hp:Fo p){f q:Po}(h:∀i,(p:Int)∣(f*q).c i):(∀i,(p:Int)∣f.c i)\/(∀i,(p:Int)∣q.c i):=by
 by_cases h1:∀i,(p:Int)∣f.c i
 ·exact .inl h1
 by_cases h2:∀i,(p:Int)∣q.c i
 ·exact .inr h2
 exfalso;obtain⟨i0,OO⟩:=Classical.not_forall.mp h1;obtain⟨j0,UD⟩:=Classical.not_forall.mp h2;obtain⟨i,hi,UE⟩:=least (P:=fun i=>(p:Int)∣f.c i) i0 OO;obtain⟨j,hj,UG⟩:=least (P:=fun i=>(p:Int)∣q.c i) j0 UD;have:=h (i+j);rw[sR] at this;have e:i+j+1=i+(1+j):=by lia
 rw[e,bK,bK] at this;have d1:(p:Int)∣ax (fun s=>f.c s*q.c (i+j-s)) i:=j4 fun s hs=>Int.dvd_mul_of_dvd_left (UE s hs);have d2:(p:Int)∣ax (fun s=>f.c (i+(1+s))*q.c (i+j-(i+(1+s)))) j:=j4 fun s hs=>Int.dvd_mul_of_dvd_right (UG _ (by lia));have d3:=(Int.dvd_add_right d1).mp this;have d4:=(Int.dvd_add_left d2).mp d3;have d5:(p:Int)∣f.c i*q.c j:=by
  have e2:ax (fun s=>f.c (i+s)*q.c (i+j-(i+s))) 1=f.c i*q.c j:=by
   show 0+f.c (i+0)*q.c (i+j-(i+0))=_;rw[Nat.add_zero,Nat.add_sub_cancel_left];grind
  rw[<-e2];exact d4
 rcases hp.dvd d5 with z|z
 ·exact hi z
 ·exact hj z
theorem over{f:Po}{p:Int}(h:∀i,p∣f.c i):∃g,f=K p*g:=by
 refine⟨⟨⟨fun i=>f.c i/p⟩,?_⟩,?_⟩
 ·obtain⟨n,hn⟩:=f.fin;exact⟨n,fun i hi=>by show f.c i/p=0;rw[show f.c i=0 from hn i hi];simp⟩
 ·refine ext fun i=>?_;rw[aV];exact(Int.mul_ediv_cancel' (h i)).symm
theorem Fq{f:Po}(hf:Pr f):∀(n:Nat)(a:Int)(g q:Po),a.natAbs<=n->a≠0->K a*g=f*q->∃q',q=K a*q'
 |0,a,g,q,hn,h0,e=>by lia
 |n+1,a,g,q,hn,h0,e=>by
  by_cases h1:a.natAbs=1
  ·refine⟨K a*q,?_⟩;have e2:a*a=1:=by
    rcases Int.natAbs_eq a with z|z<;>rw[h1] at z<;>rw[z]<;>rfl
   have:K a*(K a*q)=K (a*a)*q:=by rw[bF];grind
   rw[this,e2,bN];grind
  obtain⟨p,hp,hd⟩:=Fo.ex _ a.natAbs (Nat.le_refl _) (by lia);have CV:(p:Int)∣a:=Int.ofNat_dvd_left.mpr hd;obtain⟨b,rfl⟩:=CV;have hb:b≠0:=by rintro rfl;exact h0 (by simp)
  have pB:(p:Int)≠0:=by have:=hp.1;lia
  have jU:∀i,(p:Int)∣(f*q).c i:=fun i=>by
   rw[<-e,aV,Int.mul_assoc];exact Int.dvd_mul_right ..
  rcases lI hp jU with z|z
  ·have:=hf p z;have:=hp.1;lia
  obtain⟨q1,rfl⟩:=over z;have e1:K b*g=f*q1:=by
   refine Po.cancel (jq pB) ?_;rw[bF] at e;grind
  have eL:b.natAbs<=n:=by
   have h2:=hp.1;rw[Int.natAbs_mul,Int.natAbs_natCast] at hn;have h3:0<b.natAbs:=by lia
   have h4:2*b.natAbs<=p*b.natAbs:=Nat.mul_le_mul_right _ h2;lia
  obtain⟨q2,rfl⟩:=Fq hf n b g q1 eL hb e1;exact⟨q2,by rw[bF];grind⟩
theorem Pr.div{f g:Po}(hf:Pr f)(h:D f g):∃q,g=f*q:=by
 obtain⟨a,ha,q,e⟩:=h;obtain⟨q',rfl⟩:=Fq hf _ a g q (Nat.le_refl _) ha e;refine⟨q',Po.cancel (jq ha) ?_⟩;grind
theorem Pr.Hr{f g:Po}(h:Pr (f*g)):Pr g:=fun p hp=>h p fun i=>by
 rw[sR];exact j4 fun s _=>Int.dvd_mul_of_dvd_right (hp _)
theorem Pr.same{f g:Po}(hf:Pr f)(hg:Pr g)(h1:D f g)(h2:D g f)(l1:0<f.c (len f-1))(l2:0<g.c (len g-1)):f=g:=by
 obtain⟨q,e⟩:=hf.div h1;have Lf:=h1.len hg.ne;have uP:=h2.len hf.ne;have hq:q≠0:=by rintro rfl;exact hg.ne (by rw[e];grind)
 have UH:=len_mul hf.ne hq;rw[<-e] at UH;have hc:=bW (f:=q) (by lia);have hd:∀i,q.c 0∣g.c i:=fun i=>by
  have e2:g=K (q.c 0)*f:=by rw[<-hc,e];grind
  rw[e2,aV];exact Int.dvd_mul_right ..
 have h3:(q.c 0).natAbs=1:=hg _ fun i=>Int.natAbs_dvd.mpr (hd i);have hle:len f=len g:=by lia
 have e3:g.c (len g-1)=q.c 0*f.c (len f-1):=by
  have e2:g=K (q.c 0)*f:=by rw[<-hc,e];grind
  have:=congrArg (fun z:Po=>z.c (len g-1)) e2;have e4:g.c (len g-1)=(K (q.c 0)*f).c (len g-1):=this;rw[e4,aV,hle]
 have h4:q.c 0=1:=by
  rcases Int.natAbs_eq (q.c 0) with z|z
  ·rw[z,h3];rfl
  ·rw[h3] at z;rw[z] at e3;lia
 rw[e,hc,h4,bN];grind
theorem DQ(f:Po):∃n,∀i,n<=i->(PS.aR f.s).c i=0:=by
 obtain⟨n,hn⟩:=f.fin;exact⟨n,fun i hi=>by rw[PS.mZ,hn (i+1) (by lia)];grind⟩
noncomputable def aR(f:Po):Po:=⟨PS.aR f.s,DQ f⟩
theorem j5(f:Po)(i:Nat):(aR f).c i=((i+1:Nat):Int)*f.c (i+1):=rfl
theorem gM(f g:Po):aR (f*g)=aR f*g+f*aR g:=inj (PS.gM f.s g.s)
theorem sT(a:Int)(f:Po):aR (K a*f)=K a*aR f:=ext fun i=>by
 rw[j5,aV,aV,j5];grind
theorem xr(f:Po):len (aR f)=len f-1:=by
 by_cases h:len f<=1
 ·have:len (aR f)<=0:=cy fun i _=>by rw[j5,dQ (by lia)];grind
  lia
 ·refine len_eq (fun i hi=>by rw[j5,dQ (by lia)];grind) ?_ (by lia);rw[j5];have e:len f-1-1+1=len f-1:=by lia
  rw[e];exact Int.mul_ne_zero (by lia) (lead (by lia))
theorem eC(xs:List Int):ao (bT xs)=aR (ao xs):=ext fun i=>by
 rw[aX,jV];rfl
theorem gy(f:Po):f^0=1:=rfl
theorem pow_succ'(f:Po)(n:Nat):f^(n+1)=f^n*f:=rfl
theorem vt{f:Po}(h:f≠0):∀n:Nat,f^n≠0
 |0=>by rw[gy,<-bN];exact jq (by decide)
 |n+1=>by rw[pow_succ'];exact dy (vt h n) h
theorem xt(f:Po):∀n:Nat,aR (f^(n+1))=K ((n+1:Nat):Int)*(f^n*aR f)
 |0=>by
  have e:f^(0+1)=f:=by rw[pow_succ',gy];grind
  rw[e,gy];show _=K 1*_;rw[bN];grind
 |n+1=>by
  rw[pow_succ',gM,xt f n];have e:K ((n+1+1:Nat):Int)=K ((n+1:Nat):Int)+1:=by
   rw[<-bN,<-xo];rfl
  rw[e,pow_succ'];grind
noncomputable def jy(p:Po):Prop:=2<=len p/\∀d,D d p->len d<=1\/len p<=len d
theorem jy.ne{p:Po}(h:jy p):p≠0:=a_ (by have:=h.1;lia)
theorem jy.prime{p f g:Po}(hp:jy p)(h:D p (f*g)):D p f\/D p g:=by
 obtain⟨h,u,v,hh,e,d1,d2⟩:=qF _ p f (Nat.le_refl _) (.inl hp.ne);rcases hp.2 h d1 with z|z
 ·refine .inr ?_;have hc:=bW z;have h0:h.c 0≠0:=fun z=>hh (by rw[hc,z,cE]);refine D.xq h0 ?_;rw[<-hc,<-e];have e2:(u*p+v*f)*g=p*(u*g)+(f*g)*v:=by grind
  rw[e2];exact(D.mul p _).add (D.mulR (by assumption) v)
 ·exact .inl ((d1.ng hp.ne z).trans d2)
theorem jy.ex:∀(n:Nat)(f:Po),len f<=n->2<=len f->∃p,jy p/\D p f
 |0,f,h,h2=>by lia
 |n+1,f,h,h2=>by
  by_cases hp:∀d,D d f->len d<=1\/len f<=len d
  ·exact⟨f,⟨h2,hp⟩,D.refl f⟩
  ·obtain⟨d,hd⟩:=Classical.not_forall.mp hp;obtain⟨DP,hd2⟩:=Classical.not_imp.mp hd;rw[_root_.not_or] at hd2;obtain⟨p,hp,Fp⟩:=jy.ex n d (by lia) (by lia);exact⟨p,hp,Fp.trans DP⟩
theorem jy.aR{p:Po}(hp:jy p):¬D p (aR p):=fun h=>by
 have h1:=hp.1;have h2:=xr p;have:=h.len (a_ (by lia));lia
theorem jy.mult{p:Po}(hp:jy p):∀(n:Nat)(f:Po),len f<=n->f≠0->∃(e:Nat)(u:Po)(a:Int),a≠0/\K a*f=p^e*u/\¬D p u
 |0,f,h,h0=>absurd (mw (by lia)) h0
 |n+1,f,h,h0=>by
  by_cases hd:D p f
  ·obtain⟨a,ha,q,e⟩:=hd;have hq:q≠0:=gx (f:=p) (by rw[<-e];exact dy (jq ha) h0);have h1:=len_mul hp.ne hq;rw[<-e,fL ha] at h1;have h2:=hp.1;obtain⟨k,u,b,hb,e2,hu⟩:=jy.mult hp n q (by lia) hq;refine⟨k+1,u,b*a,Int.mul_ne_zero hb ha,?_,hu⟩;rw[bF,pow_succ'];grind
  ·exact⟨0,f,1,by decide,by rw[bN,gy],hd⟩
theorem DR{f h p u v:Po}{a:Int}(hf:f≠0)(e1:u*f+v*aR f=h)(d1:D h f)(d2:D h (aR f))(ha:a≠0)(e:K a*f=h*p){π:Po}(hp:jy π):
 (D π p↔D π f)/\¬D (π*π) p:=by
 have O5:D p f:=⟨a,ha,h,by grind⟩;have hh:h≠0:=qD (g:=p) (by rw[<-e];exact dy (jq ha) hf);by_cases hd:D π f
 ·obtain⟨k,w,b,hb,ew,hw⟩:=hp.mult _ f (Nat.le_refl _) hf;have hk:k≠0:=by
   rintro rfl;refine hw ?_;have:w=K b*f:=by rw[ew,gy];grind
   rw[this];exact hd.mulL _
  obtain⟨k,rfl⟩:=Nat.exists_eq_succ_of_ne_zero hk;have ed:K b*aR f=π^k*(K ((k+1:Nat):Int)*(aR π*w)+π*aR w):=by
   rw[<-sT,ew,gM,xt,pow_succ'];grind
  have dk:D (π^k) h:=by
   rw[<-e1];refine D.add (D.mulL ⟨b,hb,π*w,?_⟩ u) (D.mulL ⟨b,hb,_,ed⟩ v);rw[ew,pow_succ'];grind
  have UI:¬D (π^(k+1)) h:=fun z=>by
   have z2:=z.trans d2;have z3:D (π^k*π) (π^k*(K ((k+1:Nat):Int)*(aR π*w)+π*aR w)):=by
    rw[<-ed,<-pow_succ'];exact z2.mulL _
   have z4:=D.cancel (vt hp.ne k) z3;have z5:D π (K ((k+1:Nat):Int)*(aR π*w)):=by
    have:=z4.sub (D.mul π (aR w));have e2:K ((k+1:Nat):Int)*(aR π*w)+π*aR w-π*aR w=K ((k+1:Nat):Int)*(aR π*w):=by grind
    rw[e2] at this;exact this
   rcases hp.prime (D.xq (by lia) z5) with z6|z6
   ·exact hp.aR z6
   ·exact hw z6
  obtain⟨b2,Fs,w2,RL⟩:=dk;have UJ:¬D π w2:=fun z=>UI (by
   refine D.xq Fs ?_
   rw[RL,pow_succ'];exact z.Hq);have em:K (b2*a)*(π*w)=K b*(w2*p):=by
   refine Po.cancel (vt hp.ne k) ?_;have e2:π^k*π*w=K b*f:=by rw[ew,pow_succ']
   have e3:π^k*w2=K b2*h:=RL.symm;rw[bF];have e4:π^k*(K b2*K a*(π*w))=K b2*K a*(π^k*π*w):=by grind
   have e5:π^k*(K b*(w2*p))=K b*p*(π^k*w2):=by grind
   rw[e4,e5,e2,e3];grind
  have pC:b2*a≠0:=Int.mul_ne_zero Fs ha;constructor
  ·refine⟨fun z=>z.trans O5,fun _=>?_⟩;have z1:D π (w2*p):=by
    refine D.xq hb ?_;rw[<-em];exact(D.mul π w).mulL _
   rcases hp.prime z1 with z|z
   ·exact absurd z UJ
   ·exact z
  ·rintro⟨c,hc,t,et⟩;refine hw ⟨b2*a*c,Int.mul_ne_zero pC hc,K b*(w2*t),Po.cancel hp.ne ?_⟩;have e6:π*(K (b2*a*c)*w)=K c*(K (b2*a)*(π*w)):=by rw[bF];grind
   rw[e6,em];grind
 ·refine⟨⟨fun z=>z.trans O5,fun z=>absurd z hd⟩,fun z=>hd ?_⟩;have:D π (π*π):=D.mul π π;exact(this.trans z).trans O5
theorem vw:∀(n:Nat)(p q:Po),len p<=n->p≠0->(∀π,jy π->¬D (π*π) p)->(∀π,jy π->D π p->D π q)->D p q
 |0,p,q,h,h0,_,_=>absurd (mw (by lia)) h0
 |n+1,p,q,h,h0,hs,hd=>by
  by_cases hl:len p<=1
  ·exact D.const h0 hl
  obtain⟨π,hp,Fp⟩:=jy.ex _ p (Nat.le_refl _) (by lia);have dq:=hd π hp Fp;obtain⟨a,ha,p1,e⟩:=Fp;have h1:p1≠0:=gx (f:=π) (by rw[<-e];exact dy (jq ha) h0);have Lf:=len_mul hp.ne h1;rw[<-e,fL ha] at Lf;have uP:=hp.1;have RM:D p1 p:=⟨a,ha,π,by grind⟩;have UK:¬D π p1:=fun z=>hs π hp (by
   refine D.xq ha ?_
   rw[e];exact z.Hq);have UL:=vw n p1 q (by lia) h1 (fun τ ht z=>hs τ ht (z.trans RM)) (fun τ ht z=>hd τ ht (z.trans RM));obtain⟨b,hb,t,et⟩:=UL;have z1:D π (p1*t):=by rw[<-et];exact dq.mulL _
  rcases hp.prime z1 with z|z
  ·exact absurd z UK
  obtain⟨c,hc,s,es⟩:=z;refine⟨c*b*a,Int.mul_ne_zero (Int.mul_ne_zero hc hb) ha,K a*(K a*s),?_⟩;have e3:K (c*b*a)*q=K a*(K c*(K b*q)):=by rw[bF,bF];grind
  have e4:p*(K a*(K a*s))=K a*((K a*p)*s):=by grind
  rw[e3,e4,et,e];grind
end Po
end SF
namespace SF
open Lean.Grind
theorem j6{f g:Nat->Int}:∀{n:Nat},(∀i,i<n->f i<=g i)->ax f n<=ax g n
 |0,_=>Int.le_refl 0
 |n+1,h=>Int.add_le_add (j6 fun i hi=>h i (by lia)) (h n (by lia))
theorem iK{f:Nat->Int}{n:Nat}(h:∀i,i<n->0<=f i):0<=ax f n:=by
 have:=j6 (f:=fun _=>0) (g:=f) h;rw[pd] at this;exact this
theorem DS{f:Nat->Int}{n j:Nat}(h:∀i,i<n->0<=f i)(hj:j<n):f j<=ax f n:=by
 have e:n=j+(1+(n-1-j)):=by lia
 rw[e,bK,bK];have h1:0<=ax f j:=iK fun i hi=>h i (by lia);have h2:0<=ax (fun i=>f (j+(1+i))) (n-1-j):=iK fun i hi=>h _ (by lia);have h3:ax (fun i=>f (j+i)) 1=f j:=by show 0+f (j+0)=f j;rw[Nat.add_zero];grind
 lia
theorem nh(M:Int):∀n:Nat,ax (fun i=>M*(M+1)^i) n=(M+1)^n-1
 |0=>by show(0:Int)=(M+1)^0-1;rw[Int.pow_zero];rfl
 |n+1=>by
  show ax (fun i=>M*(M+1)^i) n+M*(M+1)^n=_;rw[nh M n,Int.pow_succ];grind
noncomputable def ab(x:Int):Int:=(x.natAbs:Int)
theorem aD(x:Int):0<=ab x:=by unfold ab;lia
theorem fM(x y:Int):ab (x+y)<=ab x+ab y:=by unfold ab;lia
theorem Hs(x y:Int):ab (x-y)<=ab x+ab y:=by unfold ab;lia
theorem bX(x y:Int):ab (x*y)=ab x*ab y:=by unfold ab;rw[Int.natAbs_mul];push_cast;rfl
theorem lJ{x:Int}(h:0<=x):ab x=x:=by unfold ab;lia
theorem iL{x:Int}(h:x≠0):0<ab x:=by unfold ab;lia
theorem vx{f:Nat->Int}:∀n:Nat,ab (ax f n)<=ax (fun i=>ab (f i)) n
 |0=>Int.le_refl 0
 |n+1=>by
  have h1:=fM (ax f n) (f n);have h2:=vx (f:=f) n;show ab (ax f n+f n)<=ax (fun i=>ab (f i)) n+ab (f n);lia
namespace Po
noncomputable def d7(p:Int):List Int->Int
 |[]=>0
 |x::r=>x+p*d7 p r
theorem qG(p:Int):∀xs:List Int,d7 p xs=ax (fun i=>co xs i*p^i) xs.length
 |[]=>rfl
 |x::r=>by
  show x+p*d7 p r=_;rw[qG p r,List.length_cons,dW,gN,Int.pow_zero,<-cj];have e:ax (fun i=>p*(co r i*p^i)) r.length=ax (fun i=>co (x::r) (i+1)*p^(i+1)) r.length:=aE fun i _=>by
   rw[eA,Int.pow_succ];grind
  rw[e];grind
noncomputable def ev(p:Int)(f:Po):Int:=ax (fun i=>f.c i*p^i) (len f)
theorem sU(p:Int){f:Po}{n:Nat}(h:len f<=n):ev p f=ax (fun i=>f.c i*p^i) n:=by
 have e:n=len f+(n-len f):=by lia
 rw[e,bK,bJ (n:=n-len f) (fun i _=>by rw[dQ (by lia)];grind)];show ax _ _=_;grind
theorem iM(p:Int)(xs:List Int):ev p (ao xs)=d7 p xs:=by
 rw[qG,sU p (f:=ao xs) (n:=xs.length) (cy fun i hi=>by rw[aX];exact cw hi)];rfl
theorem vy(p:Int)(f g:Po):ev p (f+g)=ev p f+ev p g:=by
 have h1:=qC f g;rw[sU p h1,sU p (f:=f) (n:=max (len f) (len g)) (by lia),sU p (f:=g) (n:=max (len f) (len g)) (by lia),<-ee];exact aE fun i _=>by rw[jt];grind
theorem j7(p a:Int)(f:Po):ev p (K a*f)=a*ev p f:=by
 have h1:len (K a*f)<=len f:=cy fun i hi=>by rw[aV,dQ hi];grind
 rw[sU p h1];unfold ev;rw[<-cj];exact aE fun i _=>by rw[aV];grind
theorem Ht(p:Int)(f:Po):ev p (-f)=-ev p f:=by
 have e:-f=K (-1)*f:=by
  rw[A1,bN];grind
 rw[e,j7];grind
theorem Hu(p:Int)(f g:Po):ev p (f-g)=ev p f-ev p g:=by
 have e:f-g=f+-g:=by grind
 rw[e,vy,Ht];grind
theorem A3(p a:Int):ev p (K a)=a:=by
 rw[sU p (sS a)];show 0+(K a).c 0*p^0=a;rw[vp,if_pos rfl,Int.pow_zero];grind
theorem ni(x:Int)(r:List Int):ao (x::r)=K x+X 1*ao r:=ext fun i=>by
 rw[jt,vp,eW,aX];cases i with
 |zero=>rw[gN,if_pos rfl,if_pos (by decide)];grind
 |succ i=>rw[eA,if_neg (by lia),if_neg (by lia),Nat.add_sub_cancel,aX];grind
theorem pD(p:Int):∀xs:List Int,∃B,ao xs=(X 1-K p)*B+K (d7 p xs)
 |[]=>⟨0,by rw[cH];show _=_+K 0;rw[cE];grind⟩
 |x::r=>by
  obtain⟨B,e⟩:=pD p r;refine⟨X 1*B+K (d7 p r),?_⟩;rw[ni,e];show _=_+K (x+p*d7 p r);rw[xo,bF];grind
theorem factor(p:Int)(f:Po):∃B,f=(X 1-K p)*B+K (ev p f):=by
 obtain⟨B,e⟩:=pD p (lst f);rw[cR] at e;refine⟨B,?_⟩;rw[<-iM,cR] at e;exact e
theorem DT(p:Int)(f:Po)(i:Nat):((X 1-K p)*f).c i=(if i<1 then 0 else f.c (i-1))-p*f.c i:=by
 have e:(X 1-K p)*f=X 1*f-K p*f:=by grind
 rw[e,fT,eW,aV]
theorem A4(p:Int):len (X 1-K p)=2:=by
 refine len_eq (fun i hi=>?_) ?_ (by decide)
 ·rw[fT,xp,vp,if_neg (by lia),if_neg (by lia)];rfl
 ·rw[fT,xp,vp,if_pos (by decide),if_neg (by decide)];decide
theorem Lg(p:Int)(f:Po):ev p ((X 1-K p)*f)=0:=by
 have h:len ((X 1-K p)*f)<=len f+1:=cy fun i hi=>by
  rw[DT,if_neg (by lia),dQ (by lia),dQ (by lia)];grind
 rw[sU p h];have e:ax (fun i=>((X 1-K p)*f).c i*p^i) (len f+1)=ax (fun i=>(if i<1 then 0 else f.c (i-1))*p^i) (len f+1)-ax (fun i=>p*(f.c i*p^i)) (len f+1):=by
  have:∀a b:Int,a=b-(b-a):=fun a b=>by lia
  have e2:ax (fun i=>(if i<1 then 0 else f.c (i-1))*p^i) (len f+1)=ax (fun i=>((X 1-K p)*f).c i*p^i) (len f+1)+ax (fun i=>p*(f.c i*p^i)) (len f+1):=by
   rw[<-ee];exact aE fun i _=>by rw[DT];grind
  lia
 rw[e,cj,<-sU p (f:=f) (n:=len f+1) (by lia),dW];have e3:ax (fun i=>(if i+1<1 then 0 else f.c (i+1-1))*p^(i+1)) (len f)=p*ev p f:=by
  unfold ev;rw[<-cj];exact aE fun i _=>by
   rw[if_neg (by lia),Nat.add_sub_cancel,Int.pow_succ];grind
 rw[e3,if_pos (by decide)];grind
theorem kL(p:Int)(f g:Po):ev p (f*g)=ev p f*ev p g:=by
 obtain⟨A,ea⟩:=factor p f;obtain⟨B,eb⟩:=factor p g;have e:f*g=(X 1-K p)*(A*g+K (ev p f)*B)+K (ev p f*ev p g):=by
  rw[bF]
  conv=>lhs;rw[ea]
  have:K (ev p f)*g=K (ev p f)*((X 1-K p)*B+K (ev p g)):=by rw[<-eb]
  grind
 rw[e,vy,Lg,A3];grind
theorem A5(p:Int){f g q:Po}(e:g=f*q):ev p f∣ev p g:=by rw[e,kL];exact Int.dvd_mul_right ..
noncomputable def nn(ρ:Int)(N:Nat)(z:Po):Int:=ax (fun i=>ab (z.c i)*ρ^i) N
theorem pE{ρ:Int}(h:0<=ρ)(N:Nat)(z:Po):0<=nn ρ N z:=
 iK fun i _=>Int.mul_nonneg (aD _) (Int.pow_nonneg h)
theorem A6{ρ:Int}(h:0<ρ){N:Nat}{z:Po}(hz:z≠0)(hl:len z<=N):0<nn ρ N z:=by
 have h1:=len_pos hz;have h2:=lead h1;have:=DS (f:=fun i=>ab (z.c i)*ρ^i) (n:=N) (j:=len z-1) (fun i _=>Int.mul_nonneg (aD _) (Int.pow_nonneg (by lia))) (by lia);have h3:0<ab (z.c (len z-1))*ρ^(len z-1):=Int.mul_pos (iL h2) (Int.pow_pos h);unfold nn;exact Int.lt_of_lt_of_le h3 this
theorem xu{f z y:Po}{s τ p M:Int}{N:Nat}(hM:∀i,ab (f.c i)<=M)(hN:len f=N+2)(hy:len y<=N+1)(hp:0<=p)(e:(X 1-K p)*y=K τ*f-K s*z)(hz:len z<=N+1):
 p*nn (M+1) (N+1) y<=ab s*nn (M+1) (N+1) z+(M+1)*nn (M+1) (N+1) y:=by
 have Hv:0<=M:=Int.le_trans (aD _) (hM 0);have ju:(0:Int)<=M+1:=by lia
 have top:τ*f.c (N+1)=y.c N:=by
  have:=congrArg (fun w:Po=>w.c (N+1)) e;have h2:((X 1-K p)*y).c (N+1)=(K τ*f-K s*z).c (N+1):=this;rw[DT,if_neg (by lia),Nat.add_sub_cancel,dQ (f:=y) (i:=N+1) hy,fT,aV,aV,dQ (f:=z) (i:=N+1) hz] at h2;grind
 have hl:=lead (f:=f) (by lia);have xw:len f-1=N+1:=by lia
 rw[xw] at hl;have row:∀i,i<N+1->p*(ab (y.c i)*(M+1)^i)<=ab s*(ab (z.c i)*(M+1)^i)+(if i<1 then 0 else ab (y.c (i-1)))*(M+1)^i+ab τ*(M*(M+1)^i):=by
  intro i _;have h2:((X 1-K p)*y).c i=(K τ*f-K s*z).c i:=congrArg (fun w:Po=>w.c i) e;rw[DT,fT,aV,aV] at h2;have e3:p*y.c i=(s*z.c i+(if i<1 then 0 else y.c (i-1)))-τ*f.c i:=by lia
  have h4:ab (p*y.c i)<=ab s*ab (z.c i)+(if i<1 then 0 else ab (y.c (i-1)))+ab τ*M:=by
   rw[e3];have a1:=Hs (s*z.c i+(if i<1 then 0 else y.c (i-1))) (τ*f.c i);have a2:=fM (s*z.c i) (if i<1 then 0 else y.c (i-1));have a3:ab (if i<1 then 0 else y.c (i-1))=if i<1 then 0 else ab (y.c (i-1)):=by split<;>rfl
   have a4:ab (τ*f.c i)<=ab τ*M:=by rw[bX];exact Int.mul_le_mul_of_nonneg_left (hM i) (aD _)
   rw[a3] at a2;rw[bX s] at a2;lia
  rw[bX,lJ hp] at h4;have h5:=Int.mul_le_mul_of_nonneg_right h4 (show 0<=(M+1)^i from Int.pow_nonneg ju);have e4:p*(ab (y.c i)*(M+1)^i)=p*ab (y.c i)*(M+1)^i:=by grind
  have e5:ab s*(ab (z.c i)*(M+1)^i)+(if i<1 then 0 else ab (y.c (i-1)))*(M+1)^i+ab τ*(M*(M+1)^i)=(ab s*ab (z.c i)+(if i<1 then 0 else ab (y.c (i-1)))+ab τ*M)*(M+1)^i:=by grind
  rw[e4,e5];exact h5
 have h6:=j6 (n:=N+1) row;rw[cj,ee,ee,cj,cj,nh] at h6;have e7:ax (fun i=>(if i<1 then 0 else ab (y.c (i-1)))*(M+1)^i) (N+1)=(M+1)*ax (fun i=>ab (y.c i)*(M+1)^i) N:=by
  rw[dW,<-cj,if_pos (by decide)];have:ax (fun i=>(if i+1<1 then 0 else ab (y.c (i+1-1)))*(M+1)^(i+1)) N=ax (fun i=>(M+1)*(ab (y.c i)*(M+1)^i)) N:=aE fun i _=>by
   rw[if_neg (by lia),Nat.add_sub_cancel,Int.pow_succ];grind
  rw[this];grind
 rw[e7] at h6;have e8:nn (M+1) (N+1) y=ax (fun i=>ab (y.c i)*(M+1)^i) N+ab (y.c N)*(M+1)^N:=rfl;have h9:ab τ*((M+1)^(N+1)-1)<=(M+1)*(ab (y.c N)*(M+1)^N):=by
  rw[<-top,bX];have g1:1<=ab (f.c (N+1)):=iL hl;have g2:0<=(M+1)^(N+1):=Int.pow_nonneg ju;have g3:ab τ*(M+1)^(N+1)*1<=ab τ*(M+1)^(N+1)*ab (f.c (N+1)):=Int.mul_le_mul_of_nonneg_left g1 (Int.mul_nonneg (aD _) g2);have g4:=aD τ;have O6:(M+1)*(ab τ*ab (f.c (N+1))*(M+1)^N)=ab τ*(M+1)^(N+1)*ab (f.c (N+1)):=by rw[Int.pow_succ];grind
  rw[O6];have UM:ab τ*((M+1)^(N+1)-1)=ab τ*(M+1)^(N+1)*1-ab τ:=by grind
  rw[UM];lia
 show p*nn (M+1) (N+1) y<=ab s*nn (M+1) (N+1) z+(M+1)*nn (M+1) (N+1) y;rw[e8];show p*(ax (fun i=>ab (y.c i)*(M+1)^i) N+ab (y.c N)*(M+1)^N)<=ab s*nn (M+1) (N+1) z+(M+1)*(ax (fun i=>ab (y.c i)*(M+1)^i) N+ab (y.c N)*(M+1)^N);have XE:p*(ax (fun i=>ab (y.c i)*(M+1)^i) N+ab (y.c N)*(M+1)^N)<=ab s*nn (M+1) (N+1) z+(M+1)*ax (fun i=>ab (y.c i)*(M+1)^i) N+ab τ*((M+1)^(N+1)-1):=h6;have Lh:(M+1)*(ax (fun i=>ab (y.c i)*(M+1)^i) N+ab (y.c N)*(M+1)^N)=(M+1)*ax (fun i=>ab (y.c i)*(M+1)^i) N+(M+1)*(ab (y.c N)*(M+1)^N):=by grind
 rw[Lh];lia
theorem sV{f k q t:Po}(hf:f≠0)(e:f=k*q)(ht:len t+1<=len k)(p:Int):
 ∃B,len B+1<=len k/\(X 1-K p)*(q*B)=K (ev p t)*f-K (ev p k)*(q*t):=by
 let F:=K (ev p t)*k-K (ev p k)*t;obtain⟨B,eB⟩:=factor p F;have e0:ev p F=0:=by
  show ev p (K (ev p t)*k-K (ev p k)*t)=0;rw[Hu,j7,j7];grind
 rw[e0,cE] at eB;have RN:F=(X 1-K p)*B:=by rw[eB];grind
 refine⟨B,?_,?_⟩
 ·by_cases hB:B=0
  ·rw[hB,fe];lia
  ·have h1:=len_mul (a_ (by rw[A4];decide)) hB (f:=X 1-K p);rw[<-RN,A4] at h1;have h2:len F<=len k:=by
    have h3:len F<=max (len (K (ev p t)*k)) (len (K (ev p k)*t)):=len_sub _ _;have h4:len (K (ev p t)*k)<=len k:=cy fun i hi=>by rw[aV,dQ hi];grind
    have h5:len (K (ev p k)*t)<=len t:=cy fun i hi=>by rw[aV,dQ hi];grind
    lia
   lia
 ·have:(X 1-K p)*(q*B)=q*F:=by rw[RN];grind
  rw[this,e];show q*(K (ev p t)*k-K (ev p k)*t)=_;grind
theorem jg{f k q:Po}(hf:f≠0)(e:f=k*q)(hk:2<=len k){M:Int}(hM:∀i,ab (f.c i)<=M){p:Int}(hp:M+1<p):p-(M+1)<=ab (ev p k):=by
 have Hv:0<=M:=Int.le_trans (aD _) (hM 0);have ju:(0:Int)<M+1:=by lia
 have O7:k≠0:=a_ (by lia);have M_:q≠0:=by rintro rfl;exact hf (by rw[e];grind)
 have hl:=len_mul O7 M_;rw[<-e] at hl;have XF:=len_pos M_;obtain⟨N,hN⟩:∃N,len f=N+2:=⟨len f-2,by lia⟩;have vz:∀t:Po,len t+1<=len k->len (q*t)<=N+1:=fun t ht=>by
  by_cases h0:t=0
  ·rw[h0];have:q*(0:Po)=0:=by grind
   rw[this,fe];lia
  ·have:=len_mul M_ h0;lia
 have hs:ev p k≠0:=fun z=>by
  have l1:len (1:Po)=1:=by rw[<-bN];exact len_K (by decide)
  obtain⟨B,hB,eB⟩:=sV hf e (t:=1) (by lia) p;have g:=xu hM hN (vz B hB) (by lia) eB (vz 1 (by lia));have UN:ev p 1=1:=by rw[<-bN,A3]
  rw[z] at g;have h0:ab 0=0:=rfl;rw[h0,Int.zero_mul,Int.zero_add] at g;have UO:q*B=0:=by
   by_cases hz:q*B=0
   ·exact hz
   ·have:=A6 ju hz (vz B hB);have h3:(M+1)*nn (M+1) (N+1) (q*B)<p*nn (M+1) (N+1) (q*B):=Int.mul_lt_mul_of_pos_right hp this;lia
  rw[UO,z,UN,bN,cE] at eB;exact hf (by grind)
 have hex:∃m:Nat,∃t:Po,len t+1<=len k/\q*t≠0/\nn (M+1) (N+1) (q*t)=(m:Int):=by
  refine⟨(nn (M+1) (N+1) (q*1)).toNat,1,?_,?_,?_⟩
  ·have l1:len (1:Po)=1:=by rw[<-bN];exact len_K (by decide)
   lia
  ·have:q*1=q:=by grind
   rw[this];exact M_
  ·exact(Int.toNat_of_nonneg (pE (by lia) _ _)).symm
 obtain⟨m0,M'⟩:=hex;obtain⟨m,hm,Hw⟩:=least (P:=fun m:Nat=>¬∃t:Po,len t+1<=len k/\q*t≠0/\nn (M+1) (N+1) (q*t)=(m:Int)) m0 (fun z=>z M');obtain⟨t,ht,hz,hn⟩:=Classical.not_not.mp hm;obtain⟨B,hB,eB⟩:=sV hf e ht p;have g:=xu hM hN (vz B hB) (by lia) eB (vz t ht);have hy:q*B≠0:=fun z=>by
  rw[z] at eB;have e2:K (ev p t)*f=K (ev p k)*(q*t):=by grind
  have h1:len (K (ev p k)*(q*t))<=N+1:=by
   rw[fL hs];exact vz t ht
  by_cases h0:ev p t=0
  ·rw[h0,cE] at e2;exact dy (jq hs) hz (by grind)
  ·have h2:=fL h0 f;rw[e2] at h2;lia
 have DU:nn (M+1) (N+1) (q*t)<=nn (M+1) (N+1) (q*B):=by
  have UP:=pE (ρ:=M+1) (by lia) (N+1) (q*B);rcases Int.lt_or_le (nn (M+1) (N+1) (q*B)) (nn (M+1) (N+1) (q*t)) with eL|hle
  ·exfalso;refine Hw (nn (M+1) (N+1) (q*B)).toNat (by lia) ⟨B,hB,hy,?_⟩;exact(Int.toNat_of_nonneg UP).symm
  ·exact hle
 have gz:=A6 ju hz (vz t ht);have h7:(p-(M+1))*nn (M+1) (N+1) (q*t)<=(p-(M+1))*nn (M+1) (N+1) (q*B):=Int.mul_le_mul_of_nonneg_left DU (by lia);have h8:(p-(M+1))*nn (M+1) (N+1) (q*B)=p*nn (M+1) (N+1) (q*B)-(M+1)*nn (M+1) (N+1) (q*B):=by grind
 have h9:(p-(M+1))*nn (M+1) (N+1) (q*t)<=ab (ev p k)*nn (M+1) (N+1) (q*t):=by lia
 exact Int.le_of_mul_le_mul_right h9 gz
end Po
end SF
namespace SF
open Lean.Grind
theorem A7:∀(b a:Nat)(φ:Nat->Nat),b<a->(∀x,x<a->φ x<b)->∃x y,x<y/\y<a/\φ x=φ y
 |0,a,φ,h,Jt=>absurd (Jt 0 h) (Nat.not_lt_zero _)
 |b+1,a,φ,h,Jt=>by
  by_cases hx:∃x,x<a-1/\φ x=φ (a-1)
  ·obtain⟨x,h1,h2⟩:=hx;exact⟨x,a-1,h1,by lia,h2⟩
  have dA:∀x,x<a-1->φ x≠φ (a-1):=fun x h1 h2=>hx ⟨x,h1,h2⟩;have hc:=Jt (a-1) (by lia);obtain⟨x,y,h1,h2,h3⟩:=A7 b (a-1) (fun x=>if φ x=b then φ (a-1) else φ x) (by lia) (fun x hx=>by
   have h1:=Jt x (by lia)
   have h2:=dA x hx
   split
   ·lia
   ·lia);refine⟨x,y,h1,by lia,?_⟩;have n1:=dA x (by lia);have n2:=dA y h2;split at h3<;>split at h3<;>lia
noncomputable def dg(B x i:Nat):Nat:=x/B^i%B
theorem xx(B x i:Nat):dg B x (i+1)=dg B (x/B) i:=by
 unfold dg;rw[Nat.pow_succ',Nat.div_div_eq_div_mul]
theorem pG{B:Nat}(h:0<B)(x i:Nat):dg B x i<B:=Nat.mod_lt _ h
theorem A8{B:Nat}(hB:0<B):∀(n x y:Nat),x<B^n->y<B^n->(∀i,i<n->dg B x i=dg B y i)->x=y
 |0,x,y,hx,hy,_=>by rw[Nat.pow_zero] at hx hy;lia
 |n+1,x,y,hx,hy,h=>by
  have h0:=h 0 (by lia);unfold dg at h0;rw[Nat.pow_zero,Nat.div_one,Nat.div_one] at h0;have hd:=A8 hB n (x/B) (y/B) (Nat.div_lt_of_lt_mul (by rw[<-Nat.pow_succ'];exact hx)) (Nat.div_lt_of_lt_mul (by rw[<-Nat.pow_succ'];exact hy)) (fun i hi=>by
   rw[<-xx,<-xx];exact h (i+1) (by lia));rw[<-Nat.div_add_mod x B,<-Nat.div_add_mod y B,hd,h0]
noncomputable def enc(B:Nat)(w:Nat->Nat):Nat->Nat
 |0=>0
 |n+1=>enc B w n+w n*B^n
theorem qH{B:Nat}{w:Nat->Nat}(hw:∀i,w i<B):∀n,enc B w n<B^n
 |0=>by show 0<B^0;rw[Nat.pow_zero];decide
 |n+1=>by
  show enc B w n+w n*B^n<B^(n+1);have h1:=qH hw n;have h2:(w n+1)*B^n<=B*B^n:=Nat.mul_le_mul_right _ (hw n);rw[Nat.add_mul,Nat.one_mul] at h2;rw[Nat.pow_succ,Nat.mul_comm (B^n)];lia
theorem xy{B:Nat}{w v:Nat->Nat}(hw:∀i,w i<B)(hv:∀i,v i<B):∀n,enc B w n=enc B v n->∀i,i<n->w i=v i
 |0,_,i,hi=>by lia
 |n+1,h,i,hi=>by
  have h1:=qH hw n;have h2:=qH hv n;have h':enc B w n+w n*B^n=enc B v n+v n*B^n:=h;have e1:(enc B w n+w n*B^n)/B^n=w n:=by
   rw[Nat.add_mul_div_right _ _ (by lia),Nat.div_eq_of_lt h1,Nat.zero_add]
  have e2:(enc B v n+v n*B^n)/B^n=v n:=by
   rw[Nat.add_mul_div_right _ _ (by lia),Nat.div_eq_of_lt h2,Nat.zero_add]
  have e3:w n=v n:=by rw[<-e1,h',e2]
  by_cases he:i=n
  ·rw[he];exact e3
  ·exact xy hw hv n (by rw[e3] at h';lia) i (by lia)
namespace Po
noncomputable def xA(w:Nat->Int)(n:Nat):Po:=⟨⟨fun i=>if i<n then w i else 0⟩,n,fun i hi=>if_neg (by lia)⟩
theorem jv(w:Nat->Int)(n i:Nat):(xA w n).c i=if i<n then w i else 0:=rfl
theorem eX(w:Nat->Int)(n:Nat):len (xA w n)<=n:=cy fun i hi=>if_neg (by lia)
theorem A9{u f:Po}{n:Nat}{H M:Int}(hl:len u<=n)(hu:∀i,ab (u.c i)<=H)(hf:∀i,ab (f.c i)<=M)(j:Nat):ab ((u*f).c j)<=n*(H*M):=by
 have hH:0<=H:=Int.le_trans (aD _) (hu 0);have hM:0<=M:=Int.le_trans (aD _) (hf 0);have UQ:0<=H*M:=Int.mul_nonneg hH hM;rw[sR];have h1:=vx (f:=fun i=>u.c i*f.c (j-i)) (j+1);have h2:ax (fun i=>ab (u.c i*f.c (j-i))) (j+1)<=ax (fun i=>if i<n then H*M else 0) (j+1):=j6 fun i _=>by
  split
  ·rw[bX];exact Int.mul_le_mul (hu i) (hf _) (aD _) hH
  ·rw[dQ (f:=u) (by lia),Int.zero_mul];exact Int.le_refl _
 have h3:∀m:Nat,ax (fun i=>if i<n then H*M else 0) m<=(min m n:Nat)*(H*M):=by
  intro m
  induction m with
  |zero=>show(0:Int)<=_;rw[Nat.zero_min];show(0:Int)<=0*_;lia
  |succ m ih=>
   show ax (fun i=>if i<n then H*M else 0) m+(if m<n then H*M else 0)<=_;split
   ·have e:min (m+1) n=min m n+1:=by lia
    rw[e];have e2:((min m n+1:Nat):Int)*(H*M)=((min m n:Nat):Int)*(H*M)+H*M:=by
     rw[Int.natCast_add];grind
    rw[e2];lia
   ·have e:min (m+1) n=min m n:=by lia
    rw[e];lia
 have h4:=h3 (j+1);have h5:((min (j+1) n:Nat):Int)*(H*M)<=(n:Int)*(H*M):=Int.mul_le_mul_of_nonneg_right (by lia) UQ;lia
theorem pH{f g:Po}{M:Nat}(C0:∀i,ab (f.c i)<=M)(DV:∀i,ab (g.c i)<=M){A n m:Nat}(OV:n+m=A)(Li:0<A)(off:Nat):
 ∃U V:Po,len U<=n/\len V<=m/\(U≠0\/V≠0)/\(∀i,ab (U.c i)<=(((2*A*M+1)^(A-1):Nat):Int))/\(∀i,ab (V.c i)<=(((2*A*M+1)^(A-1):Nat):Int))/\
  (∀j,j<A-1->(U*f+V*g).c (off+j)=0)/\∀i,ab ((U*f+V*g).c i)<=((A*((2*A*M+1)^(A-1)*M):Nat):Int):=by
 let H:Nat:=(2*A*M+1)^(A-1);have hH:0<H:=Nat.pow_pos (by lia);let uu:Nat->Po:=fun x=>xA (fun i=>((dg (H+1) x i:Nat):Int)) n;let vv:Nat->Po:=fun x=>xA (fun i=>((dg (H+1) x (n+i):Nat):Int)) m;let ww:Nat->Po:=fun x=>uu x*f+vv x*g;have bu:∀x i,ab ((uu x).c i)<=(H:Int):=fun x i=>by
  show ab ((xA _ n).c i)<=_;rw[jv];split
  ·have:=pG (B:=H+1) (by lia) x i;rw[lJ (by lia)];lia
  ·show(0:Int)<=_;lia
 have bv:∀x i,ab ((vv x).c i)<=(H:Int):=fun x i=>by
  show ab ((xA _ m).c i)<=_;rw[jv];split
  ·have:=pG (B:=H+1) (by lia) x (n+i);rw[lJ (by lia)];lia
  ·show(0:Int)<=_;lia
 have bw:∀U V:Po,len U<=n->len V<=m->(∀i,ab (U.c i)<=(H:Int))->(∀i,ab (V.c i)<=(H:Int))->∀j,ab ((U*f+V*g).c j)<=((A*(H*M):Nat):Int):=fun U V l1 l2 b1 b2 j=>by
  rw[jt];have h1:=A9 l1 b1 C0 j;have h2:=A9 l2 b2 DV j;have h3:=fM ((U*f).c j) ((V*g).c j);have e:((A*(H*M):Nat):Int)=(n:Int)*((H:Int)*M)+(m:Int)*((H:Int)*M):=by
   rw[<-OV];push_cast;grind
  lia
 let Bz:Nat:=A*(H*M);let Bk:Nat:=2*Bz+1;let wi:Nat->Nat->Nat:=fun x j=>((ww x).c (off+j)+Bz).toNat;have O8:∀x j,wi x j<Bk:=fun x j=>by
  have:=bw (uu x) (vv x) (eX _ _) (eX _ _) (bu x) (bv x) (off+j);have h2:ab ((ww x).c (off+j))<=((A*(H*M):Nat):Int):=this;unfold ab at h2;show((ww x).c (off+j)+Bz).toNat<2*Bz+1;have:Bz=A*(H*M):=rfl;lia
 have qI:Bk^(A-1)<(H+1)^A:=by
  have h1:Bk<=(2*A*M+1)*H:=by
   show 2*(A*(H*M))+1<=(2*A*M+1)*H;have e:(2*A*M+1)*H=2*(A*(H*M))+H:=by grind
   lia
  have h2:Bk^(A-1)<=((2*A*M+1)*H)^(A-1):=Nat.pow_le_pow_left h1 _;rw[Nat.mul_pow] at h2;have h3:H*H^(A-1)=H^A:=by
   rw[<-Nat.pow_succ'];congr 1;lia
  have h4:H^A<(H+1)^A:=Nat.pow_lt_pow_left (by lia) (by lia);have h5:(2*A*M+1)^(A-1)*H^(A-1)=H^A:=h3;lia
 obtain⟨x,y,XG,hy,Jt⟩:=A7 _ _ (fun x=>enc Bk (wi x) (A-1)) qI (fun x _=>qH (O8 x) _);have heq:=xy (O8 x) (O8 y) _ Jt;let U:=uu x-uu y;let V:=vv x-vv y;have lU:len U<=n:=Nat.le_trans (len_sub _ _) (by have:=eX (fun i=>((dg (H+1) x i:Nat):Int)) n;have:=eX (fun i=>((dg (H+1) y i:Nat):Int)) n;exact Nat.max_le.mpr ⟨by assumption,by assumption⟩);have lV:len V<=m:=Nat.le_trans (len_sub _ _) (by have:=eX (fun i=>((dg (H+1) x (n+i):Nat):Int)) m;have:=eX (fun i=>((dg (H+1) y (n+i):Nat):Int)) m;exact Nat.max_le.mpr ⟨by assumption,by assumption⟩);have bU:∀i,ab (U.c i)<=(H:Int):=fun i=>by
  show ab ((uu x-uu y).c i)<=_;rw[fT];show ab ((xA _ n).c i-(xA _ n).c i)<=_;rw[jv,jv];have h1:=pG (B:=H+1) (by lia) x i;have h2:=pG (B:=H+1) (by lia) y i;unfold ab;split<;>lia
 have bV:∀i,ab (V.c i)<=(H:Int):=fun i=>by
  show ab ((vv x-vv y).c i)<=_;rw[fT];show ab ((xA _ m).c i-(xA _ m).c i)<=_;rw[jv,jv];have h1:=pG (B:=H+1) (by lia) x (n+i);have h2:=pG (B:=H+1) (by lia) y (n+i);unfold ab;split<;>lia
 have dA:U≠0\/V≠0:=by
  by_cases hU:U=0
  ·refine .inr fun hV=>?_;have:x=y:=A8 (by lia) A x y (by lia) hy fun i hi=>by
    by_cases M7:i<n
    ·have h1:(uu x-uu y).c i=0:=by
      have:(uu x-uu y)=0:=hU;rw[this,dP]
     rw[fT] at h1;have h2:(uu x).c i=((dg (H+1) x i:Nat):Int):=by show(xA _ n).c i=_;rw[jv,if_pos M7]
     have h3:(uu y).c i=((dg (H+1) y i:Nat):Int):=by show(xA _ n).c i=_;rw[jv,if_pos M7]
     lia
    ·have h1:(vv x-vv y).c (i-n)=0:=by
      have:(vv x-vv y)=0:=hV;rw[this,dP]
     rw[fT] at h1;have RO:i-n<m:=by lia
     have UR:n+(i-n)=i:=by lia
     have h2:(vv x).c (i-n)=((dg (H+1) x (n+(i-n)):Nat):Int):=by show(xA _ m).c (i-n)=_;rw[jv,if_pos RO]
     have h3:(vv y).c (i-n)=((dg (H+1) y (n+(i-n)):Nat):Int):=by show(xA _ m).c (i-n)=_;rw[jv,if_pos RO]
     rw[UR] at h2 h3;lia
   lia
  ·exact .inl hU
 refine⟨U,V,lU,lV,dA,bU,bV,fun j hj=>?_,bw U V lU lV bU bV⟩;have h1:=heq j hj;have b1:=bw (uu x) (vv x) (eX _ _) (eX _ _) (bu x) (bv x) (off+j);have b2:=bw (uu y) (vv y) (eX _ _) (eX _ _) (bu y) (bv y) (off+j);have h2:((ww x).c (off+j)+Bz).toNat=((ww y).c (off+j)+Bz).toNat:=h1;have US:ab ((ww x).c (off+j))<=((Bz:Nat):Int):=b1;have UT:ab ((ww y).c (off+j))<=((Bz:Nat):Int):=b2;unfold ab at US UT;have h3:(ww x).c (off+j)=(ww y).c (off+j):=by lia
 have e:U*f+V*g=ww x-ww y:=by
  show(uu x-uu y)*f+(vv x-vv y)*g=uu x*f+vv x*g-(uu y*f+vv y*g);grind
 rw[e,fT,h3];lia
theorem jh{W z:Po}{a b i:Nat}(l:len W<=a)(e:a+len z<=b+1)(hi:b<=i):(W*z).c i=0:=by
 by_cases hW:W=0
 ·rw[hW];have:(0:Po)*z=0:=by grind
  rw[this,dP]
 ·by_cases hz:z=0
  ·rw[hz];have:W*(0:Po)=0:=by grind
   rw[this,dP]
  ·have:=len_mul hW hz;exact dQ (by lia)
theorem Hy{f g h f1 g1 u0 v0:Po}{c0:Int}{M:Nat}(hh:h≠0)(sW:f1≠0)(zW:g1≠0)(ef:f=h*f1)(eg:g=h*g1)(eb:u0*f1+v0*g1=K c0)(C2:c0≠0)(C0:∀i,ab (f.c i)<=M)(DV:∀i,ab (g.c i)<=M){A:Nat}(hA:len f1+len g1=A+2)(Li:0<A):
 ∃(U V:Po)(r:Int),r≠0/\U*f1+V*g1=K r/\∀i,ab (r*h.c i)<=((A*((2*A*M+1)^(A-1)*M):Nat):Int):=by
 have lf:=len_mul hh sW;have lg:=len_mul hh zW;rw[<-ef] at lf;rw[<-eg] at lg;have lY:=len_pos sW;have nk:=len_pos zW;have UU:=len_pos hh;obtain⟨U,V,lU,lV,dA,bU,bV,hz,A_⟩:=pH (f:=f) (g:=g) C0 DV (n:=len g1-1) (m:=len f1-1) (A:=A) (by lia) Li (len h);let R:=U*f+V*g;have eR:R=h*(U*f1+V*g1):=by
  show U*f+V*g=_;rw[ef,eg];grind
 have lR:len R<=len h:=cy fun i hi=>by
  by_cases Ju:i<len h+A-1
  ·have:=hz (i-len h) (by lia);have ei:len h+(i-len h)=i:=by lia
   rw[ei] at this;exact this
  ·show(U*f+V*g).c i=0;rw[jt,jh (W:=U) (z:=f) (b:=len h+A-1) lU (by lia) (by lia),jh (W:=V) (z:=g) (b:=len h+A-1) lV (by lia) (by lia)];rfl
 have Jv:len (U*f1+V*g1)<=1:=by
  by_cases h0:U*f1+V*g1=0
  ·rw[h0,fe];lia
  ·have:=len_mul hh h0;rw[<-eR] at this;lia
 have er:=bW Jv;refine⟨U,V,(U*f1+V*g1).c 0,?_,er,?_⟩
 ·intro z;rw[z,cE] at er;have dv:D f1 V:=⟨c0,C2,u0*V-v0*U,by
   rw[<-eb]
   have:V*g1=-(U*f1):=by grind
   have e2:(u0*f1+v0*g1)*V=u0*f1*V+v0*(V*g1):=by grind
   rw[e2,this];grind⟩;have du:D g1 U:=⟨c0,C2,v0*U-u0*V,by
   rw[<-eb]
   have:U*f1=-(V*g1):=by grind
   have e2:(u0*f1+v0*g1)*U=u0*(U*f1)+v0*g1*U:=by grind
   rw[e2,this];grind⟩;rcases dA with hU|hV
  ·have:=du.len hU;lia
  ·have:=dv.len hV;lia
 ·intro i;have h1:=A_ i;have e:U*f+V*g=K ((U*f1+V*g1).c 0)*h:=by
   show R=_;rw[eR,<-er];grind
  rw[e,aV] at h1;exact h1
end Po
end SF
namespace SF
open Lean.Grind
namespace Po
theorem eD{xs:List Int}(h:Tr xs)(hn:xs≠[]):ao xs=K (cont xs)*ao (az xs):=ext fun i=>by
 rw[aV,aX,aX];by_cases hi:i<xs.length
 ·have:=m8 hi;grind
 ·rw[cw (by lia),cw (by rw[bD];lia)];grind
theorem kM{xs:List Int}{x:Int}(h:x∈xs):∃i,co xs i=x:=by
 obtain⟨i,hi,e⟩:=List.getElem_of_mem h;exact⟨i,by rw[bI hi,e]⟩
theorem cS{xs:List Int}(h:Tr xs)(hn:xs≠[]):Pr (ao (az xs)):=fun p hp=>by
 have h1:p∣eK (az xs):=(kH _ _).mpr fun x hx=>by
  obtain⟨i,e⟩:=kM hx;rw[<-e];exact hp i
 rw[sG h hn] at h1;exact Nat.eq_one_of_dvd_one h1
theorem fB{xs:List Int}(h:Tr xs)(hn:xs≠[]):0<(ao (az xs)).c (len (ao (az xs))-1):=by
 rw[aU (cM h),bD];exact m9 h hn
theorem Hz{f:Po}(h:f≠0):lst f≠[]:=List.length_pos_iff.mp (len_pos h)
theorem xB{xs:List Int}(h:Tr xs){b:Int}{f:Po}(hb:b≠0)(e:ao xs=K b*f)(hf:Pr f)(hl:0<f.c (len f-1)):ao (az xs)=f:=by
 have hn:xs≠[]:=by
  rintro rfl;rw[cH] at e;exact dy (jq hb) hf.ne e.symm
 have hc:=eV h hn;have e2:=eD h hn;refine(cS h hn).same hf ?_ ?_ (fB h hn) hl
 ·refine D.xq hb ?_;rw[<-e,e2];exact(D.refl _).mulL _
 ·refine D.xq hc ?_;rw[<-e2,e];exact(D.refl _).mulL _
structure GC(f g d:Po):Prop where
 pr:Pr d
 pos:0<d.c (len d-1)
 df:D d f
 dg:D d g
 bz:∃(u v:Po)(a:Int),a≠0/\u*f+v*g=K a*d
theorem GC.Na{f g d e:Po}(h:GC f g d)(h1:D e f)(h2:D e g):D e d:=by
 obtain⟨u,v,a,ha,eq⟩:=h.bz;refine D.xq ha ?_;rw[<-eq];exact(h1.mulL u).add (h2.mulL v)
theorem GC.uniq{f g d e:Po}(h:GC f g d)(h':GC f g e):d=e:=
 h.pr.same h'.pr (h'.Na h.df h.dg) (h.Na h'.df h'.dg) h.pos h'.pos
theorem GC.symm{f g d:Po}(h:GC f g d):GC g f d:=by
 obtain⟨u,v,a,ha,eq⟩:=h.bz;exact⟨h.pr,h.pos,h.dg,h.df,v,u,a,ha,by grind⟩
theorem GC.ex{f g:Po}(h:f≠0\/g≠0):∃d,GC f g d:=by
 obtain⟨d,u,v,hd,e,d1,d2⟩:=qF _ f g (Nat.le_refl _) h;have hn:=Hz hd;have ht:=gS d;have e2:d=K (cont (lst d))*ao (az (lst d)):=by
  conv=>lhs;rw[<-cR d]
  exact eD ht hn
 have hc:=eV ht hn;have hd2:D (ao (az (lst d))) d:=by
  conv=>rhs;rw[e2]
  exact(D.refl _).mulL _
 exact⟨ao (az (lst d)),cS ht hn,fB ht hn,hd2.trans d1,hd2.trans d2,u,v,_,hc,by rw[e];exact e2⟩
theorem GC.scale{f g d:Po}{a b:Int}(ha:a≠0)(hb:b≠0)(h:GC f g d):GC (K a*f) (K b*g) d:=by
 obtain⟨u,v,c,hc,eq⟩:=h.bz;refine⟨h.pr,h.pos,h.df.mulL _,h.dg.mulL _,K b*u,K a*v,a*b*c,Int.mul_ne_zero (Int.mul_ne_zero ha hb) hc,?_⟩;rw[bF,bF];grind
structure Ft(p v:Int)(xs:List Int):Prop where
 val:d7 p xs=v
 HA:∀x∈xs,-p<2*x/\2*x<=p
 tr:Tr xs
theorem mx{p:Int}(hp:0<p):∀xs ys:List Int,(∀x∈xs,-p<2*x/\2*x<=p)->(∀x∈ys,-p<2*x/\2*x<=p)->d7 p xs=d7 p ys->∀i,co xs i=co ys i
 |[],[],_,_,_,i=>rfl
 |x::r,[],hx,hy,e,i=>by
  have h1:=hx x List.mem_cons_self;have e1:x+p*d7 p r=0:=e;have hd:x=0:=by
   have h2:p∣x:=⟨-d7 p r,by grind⟩;obtain⟨k,rfl⟩:=h2;have:k=0:=by
    rcases Int.lt_trichotomy k 0 with hk|hk|hk
    ·have:p*k<=p*(-1):=Int.mul_le_mul_of_nonneg_left (by lia) (by lia);lia
    ·exact hk
    ·have:p*1<=p*k:=Int.mul_le_mul_of_nonneg_left (by lia) (by lia);lia
   rw[this];simp
  have e2:d7 p r=d7 p []:=by
   rw[hd] at e1;have e3:p*d7 p r=0:=by lia
   rcases Int.mul_eq_zero.mp e3 with z|z
   ·lia
   ·rw[z];rfl
  have ih:=mx hp r [] (fun x h=>hx x (List.mem_cons_of_mem _ h)) hy e2;cases i with
  |zero=>rw[gN,hd];rfl
  |succ i=>rw[eA,ih i];rfl
 |[],y::s,hx,hy,e,i=>by
  have h1:=hy y List.mem_cons_self;have e1:0=y+p*d7 p s:=e;have hd:y=0:=by
   have h2:p∣y:=⟨-d7 p s,by grind⟩;obtain⟨k,rfl⟩:=h2;have:k=0:=by
    rcases Int.lt_trichotomy k 0 with hk|hk|hk
    ·have:p*k<=p*(-1):=Int.mul_le_mul_of_nonneg_left (by lia) (by lia);lia
    ·exact hk
    ·have:p*1<=p*k:=Int.mul_le_mul_of_nonneg_left (by lia) (by lia);lia
   rw[this];simp
  have e2:d7 p []=d7 p s:=by
   rw[hd] at e1;have e3:p*d7 p s=0:=by lia
   rcases Int.mul_eq_zero.mp e3 with z|z
   ·lia
   ·rw[z];rfl
  have ih:=mx hp [] s hx (fun x h=>hy x (List.mem_cons_of_mem _ h)) e2;cases i with
  |zero=>rw[gN,hd];rfl
  |succ i=>rw[eA,<-ih i];rfl
 |x::r,y::s,hx,hy,e,i=>by
  have h1:=hx x List.mem_cons_self;have h2:=hy y List.mem_cons_self;have e1:x+p*d7 p r=y+p*d7 p s:=e;have hd:x=y:=by
   have h3:x-y=p*(d7 p s-d7 p r):=by grind
   generalize d7 p s-d7 p r=k at h3;have:k=0:=by
    rcases Int.lt_trichotomy k 0 with hk|hk|hk
    ·have:p*k<=p*(-1):=Int.mul_le_mul_of_nonneg_left (by lia) (by lia);lia
    ·exact hk
    ·have:p*1<=p*k:=Int.mul_le_mul_of_nonneg_left (by lia) (by lia);lia
   rw[this] at h3;lia
  have e2:d7 p r=d7 p s:=by
   have e3:p*d7 p r=p*d7 p s:=by lia
   exact Int.eq_of_mul_eq_mul_left (by lia) e3
  have ih:=mx hp r s (fun x h=>hx x (List.mem_cons_of_mem _ h)) (fun x h=>hy x (List.mem_cons_of_mem _ h)) e2;cases i with
  |zero=>rw[gN,gN,hd]
  |succ i=>rw[eA,eA,ih i]
theorem Ft.uniq{p v:Int}(hp:0<p){xs ys:List Int}(h:Ft p v xs)(h':Ft p v ys):xs=ys:=
 h.tr.inj h'.tr (mx hp xs ys h.HA h'.HA (by rw[h.val,h'.val]))
theorem mem_co{xs:List Int}{M:Int}(h:∀x∈xs,ab x<=M)(h0:0<=M)(i:Nat):ab (co xs i)<=M:=by
 by_cases hi:i<xs.length
 ·rw[bI hi];exact h _ (List.getElem_mem _)
 ·rw[cw (by lia)];exact h0
theorem gcd_right{f g:Po}{M p:Int}(hf:Pr f)(hg:Pr g)(hM:(∀i,ab (f.c i)<=M)\/(∀i,ab (g.c i)<=M))(hp:2*(M+1)<p){G:List Int}(hs:Ft p ((Int.gcd (ev p f) (ev p g):Nat):Int) G)(d1:D (ao (az G)) f)(d2:D (ao (az G)) g):GC f g (ao (az G)):=by
 have Hv:0<=M:=by
  rcases hM with h|h
  ·exact Int.le_trans (aD _) (h 0)
  ·exact Int.le_trans (aD _) (h 0)
 have nz:∀w:Po,w≠0->(∀i,ab (w.c i)<=M)->ev p w≠0:=fun w hw hb=>by
  by_cases hl:2<=len w
  ·have:=jg hw (show w=w*1 by grind) hl hb (p:=p) (by lia);intro z;rw[z] at this;have h0:ab 0=0:=rfl;lia
  ·have e:=bW (f:=w) (by lia);rw[e,A3];intro z;rw[z,cE] at e;exact hw e
 have UW:Int.gcd (ev p f) (ev p g)≠0:=by
  rcases hM with h|h
  ·exact Nat.ne_of_gt (Int.gcd_pos_of_ne_zero_left _ (nz f hf.ne h))
  ·exact Nat.ne_of_gt (Int.gcd_pos_of_ne_zero_right _ (nz g hg.ne h))
 have DW:G≠[]:=by
  rintro rfl;have:(0:Int)=((Int.gcd (ev p f) (ev p g):Nat):Int):=hs.val;lia
 have eG:=eD hs.tr DW;have hc:=eV hs.tr DW;have pf:=cS hs.tr DW;have lf:=fB hs.tr DW;generalize Jw:ao (az G)=fd at*;have XH:2*ab (cont G)<=p:=by
  have hm:=jY DW;have h1:=hs.HA _ hm;have h2:=hs.tr.last DW;have h3:(cont G).natAbs<=(co G (G.length-1)).natAbs:=Nat.le_of_dvd (by lia) (Int.natAbs_dvd_natAbs.mpr (m7 hm));unfold ab;lia
 have HB:((Int.gcd (ev p f) (ev p g):Nat):Int)=cont G*ev p fd:=by
  rw[<-hs.val,<-iM,eG,j7]
 have O9:ev p fd≠0:=fun z=>by
  rw[z,Int.mul_zero] at HB;lia
 obtain⟨h,gc⟩:=GC.ex (f:=f) (g:=g) (.inl hf.ne);have dh:D fd h:=gc.Na d1 d2;obtain⟨k,ek⟩:=pf.div dh;obtain⟨f1,e1⟩:=gc.pr.div gc.df;obtain⟨g1,e2⟩:=gc.pr.div gc.dg;have O7:k≠0:=by rintro rfl;exact gc.pr.ne (by rw[ek];grind)
 have Fp:ev p k∣cont G:=by
  have h1:ev p h∣((Int.gcd (ev p f) (ev p g):Nat):Int):=Int.dvd_coe_gcd (A5 p e1) (A5 p e2);rw[HB,ek,kL,Int.mul_comm (ev p fd)] at h1;exact Int.dvd_of_mul_dvd_mul_right O9 h1
 have hle:ab (ev p k)<=ab (cont G):=by
  unfold ab;have:=Nat.le_of_dvd (by lia) (Int.natAbs_dvd_natAbs.mpr Fp);lia
 have UX:len k<=1:=by
  rcases Nat.lt_or_ge 1 (len k) with hl|hl
  ·exfalso;have UY:p-(M+1)<=ab (ev p k):=by
    rcases hM with hb|hb
    ·exact jg hf.ne (show f=k*(fd*f1) by rw[e1,ek];grind) hl hb (by lia)
    ·exact jg hg.ne (show g=k*(fd*g1) by rw[e2,ek];grind) hl hb (by lia)
   lia
  ·exact hl
 have RP:=bW UX;have hb:k.c 0≠0:=fun z=>O7 (by rw[RP,z,cE]);obtain⟨u,v,a,ha,eq⟩:=gc.bz;refine⟨pf,lf,d1,d2,u,v,a*k.c 0,Int.mul_ne_zero ha hb,?_⟩;rw[eq,ek,bF,<-RP];grind
noncomputable def NB(A M:Nat):Nat:=(A+1)*((2*A*M+1)^A*M)
theorem xC{A B M N:Nat}(h:A<=B)(h':M<=N):NB A M<=NB B N:=by
 unfold NB;refine Nat.mul_le_mul (by lia) (Nat.mul_le_mul ?_ h');refine Nat.le_trans (Nat.pow_le_pow_left (n:=2*A*M+1) (m:=2*B*N+1) ?_ A) (Nat.pow_le_pow_right (by lia) h);have:=Nat.mul_le_mul (Nat.mul_le_mul_left 2 h) h';lia
theorem pI{f g h f1 g1:Po}{M A:Nat}(hf:Pr f)(hg:Pr g)(C0:∀i,ab (f.c i)<=M)(DV:∀i,ab (g.c i)<=M)(gc:GC f g h)(e1:f=h*f1)(e2:g=h*g1)(hA:len f+len g<=A+2):
 ∃(U V:Po)(r:Int),r≠0/\U*f1+V*g1=K r/\∀i,ab (r*h.c i)<=((NB A M:Nat):Int):=by
 have hh:=gc.pr.ne;have sW:f1≠0:=by rintro rfl;exact hf.ne (by rw[e1];grind)
 have zW:g1≠0:=by rintro rfl;exact hg.ne (by rw[e2];grind)
 obtain⟨u0,v0,a,ha,eq⟩:=gc.bz;have eb:u0*f1+v0*g1=K a:=by
  refine Po.cancel hh ?_;rw[e1,e2] at eq;grind
 have lf:=len_mul hh sW;have lg:=len_mul hh zW;rw[<-e1] at lf;rw[<-e2] at lg;have UU:=len_pos hh;have lY:=len_pos sW;have nk:=len_pos zW;by_cases Li:len f1+len g1=2
 ·have ek:=bW (f:=f1) (by lia);have hb:f1.c 0≠0:=fun z=>sW (by rw[ek,z,cE]);refine⟨1,0,f1.c 0,hb,by rw[<-ek];grind,fun i=>?_⟩;have e3:f=K (f1.c 0)*h:=by rw[<-ek,e1];grind
  have h4:=C0 i;rw[e3,aV] at h4;have h5:NB 0 M<=NB A M:=xC (by lia) (Nat.le_refl _);have h6:NB 0 M=M:=by unfold NB;simp
  lia
 ·obtain⟨U,V,r,hr,er,hb⟩:=Hy hh sW zW e1 e2 eb ha C0 DV (A:=len f1+len g1-2) (by lia) (by lia);refine⟨U,V,r,hr,er,fun i=>Int.le_trans (hb i) ?_⟩;refine Int.ofNat_le.mpr ?_;generalize hB:len f1+len g1-2=B;have h5:NB B M<=NB A M:=xC (by lia) (Nat.le_refl _);refine Nat.le_trans ?_ h5;unfold NB;refine Nat.mul_le_mul (by lia) (Nat.mul_le_mul_right _ ?_);exact Nat.pow_le_pow_right (by lia) (by lia)
theorem yW{f g h:Po}{M A:Nat}(hf:Pr f)(hg:Pr g)(C0:∀i,ab (f.c i)<=M)(DV:∀i,ab (g.c i)<=M)(gc:GC f g h)(hA:len f+len g<=A+2){p:Int}(hp:2*((NB A M:Nat):Int)<p){G:List Int}(hs:Ft p ((Int.gcd (ev p f) (ev p g):Nat):Int) G)(UW:Int.gcd (ev p f) (ev p g)≠0):ao (az G)=h:=by
 obtain⟨f1,e1⟩:=gc.pr.div gc.df;obtain⟨g1,e2⟩:=gc.pr.div gc.dg;have hh:=gc.pr.ne;have sW:f1≠0:=by rintro rfl;exact hf.ne (by rw[e1];grind)
 have zW:g1≠0:=by rintro rfl;exact hg.ne (by rw[e2];grind)
 obtain⟨U,V,r,hr,er,hb⟩:=pI hf hg C0 DV gc e1 e2 hA;let c:Nat:=Int.gcd (ev p f1) (ev p g1);have UZ:(c:Int)∣r:=by
  have:=congrArg (ev p) er;rw[vy,kL,kL,A3] at this;rw[<-this];exact Int.dvd_add (Int.dvd_mul_of_dvd_right (Int.gcd_dvd_left ..)) (Int.dvd_mul_of_dvd_right (Int.gcd_dvd_right ..))
 have HB:((Int.gcd (ev p f) (ev p g):Nat):Int)=ab (ev p h)*c:=by
  rw[e1,e2,kL,kL,Int.gcd_mul_left]
  push_cast;rfl
 have C2:(c:Int)≠0:=fun z=>by
  rw[z,Int.mul_zero] at HB;lia
 have XI:ev p h≠0:=fun z=>by
  rw[z] at HB;have h0:ab 0=0:=rfl;rw[h0,Int.zero_mul] at HB;lia
 obtain⟨s,U0,AA⟩:∃s:Int,(s=1\/s=-1)/\ab (ev p h)=s*ev p h:=by
  rcases Int.le_total 0 (ev p h) with z|z
  ·exact⟨1,.inl rfl,by rw[lJ z];lia⟩
  ·exact⟨-1,.inr rfl,by unfold ab;lia⟩
 have Nb:s*c≠0:=Int.mul_ne_zero (by lia) C2;have xl:Ft p ((Int.gcd (ev p f) (ev p g):Nat):Int) (lst (K (s*c)*h)):=by
  refine⟨?_,?_,gS _⟩
  ·rw[<-iM,cR,j7,HB,AA];grind
  ·intro x hx;obtain⟨i,ei⟩:=kM hx;rw[iJ,aV] at ei;have h1:=hb i;have h2:ab x<=ab (r*h.c i):=by
    rw[<-ei,bX (s*c),bX r];refine Int.mul_le_mul_of_nonneg_right ?_ (aD _);have h3:(c:Int).natAbs<=r.natAbs:=Nat.le_of_dvd (by lia) (Int.natAbs_dvd_natAbs.mpr UZ);rw[bX];have h4:ab s=1:=by rcases U0 with z|z<;>rw[z]<;>rfl
    rw[h4,Int.one_mul];unfold ab;lia
   unfold ab at h1 h2;lia
 have pB:0<p:=by lia
 rw[hs.uniq pB xl];exact xB (gS _) Nb (cR _) gc.pr gc.pos
end Po
end SF
namespace SF
open Lean.Grind
namespace Po
theorem gU{xs:List Int}(h:Tr xs)(hn:xs≠[]):ao xs≠0:=a_ (by rw[aU h];exact List.length_pos_iff.mpr hn)
theorem yX{xs:List Int}(h:Tr xs)(hp:Pr (ao xs))(hl:0<(ao xs).c (len (ao xs)-1)):az xs=xs:=
 gT (cM h) h (xB h (b:=1) (by decide) (by rw[bN];grind) hp hl)
open Classical in
noncomputable def di(xs ys:List Int):List Int:=if h:ao xs≠0\/ao ys≠0 then lst (choose (GC.ex h)) else[]
theorem fU(xs ys:List Int):Tr (di xs ys):=by
 unfold di;split
 ·exact gS _
 ·exact Tr.nil
theorem cT{xs ys:List Int}(h:ao xs≠0\/ao ys≠0):GC (ao xs) (ao ys) (ao (di xs ys)):=by
 unfold di;rw[dif_pos h,cR];exact Classical.choose_spec (GC.ex h)
theorem my{xs ys ds:List Int}(hd:Tr ds)(h:GC (ao xs) (ao ys) (ao ds)):ds=di xs ys:=by
 have h0:ao xs≠0\/ao ys≠0:=by
  by_cases hx:ao xs=0
  ·refine .inr fun hy=>?_;obtain⟨u,v,a,ha,e⟩:=h.bz;rw[hx,hy] at e;exact dy (jq ha) h.pr.ne (by grind)
  ·exact .inl hx
 exact gT hd (fU _ _) (h.uniq (cT h0))
theorem pJ(xs ys:List Int):di xs ys=di ys xs:=by
 by_cases h:ao xs≠0\/ao ys≠0
 ·exact my (fU _ _) (cT h).symm
 ·unfold di;rw[dif_neg h,dif_neg fun z=>h z.symm]
theorem j8{xs:List Int}(h:Tr xs):di xs []=az xs:=by
 by_cases hn:xs=[]
 ·subst hn;unfold di;rw[dif_neg (by rw[cH];intro z;rcases z with z|z<;>exact z rfl)];rfl
 ·refine(my (cM h) ?_).symm;have e:=eD h hn;refine⟨cS h hn,fB h hn,?_,?_,1,0,cont xs,eV h hn,?_⟩
  ·rw[e];exact(D.refl _).mulL _
  ·rw[cH];exact D.zero _
  ·rw[<-e];grind
theorem nq{xs ys:List Int}(hx:Tr xs)(hy:Tr ys)(d8:xs≠[])(gG:ys≠[]):di (az xs) (az ys)=di xs ys:=by
 refine my (fU _ _) ?_;rw[eD hx d8,eD hy gG];exact(cT (.inl (cS hx d8).ne)).scale (eV hx d8) (eV hy gG)
theorem xD{xs ys:List Int}(h:ao xs≠0\/ao ys≠0):di xs ys≠[]:=fun z=>(cT h).pr.ne (by rw[z,cH])
theorem yY{xs ys:List Int}(h:ao xs≠0\/ao ys≠0):az (di xs ys)=di xs ys:=yX (fU _ _) (cT h).pr (cT h).pos
open Classical in
noncomputable def j9(xs ys:List Int):List Int:=if h:∃q,ao (az xs)=ao (az ys)*q then lst (choose h) else[]
theorem xE(xs ys:List Int):Tr (j9 xs ys):=by
 unfold j9;split
 ·exact gS _
 ·exact Tr.nil
theorem qJ{xs ys:List Int}(hx:Tr xs)(hy:Tr ys)(d8:xs≠[])(gG:ys≠[])(h:D (ao ys) (ao xs)):ao (az xs)=ao (az ys)*ao (j9 xs ys):=by
 have h2:∃q,ao (az xs)=ao (az ys)*q:=by
  refine(cS hy gG).div ?_;refine D.xq (eV hx d8) ?_;rw[<-eD hx d8];refine D.trans ?_ h;rw[eD hy gG];exact(D.refl _).mulL _
 unfold j9;rw[dif_pos h2,cR];exact Classical.choose_spec h2
theorem DX{xs ys qs:List Int}(hy:Tr ys)(gG:ys≠[])(hq:Tr qs)(e:ao (az xs)=ao (az ys)*ao qs):qs=j9 xs ys:=by
 have h2:∃q,ao (az xs)=ao (az ys)*q:=⟨_,e⟩;refine gT hq (xE _ _) ?_;unfold j9;rw[dif_pos h2,cR];have e2:=Classical.choose_spec h2;exact cancel (cS hy gG).ne (e.symm.trans e2)
theorem DY{xs ys:List Int}(hx:Tr xs)(hy:Tr ys)(d8:xs≠[])(gG:ys≠[])(h:D (ao ys) (ao xs)):Pr (ao (j9 xs ys))/\0<(ao (j9 xs ys)).c (len (ao (j9 xs ys))-1):=by
 have e:=qJ hx hy d8 gG h;have p:=cS hx d8;have l:=fB hx d8;have ly:=fB hy gG;rw[e] at p l;have hq:=p.Hr;refine⟨hq,?_⟩;rw[nc (cS hy gG).ne hq.ne] at l;rcases Int.lt_or_le 0 ((ao (j9 xs ys)).c (len (ao (j9 xs ys))-1)) with z|z
 ·exact z
 ·have:=Int.mul_nonpos_of_nonneg_of_nonpos (Int.le_of_lt ly) z;lia
noncomputable def kN(xs:List Int):List Int:=j9 xs (di xs (bT xs))
structure DZ(p f:Po):Prop where
 pr:Pr p
 pos:0<p.c (len p-1)
 zX:∀π,jy π->(D π p↔D π f)
 sq:∀π,jy π->¬D (π*π) p
theorem DZ.uniq{p q f g:Po}(h:DZ p f)(h':DZ q g)(e:∀π,jy π->(D π f↔D π g)):p=q:=by
 refine h.pr.same h'.pr ?_ ?_ h.pos h'.pos
 ·exact vw _ p q (Nat.le_refl _) h.pr.ne h.sq fun π hp z=>(h'.zX π hp).mpr ((e π hp).mp ((h.zX π hp).mp z))
 ·exact vw _ q p (Nat.le_refl _) h'.pr.ne h'.sq fun π hp z=>(h.zX π hp).mpr ((e π hp).mpr ((h'.zX π hp).mp z))
theorem Lj{xs:List Int}(hx:Tr xs)(d8:xs≠[]):D (ao (di xs (bT xs))) (ao xs):=(cT (.inl (gU hx d8))).df
theorem HC(xs:List Int):Tr (kN xs):=xE _ _
theorem Lk{xs:List Int}(hx:Tr xs)(d8:xs≠[]):DZ (ao (kN xs)) (ao xs):=by
 have h0:ao xs≠0\/ao (bT xs)≠0:=.inl (gU hx d8);have gc:=cT h0;have hd:=Lj hx d8;have hg:=fU xs (bT xs);have Nc:=xD h0;have hq:=DY hx hg d8 Nc hd;have e:=qJ hx hg d8 Nc hd;rw[yY h0] at e;have e2:ao xs=ao (di xs (bT xs))*(K (cont xs)*ao (kN xs)):=by
  rw[eD hx d8,e];show K (cont xs)*(ao (di xs (bT xs))*ao (kN xs))=_;grind
 obtain⟨u,v,a,ha,eb⟩:=gc.bz;rw[eC] at eb;have hc:=eV hx d8;have key:∀π,jy π->(D π (ao (kN xs))↔D π (ao xs))/\¬D (π*π) (ao (kN xs)):=fun π hp=>by
  have d1:D (K a*ao (di xs (bT xs))) (ao xs):=gc.df.Kl ha;have d2:D (K a*ao (di xs (bT xs))) (aR (ao xs)):=by rw[<-eC];exact gc.dg.Kl ha
  have e3:K a*ao xs=K a*ao (di xs (bT xs))*(K (cont xs)*ao (kN xs)):=by
   conv=>lhs;rw[e2]
   grind
  have:=DR (gU hx d8) eb d1 d2 ha e3 hp;refine⟨⟨fun z=>this.1.mp (z.mulL _),fun z=>?_⟩,fun z=>this.2 (z.mulL _)⟩;exact D.xq hc (this.1.mpr z)
 exact⟨hq.1,hq.2,fun π hp=>(key π hp).1,fun π hp=>(key π hp).2⟩
theorem vA{xs:List Int}(hx:Tr xs)(h:DZ (ao xs) (ao xs)):di xs (bT xs)=[1]:=by
 have hn:ao xs≠0:=h.pr.ne;have gc:=cT (xs:=xs) (ys:=bT xs) (.inl hn);have hl:len (ao (di xs (bT xs)))<=1:=by
  rcases Nat.lt_or_ge 1 (len (ao (di xs (bT xs)))) with hl|hl
  ·exfalso;obtain⟨π,hp,hd⟩:=jy.ex _ _ (Nat.le_refl _) hl;have d1:=hd.trans gc.df;have d2:=hd.trans gc.dg;rw[eC] at d2;obtain⟨a,ha,u,e⟩:=d1;have e2:=congrArg aR e;rw[sT,gM] at e2;have d3:D π (aR π*u):=by
    have h3:D π (K a*aR (ao xs)-π*aR u):=(d2.mulL _).sub (D.mul π _);have e3:K a*aR (ao xs)-π*aR u=aR π*u:=by grind
    rw[e3] at h3;exact h3
   rcases hp.prime d3 with z|z
   ·exact hp.aR z
   ·refine h.sq π hp (D.xq ha ?_);rw[e];exact z.Hq
  ·exact hl
 have e:=bW hl;have t1:Tr [1]:=fun x hx=>by
  have:1=x:=by simpa using hx
  lia
 refine gT (fU _ _) t1 ?_;have hp:=gc.pr;have gz:=gc.pos;rw[e] at hp gz ⊢;generalize (ao (di xs (bT xs))).c 0=b at*;have O_:b≠0:=by rintro rfl;exact hp.ne cE
 have hb:b.natAbs=1:=hp _ fun i=>by
  rw[vp];split
  ·exact Int.natAbs_dvd.mpr (Int.dvd_refl b)
  ·exact Int.dvd_zero _
 rw[len_K O_,vp,if_pos rfl] at gz;have:b=1:=by lia
 rw[this];exact ext fun i=>by
  rw[vp,aX];cases i with
  |zero=>rfl
  |succ i=>rfl
theorem D0{xs ys:List Int}(hx:Tr xs)(hy:Tr ys)(d8:xs≠[])(gG:ys≠[]){A M:Nat}(hA:xs.length+ys.length<=A+2)(h1:∀i,ab (co (az xs) i)<=M)(h2:∀i,ab (co (az ys) i)<=M)(i:Nat):
 ab (co (di xs ys) i)<=((NB A M:Nat):Int):=by
 rw[<-nq hx hy d8 gG];have gc:=cT (xs:=az xs) (ys:=az ys) (.inl (cS hx d8).ne);obtain⟨f1,e1⟩:=gc.pr.div gc.df;obtain⟨g1,e2⟩:=gc.pr.div gc.dg;have hh:=gc.pr.ne;have pf:=cS hx d8;have pg:=cS hy gG;have sW:f1≠0:=by rintro rfl;exact pf.ne (by rw[e1];grind)
 have zW:g1≠0:=by rintro rfl;exact pg.ne (by rw[e2];grind)
 have Lf:len (ao (az xs))=xs.length:=by rw[aU (cM hx),bD]
 have uP:len (ao (az ys))=ys.length:=by rw[aU (cM hy),bD]
 obtain⟨U,V,r,hr,er,hb⟩:=pI pf pg h1 h2 gc e1 e2 (A:=A) (by lia);refine Int.le_trans ?_ (hb i);rw[bX];have g1:1<=ab r:=iL hr;have g2:=aD (co (di (az xs) (az ys)) i);have g3:1*ab (co (di (az xs) (az ys)) i)<=ab r*ab (co (di (az xs) (az ys)) i):=Int.mul_le_mul_of_nonneg_right g1 g2;have g4:ab (co (di (az xs) (az ys)) i)<=ab r*ab (co (di (az xs) (az ys)) i):=by lia
 exact g4
end Po
end SF
namespace SF
open Lean.Grind
namespace Po
theorem Fu(a b:Nat):X (a+b)=X a*X b:=ext fun i=>by
 rw[eW,xp,xp];by_cases h:i<a
 ·rw[if_pos h,if_neg (by lia)]
 ·rw[if_neg h];by_cases h2:i=a+b
  ·rw[if_pos h2,if_pos (by lia)]
  ·rw[if_neg h2,if_neg (by lia)]
noncomputable def iN(rs ds:List Int)(t:Int)(k:Nat):List Int:=dX (fun j=>co rs j-if k<=j then t*co ds (j-k) else 0) rs.length
theorem yZ(rs ds:List Int)(t:Int)(k:Nat):(iN rs ds t k).length=rs.length:=aA _ _
theorem nt{rs ds:List Int}{t:Int}{k:Nat}(h:k+ds.length<=rs.length)(j:Nat):co (iN rs ds t k) j=co rs j-if k<=j then t*co ds (j-k) else 0:=by
 unfold iN;rw[gP];split
 ·rfl
 ·rw[cw (xs:=rs) (by lia)];split
  ·rw[cw (xs:=ds) (by lia)];grind
  ·rfl
theorem y8{rs ds:List Int}{t:Int}{k:Nat}(h:k+ds.length<=rs.length):ao (iN rs ds t k)=ao rs-K t*X k*ao ds:=ext fun j=>by
 have e:K t*X k*ao ds=K t*(X k*ao ds):=by grind
 rw[e,fT,aV,eW,aX,aX,aX,nt h];by_cases hj:k<=j
 ·rw[if_pos hj,if_neg (by lia)]
 ·rw[if_neg hj,if_pos (by lia)];grind
theorem Ba{rs:List Int}(h:co rs (rs.length-1)=0):ao rs.dropLast=ao rs:=ext fun j=>by
 rw[aX,aX,List.dropLast_eq_take,gO];split
 ·rfl
 ·by_cases hj:j=rs.length-1
  ·rw[hj,h]
  ·rw[cw (by lia)]
theorem xF(x y:Int):(x.fdiv y).natAbs<=x.natAbs:=by
 rcases Int.lt_trichotomy y 0 with h|h|h
 ·have e:x.fdiv y=(-x).fdiv (-y):=by rw[Int.neg_fdiv_neg]
  rw[e,iG (by lia:0< -y)];generalize hz:-y=z;have Nd:0<z:=by lia
  rcases Int.le_total 0 (-x) with hx|hx
  ·have h1:=Int.ediv_nonneg hx (by lia:0<=z);have h2:=Int.ediv_le_self z hx;lia
  ·have h1:(-x)/z<=0:=by
    have:=Int.ediv_le_ediv Nd hx;rw[Int.zero_ediv] at this;exact this
   have h2:-x<=(-x)/z:=by
    rw[Int.le_ediv_iff_mul_le Nd];have:(-x)*z<=(-x)*1:=Int.mul_le_mul_of_nonpos_left hx (by lia);lia
   lia
 ·rw[h,Int.fdiv_zero];simp
 ·rw[iG h];rcases Int.le_total 0 x with hx|hx
  ·have h1:=Int.ediv_nonneg hx (by lia:0<=y);have h2:=Int.ediv_le_self y hx;lia
  ·have h1:x/y<=0:=by
    have:=Int.ediv_le_ediv h hx;rw[Int.zero_ediv] at this;exact this
   have h2:x<=x/y:=by
    rw[Int.le_ediv_iff_mul_le h];have:x*y<=x*1:=Int.mul_le_mul_of_nonpos_left hx (by lia);lia
   lia
theorem y9{rs ds:List Int}(hd:Tr ds)(vB:ds≠[])(hl:ds.length<=rs.length){s:Po}(e:ao rs=ao ds*s):
 co rs (rs.length-1)-(co rs (rs.length-1)).fdiv (co ds (ds.length-1))*co ds (ds.length-1)=0:=by
 have hz:co rs (rs.length-1)=0->co rs (rs.length-1)-(co rs (rs.length-1)).fdiv (co ds (ds.length-1))*co ds (ds.length-1)=0:=fun z=>by
  rw[z,Int.zero_fdiv];grind
 by_cases hs:s=0
 ·refine hz ?_;have:(ao rs).c (rs.length-1)=0:=by
   rw[e,hs];have e2:ao ds*(0:Po)=0:=by grind
   rw[e2,dP]
  exact this
 ·have RQ:=gU hd vB;have h1:=len_mul RQ hs;rw[<-e] at h1;rw[aU hd] at h1;have h2:len (ao rs)<=rs.length:=cy fun i hi=>by rw[aX];exact cw hi
  by_cases h3:len (ao rs)=rs.length
  ·have h4:=nc RQ hs;rw[<-e,h3,aU hd,aX,aX] at h4;have vC:=hd.last vB;rw[h4,Int.mul_comm (co ds (ds.length-1)),Int.mul_fdiv_cancel _ vC];lia
  ·have gz:0<rs.length:=by have:=List.length_pos_iff.mpr vB;lia
   exact hz (dQ (f:=ao rs) (i:=rs.length-1) (by lia))
theorem y_{rs ds:List Int}(hd:Tr ds)(hl:rs.length<ds.length){s:Po}(e:ao rs=ao ds*s):ao rs=0:=by
 have vB:ds≠[]:=by rintro rfl;exact absurd hl (Nat.not_lt_zero _)
 by_cases hs:s=0
 ·rw[e,hs];grind
 ·have h1:=len_mul (gU hd vB) hs;rw[<-e,aU hd] at h1;have h2:len (ao rs)<=rs.length:=cy fun i hi=>by rw[aX];exact cw hi
  have h3:=len_pos hs;lia
theorem any_zero{rs:List Int}:rs.any (·!=0)=false↔ao rs=0:=by
 constructor
 ·intro h;refine ext fun i=>?_;rw[aX,dP];by_cases hi:i<rs.length
  ·rw[bI hi];have:=List.any_eq_false.mp h _ (List.getElem_mem hi);simpa using this
  ·exact cw (by lia)
 ·intro h;refine List.any_eq_false.mpr fun x hx=>?_;obtain⟨i,e⟩:=kM hx;have:(ao rs).c i=0:=by rw[h,dP]
  rw[aX,e] at this;simp[this]
theorem HD{xs ds qs:List Int}(hx:Tr xs)(d8:xs≠[])(hd:Tr ds)(e:ao xs=ao ds*ao qs)(hl:qs.length+ds.length=xs.length+1):Tr qs:=by
 have h0:=gU hx d8;rw[e] at h0;have h1:=len_mul (qD h0) (gx h0);rw[<-e,aU hx,aU hd] at h1;refine Tr.gQ fun hq=>?_;have hp:=List.length_pos_iff.mpr hq;have h2:=lead (f:=ao qs) (by lia);have e2:len (ao qs)-1=qs.length-1:=by lia
 rw[e2] at h2;exact h2
theorem xG(p:Int):∀xs ys:List Int,d7 p (xs++ys)=d7 p xs+p^xs.length*d7 p ys
 |[],ys=>by show d7 p ys=0+p^0*d7 p ys;rw[Int.pow_zero];lia
 |x::r,ys=>by
  show x+p*d7 p (r++ys)=x+p*d7 p r+p^(r.length+1)*d7 p ys;rw[xG p r ys,Int.pow_succ];grind
noncomputable def digit(p v:Int):Int:=if 2*(v%p)>p then v%p-p else v%p
noncomputable def iO(p v:Int):Int:=(v-digit p v)/p
theorem nu{p v:Int}(hp:0<p):digit p v+p*iO p v=v:=by
 have hd:p∣v-digit p v:=by
  unfold digit;have h1:=Int.emod_add_mul_ediv v p;split
  ·exact⟨v/p+1,by grind⟩
  ·exact⟨v/p,by grind⟩
 unfold iO;rw[Int.mul_ediv_cancel' hd];lia
theorem mB{p v:Int}(hp:0<p):-p<2*digit p v/\2*digit p v<=p:=by
 have h1:=Int.emod_nonneg v (Int.ne_of_gt hp);have h2:=Int.emod_lt_of_pos v hp;unfold digit;split<;>lia
theorem sX{p v:Int}(hp:0<p)(hv:0<=v):0<=iO p v:=by
 have e:=nu (v:=v) hp;have b:=mB (v:=v) hp;rcases Int.lt_or_le (iO p v) 0 with h|h
 ·have:p*iO p v<=p*(-1):=Int.mul_le_mul_of_nonneg_left (by lia) (by lia);lia
 ·exact h
theorem D1{p v w:Int}(hp:0<p)(h:v<=p*w):iO p v<=w:=by
 have e:=nu (v:=v) hp;have b:=mB (v:=v) hp;rcases Int.lt_or_le w (iO p v) with h2|h2
 ·have:p*(w+1)<=p*iO p v:=Int.mul_le_mul_of_nonneg_left (by lia) (by lia);have e2:p*(w+1)=p*w+p:=by grind
  lia
 ·exact h2
theorem Bb{p:Int}(hp:2<=p):iO p 1=0/\digit p 1=1:=by
 have e:(1:Int)%p=1:=Int.emod_eq_of_lt (by decide) (by lia);have e2:digit p 1=1:=by unfold digit;rw[e,if_neg (by lia)]
 refine⟨?_,e2⟩;unfold iO;rw[e2];simp
theorem D3{p v:Int}(hp:3<=p)(hv:0<v):iO p v<v:=by
 have e:=nu (p:=p) (v:=v) (by lia);have b:=mB (p:=p) (v:=v) (by lia);rcases Int.lt_or_le (iO p v) v with h|h
 ·exact h
 ·have h1:p*v<=p*iO p v:=Int.mul_le_mul_of_nonneg_left h (by lia);have h2:3*v<=p*v:=Int.mul_le_mul_of_nonneg_right hp (by lia);have h3:p*1<=p*v:=Int.mul_le_mul_of_nonneg_left (by lia) (by lia);lia
theorem vD{p v:Int}(hp:0<p)(hv:v≠0)(h:iO p v=0):digit p v≠0:=fun z=>by
 have e:=nu (v:=v) hp;rw[z,h] at e;lia
theorem Ll{p:Int}(hp:0<p){xs:List Int}(h:∀x∈xs,ab x<p):ab (d7 p xs)<p^xs.length:=by
 rw[qG];have h1:=vx (f:=fun i=>co xs i*p^i) xs.length;have h2:ax (fun i=>ab (co xs i*p^i)) xs.length<=ax (fun i=>(p-1)*(p-1+1)^i) xs.length:=j6 fun i hi=>by
  rw[bX,lJ (Int.pow_nonneg (by lia))];have e:p-1+1=p:=by lia
  rw[e];refine Int.mul_le_mul_of_nonneg_right ?_ (Int.pow_nonneg (by lia));have:=h (co xs i) (by rw[bI hi];exact List.getElem_mem hi);lia
 rw[nh] at h2;have e:p-1+1=p:=by lia
 rw[e] at h2;lia
theorem sY(p:Int)(xs:List Int){j:Nat}(h:j<xs.length):d7 p (xs.drop (xs.length-(j+1)))=d7 p (xs.drop (xs.length-j))*p+co xs (xs.length-1-j):=by
 have e:xs.length-(j+1)=xs.length-1-j:=by lia
 have e2:xs.length-j=xs.length-1-j+1:=by lia
 rw[e,e2,List.drop_eq_getElem_cons (i:=xs.length-1-j) (by lia)];show xs[xs.length-1-j]+p*_=_;rw[bI (by lia)];grind
theorem Bc(p:Int)(xs:List Int):d7 p (xs.drop (xs.length-xs.length))=d7 p xs:=by rw[Nat.sub_self,List.drop_zero]
theorem sZ(p:Int)(xs:List Int):d7 p (xs.drop (xs.length-0))=0:=by rw[Nat.sub_zero,List.drop_length];rfl
end Po
end SF
namespace SF
open Lean.Grind
namespace Po
theorem Lm{p M:Int}{w:Po}(hw:w≠0)(hb:∀i,ab (w.c i)<=M)(hp:2*(M+1)<p):ev p w≠0:=by
 have Hv:0<=M:=Int.le_trans (aD _) (hb 0);by_cases hl:2<=len w
 ·have:=jg hw (show w=w*1 by grind) hl hb (p:=p) (by lia);intro z;rw[z] at this;have h0:ab 0=0:=rfl;lia
 ·have e:=bW (f:=w) (by lia);rw[e,A3];intro z;rw[z,cE] at e;exact hw e
theorem Be{a b:Int}{B:Int}(h:(a≠0/\ab a<=B)\/(b≠0/\ab b<=B)):Int.gcd a b≠0/\((Int.gcd a b:Nat):Int)<=B:=by
 rcases h with⟨h,hb⟩|⟨h,hb⟩
 ·refine⟨Nat.ne_of_gt (Int.gcd_pos_of_ne_zero_left _ h),Int.le_trans ?_ hb⟩;unfold ab;have:=Nat.le_of_dvd (by lia) (Int.natAbs_dvd_natAbs.mpr (Int.gcd_dvd_left (a:=a) (b:=b)));lia
 ·refine⟨Nat.ne_of_gt (Int.gcd_pos_of_ne_zero_right _ h),Int.le_trans ?_ hb⟩;unfold ab;have:=Nat.le_of_dvd (by lia) (Int.natAbs_dvd_natAbs.mpr (Int.gcd_dvd_right (a:=a) (b:=b)));lia
theorem y'{xs ys:List Int}{M p:Int}(hx:ao xs≠0)(hy:ao ys≠0)(hM:(∀x∈xs,ab x<=M)\/(∀y∈ys,ab y<=M))(h0:0<=M)(hp:2*(M+1)<p)(n:Nat)(h1:xs.length<=n)(h2:ys.length<=n):
 Int.gcd (d7 p xs) (d7 p ys)≠0/\((Int.gcd (d7 p xs) (d7 p ys):Nat):Int)<=p^n:=by
 have key:∀zs:List Int,ao zs≠0->(∀x∈zs,ab x<=M)->zs.length<=n->d7 p zs≠0/\ab (d7 p zs)<=p^n:=fun zs hz hb hl=>by
  constructor
  ·rw[<-iM];exact Lm hz (fun i=>mem_co hb h0 i) hp
  ·have h3:=Ll (p:=p) (by lia) (xs:=zs) (fun x hx=>by have:=hb x hx;lia);have h4:p^zs.length<=p^n:=by
    obtain⟨k,rfl⟩:=Int.eq_ofNat_of_zero_le (show 0<=p by lia);have e1:((k:Int)^zs.length)=((k^zs.length:Nat):Int):=by simp
    have e2:((k:Int)^n)=((k^n:Nat):Int):=by simp
    rw[e1,e2];exact Int.ofNat_le.mpr (Nat.pow_le_pow_right (by lia) hl)
   lia
 refine Be ?_;rcases hM with h|h
 ·exact .inl (key xs hx h h1)
 ·exact .inr (key ys hy h h2)
theorem xH(b:Nat):2*NB 60 (2^b)<2^(61*b+427):=by
 unfold NB;have h0:0<2^b:=Nat.two_pow_pos b;have h1:2*60*2^b+1<=2^(b+7):=by rw[Nat.pow_add];lia
 have h2:(2*60*2^b+1)^60<=(2^(b+7))^60:=Nat.pow_le_pow_left h1 60;rw[<-Nat.pow_mul] at h2;have h3:(2*60*2^b+1)^60*2^b<=2^((b+7)*60)*2^b:=Nat.mul_le_mul_right _ h2;rw[<-Nat.pow_add] at h3;have e:61*b+427=((b+7)*60+b)+7:=by lia
 rw[e,Nat.pow_add 2 ((b+7)*60+b) 7];generalize (2*60*2^b+1)^60*2^b=z at*;have h4:0<2^((b+7)*60+b):=Nat.two_pow_pos _;lia
end Po
end SF
namespace SF
open Lean.Grind
namespace RR
noncomputable def ra(x:Rat):Rat:=if x<0 then -x else x
theorem cX(x:Rat):0<=ra x:=by unfold ra;split<;>grind
theorem nv(x y:Rat):ra (x+y)<=ra x+ra y:=by unfold ra;split<;>split<;>split<;>grind
theorem vE(x:Rat):ra (-x)=ra x:=by unfold ra;split<;>split<;>grind
theorem ny{x e:Rat}:ra x<e↔(-e<x/\x<e):=by unfold ra;split<;>grind
theorem s_{x e:Rat}:ra x<=e↔(-e<=x/\x<=e):=by unfold ra;split<;>grind
theorem qK{a b c d:Rat}(h1:a<=b)(h2:c<=d)(h3:0<=b)(h4:0<=c):a*c<=b*d:=by
 have e1:a*c<=b*c:=Rat.mul_le_mul_of_nonneg_right h1 h4;have e2:b*c<=b*d:=Rat.mul_le_mul_of_nonneg_left h2 h3;grind
theorem Bf(x y:Rat):ra (x*y)=ra x*ra y:=by
 unfold ra;by_cases hx:x<0<;>by_cases hy:y<0
 ·have:¬x*y<0:=by
   have:=Rat.mul_pos (a:=-x) (b:=-y) (by grind) (by grind);grind
  rw[if_neg this,if_pos hx,if_pos hy];grind
 ·rw[if_pos hx,if_neg hy];by_cases h0:y=0
  ·rw[h0,if_neg (by grind)];grind
  ·have:=Rat.mul_pos (a:=-x) (b:=y) (by grind) (by grind);rw[if_pos (by grind)];grind
 ·rw[if_neg hx,if_pos hy];by_cases h0:x=0
  ·rw[h0,if_neg (by grind)];grind
  ·have:=Rat.mul_pos (a:=x) (b:=-y) (by grind) (by grind);rw[if_pos (by grind)];grind
 ·rw[if_neg hx,if_neg hy];have:¬x*y<0:=by
   have:=Rat.mul_nonneg (a:=x) (b:=y) (by grind) (by grind);grind
  rw[if_neg this]
theorem vF{a b:Rat}(ha:0<a)(hb:0<b):0<a/b:=by rw[Rat.div_def];exact Rat.mul_pos ha (Rat.inv_pos.mpr hb)
structure CS where
 s:Nat->Rat
 c:∀e:Rat,0<e->∃N,∀m n,N<=m->N<=n->ra (s m-s n)<e
theorem CS.bd(a:CS):∃B:Rat,0<B/\∀n,ra (a.s n)<=B:=by
 obtain⟨N,hN⟩:=a.c 1 (by decide);have hex:∀k:Nat,∃B:Rat,0<B/\∀n,n<k->ra (a.s n)<=B:=by
  intro k
  induction k with
  |zero=>exact⟨1,by decide,fun n hn=>by lia⟩
  |succ k ih=>
   obtain⟨B,hB,hb⟩:=ih;refine⟨B+ra (a.s k),by have:=cX (a.s k);grind,fun n hn=>?_⟩;by_cases h:n<k
   ·have:=hb n h;have:=cX (a.s k);grind
   ·have e:n=k:=by lia
    rw[e];grind
 obtain⟨B,hB,hb⟩:=hex (N+1);refine⟨B+1,by grind,fun n=>?_⟩;by_cases h:n<N+1
 ·have:=hb n h;grind
 ·have h1:=hN n N (by lia) (Nat.le_refl _);have h2:=hb N (by lia);have h3:=nv (a.s n-a.s N) (a.s N);have e:a.s n-a.s N+a.s N=a.s n:=by grind
  rw[e] at h3;grind
theorem half{e:Rat}(h:0<e):0<e/2/\e/2+e/2=e:=by
 constructor<;>grind
noncomputable def HE(a b:CS):CS:=⟨fun n=>a.s n+b.s n,fun e he=>by
 obtain⟨h1,h2⟩:=half he
 obtain⟨N,hN⟩:=a.c _ h1
 obtain⟨M,hM⟩:=b.c _ h1
 refine⟨max N M,fun m n hm hn=>?_⟩
 have g1:=hN m n (by lia) (by lia)
 have g2:=hM m n (by lia) (by lia)
 have g3:=nv (a.s m-a.s n) (b.s m-b.s n)
 have e:a.s m+b.s m-(a.s n+b.s n)=a.s m-a.s n+(b.s m-b.s n):=by grind
 rw[e];grind⟩
noncomputable def HF(a:CS):CS:=⟨fun n=>-a.s n,fun e he=>by
 obtain⟨N,hN⟩:=a.c _ he
 refine⟨N,fun m n hm hn=>?_⟩
 have g1:=hN m n hm hn
 have e2:-a.s m- -a.s n=-(a.s m-a.s n):=by grind
 rw[e2,vE];exact g1⟩
theorem tj{a b a' b' B:Rat}{e:Rat}(hB:0<B)(h1:ra a<=B)(h2:ra b'<=B)(h3:ra (b-b')<e/(2*B))(h4:ra (a-a')<e/(2*B)):ra (a*b-a'*b')<e:=by
 have e1:a*b-a'*b'=a*(b-b')+(a-a')*b':=by grind
 have g:=nv (a*(b-b')) ((a-a')*b');rw[Bf,Bf] at g;have z1:=cX a;have z2:=cX b';have z3:=cX (b-b');have z4:=cX (a-a');have g1:ra a*ra (b-b')<=B*ra (b-b'):=Rat.mul_le_mul_of_nonneg_right h1 z3;have g2:ra (a-a')*ra b'<=ra (a-a')*B:=Rat.mul_le_mul_of_nonneg_left h2 z4;have g3:B*ra (b-b')<B*(e/(2*B)):=(Rat.mul_lt_mul_left hB).mpr h3;have g4:B*ra (a-a')<B*(e/(2*B)):=(Rat.mul_lt_mul_left hB).mpr h4;have e2:B*(e/(2*B))=e/2:=by grind
 rw[e1];grind
noncomputable def HG(a b:CS):CS:=⟨fun n=>a.s n*b.s n,fun e he=>by
 obtain⟨A,hA,ha⟩:=a.bd
 obtain⟨B,hB,hb⟩:=b.bd
 have Ln:0<A+B:=by grind
 have gz:0<e/(2*(A+B)):=vF he (Rat.mul_pos (by decide) Ln)
 obtain⟨N,hN⟩:=a.c _ gz
 obtain⟨M,hM⟩:=b.c _ gz
 refine⟨max N M,fun m n hm hn=>?_⟩
 exact tj Ln (by have:=ha m;grind) (by have:=hb n;grind) (hM m n (by lia) (by lia)) (hN m n (by lia) (by lia))⟩
noncomputable def O'(q:Rat):CS:=⟨fun _=>q,fun e he=>⟨0,fun _ _ _ _=>by
 have:q-q=0:=by grind
 rw[this];unfold ra;rw[if_neg (by decide)];exact he⟩⟩
noncomputable def eqv(a b:CS):Prop:=∀e:Rat,0<e->∃N,∀n,N<=n->ra (a.s n-b.s n)<e
theorem eqv_refl(a:CS):eqv a a:=fun e he=>⟨0,fun n _=>by
 have:a.s n-a.s n=0:=by grind
 rw[this];unfold ra;rw[if_neg (by decide)];exact he⟩
theorem nA{a b:CS}(h:eqv a b):eqv b a:=fun e he=>by
 obtain⟨N,hN⟩:=h e he;refine⟨N,fun n hn=>?_⟩;have:=hN n hn;have e2:b.s n-a.s n=-(a.s n-b.s n):=by grind
 rw[e2,vE];exact this
theorem za{a b c:CS}(h:eqv a b)(h':eqv b c):eqv a c:=fun e he=>by
 obtain⟨h1,h2⟩:=half he;obtain⟨N,hN⟩:=h _ h1;obtain⟨M,hM⟩:=h' _ h1;refine⟨max N M,fun n hn=>?_⟩;have g1:=hN n (by lia);have g2:=hM n (by lia);have g3:=nv (a.s n-b.s n) (b.s n-c.s n);have e3:a.s n-b.s n+(b.s n-c.s n)=a.s n-c.s n:=by grind
 rw[e3] at g3;grind
noncomputable instance sd:Setoid CS:=⟨eqv,eqv_refl,nA,za⟩
end RR
noncomputable def Re:Type:=Quotient RR.sd
namespace Re
open RR
noncomputable def mk(a:CS):Re:=Quotient.mk sd a
theorem HH{a b a' b':CS}(h:eqv a a')(h':eqv b b'):eqv (HE a b) (HE a' b'):=fun e he=>by
 obtain⟨h1,h2⟩:=half he;obtain⟨N,hN⟩:=h _ h1;obtain⟨M,hM⟩:=h' _ h1;refine⟨max N M,fun n hn=>?_⟩;have g1:=hN n (by lia);have g2:=hM n (by lia);have g3:=nv (a.s n-a'.s n) (b.s n-b'.s n);show ra (a.s n+b.s n-(a'.s n+b'.s n))<e;have e3:a.s n+b.s n-(a'.s n+b'.s n)=a.s n-a'.s n+(b.s n-b'.s n):=by grind
 rw[e3];grind
theorem HI{a a':CS}(h:eqv a a'):eqv (HF a) (HF a'):=fun e he=>by
 obtain⟨N,hN⟩:=h _ he;refine⟨N,fun n hn=>?_⟩;have g1:=hN n hn;show ra (- a.s n- -a'.s n)<e;have e3:-a.s n- -a'.s n=-(a.s n-a'.s n):=by grind
 rw[e3,vE];exact g1
theorem HJ{a b a' b':CS}(h:eqv a a')(h':eqv b b'):eqv (HG a b) (HG a' b'):=fun e he=>by
 obtain⟨A,hA,ha⟩:=a.bd;obtain⟨B,hB,hb⟩:=b'.bd;have Ln:0<A+B:=by grind
 have gz:0<e/(2*(A+B)):=vF he (Rat.mul_pos (by decide) Ln);obtain⟨N,hN⟩:=h _ gz;obtain⟨M,hM⟩:=h' _ gz;refine⟨max N M,fun n hn=>?_⟩;exact tj Ln (by have:=ha n;grind) (by have:=hb n;grind) (hM n (by lia)) (hN n (by lia))
noncomputable def add(x y:Re):Re:=Quotient.liftOn₂ x y (fun a b=>mk (HE a b)) fun _ _ _ _ h h'=>Quotient.sound (HH h h')
noncomputable def mul(x y:Re):Re:=Quotient.liftOn₂ x y (fun a b=>mk (HG a b)) fun _ _ _ _ h h'=>Quotient.sound (HJ h h')
noncomputable def neg(x:Re):Re:=Quotient.liftOn x (fun a=>mk (HF a)) fun _ _ h=>Quotient.sound (HI h)
noncomputable def q(r:Rat):Re:=mk (O' r)
noncomputable instance instAdd:Add Re:=⟨add⟩
noncomputable instance instMul:Mul Re:=⟨mul⟩
noncomputable instance instNeg:Neg Re:=⟨neg⟩
noncomputable instance instSub:Sub Re:=⟨fun x y=>x+-y⟩
noncomputable instance instNatCast:NatCast Re:=⟨fun n=>q (n:Rat)⟩
noncomputable instance instIntCast:IntCast Re:=⟨fun n=>q (n:Rat)⟩
noncomputable instance instOfNat(n:Nat):OfNat Re n:=⟨q ((n:Nat):Rat)⟩
noncomputable def pow(x:Re):Nat->Re
 |0=>q 1
 |n+1=>pow x n*x
noncomputable instance instHPow:HPow Re Nat Re:=⟨pow⟩
noncomputable instance gr:SMul Nat Re:=⟨fun n x=>q (n:Rat)*x⟩
noncomputable instance gu:SMul Int Re:=⟨fun n x=>q (n:Rat)*x⟩
theorem mk_eq{a b:CS}(h:∀n,a.s n=b.s n):mk a=mk b:=by
 have:a=b:=by
  cases a;cases b;have:_=_:=funext h;cases this;rfl
 rw[this]
theorem ex(x:Re):∃a,x=mk a:=by
 obtain⟨a,h⟩:=Quotient.exists_rep x;exact⟨a,h.symm⟩
theorem j_(a b:Rat):q (a+b)=q a+q b:=mk_eq fun _=>rfl
theorem fo(a b:Rat):q (a*b)=q a*q b:=mk_eq fun _=>rfl
theorem nB(a:Rat):q (-a)=-q a:=mk_eq fun _=>rfl
noncomputable instance instCommRing:CommRing Re where
 natCast:=instNatCast
 ofNat:=instOfNat
 nsmul:=gr
 npow:=instHPow
 intCast:=instIntCast
 zsmul:=gu
 add_zero x:=by obtain⟨a,rfl⟩:=ex x;exact mk_eq fun n=>by show a.s n+((0:Nat):Rat)=a.s n;grind
 add_comm x y:=by obtain⟨a,rfl⟩:=ex x;obtain⟨b,rfl⟩:=ex y;exact mk_eq fun n=>by show a.s n+b.s n=b.s n+a.s n;grind
 add_assoc x y z:=by obtain⟨a,rfl⟩:=ex x;obtain⟨b,rfl⟩:=ex y;obtain⟨c,rfl⟩:=ex z;exact mk_eq fun n=>by show a.s n+b.s n+c.s n=a.s n+(b.s n+c.s n);grind
 mul_assoc x y z:=by obtain⟨a,rfl⟩:=ex x;obtain⟨b,rfl⟩:=ex y;obtain⟨c,rfl⟩:=ex z;exact mk_eq fun n=>by show a.s n*b.s n*c.s n=a.s n*(b.s n*c.s n);grind
 mul_one x:=by obtain⟨a,rfl⟩:=ex x;exact mk_eq fun n=>by show a.s n*((1:Nat):Rat)=a.s n;grind
 one_mul x:=by obtain⟨a,rfl⟩:=ex x;exact mk_eq fun n=>by show((1:Nat):Rat)*a.s n=a.s n;grind
 right_distrib x y z:=by obtain⟨a,rfl⟩:=ex x;obtain⟨b,rfl⟩:=ex y;obtain⟨c,rfl⟩:=ex z;exact mk_eq fun n=>by show(a.s n+b.s n)*c.s n=a.s n*c.s n+b.s n*c.s n;grind
 left_distrib x y z:=by obtain⟨a,rfl⟩:=ex x;obtain⟨b,rfl⟩:=ex y;obtain⟨c,rfl⟩:=ex z;exact mk_eq fun n=>by show a.s n*(b.s n+c.s n)=a.s n*b.s n+a.s n*c.s n;grind
 zero_mul x:=by obtain⟨a,rfl⟩:=ex x;exact mk_eq fun n=>by show((0:Nat):Rat)*a.s n=((0:Nat):Rat);grind
 mul_zero x:=by obtain⟨a,rfl⟩:=ex x;exact mk_eq fun n=>by show a.s n*((0:Nat):Rat)=((0:Nat):Rat);grind
 pow_zero x:=rfl
 pow_succ x n:=rfl
 ofNat_succ n:=mk_eq fun _=>by show((n+1:Nat):Rat)=((n:Nat):Rat)+((1:Nat):Rat);grind
 ofNat_eq_natCast n:=rfl
 nsmul_eq_natCast_mul n x:=rfl
 neg_add_cancel x:=by obtain⟨a,rfl⟩:=ex x;exact mk_eq fun n=>by show-a.s n+a.s n=((0:Nat):Rat);grind
 sub_eq_add_neg x y:=rfl
 neg_zsmul n x:=by
  obtain⟨a,rfl⟩:=ex x;refine mk_eq fun k=>?_;show((-n:Int):Rat)*a.s k=-(((n:Int):Rat)*a.s k);have:((-n:Int):Rat)=-((n:Int):Rat):=by simp
  rw[this];grind
 zsmul_natCast_eq_nsmul n x:=by obtain⟨a,rfl⟩:=ex x;exact mk_eq fun k=>rfl
 intCast_ofNat n:=mk_eq fun _=>by show(((OfNat.ofNat n:Int)):Rat)=((n:Nat):Rat);rfl
 intCast_neg n:=mk_eq fun _=>by show((-n:Int):Rat)=-((n:Int):Rat);simp
 mul_comm x y:=by obtain⟨a,rfl⟩:=ex x;obtain⟨b,rfl⟩:=ex y;exact mk_eq fun n=>by show a.s n*b.s n=b.s n*a.s n;grind
end Re
end SF
namespace SF
open Lean.Grind
namespace Re
open RR
noncomputable def Pa(a b:CS):Prop:=∃e:Rat,0<e/\∃N,∀n,N<=n->a.s n+e<=b.s n
theorem Fv{a b a' b':CS}(h:eqv a a')(h':eqv b b')(l:Pa a b):Pa a' b':=by
 obtain⟨e,he,N,hN⟩:=l;have h4:0<e/4:=by grind
 obtain⟨M,hM⟩:=h _ h4;obtain⟨L,hL⟩:=h' _ h4;refine⟨e/2,by grind,max N (max M L),fun n hn=>?_⟩;have g1:=hN n (by lia);have g2:=ny.mp (hM n (by lia));have g3:=ny.mp (hL n (by lia));grind
noncomputable def lt(x y:Re):Prop:=Quotient.liftOn₂ x y Pa fun _ _ _ _ h h'=>propext ⟨Fv h h',Fv (nA h) (nA h')⟩
noncomputable instance instLT:LT Re:=⟨lt⟩
noncomputable instance instLE:LE Re:=⟨fun x y=>¬y<x⟩
theorem le_iff{x y:Re}:x<=y↔¬y<x:=Iff.rfl
theorem lt_irrefl(x:Re):¬x<x:=by
 obtain⟨a,rfl⟩:=ex x;rintro⟨e,he,N,hN⟩;have:=hN N (Nat.le_refl _);grind
theorem lt_trans{x y z:Re}(h:x<y)(h':y<z):x<z:=by
 obtain⟨a,rfl⟩:=ex x;obtain⟨b,rfl⟩:=ex y;obtain⟨c,rfl⟩:=ex z;obtain⟨e,he,N,hN⟩:=h;obtain⟨e',RS,M,hM⟩:=h';refine⟨e,he,max N M,fun n hn=>?_⟩;have g1:=hN n (by lia);have g2:=hM n (by lia);grind
theorem HK(x y:Re):x<y\/x=y\/y<x:=by
 obtain⟨a,rfl⟩:=ex x;obtain⟨b,rfl⟩:=ex y;by_cases h:eqv a b
 ·exact .inr (.inl (Quotient.sound h))
 ·have h1:∃e:Rat,0<e/\∀N,∃n,N<=n/\e<=ra (a.s n-b.s n):=by
   obtain⟨e,he⟩:=Classical.not_forall.mp h;obtain⟨U1,Nf⟩:=Classical.not_imp.mp he;refine⟨e,U1,fun N=>?_⟩;have h3:=fun hN=>Nf ⟨N,hN⟩;obtain⟨n,hn⟩:=Classical.not_forall.mp h3;obtain⟨xw,Pb⟩:=Classical.not_imp.mp hn;exact⟨n,xw,by grind⟩
  obtain⟨e,he,jU⟩:=h1;have h4:0<e/4:=by grind
  obtain⟨N,hN⟩:=a.c _ h4;obtain⟨M,hM⟩:=b.c _ h4;obtain⟨n,hn,hb⟩:=jU (max N M);by_cases hs:a.s n-b.s n<0
  ·left;refine⟨e/2,by grind,max N M,fun m hm=>?_⟩;have g1:=ny.mp (hN m n (by lia) (by lia));have g2:=ny.mp (hM m n (by lia) (by lia));unfold ra at hb;rw[if_pos hs] at hb;grind
  ·right;right;refine⟨e/2,by grind,max N M,fun m hm=>?_⟩;have g1:=ny.mp (hN m n (by lia) (by lia));have g2:=ny.mp (hM m n (by lia) (by lia));unfold ra at hb;rw[if_neg hs] at hb;grind
noncomputable instance HL:Std.IsLinearOrder Re where
 le_refl a:=lt_irrefl a
 le_trans a b c h h':=fun hc=>by
  rcases HK a b with z|z|z
  ·exact h' (lt_trans hc z)
  ·rw[<-z] at h';exact h' hc
  ·exact h z
 le_antisymm a b h h':=by
  rcases HK a b with z|z|z
  ·exact absurd z h'
  ·exact z
  ·exact absurd z h
 le_total a b:=by
  rcases HK a b with z|z|z
  ·exact .inl fun y=>lt_irrefl a (lt_trans z y)
  ·exact .inl (by rw[z];exact lt_irrefl b)
  ·exact .inr fun y=>lt_irrefl a (lt_trans y z)
noncomputable instance HM:Std.LawfulOrderLT Re where
 lt_iff a b:=by
  constructor
  ·intro h;exact⟨fun y=>lt_irrefl a (lt_trans h y),fun y=>y h⟩
  ·rintro⟨_,h⟩;exact Classical.not_not.mp h
theorem qL{x y:Re}(h:x<y)(z:Re):x+z<y+z:=by
 obtain⟨a,rfl⟩:=ex x;obtain⟨b,rfl⟩:=ex y;obtain⟨c,rfl⟩:=ex z;obtain⟨e,he,N,hN⟩:=h;refine⟨e,he,N,fun n hn=>?_⟩;have g1:=hN n hn;show a.s n+c.s n+e<=b.s n+c.s n;grind
theorem add_lt_iff{x y:Re}(z:Re):x<y↔x+z<y+z:=by
 constructor
 ·exact fun h=>qL h z
 ·intro h;have:=qL h (-z);have e1:x+z+-z=x:=by grind
  have e2:y+z+-z=y:=by grind
  rw[e1,e2] at this;exact this
theorem mul_pos{x y:Re}(h:0<x)(h':0<y):0<x*y:=by
 obtain⟨a,rfl⟩:=ex x;obtain⟨b,rfl⟩:=ex y;obtain⟨e,he,N,hN⟩:=h;obtain⟨e',RS,M,hM⟩:=h';refine⟨e*e',Rat.mul_pos he RS,max N M,fun n hn=>?_⟩;have g1:((0:Nat):Rat)+e<=a.s n:=hN n (by lia);have g2:((0:Nat):Rat)+e'<=b.s n:=hM n (by lia);show((0:Nat):Rat)+e*e'<=a.s n*b.s n;have g3:=qK (a:=e) (b:=a.s n) (c:=e') (d:=b.s n) (by grind) (by grind) (by grind) (by grind);grind
theorem eJ{r t:Rat}:q r<q t↔r<t:=by
 constructor
 ·rintro⟨e,he,N,hN⟩;have:r+e<=t:=hN N (Nat.le_refl _);grind
 ·intro h;refine⟨t-r,by grind,0,fun n _=>?_⟩;show r+(t-r)<=t;grind
theorem f6:q 0=0:=rfl
theorem xI:q 1=1:=rfl
theorem dI{r t:Rat}:q r<=q t↔r<=t:=by
 rw[le_iff,eJ];grind
theorem pK{r t:Rat}(h:q r=q t):r=t:=by
 have h1:¬r<t:=fun z=>by have:=eJ.mpr z;rw[h] at this;exact lt_irrefl _ this
 have h2:¬t<r:=fun z=>by have:=eJ.mpr z;rw[h] at this;exact lt_irrefl _ this
 grind
noncomputable instance Bg:OrderedAdd Re where
 add_le_left_iff {a b} c:=by
  rw[le_iff,le_iff,<-add_lt_iff c]
theorem sub_pos{x y:Re}(h:x<y):0<y-x:=by
 have:=qL h (-x);have e1:x+-x=0:=by grind
 have e2:y+-x=y-x:=by grind
 rw[e1,e2] at this;exact this
theorem nC{x y:Re}(h:0<y-x):x<y:=by
 have:=qL h x;have e1:0+x=x:=by grind
 have e2:y-x+x=y:=by grind
 rw[e1,e2] at this;exact this
noncomputable instance instOrderedRing:OrderedRing Re where
 zero_lt_one:=by
  show q ((0:Nat):Rat)<q ((1:Nat):Rat);rw[eJ];decide
 mul_lt_mul_of_pos_left {a b c} h hc:=by
  have:=mul_pos hc (sub_pos h);have e:c*(b-a)=c*b-c*a:=by grind
  rw[e] at this;exact nC this
 mul_lt_mul_of_pos_right {a b c} h hc:=by
  have:=mul_pos hc (sub_pos h);have e:c*(b-a)=b*c-a*c:=by grind
  rw[e] at this;exact nC this
example (x y:Re)(h:x<y):x+1<=y+2:=by grind
theorem small{x:Re}(h:0<x):∃r:Rat,0<r/\q r<x:=by
 obtain⟨a,rfl⟩:=ex x;obtain⟨e,he,N,hN⟩:=h;refine⟨e/2,by grind,e/2,by grind,N,fun n hn=>?_⟩;have g1:((0:Nat):Rat)+e<=a.s n:=hN n hn;show e/2+e/2<=a.s n;grind
theorem great(x:Re):∃r:Rat,0<r/\x<q r:=by
 obtain⟨a,rfl⟩:=ex x;obtain⟨B,hB,hb⟩:=a.bd;refine⟨B+1,by grind,1,by decide,0,fun n _=>?_⟩;have:=(s_.mp (hb n)).2;show a.s n+1<=B+1;grind
open Classical in
noncomputable def ab(x:Re):Re:=if x<0 then -x else x
theorem aD(x:Re):0<=ab x:=by unfold ab;split<;>grind
theorem gA{x e:Re}:ab x<=e↔(-e<=x/\x<=e):=by unfold ab;split<;>grind
theorem aY{x e:Re}:ab x<e↔(-e<x/\x<e):=by unfold ab;split<;>grind
theorem fM(x y:Re):ab (x+y)<=ab x+ab y:=by unfold ab;split<;>split<;>split<;>grind
theorem Bh(x:Re):ab (-x)=ab x:=by unfold ab;split<;>split<;>grind
theorem mul_nonneg{x y:Re}(h:0<=x)(h':0<=y):0<=x*y:=by
 by_cases hx:x=0
 ·rw[hx];grind
 ·by_cases hy:y=0
  ·rw[hy];grind
  ·have:=mul_pos (x:=x) (y:=y) (by grind) (by grind);grind
theorem bX(x y:Re):ab (x*y)=ab x*ab y:=by
 by_cases hx:x<0<;>by_cases hy:y<0
 ·have:=mul_pos (x:=-x) (y:=-y) (by grind) (by grind);unfold ab;rw[if_neg (by grind),if_pos hx,if_pos hy];grind
 ·have:=mul_nonneg (x:=-x) (y:=y) (by grind) (by grind);unfold ab;rw[if_pos hx,if_neg hy];split<;>grind
 ·have:=mul_nonneg (x:=x) (y:=-y) (by grind) (by grind);unfold ab;rw[if_neg hx,if_pos hy];split<;>grind
 ·have:=mul_nonneg (x:=x) (y:=y) (by grind) (by grind);unfold ab;rw[if_neg (by grind),if_neg hx,if_neg hy]
theorem mul_le_mul{a b c d:Re}(h1:a<=b)(h2:c<=d)(h3:0<=b)(h4:0<=c):a*c<=b*d:=by
 have e1:=mul_nonneg (x:=b-a) (y:=c) (by grind) h4;have e2:=mul_nonneg (x:=b) (y:=d-c) h3 (by grind);grind
theorem dy{x y:Re}(hx:x≠0)(hy:y≠0):x*y≠0:=by
 intro h;have e:ab (x*y)=0:=by rw[h];unfold ab;rw[if_neg (by grind)]
 rw[bX] at e;have p1:0<ab x:=by unfold ab;split<;>grind
 have p2:0<ab y:=by unfold ab;split<;>grind
 have:=mul_pos p1 p2;rw[e] at this;exact lt_irrefl _ this
theorem tD(n:Nat):(0:Rat)<(1/2)^n:=Rat.pow_pos (by grind)
theorem vG(e:Rat)(he:0<e):∃N:Nat,∀n,N<=n->(1/2:Rat)^n<e:=by
 have key:∀n:Nat,(1/2:Rat)^n*((n:Rat)+1)<=1:=by
  intro n
  induction n with
  |zero=>rw[Rat.pow_zero];grind
  |succ n ih=>
   rw[Rat.pow_succ];have h0:=tD n;have e1:((n+1:Nat):Rat)=(n:Rat)+1:=by grind
   rw[e1];have hn:(0:Rat)<=(n:Rat):=by
    have:((0:Nat):Rat)<=(n:Rat):=by exact_mod_cast Nat.zero_le n
    exact this
   have e2:(1/2:Rat)^n*(1/2)*((n:Rat)+1+1)=(1/2:Rat)^n*((n:Rat)+1)-(1/2:Rat)^n*((n:Rat)*(1/2)):=by grind
   have h1:=Rat.mul_nonneg (a:=(1/2:Rat)^n) (b:=(n:Rat)*(1/2)) (Rat.le_of_lt h0) (Rat.mul_nonneg hn (by grind));rw[e2];grind
 obtain⟨N,hN⟩:∃N:Nat,1/e<(N:Rat):=by
  refine⟨(1/e).ceil.toNat+1,?_⟩;have h1:=Rat.le_ceil (x:=1/e);have h2:(1/e).ceil<=(((1/e).ceil.toNat+1:Nat):Int)-1:=by lia
  have h3:(((1/e).ceil:Int):Rat)<=(((((1/e).ceil.toNat+1:Nat):Int)-1:Int):Rat):=Rat.intCast_le_intCast.mpr h2;have h4:(((((1/e).ceil.toNat+1:Nat):Int)-1:Int):Rat)=(((1/e).ceil.toNat+1:Nat):Rat)-1:=by push_cast;grind
  grind
 refine⟨N,fun n hn=>?_⟩;have h1:=key n;have h0:=tD n;have XJ:(N:Rat)<=(n:Rat):=by exact_mod_cast hn
 have h5:1<e*((n:Rat)+1):=by
  have:1/e<(n:Rat)+1:=by grind
  have h6:=(Rat.mul_lt_mul_left he).mpr this;have e3:e*(1/e)=1:=by grind
  rw[e3] at h6;exact h6
 rcases Classical.em ((1/2:Rat)^n<e) with z|z
 ·exact z
 ·have hp:(0:Rat)<=(n:Rat)+1:=by
   have:(0:Rat)<=(N:Rat):=by exact_mod_cast Nat.zero_le N
   grind
  have:=Rat.mul_le_mul_of_nonneg_right (show e<=(1/2:Rat)^n by grind) hp;grind
end Re
end SF
namespace SF
open Lean.Grind
namespace Re
open RR
theorem mk_le{a:CS}{r:Rat}{N:Nat}(h:∀m,N<=m->a.s m<=r):mk a<=q r:=by
 rintro⟨e,he,M,hM⟩;have g1:r+e<=a.s (max N M):=hM _ (by lia);have g2:=h (max N M) (by lia);grind
theorem Lo{a:CS}{r:Rat}{N:Nat}(h:∀m,N<=m->r<=a.s m):q r<=mk a:=by
 rintro⟨e,he,M,hM⟩;have g1:a.s (max N M)+e<=r:=hM _ (by lia);have g2:=h (max N M) (by lia);grind
open Classical in
noncomputable def iH(φ:Rat->Int)(p:Rat×Rat):Rat×Rat:=if φ p.1=φ ((p.1+p.2)/2) then((p.1+p.2)/2,p.2) else(p.1,(p.1+p.2)/2)
noncomputable def cz(φ:Rat->Int)(p:Rat×Rat):Nat->Rat×Rat
 |0=>p
 |n+1=>iH φ (cz φ p n)
theorem ji{φ:Rat->Int}{a b:Rat}(f7:a<=b)(dA:φ a≠φ b):∀n:Nat,
 φ (cz φ (a,b) n).1≠φ (cz φ (a,b) n).2/\(cz φ (a,b) n).1<=(cz φ (a,b) n).2/\(cz φ (a,b) n).2-(cz φ (a,b) n).1=(b-a)*(1/2)^n
 |0=>⟨dA,f7,by show b-a=(b-a)*(1/2)^0;rw[Rat.pow_zero];grind⟩
 |n+1=>by
  obtain⟨h1,h2,h3⟩:=ji f7 dA n;have e:cz φ (a,b) (n+1)=iH φ (cz φ (a,b) n):=rfl;rw[e];generalize cz φ (a,b) n=p at h1 h2 h3;unfold iH;rw[Rat.pow_succ];split
  ·rename_i h;refine⟨?_,?_,?_⟩
   ·show φ ((p.1+p.2)/2)≠φ p.2;rw[<-h];exact h1
   ·show(p.1+p.2)/2<=p.2;grind
   ·show p.2-(p.1+p.2)/2=_;have e2:(b-a)*((1/2)^n*(1/2))=((b-a)*(1/2)^n)*(1/2):=by grind
    rw[e2,<-h3];grind
  ·rename_i h;refine⟨h,?_,?_⟩
   ·show p.1<=(p.1+p.2)/2;grind
   ·show(p.1+p.2)/2-p.1=_;have e2:(b-a)*((1/2)^n*(1/2))=((b-a)*(1/2)^n)*(1/2):=by grind
    rw[e2,<-h3];grind
theorem zb(φ:Rat->Int)(p:Rat×Rat)(n:Nat)(h:(cz φ p n).1<=(cz φ p n).2):(cz φ p n).1<=(cz φ p (n+1)).1/\(cz φ p (n+1)).2<=(cz φ p n).2:=by
 show _<=(iH φ (cz φ p n)).1/\(iH φ (cz φ p n)).2<=_;unfold iH;split
 ·constructor
  ·show(cz φ p n).1<=((cz φ p n).1+(cz φ p n).2)/2;grind
  ·exact Rat.le_refl
 ·constructor
  ·exact Rat.le_refl
  ·show((cz φ p n).1+(cz φ p n).2)/2<=(cz φ p n).2;grind
theorem pL{φ:Rat->Int}{a b:Rat}(f7:a<=b)(dA:φ a≠φ b)(n:Nat):∀k:Nat,(cz φ (a,b) n).1<=(cz φ (a,b) (n+k)).1/\(cz φ (a,b) (n+k)).2<=(cz φ (a,b) n).2
 |0=>⟨Rat.le_refl,Rat.le_refl⟩
 |k+1=>by
  have ih:=pL f7 dA n k;have h:=zb φ (a,b) (n+k) (ji f7 dA (n+k)).2.1;exact⟨Rat.le_trans ih.1 h.1,Rat.le_trans h.2 ih.2⟩
theorem mC{φ:Rat->Int}{a b:Rat}(f7:a<=b)(dA:φ a≠φ b){n m:Nat}(h:n<=m):(cz φ (a,b) n).1<=(cz φ (a,b) m).1/\(cz φ (a,b) m).1<=(cz φ (a,b) n).2:=by
 have e:m=n+(m-n):=by lia
 have h1:=pL f7 dA n (m-n);rw[<-e] at h1;have h2:=(ji f7 dA m).2.1;exact⟨h1.1,Rat.le_trans h2 h1.2⟩
theorem lK{φ:Rat->Int}{a b:Rat}(f7:a<=b)(dA:φ a≠φ b)(e:Rat)(he:0<e):∃N:Nat,(b-a)*(1/2)^N<e:=by
 by_cases h0:b-a=0
 ·exact⟨0,by rw[h0];grind⟩
 ·have hp:0<b-a:=by grind
  obtain⟨N,hN⟩:=vG (e/(b-a)) (vF he hp);refine⟨N,?_⟩;have:=(Rat.mul_lt_mul_left hp).mpr (hN N (Nat.le_refl _));have e2:(b-a)*(e/(b-a))=e:=by grind
  rw[e2] at this;exact this
theorem iP{φ:Rat->Int}(loc:∀x:Re,∃d:Rat,0<d/\∀s t:Rat,ab (q s-x)<q d->ab (q t-x)<q d->φ s=φ t){a b:Rat}(f7:a<=b):φ a=φ b:=by
 by_cases dA:φ a=φ b
 ·exact dA
 exfalso;let c:CS:=⟨fun n=>(cz φ (a,b) n).1,fun e he=>by
  obtain⟨N,hN⟩:=lK f7 dA e he
  refine⟨N,fun m n hm hn=>ny.mpr ?_⟩
  have g1:=mC f7 dA hm
  have g2:=mC f7 dA hn
  have g3:=(ji f7 dA N).2.2
  constructor<;>grind⟩;obtain⟨d,hd,Pc⟩:=loc (mk c);obtain⟨N,hN⟩:=lK f7 dA d hd;have g3:=(ji f7 dA N).2.2;have l1:q (cz φ (a,b) N).1<=mk c:=Lo (N:=N) fun m hm=>(mC f7 dA hm).1;have l2:mk c<=q (cz φ (a,b) N).2:=mk_le (N:=N) fun m hm=>(mC f7 dA hm).2;have l3:q (cz φ (a,b) N).2-q (cz φ (a,b) N).1<q d:=by
  have:q (cz φ (a,b) N).2-q (cz φ (a,b) N).1=q ((cz φ (a,b) N).2-(cz φ (a,b) N).1):=by
   have e:(cz φ (a,b) N).2-(cz φ (a,b) N).1=(cz φ (a,b) N).2+-(cz φ (a,b) N).1:=by grind
   rw[e,j_,nB];grind
  rw[this,eJ,g3];exact hN
 refine(ji f7 dA N).1 (Pc _ _ (aY.mpr ?_) (aY.mpr ?_))
 ·constructor<;>grind
 ·constructor<;>grind
end Re
namespace Po
open Re
noncomputable def at'(x:Re)(f:Po):Re:=ax (fun i=>((f.c i:Int):Re)*x^i) (len f)
theorem oF(x:Re){f:Po}{n:Nat}(h:len f<=n):at' x f=ax (fun i=>((f.c i:Int):Re)*x^i) n:=by
 have e:n=len f+(n-len f):=by lia
 have z:((0:Int):Re)=0:=Ring.intCast_zero;rw[e,bK,bJ (n:=n-len f) (fun i _=>by rw[dQ (by lia),z];grind)];show ax _ _=_;grind
theorem eO(x:Re)(f g:Po):at' x (f+g)=at' x f+at' x g:=by
 have h1:=qC f g;rw[oF x h1,oF x (f:=f) (n:=max (len f) (len g)) (by lia),oF x (f:=g) (n:=max (len f) (len g)) (by lia),<-ee];exact aE fun i _=>by rw[jt,Ring.intCast_add];grind
theorem qM(x:Re)(a:Int)(f:Po):at' x (K a*f)=(a:Re)*at' x f:=by
 have h1:len (K a*f)<=len f:=cy fun i hi=>by rw[aV,dQ hi];grind
 rw[oF x h1];unfold at';rw[<-cj];exact aE fun i _=>by rw[aV,Ring.intCast_mul];grind
theorem nD(f:Nat->Int):∀n:Nat,((ax f n:Int):Re)=ax (fun i=>((f i:Int):Re)) n
 |0=>Ring.intCast_zero
 |n+1=>by
  show((ax f n+f n:Int):Re)=_;rw[Ring.intCast_add,nD f n];rfl
theorem pow_add'(x:Re)(m:Nat):∀n:Nat,x^(m+n)=x^m*x^n
 |0=>by
  have:x^0=1:=Semiring.pow_zero x;rw[Nat.add_zero,this];grind
 |n+1=>by
  have e1:x^(m+(n+1))=x^(m+n)*x:=Semiring.pow_succ x (m+n);have e2:x^(n+1)=x^n*x:=Semiring.pow_succ x n;rw[e1,pow_add' x m n,e2];grind
theorem cF(x:Re)(f g:Po):at' x (f*g)=at' x f*at' x g:=by
 have hl:len (f*g)<=len f+len g:=by
  by_cases hf:f=0
  ·rw[hf];have:(0:Po)*g=0:=by grind
   rw[this,fe];lia
  ·by_cases hg:g=0
   ·rw[hg];have:f*(0:Po)=0:=by grind
    rw[this,fe];lia
   ·have:=len_mul hf hg;lia
 rw[oF x hl];have z:((0:Int):Re)=0:=Ring.intCast_zero;let F:Nat->Nat->Re:=fun j k=>(((f.c j:Int):Re)*x^j)*(((g.c k:Int):Re)*x^k);have e1:ax (fun i=>(((f*g).c i:Int):Re)*x^i) (len f+len g)=ax (fun i=>ax (fun j=>F j (i-j)) (i+1)) (len f+len g):=aE fun i _=>by
  rw[sR,nD,<-jf];refine aE fun j hj=>?_;show _=(((f.c j:Int):Re)*x^j)*(((g.c (i-j):Int):Re)*x^(i-j));rw[Ring.intCast_mul];have e:i=j+(i-j):=by lia
  have e2:x^i=x^j*x^(i-j):=by rw[<-pow_add',<-e]
  rw[e2];grind
 rw[e1,mW F];have e3:ax (fun j=>ax (fun k=>F j k) (len f+len g-j)) (len f+len g)=ax (fun j=>(((f.c j:Int):Re)*x^j)*at' x g) (len f+len g):=aE fun j hj=>by
  show ax (fun k=>(((f.c j:Int):Re)*x^j)*(((g.c k:Int):Re)*x^k)) _=_;rw[cj];by_cases h:j<len f
  ·rw[<-oF x (f:=g) (n:=len f+len g-j) (by lia)]
  ·rw[dQ (f:=f) (by lia),z];grind
 rw[e3,jf,<-oF x (f:=f) (n:=len f+len g) (by lia)]
theorem zc(x:Re)(a:Int):at' x (K a)=(a:Re):=by
 rw[oF x (sS a)];show 0+(((K a).c 0:Int):Re)*x^0=_;have:x^0=1:=Semiring.pow_zero x;rw[vp,if_pos rfl,this];grind
theorem eY(x:Re):at' x 0=0:=by rw[<-cE,zc];exact Ring.intCast_zero
theorem HN(x:Re):at' x 1=1:=by rw[<-bN,zc];exact Ring.intCast_one
theorem zd(x:Re):at' x (X 1)=x:=by
 have h:len (X 1)<=2:=cy fun i hi=>by rw[xp,if_neg (by lia)]
 rw[oF x h];show 0+(((X 1).c 0:Int):Re)*x^0+(((X 1).c 1:Int):Re)*x^1=_;have e0:x^0=1:=Semiring.pow_zero x;have e1:x^1=x^0*x:=Semiring.pow_succ x 0;have z:((0:Int):Re)=0:=Ring.intCast_zero;have o:((1:Int):Re)=1:=Ring.intCast_one;rw[xp,xp,if_neg (by decide),if_pos rfl,e1,e0,z,o];grind
theorem fN(a:Int)(r:List Int):aR (ao (a::r))=ao r+X 1*aR (ao r):=ext fun i=>by
 rw[j5,jt,aX,aX,eA,eW];cases i with
 |zero=>rw[if_pos (by decide)];grind
 |succ i=>
  rw[if_neg (by lia),Nat.add_sub_cancel,j5,aX];have:((i+1+1:Nat):Int)=((i+1:Nat):Int)+1:=by lia
  rw[this];grind
theorem dN(x:Re)(a:Int)(r:List Int):at' x (ao (a::r))=(a:Re)+x*at' x (ao r):=by
 rw[ni,eO,zc,cF,zd]
theorem vH(x:Re):∀xs:List Int,∃B:Re,0<=B/\∀t:Re,Re.ab (t-x)<=1->Re.ab (at' t (ao xs)-at' x (ao xs)-(t-x)*at' x (aR (ao xs)))<=B*(Re.ab (t-x)*Re.ab (t-x))
 |[]=>⟨0,by grind,fun t _=>by
  have e:aR (ao [])=0:=by
   refine ext fun i=>?_
   rw[j5,aX,dP];show _*0=0;grind
  rw[e,cH,eY,eY]
  have:(0:Re)-0-(t-x)*0=0:=by grind
  rw[this];unfold Re.ab;rw[if_neg (by grind)];grind⟩
 |a::r=>by
  obtain⟨B,hB,hb⟩:=vH x r;refine⟨Re.ab (at' x (aR (ao r)))+(Re.ab x+1)*B,?_,fun t ht=>?_⟩
  ·have h1:=Re.aD (at' x (aR (ao r)));have h2:=Re.mul_nonneg (x:=Re.ab x+1) (y:=B) (by have:=Re.aD x;grind) hB;grind
  ·have h:=hb t ht;generalize ju:at' t (ao r)-at' x (ao r)-(t-x)*at' x (aR (ao r))=ρ at h;rw[dN,dN,fN,eO,cF,zd];have e:(a:Re)+t*at' t (ao r)-((a:Re)+x*at' x (ao r))-(t-x)*(at' x (ao r)+x*at' x (aR (ao r)))=(t-x)*(t-x)*at' x (aR (ao r))+t*ρ:=by rw[<-ju];grind
   rw[e];have g1:=Re.fM ((t-x)*(t-x)*at' x (aR (ao r))) (t*ρ);rw[Re.bX,Re.bX,Re.bX] at g1;have g2:Re.ab t<=Re.ab x+1:=by
    have:=Re.fM (t-x) x;have e2:t-x+x=t:=by grind
    rw[e2] at this;grind
   have g3:=Re.mul_le_mul (a:=Re.ab t) (b:=Re.ab x+1) (c:=Re.ab ρ) (d:=B*(Re.ab (t-x)*Re.ab (t-x))) g2 h (by have:=Re.aD x;grind) (Re.aD _);grind
end Po
end SF
namespace SF
open Lean.Grind
open Classical in
noncomputable def bA(x:Re):Int:=if x<0 then -1 else if 0<x then 1 else 0
namespace Re
theorem fx{x:Re}(h:x<0):bA x=-1:=by unfold bA;rw[if_pos h]
theorem dE{x:Re}(h:0<x):bA x=1:=by unfold bA;rw[if_neg (by grind),if_pos h]
theorem cN:bA 0=0:=by unfold bA;rw[if_neg (by grind),if_neg (by grind)]
theorem bf(x:Re):(x<0/\bA x=-1)\/(x=0/\bA x=0)\/(0<x/\bA x=1):=by
 rcases HK x 0 with h|h|h
 ·exact .inl ⟨h,fx h⟩
 ·exact .inr (.inl ⟨h,by rw[h,cN]⟩)
 ·exact .inr (.inr ⟨h,dE h⟩)
theorem jz{x:Re}(h:x≠0):bA x=-1\/bA x=1:=by
 rcases bf x with z|z|z
 ·exact .inl z.2
 ·exact absurd z.1 h
 ·exact .inr z.2
theorem cP{x:Re}(h:bA x=0):x=0:=by
 rcases bf x with z|z|z
 ·rw[h] at z;lia
 ·exact z.1
 ·rw[h] at z;lia
theorem HP(x:Re):bA (-x)=-bA x:=by
 rcases bf x with z|z|z
 ·rw[z.2,dE (by grind)];rfl
 ·have:-x=0:=by grind
  rw[z.2,this,cN];rfl
 ·rw[z.2,fx (by grind)]
theorem ka(x y:Re):bA (x*y)=bA x*bA y:=by
 rcases bf x with z|z|z<;>rcases bf y with w|w|w
 ·have:=mul_pos (x:=-x) (y:=-y) (by grind) (by grind);rw[z.2,w.2,dE (by grind)];rfl
 ·have:x*y=0:=by rw[w.1];grind
  rw[this,cN,w.2];lia
 ·have:=mul_pos (x:=-x) (y:=y) (by grind) (by grind);rw[z.2,w.2,fx (by grind)];rfl
 ·have:x*y=0:=by rw[z.1];grind
  rw[this,cN,z.2];lia
 ·have:x*y=0:=by rw[z.1];grind
  rw[this,cN,z.2];lia
 ·have:x*y=0:=by rw[z.1];grind
  rw[this,cN,z.2];lia
 ·have:=mul_pos (x:=x) (y:=-y) (by grind) (by grind);rw[z.2,w.2,fx (by grind)];rfl
 ·have:x*y=0:=by rw[w.1];grind
  rw[this,cN,w.2];lia
 ·have:=mul_pos (x:=x) (y:=y) (by grind) (by grind);rw[z.2,w.2,dE (by grind)];rfl
theorem Lp(C e:Re)(he:0<e):∃d:Rat,0<d/\d<=1/\∀z:Re,0<=z->z<q d->z*C<e:=by
 obtain⟨g,hg,hC⟩:=great (ab C);obtain⟨r,hr,XM⟩:=small he;have h1:0<r/g:=RR.vF hr hg;refine⟨if r/g<1 then r/g else 1,by split<;>grind,by split<;>grind,fun z hz RT=>?_⟩;have h2:z<q (r/g):=by
  split at RT
  ·exact RT
  ·have:q 1<=q (r/g):=dI.mpr (by grind);grind
 have h3:z*C<=z*q g:=by
  have h4:C<=q g:=by
   have:=(gA (x:=C) (e:=ab C)).mp (by grind);grind
  have:=mul_nonneg (x:=z) (y:=q g-C) hz (by grind);grind
 have Le:0<q g:=by
  have:=eJ.mpr hg;rw[f6] at this;exact this
 have h5:z*q g<q (r/g)*q g:=by
  have:=mul_pos (x:=q (r/g)-z) (y:=q g) (by grind) Le;grind
 have h6:q (r/g)*q g=q r:=by
  rw[<-fo];congr 1;grind
 rw[h6] at h5;grind
end Re
namespace Po
open Re
theorem gW{x:Re}{f:Po}(h:at' x f≠0):∃d:Rat,0<d/\∀t:Re,Re.ab (t-x)<q d->bA (at' t f)=bA (at' x f):=by
 obtain⟨B,hB,hb⟩:=vH x (lst f);rw[cR] at hb;have gz:0<Re.ab (at' x f):=by unfold Re.ab;split<;>grind
 obtain⟨d,hd,DP,hz⟩:=Lp (Re.ab (at' x (aR f))+B) _ gz;refine⟨d,hd,fun t ht=>?_⟩;have g0:=Re.aD (t-x);have g1:=hz (Re.ab (t-x)) g0 ht;have Pd:q d<=1:=by
  have:=dI.mpr DP;rw[xI] at this;exact this
 have g2:=hb t (by grind);have g3:Re.ab (at' t f-at' x f)<Re.ab (at' x f):=by
  have e:at' t f-at' x f=(at' t f-at' x f-(t-x)*at' x (aR f))+(t-x)*at' x (aR f):=by grind
  have g4:=Re.fM (at' t f-at' x f-(t-x)*at' x (aR f)) ((t-x)*at' x (aR f));rw[<-e,Re.bX] at g4;have g5:=Re.mul_nonneg (x:=B) (y:=Re.ab (t-x)*(1-Re.ab (t-x))) hB (Re.mul_nonneg g0 (by grind));grind
 have g6:=aY.mp g3;rcases bf (at' x f) with z|z|z
 ·have e:Re.ab (at' x f)=-at' x f:=by unfold Re.ab;rw[if_pos z.1]
  rw[z.2];exact fx (by grind)
 ·exact absurd z.1 h
 ·have e:Re.ab (at' x f)=at' x f:=by unfold Re.ab;rw[if_neg (by grind)]
  rw[z.2];exact dE (by grind)
theorem jj{x:Re}{f:Po}(h0:at' x f=0)(h:at' x (aR f)≠0):∃d:Rat,0<d/\∀t:Re,Re.ab (t-x)<q d->bA (at' t f)=bA (t-x)*bA (at' x (aR f)):=by
 obtain⟨B,hB,hb⟩:=vH x (lst f);rw[cR] at hb;have gz:0<Re.ab (at' x (aR f)):=by unfold Re.ab;split<;>grind
 obtain⟨d,hd,DP,hz⟩:=Lp B _ gz;refine⟨d,hd,fun t ht=>?_⟩;have g0:=Re.aD (t-x);have g1:=hz (Re.ab (t-x)) g0 ht;have Pd:q d<=1:=by
  have:=dI.mpr DP;rw[xI] at this;exact this
 have g2:=hb t (by grind);rw[h0] at g2;by_cases U2:t-x=0
 ·have:t=x:=by grind
  rw[U2,this,h0,cN];lia
 ·have hp:0<Re.ab (t-x):=by unfold Re.ab;split<;>grind
  have g3:B*(Re.ab (t-x)*Re.ab (t-x))<Re.ab ((t-x)*at' x (aR f)):=by
   rw[Re.bX];have:=Re.mul_pos (x:=Re.ab (t-x)) (y:=Re.ab (at' x (aR f))-Re.ab (t-x)*B) hp (by grind);grind
  rw[<-ka];generalize (t-x)*at' x (aR f)=y at g2 g3;have g4:=gA.mp g2;rcases bf y with z|z|z
  ·have e:Re.ab y=-y:=by unfold Re.ab;rw[if_pos z.1]
   rw[z.2];exact fx (by grind)
  ·rw[z.1] at g3;have e:Re.ab (0:Re)=0:=by unfold Re.ab;rw[if_neg (by grind)]
   rw[e] at g3;have:=Re.mul_nonneg hB (Re.mul_nonneg g0 g0);grind
  ·have e:Re.ab y=y:=by unfold Re.ab;rw[if_neg (by grind)]
   rw[z.2];exact dE (by grind)
end Po
noncomputable def cg(b:Int):List Int->Nat
 |[]=>0
 |s::r=>(if s*b<0 then 1 else 0)+cg (if s≠0 then s else b) r
namespace Po
open Re
noncomputable def d0(t:Re)(ps:List Po):List Int:=ps.map fun p=>bA (at' t p)
noncomputable def ze(x:Re):List Po->Prop
 |[]=>True
 |[a]=>at' x a≠0
 |a::b::[]=>at' x b≠0
 |a::b::c::r=>(at' x b=0->bA (at' x a)*bA (at' x c)<0)/\ze x (b::c::r)
theorem ik{d e:Rat}(hd:0<d)(he:0<e):∃m:Rat,0<m/\q m<=q d/\q m<=q e:=by
 by_cases h:d<e
 ·exact⟨d,hd,dI.mpr (by grind),dI.mpr (by grind)⟩
 ·exact⟨e,he,dI.mpr (by grind),dI.mpr (by grind)⟩
theorem gB{x:Re}:∀(n:Nat)(a:Po)(r:List Po),r.length<=n->at' x a≠0->ze x (a::r)->∃d:Rat,0<d/\∀t:Re,Re.ab (t-x)<q d->bA (at' t a)=bA (at' x a)/\cg (bA (at' t a)) (d0 t r)=cg (bA (at' x a)) (d0 x r)
 |n,a,[],_,ha,_=>by
  obtain⟨d,hd,h⟩:=gW ha;exact⟨d,hd,fun t ht=>⟨h t ht,rfl⟩⟩
 |n,a,[b],_,ha,hc=>by
  obtain⟨d,hd,h⟩:=gW ha;obtain⟨e,he,h'⟩:=gW (show at' x b≠0 from hc);obtain⟨m,hm,h1,h2⟩:=ik hd he;refine⟨m,hm,fun t ht=>?_⟩;have g1:=h t (by grind);have g2:=h' t (by grind);refine⟨g1,?_⟩;unfold d0;rw[List.map_cons,List.map_cons,g1,g2];rfl
 |0,a,b::c::r,hl,_,_=>by simp at hl
 |n+1,a,b::c::r,hl,ha,hc=>by
  obtain⟨d,hd,h⟩:=gW ha;obtain⟨Jx,xJ⟩:=hc;by_cases hb:at' x b=0
  ·have Pe:=Jx hb;have Ng:at' x c≠0:=fun z=>by rw[z,cN] at Pe;lia
   have zY:ze x (c::r):=by
    cases r with
    |nil=>exact Ng
    |cons e r=>exact xJ.2
   obtain⟨e,he,h'⟩:=gB n c r (by simp at hl;lia) Ng zY;obtain⟨m,hm,h1,h2⟩:=ik hd he;refine⟨m,hm,fun t ht=>?_⟩;have g1:=h t (by grind);obtain⟨g2,g3⟩:=h' t (by grind);refine⟨g1,?_⟩;show cg (bA (at' t a)) (bA (at' t b)::bA (at' t c)::d0 t r)=cg (bA (at' x a)) (bA (at' x b)::bA (at' x c)::d0 x r);rw[g1,g2,hb,cN];rw[g2] at g3;rcases jz ha with sa|sa<;>rcases jz Ng with sc|sc
   ·rw[sa,sc] at Pe;lia
   ·rw[sc] at g3;rw[sa,sc];rcases bf (at' t b) with z|z|z<;>rw[z.2]<;>simp[cg,g3]
   ·rw[sc] at g3;rw[sa,sc];rcases bf (at' t b) with z|z|z<;>rw[z.2]<;>simp[cg,g3]
   ·rw[sa,sc] at Pe;lia
  ·obtain⟨e,he,h'⟩:=gB n b (c::r) (by simp at hl ⊢;lia) hb xJ;obtain⟨m,hm,h1,h2⟩:=ik hd he;refine⟨m,hm,fun t ht=>?_⟩;have g1:=h t (by grind);obtain⟨g2,g3⟩:=h' t (by grind);refine⟨g1,?_⟩;show cg (bA (at' t a)) (bA (at' t b)::d0 t (c::r))=cg (bA (at' x a)) (bA (at' x b)::d0 x (c::r));rw[g1];have nz:bA (at' x b)≠0:=fun z=>hb (cP z);show(if bA (at' t b)*bA (at' x a)<0 then 1 else 0)+cg (if bA (at' t b)≠0 then bA (at' t b) else bA (at' x a)) (d0 t (c::r))=(if bA (at' x b)*bA (at' x a)<0 then 1 else 0)+cg (if bA (at' x b)≠0 then bA (at' x b) else bA (at' x a)) (d0 x (c::r));rw[if_pos (c:=bA (at' x b)≠0) nz,if_pos (c:=bA (at' t b)≠0) (by rw[g2];exact nz),g3,g2]
open Classical in
theorem Lq{p0:Po}{r:List Po}{N:Rat->Int}(hc:∀x:Re,ze x (p0::aR p0::r))(hz:∀x:Re,at' x p0=0->at' x (aR p0)≠0)(hN:∀x:Re,∃d:Rat,0<d/\∃n0:Int,∀t:Rat,Re.ab (q t-x)<q d->N t=n0+(if at' x p0=0/\x<=q t then 1 else 0)){a b:Rat}(f7:a<=b):
 (cg 0 (d0 (q a) (p0::aR p0::r)):Int)+N a=(cg 0 (d0 (q b) (p0::aR p0::r)):Int)+N b:=by
 refine iP (φ:=fun t=>(cg 0 (d0 (q t) (p0::aR p0::r)):Int)+N t) (fun x=>?_) f7;obtain⟨d,hd,n0,hn⟩:=hN x;have c0:∀(s:Int)(l:List Int),s≠0->cg 0 (s::l)=cg s l:=fun s l hs=>by
  show(if s*0<0 then 1 else 0)+cg (if s≠0 then s else 0) l=_;rw[if_neg (by lia),if_pos hs];lia
 by_cases h0:at' x p0=0
 ·have h1:=hz x h0;have xJ:ze x (aR p0::r):=by
   have:=hc x;cases r with
   |nil=>exact this
   |cons e r=>exact this.2
  obtain⟨e,he,hr⟩:=jj h0 h1;obtain⟨f,hf,hs⟩:=gB r.length (aR p0) r (Nat.le_refl _) h1 xJ;obtain⟨m,hm,m1,m2⟩:=ik hd he;obtain⟨m',K',m3,m4⟩:=ik hm hf;have key:∀t:Rat,Re.ab (q t-x)<q m'->(cg 0 (d0 (q t) (p0::aR p0::r)):Int)+N t=(cg (bA (at' x (aR p0))) (d0 x r):Int)+n0+1:=fun t ht=>by
   have k1:=hr (q t) (by grind);obtain⟨k2,k3⟩:=hs (q t) (by grind);have k4:=hn t (by grind);have nz:bA (at' x (aR p0))≠0:=fun z=>h1 (cP z);show((cg 0 (bA (at' (q t) p0)::bA (at' (q t) (aR p0))::d0 (q t) r):Nat):Int)+N t=_;rw[k1,k2,k4];rw[k2] at k3;generalize bA (at' x (aR p0))=s1 at nz k3 ⊢;rcases bf (q t-x) with z|z|z
   ·rw[z.2,if_neg (by rintro⟨_,w⟩;grind),c0 _ _ (by lia)];show(((if s1*(-1*s1)<0 then 1 else 0)+cg (if s1≠0 then s1 else -1*s1) (d0 (q t) r):Nat):Int)+(n0+0)=_;have HQ:s1*(-1*s1)<0:=by
     have:0<s1*s1:=by
      rcases Int.lt_or_lt_of_ne nz with w|w
      ·exact Int.mul_pos_of_neg_of_neg w w
      ·exact Int.mul_pos w w
     grind
    rw[if_pos HQ,if_pos nz,k3];lia
   ·rw[z.2,if_pos ⟨h0,by grind⟩];show(((if 0*s1*0<0 then 1 else 0)+((if s1*(if 0*s1≠0 then 0*s1 else 0)<0 then 1 else 0)+cg (if s1≠0 then s1 else(if 0*s1≠0 then 0*s1 else 0)) (d0 (q t) r)):Nat):Int)+(n0+1)=_;have e0:0*s1=0:=by lia
    rw[e0,if_neg (by lia),if_neg (c:=(0:Int)≠0) (by lia),if_neg (by lia),if_pos nz,k3];lia
   ·rw[z.2,if_pos ⟨h0,by grind⟩,c0 _ _ (by lia)];show(((if s1*(1*s1)<0 then 1 else 0)+cg (if s1≠0 then s1 else 1*s1) (d0 (q t) r):Nat):Int)+(n0+1)=_;have gz:¬s1*(1*s1)<0:=by
     have:0<s1*s1:=by
      rcases Int.lt_or_lt_of_ne nz with w|w
      ·exact Int.mul_pos_of_neg_of_neg w w
      ·exact Int.mul_pos w w
     grind
    rw[if_neg gz,if_pos nz,k3];lia
  exact⟨m',K',fun s t xl HR=>by
   show(cg 0 (d0 (q s) (p0::aR p0::r)):Int)+N s=(cg 0 (d0 (q t) (p0::aR p0::r)):Int)+N t
   rw[key s xl,key t HR]⟩
 ·obtain⟨e,he,hs⟩:=gB (r.length+1) p0 (aR p0::r) (Nat.le_refl _) h0 (hc x);obtain⟨m,hm,m1,m2⟩:=ik hd he;have key:∀t:Rat,Re.ab (q t-x)<q m->(cg 0 (d0 (q t) (p0::aR p0::r)):Int)+N t=(cg (bA (at' x p0)) (d0 x (aR p0::r)):Int)+n0:=fun t ht=>by
   obtain⟨k2,k3⟩:=hs (q t) (by grind);have k4:=hn t (by grind);have nz:bA (at' x p0)≠0:=fun z=>h0 (cP z);show((cg 0 (bA (at' (q t) p0)::d0 (q t) (aR p0::r)):Nat):Int)+N t=_;rw[c0 _ _ (by rw[k2];exact nz),k3,k4,if_neg (fun z=>h0 z.1)];lia
  exact⟨m,hm,fun s t xl HR=>by
   show(cg 0 (d0 (q s) (p0::aR p0::r)):Int)+N s=(cg 0 (d0 (q t) (p0::aR p0::r)):Int)+N t
   rw[key s xl,key t HR]⟩
end Po
end SF
namespace SF
open Lean.Grind
namespace Po
structure Lr(l:Po->Po):Prop where
 add:∀x y,l (x+y)=l x+l y
 smul:∀(a:Int) x,l (K a*x)=K a*l x
noncomputable def Ex(l:Po->Po)(F:List Po->Po):List Po->List Po->Po
 |_,[]=>0
 |pre,r::rs=>l r*F (pre++rs)-Ex l F (pre++[r]) rs
noncomputable def pM:List (Po->Po)->List Po->Po
 |[],_=>1
 |l::cs,rows=>Ex l (pM cs) [] rows
structure gX(n:Nat)(F:List Po->Po):Prop where
 add:∀A x y B,A.length+B.length+1=n->F (A++(x+y)::B)=F (A++x::B)+F (A++y::B)
 smul:∀A(a:Int) x B,A.length+B.length+1=n->F (A++(K a*x)::B)=K a*F (A++x::B)
 alt:∀A x y B,A.length+B.length+2=n->F (A++x::y::B)=-F (A++y::x::B)
theorem nE{n:Nat}{l:Po->Po}{F:List Po->Po}(hF:gX n F):∀(rs P Q:List Po)(x y:Po),P.length+Q.length+rs.length=n->Ex l F (P++(x+y)::Q) rs=Ex l F (P++x::Q) rs+Ex l F (P++y::Q) rs
 |[],P,Q,x,y,_=>by show(0:Po)=0+0;grind
 |r::rs,P,Q,x,y,h=>by
  rw[List.length_cons] at h;have ih:=nE (l:=l) hF rs P (Q++[r]) x y (by rw[List.length_append,List.length_singleton];lia);have h2:=hF.add P x y (Q++rs) (by rw[List.length_append];lia);show l r*F ((P++(x+y)::Q)++rs)-Ex l F ((P++(x+y)::Q)++[r]) rs=(l r*F ((P++x::Q)++rs)-Ex l F ((P++x::Q)++[r]) rs)+(l r*F ((P++y::Q)++rs)-Ex l F ((P++y::Q)++[r]) rs);simp only[List.append_assoc,List.cons_append] at*;rw[h2,ih];grind
theorem lL{n:Nat}{l:Po->Po}{F:List Po->Po}(hF:gX n F)(a:Int):∀(rs P Q:List Po)(x:Po),P.length+Q.length+rs.length=n->Ex l F (P++(K a*x)::Q) rs=K a*Ex l F (P++x::Q) rs
 |[],P,Q,x,_=>by show(0:Po)=K a*0;grind
 |r::rs,P,Q,x,h=>by
  rw[List.length_cons] at h;have ih:=lL (l:=l) hF a rs P (Q++[r]) x (by rw[List.length_append,List.length_singleton];lia);have h2:=hF.smul P a x (Q++rs) (by rw[List.length_append];lia);show l r*F ((P++(K a*x)::Q)++rs)-Ex l F ((P++(K a*x)::Q)++[r]) rs=K a*(l r*F ((P++x::Q)++rs)-Ex l F ((P++x::Q)++[r]) rs);simp only[List.append_assoc,List.cons_append] at*;rw[h2,ih];grind
theorem nF{n:Nat}{l:Po->Po}{F:List Po->Po}(hF:gX n F):∀(rs P Q:List Po)(x y:Po),P.length+Q.length+rs.length+1=n->Ex l F (P++x::y::Q) rs=-Ex l F (P++y::x::Q) rs
 |[],P,Q,x,y,_=>by show(0:Po)=-0;grind
 |r::rs,P,Q,x,y,h=>by
  rw[List.length_cons] at h;have ih:=nF (l:=l) hF rs P (Q++[r]) x y (by rw[List.length_append,List.length_singleton];lia);have h2:=hF.alt P x y (Q++rs) (by rw[List.length_append];lia);show l r*F ((P++x::y::Q)++rs)-Ex l F ((P++x::y::Q)++[r]) rs=-(l r*F ((P++y::x::Q)++rs)-Ex l F ((P++y::x::Q)++[r]) rs);simp only[List.append_assoc,List.cons_append] at*;rw[h2,ih];grind
theorem Bi{n:Nat}{l:Po->Po}{F:List Po->Po}(hl:Lr l)(hF:gX n F):∀(A pre B:List Po)(x y:Po),pre.length+A.length+B.length=n->Ex l F pre (A++(x+y)::B)=Ex l F pre (A++x::B)+Ex l F pre (A++y::B)
 |[],pre,B,x,y,h=>by
  have h:=nE (l:=l) hF B pre [] x y (by rw[List.length_nil] at *;lia);show l (x+y)*F (pre++B)-Ex l F (pre++[x+y]) B=(l x*F (pre++B)-Ex l F (pre++[x]) B)+(l y*F (pre++B)-Ex l F (pre++[y]) B);rw[hl.add,h];grind
 |z::A,pre,B,x,y,h=>by
  rw[List.length_cons] at h;have ih:=Bi hl hF A (pre++[z]) B x y (by rw[List.length_append,List.length_singleton];lia);have h:=hF.add (pre++A) x y B (by rw[List.length_append];lia);show l z*F (pre++(A++(x+y)::B))-Ex l F (pre++[z]) (A++(x+y)::B)=(l z*F (pre++(A++x::B))-Ex l F (pre++[z]) (A++x::B))+(l z*F (pre++(A++y::B))-Ex l F (pre++[z]) (A++y::B));rw[List.append_assoc,List.append_assoc,List.append_assoc] at h;rw[ih,h];grind
theorem xK{n:Nat}{l:Po->Po}{F:List Po->Po}(hl:Lr l)(hF:gX n F)(a:Int):∀(A pre B:List Po)(x:Po),pre.length+A.length+B.length=n->Ex l F pre (A++(K a*x)::B)=K a*Ex l F pre (A++x::B)
 |[],pre,B,x,h=>by
  have h:=lL (l:=l) hF a B pre [] x (by rw[List.length_nil] at *;lia);show l (K a*x)*F (pre++B)-Ex l F (pre++[K a*x]) B=K a*(l x*F (pre++B)-Ex l F (pre++[x]) B);rw[hl.smul,h];grind
 |z::A,pre,B,x,h=>by
  rw[List.length_cons] at h;have ih:=xK hl hF a A (pre++[z]) B x (by rw[List.length_append,List.length_singleton];lia);have h:=hF.smul (pre++A) a x B (by rw[List.length_append];lia);show l z*F (pre++(A++(K a*x)::B))-Ex l F (pre++[z]) (A++(K a*x)::B)=K a*(l z*F (pre++(A++x::B))-Ex l F (pre++[z]) (A++x::B));rw[List.append_assoc,List.append_assoc] at h;rw[ih,h];grind
theorem Bj{n:Nat}{l:Po->Po}{F:List Po->Po}(hF:gX n F):∀(A pre B:List Po)(x y:Po),pre.length+A.length+B.length+1=n->Ex l F pre (A++x::y::B)=-Ex l F pre (A++y::x::B)
 |[],pre,B,x,y,h=>by
  have h:=nF (l:=l) hF B pre [] x y (by rw[List.length_nil] at *;lia);show l x*F (pre++y::B)-(l y*F ((pre++[x])++B)-Ex l F ((pre++[x])++[y]) B)=-(l y*F (pre++x::B)-(l x*F ((pre++[y])++B)-Ex l F ((pre++[y])++[x]) B));have e1:(pre++[x])++B=pre++x::B:=by simp
  have e2:(pre++[y])++B=pre++y::B:=by simp
  have e3:(pre++[x])++[y]=pre++[x,y]:=by simp
  have e4:(pre++[y])++[x]=pre++[y,x]:=by simp
  rw[e1,e2,e3,e4,h];grind
 |z::A,pre,B,x,y,h=>by
  rw[List.length_cons] at h;have ih:=Bj (l:=l) hF A (pre++[z]) B x y (by rw[List.length_append,List.length_singleton];lia);have h:=hF.alt (pre++A) x y B (by rw[List.length_append];lia);show l z*F (pre++(A++x::y::B))-Ex l F (pre++[z]) (A++x::y::B)=-(l z*F (pre++(A++y::x::B))-Ex l F (pre++[z]) (A++y::x::B));rw[List.append_assoc,List.append_assoc] at h;rw[ih,h];grind
noncomputable def Bl(cs:List (Po->Po)):Prop:=∀l∈cs,Lr l
theorem xM:∀cs:List (Po->Po),Bl cs->gX cs.length (pM cs)
 |[],_=>⟨fun A x y B h=>by rw[List.length_nil] at h;lia,fun A a x B h=>by rw[List.length_nil] at h;lia,fun A x y B h=>by rw[List.length_nil] at h;lia⟩
 |l::cs,hc=>by
  have ih:=xM cs fun m hm=>hc m (List.mem_cons_of_mem _ hm);have hl:=hc l List.mem_cons_self;rw[List.length_cons];refine⟨fun A x y B h=>Bi hl ih A [] B x y ?_,fun A a x B h=>xK hl ih a A [] B x ?_,fun A x y B h=>Bj ih A [] B x y ?_⟩<;>(rw[List.length_nil];lia)
section
variable {n:Nat} {F:List Po->Po} (hF:gX n F)
include hF
theorem Bm{x:Po}(h:x=-x):x=0:=by
 have:K 2*x=0:=by
  have e:K 2=1+1:=by rw[<-bN,<-xo];rfl
  rw[e];grind
 rcases mul_eq_zero this with z|z
 ·exact absurd z (jq (by decide))
 ·exact z
theorem zf(A:List Po)(x:Po)(B:List Po)(h:A.length+B.length+2=n):F (A++x::x::B)=0:=Bm hF (hF.alt A x x B h)
theorem xN:∀(B1 A B2:List Po)(x:Po),A.length+B1.length+B2.length+2=n->F (A++x::(B1++x::B2))=0
 |[],A,B2,x,h=>zf hF A x B2 (by rw[List.length_nil] at h;lia)
 |z::B1,A,B2,x,h=>by
  rw[List.length_cons] at h;have h1:=hF.alt A x z (B1++x::B2) (by rw[List.length_append,List.length_cons];lia);have h2:=xN B1 (A++[z]) B2 x (by rw[List.length_append,List.length_singleton];lia);have e:A++x::(z::B1++x::B2)=A++x::z::(B1++x::B2):=rfl;rw[e,h1];have e2:(A++[z])++x::(B1++x::B2)=A++z::x::(B1++x::B2):=by simp
  rw[e2] at h2;rw[h2];grind
omit hF in
inductive Span(B:List Po):Po->Prop
 |zero:Span B 0
 |step (y b:Po) (a:Int):Span B y->b∈B->Span B (y+K a*b)
theorem Bo(A B:List Po)(h:A.length+B.length+1=n):F (A++0::B)=0:=by
 have:=hF.smul A 0 0 B h;rw[cE] at this;have e:(0:Po)*0=0:=by grind
 rw[e] at this;rw[this];grind
theorem Bp{B:List Po}{y:Po}(hy:Span B y):∀(A:List Po),A.length+B.length+1=n->F (A++y::B)=0:=by
 induction hy with
 |zero=>exact fun A h=>Bo hF A B h
 |step y b a _ hb ih=>
  intro A h;rw[hF.add A y (K a*b) B h,ih A h,hF.smul A a b B h];obtain⟨B1,B2,e⟩:=List.append_of_mem hb;have h2:A.length+B1.length+B2.length+2=n:=by
   have:=congrArg List.length e;rw[List.length_append,List.length_cons] at this;lia
  have h3:=xN hF B1 A B2 b h2;rw[<-e] at h3;rw[h3];grind
omit hF in
theorem Span.mono{B B':List Po}{y:Po}(h:Span B y)(hs:∀b∈B,b∈B'):Span B' y:=by
 induction h with
 |zero=>exact .zero
 |step y b a _ hb ih=>exact .step y b a ih (hs b hb)
omit hF in
theorem Span.add{B:List Po}{x y:Po}(h:Span B x)(h':Span B y):Span B (x+y):=by
 induction h' with
 |zero=>have:x+0=x:=by grind
        rw[this];exact h
 |step y b a _ hb ih=>
  have:x+(y+K a*b)=(x+y)+K a*b:=by grind
  rw[this];exact .step _ _ _ ih hb
omit hF in
theorem Span.of{B:List Po}{b:Po}(a:Int)(hb:b∈B):Span B (K a*b):=by
 have:K a*b=0+K a*b:=by grind
 rw[this];exact .step _ _ _ .zero hb
theorem nG{G:List Po}:∀(us vs A:List Po),us.length=vs.length->(∀i(h:i<us.length)(h':i<vs.length),∃w,Span G w/\us[i]=vs[i]+w)->A.length+us.length+G.length=n->F (A++(us++G))=F (A++(vs++G))
 |[],[],A,_,_,_=>rfl
 |[],v::vs,A,hl,_,_=>by simp at hl
 |u::us,[],A,hl,_,_=>by simp at hl
 |u::us,v::vs,A,hl,hw,h=>by
  have Jr:us.length=vs.length:=by simpa using hl
  obtain⟨w,hs,e⟩:=hw 0 (by simp) (by simp);have e':u=v+w:=e;rw[List.length_cons] at h;have ih:=nG us vs (A++[v]) Jr (fun i h1 h2=>by
   obtain⟨w,hs,e⟩:=hw (i+1) (by simp;lia) (by simp;lia)
   exact⟨w,hs,e⟩) (by rw[List.length_append,List.length_singleton];lia);show F (A++u::(us++G))=F (A++v::(vs++G));rw[e',hF.add A v w (us++G) (by rw[List.length_append];lia)];rw[Bp hF (hs.mono fun b hb=>List.mem_append_right _ hb) A (by rw[List.length_append];lia)];have e2:A++v::(us++G)=(A++[v])++(us++G):=by simp
  have e3:A++v::(vs++G)=(A++[v])++(vs++G):=by simp
  rw[e2,e3,ih];grind
theorem kO(a:Int):∀(us A B:List Po),A.length+us.length+B.length=n->F (A++(us.map (fun u=>K a*u)++B))=K (a^us.length)*F (A++(us++B))
 |[],A,B,_=>by
  show F (A++B)=K (a^0)*F (A++B);rw[Int.pow_zero,bN];grind
 |u::us,A,B,h=>by
  rw[List.length_cons] at h;have ih:=kO a us (A++[u]) B (by rw[List.length_append,List.length_singleton];lia);show F (A++(K a*u)::(us.map (fun u=>K a*u)++B))=K (a^(us.length+1))*F (A++u::(us++B));rw[hF.smul A a u _ (by rw[List.length_append,List.length_map];lia)];have e2:A++u::(us.map (fun u=>K a*u)++B)=(A++[u])++(us.map (fun u=>K a*u)++B):=by simp
  have e3:A++u::(us++B)=(A++[u])++(us++B):=by simp
  rw[e2,e3,ih,Int.pow_succ,bF];grind
theorem tE(x:Po):∀(B A C:List Po),A.length+B.length+C.length+1=n->∃s:Int,(s=1\/s=-1)/\F (A++x::(B++C))=K s*F (A++(B++x::C))
 |[],A,C,_=>⟨1,.inl rfl,by rw[bN];show F (A++x::C)=1*F (A++x::C);grind⟩
 |b::B,A,C,h=>by
  rw[List.length_cons] at h;obtain⟨s,hs,e⟩:=tE x B (A++[b]) C (by rw[List.length_append,List.length_singleton];lia);refine⟨-s,by lia,?_⟩;show F (A++x::b::(B++C))=K (-s)*F (A++(b::(B++x::C)));rw[hF.alt A x b (B++C) (by rw[List.length_append];lia)];have e2:A++b::x::(B++C)=(A++[b])++x::(B++C):=by simp
  have e3:A++b::(B++x::C)=(A++[b])++(B++x::C):=by simp
  rw[e2,e3,e,A1];grind
theorem blocks:∀(U A B:List Po),A.length+U.length+B.length=n->∃s:Int,(s=1\/s=-1)/\F (A++(U++B))=K s*F (A++(B++U))
 |[],A,B,_=>⟨1,.inl rfl,by rw[bN];show F (A++B)=1*F (A++(B++[]));rw[List.append_nil];grind⟩
 |u::U,A,B,h=>by
  rw[List.length_cons] at h;obtain⟨s,hs,e⟩:=blocks U (A++[u]) B (by rw[List.length_append,List.length_singleton];lia);obtain⟨s',xl,e'⟩:=tE hF u B A U (by lia);refine⟨s*s',by rcases hs with z|z<;>rcases xl with w|w<;>rw[z,w]<;>lia,?_⟩;have e1:A++(u::U++B)=(A++[u])++(U++B):=by simp
  have e2:(A++[u])++(B++U)=A++u::(B++U):=by simp
  rw[e1,e,e2,e',bF];have e3:A++(B++u::U)=A++(B++(u::U)):=rfl;grind
end
theorem xO{l:Po->Po}{F:List Po->Po}:∀(rs pre:List Po),(∀r∈rs,l r=0)->Ex l F pre rs=0
 |[],_,_=>rfl
 |r::rs,pre,h=>by
  show l r*F (pre++rs)-Ex l F (pre++[r]) rs=0;rw[h r List.mem_cons_self,xO rs _ fun x hx=>h x (List.mem_cons_of_mem _ hx)];grind
theorem xP(l:Po->Po)(cs:List (Po->Po))(r:Po)(rs:List Po)(h:∀x∈rs,l x=0):pM (l::cs) (r::rs)=l r*pM cs rs:=by
 show l r*pM cs ([]++rs)-Ex l (pM cs) ([]++[r]) rs=_;rw[xO rs _ h];show l r*pM cs rs-0=_;grind
end Po
end SF
namespace SF
open Lean.Grind
namespace Po
noncomputable def cf(d:Nat)(P:Po):Po:=K (P.c d)
theorem HS(d:Nat):Lr (cf d):=⟨fun x y=>by unfold cf;rw[jt,xo],fun a x=>by unfold cf;rw[aV,bF]⟩
theorem HU:Lr (fun P=>P):=⟨fun _ _=>rfl,fun _ _=>rfl⟩
noncomputable def cols:Nat->Nat->List (Po->Po)
 |_,0=>[]
 |_,1=>[fun P=>P]
 |D,N+2=>cf D::cols (D-1) (N+1)
theorem tF:∀(N D:Nat),(cols D N).length=N
 |0,_=>rfl
 |1,_=>rfl
 |N+2,D=>by
  show(cols (D-1) (N+1)).length+1=_;rw[tF (N+1)]
theorem tG:∀(N D:Nat),Bl (cols D N)
 |0,_=>fun l h=>nomatch h
 |1,_=>fun l h=>by
  rw[List.mem_singleton.mp h];exact HU
 |N+2,D=>fun l h=>by
  rcases List.mem_cons.mp h with z|z
  ·rw[z];exact HS D
  ·exact tG (N+1) (D-1) l z
theorem D4(D N:Nat):gX N (pM (cols D N)):=by
 have:=xM (cols D N) (tG N D);rw[tF] at this;exact this
noncomputable def fr(f:Po):Nat->List Po
 |0=>[]
 |a+1=>(X a*f)::fr f a
theorem dR(f:Po):∀a,(fr f a).length=a
 |0=>rfl
 |a+1=>by show(fr f a).length+1=_;rw[dR f a]
theorem vI(f:Po):∀(a i:Nat)(h:i<(fr f a).length),(fr f a)[i]=X (a-1-i)*f
 |0,i,h=>by rw[dR] at h;lia
 |a+1,0,h=>by
  show X a*f=_;congr 2
 |a+1,i+1,h=>by
  have h':i<(fr f a).length:=by rw[dR] at h ⊢;lia
  show(fr f a)[i]=_;rw[vI f a i h'];congr 2;lia
theorem Bq(f:Po):∀(a i:Nat),i<a->X i*f∈fr f a
 |0,i,h=>by lia
 |a+1,i,h=>by
  by_cases e:i=a
  ·rw[e];exact List.mem_cons_self
  ·exact List.mem_cons_of_mem _ (Bq f a i (by lia))
theorem jk{f P:Po}:∀{a:Nat},P∈fr f a->∃i,i<a/\P=X i*f
 |0,h=>nomatch h
 |a+1,h=>by
  rcases List.mem_cons.mp h with z|z
  ·exact⟨a,by lia,z⟩
  ·obtain⟨i,hi,e⟩:=jk z;exact⟨i,by lia,e⟩
noncomputable def Fw(q:Po)(e:Nat):Po:=ax (fun i=>K (q.c i)*X i) e
theorem Fy(q:Po)(j:Nat):∀e:Nat,(Fw q e).c j=if j<e then q.c j else 0
 |0=>by
  show(0:Po).c j=_;rw[dP,if_neg (by lia)]
 |e+1=>by
  show(Fw q e+K (q.c e)*X e).c j=_;rw[jt,Fy q j e,aV,xp];by_cases h1:j<e
  ·rw[if_pos h1,if_pos (show j<e+1 by lia),if_neg (show ¬j=e by lia)];grind
  ·rw[if_neg h1];by_cases h2:j=e
   ·rw[if_pos h2,if_pos (show j<e+1 by lia),h2];grind
   ·rw[if_neg h2,if_neg (show ¬j<e+1 by lia)];grind
theorem D5{q:Po}{e:Nat}(h:len q<=e):Fw q e=q:=ext fun j=>by
 rw[Fy];split
 ·rfl
 ·exact(dQ (by lia)).symm
theorem tH(q g:Po)(k b:Nat):∀e:Nat,k+e<=b->Span (fr g b) (X k*(Fw q e*g))
 |0,_=>by
  have:X k*(Fw q 0*g)=0:=by show X k*(0*g)=0;grind
  rw[this];exact .zero
 |e+1,h=>by
  have ih:=tH q g k b e (by lia);have e1:X k*(Fw q (e+1)*g)=X k*(Fw q e*g)+K (q.c e)*(X (k+e)*g):=by
   show X k*((Fw q e+K (q.c e)*X e)*g)=_;rw[Fu];grind
  rw[e1];exact ih.add (Span.of _ (Bq g b (k+e) (by lia)))
theorem F1{f g h q:Po}{α β:Int}{a b e D:Nat}(eq:K α*f=q*g+K β*h)(hq:len q<=e)(f7:a+e<=b+1):
 ∃s:Int,(s=1\/s=-1)/\K (α^a)*pM (cols D (a+b)) (fr f a++fr g b)=K (s*β^a)*pM (cols D (a+b)) (fr g b++fr h a):=by
 have hF:=D4 D (a+b);have e1:=kO hF α (fr f a) [] (fr g b) (by rw[List.length_nil,dR,dR];lia);have e2:=kO hF β (fr h a) [] (fr g b) (by rw[List.length_nil,dR,dR];lia);have e3:=nG hF (G:=fr g b) ((fr f a).map fun u=>K α*u) ((fr h a).map fun u=>K β*u) [] (by rw[List.length_map,List.length_map,dR,dR]) (fun i h1 h2=>by
  have hi:i<a:=by rw[List.length_map,dR] at h1;exact h1
  refine⟨X (a-1-i)*(q*g),?_,?_⟩
  ·have:=tH q g (a-1-i) b e (by lia)
   rw[D5 hq] at this;exact this
  ·rw[List.getElem_map,List.getElem_map,vI,vI]
   have e4:K α*(X (a-1-i)*f)=X (a-1-i)*(K α*f):=by grind
   rw[e4,eq];grind) (by rw[List.length_nil,List.length_map,dR,dR];lia);obtain⟨s,hs,e5⟩:=blocks hF (fr h a) [] (fr g b) (by rw[List.length_nil,dR,dR];lia);rw[dR] at e1 e2;refine⟨s,hs,?_⟩;simp only[List.nil_append] at*;rw[<-e1,e3,e2,e5,bF];grind
theorem Br{f:Po}{i m D:Nat}(h:∀j,m<j->f.c j=0)(hd:i+m<D):(X i*f).c D=0:=by
 rw[eW,if_neg (by lia)];exact h _ (by lia)
theorem F2{g h:Po}{m k a b:Nat}(hg:∀j,m<j->g.c j=0)(hh:∀j,k<j->h.c j=0)(ha:0<a)(hk:a-1+k<b+m):∀e:Nat,
 pM (cols (b+e+m-1) (b+e+a)) (fr g (b+e)++fr h a)=K (g.c m^e)*pM (cols (b+m-1) (b+a)) (fr g b++fr h a)
 |0=>by
  rw[Int.pow_zero,bN];show pM (cols (b+m-1) (b+a)) (fr g b++fr h a)=_;grind
 |e+1=>by
  have ih:=F2 hg hh ha hk e;obtain⟨a',rfl⟩:∃a',a=a'+1:=⟨a-1,by lia⟩;have e1:cols (b+(e+1)+m-1) (b+(e+1)+(a'+1))=cf (b+e+m)::cols (b+e+m-1) (b+e+(a'+1)):=by
   have e2:b+(e+1)+(a'+1)=(b+e+a')+2:=by lia
   have e3:b+(e+1)+m-1=b+e+m:=by lia
   rw[e2,e3];rfl
  rw[e1];show pM (cf (b+e+m)::cols (b+e+m-1) (b+e+(a'+1))) (X (b+e)*g::(fr g (b+e)++fr h (a'+1)))=_;rw[xP _ _ _ _ (fun x hx=>?_),ih]
  ·have e4:cf (b+e+m) (X (b+e)*g)=K (g.c m):=by
    unfold cf;rw[eW,if_neg (by lia)];congr 2;lia
   rw[e4,Int.pow_succ,bF];grind
  ·unfold cf;rcases List.mem_append.mp hx with z|z
   ·obtain⟨i,hi,rfl⟩:=jk z;rw[Br hg (by lia),cE]
   ·obtain⟨i,hi,rfl⟩:=jk z;rw[Br hh (by lia),cE]
theorem F3{h:Po}{k:Nat}(hh:∀j,k<j->h.c j=0):∀a:Nat,pM (cols (a+k) (a+1)) (fr h (a+1))=K (h.c k^a)*h
 |0=>by
  show X 0*h*1-0=K (h.c k^0)*h;rw[Int.pow_zero,bN,qE];grind
 |a+1=>by
  have ih:=F3 hh a;have e1:cols (a+1+k) (a+1+1)=cf (a+1+k)::cols (a+k) (a+1):=by
   have e2:a+1+k-1=a+k:=by lia
   show cf (a+1+k)::cols (a+1+k-1) (a+1)=_;rw[e2]
  rw[e1];show pM (cf (a+1+k)::cols (a+k) (a+1)) (X (a+1)*h::fr h (a+1))=_;rw[xP _ _ _ _ (fun x hx=>?_),ih]
  ·have e4:cf (a+1+k) (X (a+1)*h)=K (h.c k):=by
    unfold cf;rw[eW,if_neg (by lia)];congr 2;lia
   rw[e4,Int.pow_succ,bF];grind
  ·unfold cf;obtain⟨i,hi,rfl⟩:=jk hx;rw[Br hh (by lia),cE]
noncomputable def Sb(n m j:Nat)(f g:Po):Po:=pM (cols (n+m-j-1) (m-j+(n-j))) (fr f (m-j)++fr g (n-j))
section
variable {f g h q:Po} {α β:Int} {n m k j:Nat}
theorem T1(eq:K α*f=q*g+K β*h)(hq:len q<=n-m+1)(hg:∀j,m<j->g.c j=0)(hh:∀j,k<j->h.c j=0)(Fz:m<n)(RU:k<m)(hj:j<=k):
 ∃s:Int,(s=1\/s=-1)/\K (α^(m-j))*Sb n m j f g=K (s*β^(m-j)*g.c m^(n-k))*pM (cols (m+k-j-1) (k-j+(m-j))) (fr g (k-j)++fr h (m-j)):=by
 obtain⟨s,hs,e1⟩:=F1 (D:=n+m-j-1) (a:=m-j) (b:=n-j) eq hq (by lia);have e2:=F2 (a:=m-j) (b:=k-j) hg hh (by lia) (by lia) (n-k);have d1:k-j+(n-k)=n-j:=by lia
 have d2:n-j+m-1=n+m-j-1:=by lia
 have d3:k-j+m-1=m+k-j-1:=by lia
 have d4:n-j+(m-j)=m-j+(n-j):=by lia
 rw[d1,d2,d3,d4] at e2;refine⟨s,hs,?_⟩;unfold Sb;rw[e1,e2,bF (s*β^(m-j))];grind
theorem T2(eq:K α*f=q*g+K β*h)(hq:len q<=n-m+1)(hg:∀j,m<j->g.c j=0)(hh:∀j,k<j->h.c j=0)(Fz:m<n)(RU:k<m):
 ∃s:Int,(s=1\/s=-1)/\K (α^(m-k))*Sb n m k f g=K (s*β^(m-k)*g.c m^(n-k)*h.c k^(m-k-1))*h:=by
 obtain⟨s,hs,e1⟩:=T1 (j:=k) eq hq hg hh Fz RU (Nat.le_refl _);refine⟨s,hs,?_⟩;rw[e1];have e2:=F3 hh (m-k-1);have d1:m-k-1+1=m-k:=by lia
 have d2:m-k-1+k=m-1:=by lia
 rw[d1,d2] at e2;have d3:m+k-k-1=m-1:=by lia
 have d4:k-k+(m-k)=m-k:=by lia
 have d5:k-k=0:=by lia
 rw[d3,d4,d5];show K _*pM (cols (m-1) (m-k)) ([]++fr h (m-k))=_;rw[List.nil_append,e2,bF (s*β^(m-k)*g.c m^(n-k))];grind
theorem T3{r:Po}(eq:K α*f=q*g+r)(hq:len q<=n-m+1)(hg:∀j,m<j->g.c j=0)(hr:∀j,m<=j->r.c j=0)(Fz:m<n)(hm:0<m):
 ∃s:Int,(s=1\/s=-1)/\K α*Sb n m (m-1) f g=K (s*g.c m^(n-m+1))*r:=by
 have U3:K α*f=q*g+K 1*r:=by rw[eq,bN];grind
 obtain⟨s,hs,e1⟩:=F1 (D:=n) (a:=1) (b:=n-m+1) U3 hq (by lia);have e2:=F2 (a:=1) (b:=0) (k:=m-1) hg (fun j hj=>hr j (by lia)) (by lia) (by lia) (n-m+1);refine⟨s,hs,?_⟩;unfold Sb;have d1:m-(m-1)=1:=by lia
 have d2:n-(m-1)=n-m+1:=by lia
 have d3:n+m-(m-1)-1=n:=by lia
 have d4:0+(n-m+1)+m-1=n:=by lia
 have d5:0+(n-m+1)=n-m+1:=by lia
 have d6:n-m+1+1=1+(n-m+1):=by lia
 rw[d4,d5,d6] at e2;have p1:α^1=α:=by rw[Int.pow_succ,Int.pow_zero];lia
 have p2:(1:Int)^1=1:=rfl;rw[p1,p2] at e1;rw[d1,d2,d3,e1,e2];have e3:pM (cols (0+m-1) (0+1)) (fr g 0++fr r 1)=r:=by
  show X 0*r*1-0=r;rw[qE];grind
 rw[e3,Int.mul_one,bF];grind
end
end Po
end SF
namespace SF
open Lean.Grind
namespace Po
noncomputable def Sn(s:Int):Prop:=s=1\/s=-1
theorem Sn.mul{s t:Int}(h:Sn s)(h':Sn t):Sn (s*t):=by rcases h with z|z<;>rcases h' with w|w<;>rw[z,w]<;>unfold Sn<;>lia
theorem Sn.sq{s:Int}(h:Sn s):s*s=1:=by rcases h with z|z<;>rw[z]<;>rfl
theorem Sn.pow{s:Int}(h:Sn s):∀e:Nat,Sn (s^e)
 |0=>.inl (Int.pow_zero s)
 |e+1=>by rw[Int.pow_succ];exact(h.pow e).mul h
theorem FA(x:Int):∃s,Sn s/\x=s*ab x:=by
 rcases Int.le_total 0 x with h|h
 ·exact⟨1,.inl rfl,by rw[lJ h];lia⟩
 ·exact⟨-1,.inr rfl,by unfold ab;lia⟩
theorem kb(a b:Int):∀e:Nat,(a*b)^e=a^e*b^e
 |0=>by rw[Int.pow_zero,Int.pow_zero,Int.pow_zero];rfl
 |e+1=>by rw[Int.pow_succ,Int.pow_succ,Int.pow_succ,kb a b e];grind
theorem gC(a:Int)(m:Nat):∀n:Nat,a^(m+n)=a^m*a^n
 |0=>by rw[Int.pow_zero,Nat.add_zero];lia
 |n+1=>by
  have e:m+(n+1)=(m+n)+1:=by lia
  rw[e,Int.pow_succ,gC a m n,Int.pow_succ];grind
theorem pow_mul'(a:Int)(m:Nat):∀n:Nat,a^(m*n)=(a^m)^n
 |0=>by rw[Nat.mul_zero,Int.pow_zero,Int.pow_zero]
 |n+1=>by rw[Nat.mul_succ,gC,pow_mul' a m n,Int.pow_succ]
theorem bY{a:Int}(h:0<a)(n:Nat):0<a^n:=Int.pow_pos h
theorem nH(x:Int)(e:Nat):∃s,Sn s/\x^e=s*ab x^e:=by
 obtain⟨s,hs,ex⟩:=FA x;refine⟨s^e,hs.pow e,?_⟩
 conv=>lhs;rw[ex]
 rw[kb]
theorem qN{c a b:Int}{P Q:Po}(hc:c≠0)(h:K (c*a)*P=K (c*b)*Q):K a*P=K b*Q:=by
 refine cancel (jq hc) ?_;rw[bF,bF] at h;grind
theorem Pf{s:Int}(hs:Sn s){a b:Int}{P Q:Po}(h:K (s*a)*P=K b*Q):K a*P=K (s*b)*Q:=by
 have e:K a*P=K s*(K (s*a)*P):=by
  have e2:K s*(K (s*a)*P)=K (s*(s*a))*P:=by rw[bF s (s*a)];grind
  rw[e2,<-Int.mul_assoc,hs.sq,Int.one_mul]
 rw[e,h,bF s b];grind
structure uQ(F G f g:Po)(n0 n1 n m:Nat)(g0 h0:Int):Prop where
 lf:len f=n+1
 lg:len g=m+1
 nm:m<n
 Nh:0<g0
 Jy:0<h0
 C:∀j,j<m->∃s,Sn s/\Sb n m j f g=K (s*(g0^(m-j)*h0^(n-j-1)))*Sb n0 n1 j F G
 Hh:∃s,Sn s/\K (h0^(n-m-1))*Sb n0 n1 m F G=K (s*ab (g.c m)^(n-m-1))*g
theorem uQ.start{F G:Po}{n:Nat}(lf:len F=n+2)(lg:len G=n+1):uQ F G F G (n+1) n (n+1) n 1 1:=by
 refine⟨lf,lg,by lia,by decide,by decide,fun j _=>⟨1,.inl rfl,?_⟩,1,.inl rfl,?_⟩
 ·rw[Int.one_pow,Int.one_pow];show _=K 1*_;rw[bN];grind
 ·have e:n+1-n-1=0:=by lia
  rw[e,Int.pow_zero,Int.pow_zero];unfold Sb;have e1:n-n=0:=by lia
  have e2:n+1-n=1:=by lia
  rw[e1,e2];show K 1*(X 0*G*1-0)=K (1*1)*G;rw[qE,Int.one_mul];grind
section
variable {F G f g q r:Po} {n0 n1 n m:Nat} {g0 h0:Int}
theorem uQ.lead(S:uQ F G f g n0 n1 n m g0 h0):0<ab (g.c m):=by
 have:=Po.lead (f:=g) (by rw[S.lg];lia);rw[S.lg] at this;exact iL this
theorem uQ.hi(S:uQ F G f g n0 n1 n m g0 h0):∀j,m<j->g.c j=0:=fun j hj=>dQ (by rw[S.lg];lia)
theorem uQ.rem(S:uQ F G f g n0 n1 n m g0 h0)(hm:0<m)(eq:K (ab (g.c m)^(n-m+1))*f=q*g+r)(hq:len q<=n-m+1)(hr:len r<=m):∃h,r=K (g0*h0^(n-m))*h:=by
 have hl:=S.lead;obtain⟨s,hs,e1⟩:=T3 eq hq S.hi (fun j hj=>dQ (by lia)) S.nm hm;obtain⟨t,ht,e2⟩:=nH (g.c m) (n-m+1);obtain⟨u,hu,e3⟩:=S.C (m-1) (by lia);have hp:ab (g.c m)^(n-m+1)≠0:=Int.ne_of_gt (bY hl _);have e4:K 1*Sb n m (m-1) f g=K (s*t)*r:=by
  refine qN hp ?_;rw[Int.mul_one,e1,e2];congr 2;grind
 rw[bN] at e4;have e5:K (s*t)*r=K (u*(g0*h0^(n-m)))*Sb n0 n1 (m-1) F G:=by
  have d1:m-(m-1)=1:=by lia
  have d2:n-(m-1)-1=n-m:=by lia
  rw[d1,d2] at e3;have p1:g0^1=g0:=by rw[Int.pow_succ,Int.pow_zero];lia
  rw[p1] at e3;rw[<-e4,<-e3];grind
 refine⟨K (s*t*u)*Sb n0 n1 (m-1) F G,?_⟩;have e6:K (s*t*1)*r=K (u*(g0*h0^(n-m)))*Sb n0 n1 (m-1) F G:=by rw[Int.mul_one];exact e5
 have e7:=Pf (Sn.mul hs ht) e6;rw[bN] at e7;have e8:r=1*r:=by grind
 rw[e8,e7];have e9:K (g0*h0^(n-m))*(K (s*t*u)*Sb n0 n1 (m-1) F G)=K (g0*h0^(n-m)*(s*t*u))*Sb n0 n1 (m-1) F G:=by rw[bF (g0*h0^(n-m)) (s*t*u)];grind
 rw[e9];congr 2;grind
theorem uQ.scale(S:uQ F G f g n0 n1 n m g0 h0):h0^(n-m-1)∣ab (g.c m)^(n-m):=by
 obtain⟨s,hs,e⟩:=S.Hh;have e1:(K (h0^(n-m-1))*Sb n0 n1 m F G).c m=(K (s*ab (g.c m)^(n-m-1))*g).c m:=by rw[e]
 rw[aV,aV] at e1;obtain⟨t,ht,e2⟩:=FA (g.c m);have Fz:=S.nm;have d:n-m=(n-m-1)+1:=by lia
 refine⟨(Sb n0 n1 m F G).c m*(s*t),?_⟩;have e3:ab (g.c m)^(n-m)=ab (g.c m)^(n-m-1)*ab (g.c m):=by
  conv=>lhs;rw[d]
  rw[Int.pow_succ]
 rw[e3];have h1:=hs.sq;have h2:=ht.sq;generalize ab (g.c m)^(n-m-1)=L at*;generalize ab (g.c m)=l at*;generalize g.c m=y at*;generalize h0^(n-m-1)=A at*;generalize (Sb n0 n1 m F G).c m=B at*;have e5:A*(B*(s*t))=(A*B)*(s*t):=by grind
 rw[e5,e1,e2];have e6:s*L*(t*l)*(s*t)=(s*s)*(t*t)*(L*l):=by grind
 rw[e6,h1,h2];lia
theorem Ls{l h0 h1:Int}{n m k j δ:Nat}(hd:n=m+δ)(FC:0<δ)(hk:k<m)(hj:j<=k)(h:h1*h0^(δ-1)=l^δ):
 l^((δ+1)*(m-j))*h0^(n-j-1)=h0^(δ*(m-j))*l^(n-k)*(l^(k-j)*h1^(m-j-1)):=by
 obtain⟨u,hu⟩:∃u,m-j=u+1:=⟨m-j-1,by lia⟩;have d1:n-j-1=u+δ:=by lia
 have d2:m-j-1=u:=by lia
 have d3:(δ+1)*(u+1)=δ*u+((n-k)+(k-j)):=by
  have:(n-k)+(k-j)=u+1+δ:=by lia
  rw[this,Nat.add_mul,Nat.mul_add];lia
 rw[hu,d1,show u+1-1=u by lia,d3,gC,gC,pow_mul',<-h,kb,<-pow_mul'];have d4:δ*(u+1)=(δ-1)*u+(u+δ):=by
  obtain⟨e,rfl⟩:∃e,δ=e+1:=⟨δ-1,by lia⟩;rw[Nat.add_sub_cancel,Nat.mul_add,Nat.add_mul];lia
 rw[d4,gC h0];grind
theorem uQ.next{h:Po}{k:Nat}{h1:Int}(S:uQ F G f g n0 n1 n m g0 h0)(eq:K (ab (g.c m)^(n-m+1))*f=q*g+K (-(g0*h0^(n-m)))*h)(hq:len q<=n-m+1)(lh:len h=k+1)(hk:k<m)(K9:h1*h0^(n-m-1)=ab (g.c m)^(n-m)):uQ F G g h n0 n1 m k (ab (g.c m)) h1:=by
 have hl:=S.lead;have Fz:=S.nm;have RV:∀j,k<j->h.c j=0:=fun j hj=>dQ (by rw[lh];lia);have hd:n=m+(n-m):=by lia
 have U4:0<h1:=by
  have p1:=bY S.Jy (n-m-1);have p2:=bY hl (n-m);rw[<-K9] at p2;rcases Int.lt_or_le 0 h1 with z|z
  ·exact z
  ·have:=Int.mul_nonpos_of_nonpos_of_nonneg z (Int.le_of_lt p1);lia
 have sgn:∀(e:Nat),∃t,Sn t/\(-(g0*h0^(n-m)))^e=t*(g0^e*h0^((n-m)*e)):=fun e=>by
  obtain⟨t,ht,e1⟩:=nH (-(g0*h0^(n-m))) e;refine⟨t,ht,?_⟩;have gz:0<g0*h0^(n-m):=Int.mul_pos S.Nh (bY S.Jy _);have e2:ab (-(g0*h0^(n-m)))=g0*h0^(n-m):=by unfold ab;lia
  rw[e1,e2,kb,pow_mul']
 refine⟨S.lg,lh,hk,hl,U4,fun j hj=>?_,?_⟩
 ·obtain⟨s,hs,e1⟩:=T1 (j:=j) eq hq S.hi RV Fz hk (by lia);obtain⟨t,ht,e2⟩:=sgn (m-j);obtain⟨u,hu,e3⟩:=nH (g.c m) (n-k);obtain⟨v,hv,e4⟩:=S.C j (by lia);have ex:=Ls hd (by lia) hk (by lia:j<=k) K9;have Pg:K ((ab (g.c m)^(n-m+1))^(m-j))*Sb n m j f g=K (s*(-(g0*h0^(n-m)))^(m-j)*g.c m^(n-k))*Sb m k j g h:=e1;rw[<-pow_mul',e2,e3,e4] at Pg;have e5:K (ab (g.c m)^((n-m+1)*(m-j)))*(K (v*(g0^(m-j)*h0^(n-j-1)))*Sb n0 n1 j F G)=K (v*(g0^(m-j)*(ab (g.c m)^((n-m+1)*(m-j))*h0^(n-j-1))))*Sb n0 n1 j F G:=by
   have:v*(g0^(m-j)*(ab (g.c m)^((n-m+1)*(m-j))*h0^(n-j-1)))=ab (g.c m)^((n-m+1)*(m-j))*(v*(g0^(m-j)*h0^(n-j-1))):=by grind
   rw[this,bF (ab (g.c m)^((n-m+1)*(m-j)))];grind
  rw[e5,ex] at Pg;let c:=g0^(m-j)*h0^((n-m)*(m-j))*ab (g.c m)^(n-k);have hc:c≠0:=Int.ne_of_gt (Int.mul_pos (Int.mul_pos (bY S.Nh _) (bY S.Jy _)) (bY hl _));have e6:K (c*(v*(ab (g.c m)^(k-j)*h1^(m-j-1))))*Sb n0 n1 j F G=K (c*(s*t*u))*Sb m k j g h:=by
   have a1:c*(v*(ab (g.c m)^(k-j)*h1^(m-j-1)))=v*(g0^(m-j)*(h0^((n-m)*(m-j))*ab (g.c m)^(n-k)*(ab (g.c m)^(k-j)*h1^(m-j-1)))):=by
    show g0^(m-j)*h0^((n-m)*(m-j))*ab (g.c m)^(n-k)*_=_;grind
   have a2:c*(s*t*u)=s*(t*(g0^(m-j)*h0^((n-m)*(m-j))))*(u*ab (g.c m)^(n-k)):=by
    show g0^(m-j)*h0^((n-m)*(m-j))*ab (g.c m)^(n-k)*_=_;grind
   rw[a1,a2];exact Pg
  have e7:=qN hc e6;have hw:=Sn.mul (Sn.mul hs ht) hu;have e8:K (s*t*u*1)*Sb m k j g h=K (v*(ab (g.c m)^(k-j)*h1^(m-j-1)))*Sb n0 n1 j F G:=by rw[Int.mul_one];exact e7.symm
  have e9:=Pf hw e8;rw[bN] at e9;refine⟨s*t*u*v,hw.mul hv,?_⟩;have O6:Sb m k j g h=1*Sb m k j g h:=by grind
  rw[O6,e9];congr 2;grind
 ·obtain⟨s,hs,e1⟩:=T2 eq hq S.hi RV Fz hk;obtain⟨t,ht,e2⟩:=sgn (m-k);obtain⟨u,hu,e3⟩:=nH (g.c m) (n-k);obtain⟨v,hv,e4⟩:=S.C k hk;obtain⟨w,hw,e0⟩:=nH (h.c k) (m-k-1);have ex:=Ls hd (by lia) hk (Nat.le_refl k) K9;rw[<-pow_mul',e2,e3,e0,e4] at e1;have e5:K (ab (g.c m)^((n-m+1)*(m-k)))*(K (v*(g0^(m-k)*h0^(n-k-1)))*Sb n0 n1 k F G)=K (v*(g0^(m-k)*(ab (g.c m)^((n-m+1)*(m-k))*h0^(n-k-1))))*Sb n0 n1 k F G:=by
   have:v*(g0^(m-k)*(ab (g.c m)^((n-m+1)*(m-k))*h0^(n-k-1)))=ab (g.c m)^((n-m+1)*(m-k))*(v*(g0^(m-k)*h0^(n-k-1))):=by grind
   rw[this,bF (ab (g.c m)^((n-m+1)*(m-k)))];grind
  rw[e5,ex,show k-k=0 by lia,Int.pow_zero,Int.one_mul] at e1;let c:=g0^(m-k)*h0^((n-m)*(m-k))*ab (g.c m)^(n-k);have hc:c≠0:=Int.ne_of_gt (Int.mul_pos (Int.mul_pos (bY S.Nh _) (bY S.Jy _)) (bY hl _));have e6:K (c*(v*h1^(m-k-1)))*Sb n0 n1 k F G=K (c*(s*t*u*w*ab (h.c k)^(m-k-1)))*h:=by
   have a1:c*(v*h1^(m-k-1))=v*(g0^(m-k)*(h0^((n-m)*(m-k))*ab (g.c m)^(n-k)*h1^(m-k-1))):=by
    show g0^(m-k)*h0^((n-m)*(m-k))*ab (g.c m)^(n-k)*_=_;grind
   have a2:c*(s*t*u*w*ab (h.c k)^(m-k-1))=s*(t*(g0^(m-k)*h0^((n-m)*(m-k))))*(u*ab (g.c m)^(n-k))*(w*ab (h.c k)^(m-k-1)):=by
    show g0^(m-k)*h0^((n-m)*(m-k))*ab (g.c m)^(n-k)*_=_;grind
   rw[a1,a2];exact e1
  have e7:=Pf hv (qN hc e6);refine⟨v*(s*t*u*w),hv.mul (Sn.mul (Sn.mul (Sn.mul hs ht) hu) hw),?_⟩;rw[e7];congr 2;grind
end
end Po
end SF
namespace SF
open Lean.Grind
namespace Po
open Re
noncomputable def lZ(x:Re):List Po->Prop
 |[]=>True
 |[_]=>True
 |[_,_]=>True
 |a::b::c::r=>(at' x b=0->bA (at' x a)*bA (at' x c)<0)/\lZ x (b::c::r)
theorem lZ.snoc{x:Re}{u v w:Po}(h:at' x v=0->bA (at' x u)*bA (at' x w)<0):∀hs:List Po,lZ x (hs++[u,v])->lZ x (hs++[u,v,w])
 |[],_=>⟨h,trivial⟩
 |[a],t=>⟨t.1,h,trivial⟩
 |a::b::hs,t=>by
  cases hs with
  |nil=>exact⟨t.1,lZ.snoc h [b] t.2⟩
  |cons c hs=>exact⟨t.1,lZ.snoc h (b::c::hs) t.2⟩
theorem lZ.HV{x:Re}{w:Po}(hw:at' x w≠0):∀hs:List Po,lZ x (hs++[w])->ze x (hs++[w])
 |[],_=>hw
 |[a],_=>hw
 |[a,b],t=>⟨t.1,hw⟩
 |a::b::c::hs,t=>⟨t.1,lZ.HV hw (b::c::hs) t.2⟩
theorem zg{x:Re}{f g h q:Po}{α β:Int}(U5:0<α)(HW:0<β)(eq:K α*f=q*g+K (-β)*h)(RW:¬(at' x f=0/\at' x g=0)):
 (at' x g=0->bA (at' x f)*bA (at' x h)<0)/\¬(at' x g=0/\at' x h=0):=by
 have e:=congrArg (at' x) eq;rw[qM,eO,cF,qM] at e;have D6:(0:Re)<(α:Re):=by
  show Re.q ((0:Nat):Rat)<Re.q (α:Rat);rw[eJ];exact Rat.intCast_lt_intCast.mpr U5
 have Lu:(0:Re)<(β:Re):=by
  show Re.q ((0:Nat):Rat)<Re.q (β:Rat);rw[eJ];exact Rat.intCast_lt_intCast.mpr HW
 have U6:((-β:Int):Re)=-(β:Re):=Ring.intCast_neg β;rw[U6] at e;generalize (α:Re)=a at e D6;generalize (β:Re)=b at e Lu;have key:at' x g=0->a*at' x f=-(b*at' x h):=fun z=>by rw[z] at e;grind
 constructor
 ·intro z;have e2:=key z;have hf:at' x f≠0:=fun y=>RW ⟨y,z⟩;have s1:bA (a*at' x f)=bA (at' x f):=by rw[ka,dE D6];lia
  have s2:bA (b*at' x h)=bA (at' x h):=by rw[ka,dE Lu];lia
  rw[e2,HP,s2] at s1;rw[<-s1];have h0:bA (at' x h)≠0:=fun y=>hf (cP (by rw[<-s1,y];rfl));generalize bA (at' x h)=s at h0;have:0<s*s:=by
   rcases Int.lt_or_lt_of_ne h0 with w|w
   ·exact Int.mul_pos_of_neg_of_neg w w
   ·exact Int.mul_pos w w
  have e3:-s*s=-(s*s):=by grind
  rw[e3];lia
 ·rintro⟨z,w⟩;have e2:=key z;rw[w] at e2;have e3:a*at' x f=0:=by rw[e2];grind
  by_cases hf:at' x f=0
  ·exact RW ⟨hf,z⟩
  ·exact Re.dy (fun y=>by rw[y] at D6;exact lt_irrefl _ D6) hf e3
theorem pN{x:Re}{f g u v:Po}{a:Int}(ha:a≠0)(e:u*f+v*g=K a):¬(at' x f=0/\at' x g=0):=by
 rintro⟨z,w⟩;have e2:=congrArg (at' x) e;rw[eO,cF,cF,zc,z,w] at e2;have e3:(a:Re)=0:=by rw[<-e2];grind
 have e4:q (a:Rat)=q 0:=e3;have:=pK e4;have:(a:Rat)=((0:Int):Rat):=this;exact ha (Rat.intCast_inj.mp this)
theorem Bs{rs ys:List Int}(gG:ys≠[])(hl:ys.length<=rs.length){σ l:Int}(HX:σ*co ys (ys.length-1)=l):
 ao (dX (fun j=>co rs j*l-if rs.length-ys.length<=j/\j<rs.length-ys.length+(ys.length-1) then co rs (rs.length-1)*σ*co ys (j-(rs.length-ys.length)) else 0) (rs.length-1))=
  K l*ao rs-K (co rs (rs.length-1)*σ)*X (rs.length-ys.length)*ao ys:=ext fun j=>by
 have hp:=List.length_pos_iff.mpr gG;have e:K (co rs (rs.length-1)*σ)*X (rs.length-ys.length)*ao ys=K (co rs (rs.length-1)*σ)*(X (rs.length-ys.length)*ao ys):=by grind
 rw[e,fT,aV,aV,eW,aX,aX,aX,gP];by_cases h1:j<rs.length-1
 ·rw[if_pos h1];by_cases h2:rs.length-ys.length<=j
  ·rw[if_pos ⟨h2,by lia⟩,if_neg (by lia)];grind
  ·rw[if_neg (fun z=>h2 z.1),if_pos (by lia)];grind
 ·rw[if_neg h1,if_neg (by lia)];by_cases h3:j=rs.length-1
  ·have e2:j-(rs.length-ys.length)=ys.length-1:=by lia
   rw[e2,h3,Int.mul_assoc,HX];grind
  ·rw[cw (xs:=rs) (by lia),cw (xs:=ys) (by lia)];grind
theorem Lv(y:Int):(if y<0 then -1 else if 0<y then 1 else 0)*y=ab y:=by
 unfold ab;split
 ·lia
 ·split<;>lia
structure RX(xs ys rs:List Int):Prop where
 tr:Tr rs
 lt:rs.length<ys.length
 eq:∃q,K (ab (co ys (ys.length-1))^(xs.length-ys.length+1))*ao xs=q*ao ys+ao rs/\len q<=xs.length-ys.length+1
theorem HY(a:Int)(k:Nat):len (K a*X k)<=k+1:=cy fun i hi=>by
 rw[aV,xp,if_neg (by lia)];grind
theorem D7{rs:List Int}{n:Nat}(h:rs.length<n):(dw rs).length<n:=Nat.lt_of_le_of_lt (pe rs) h
theorem neg_fdiv{rs:List Int}{β:Int}{h:Po}(HW:0<β)(e:ao rs=K β*h):ao (dX (fun i=>(-(co rs i)).fdiv β) rs.length)=-h:=ext fun i=>by
 rw[aX,gP,Fn];have e1:co rs i=β*h.c i:=by
  have:(ao rs).c i=(K β*h).c i:=by rw[e]
  rw[aX,aV] at this;exact this
 split
 ·rw[e1];have:-(β*h.c i)=(-(h.c i))*β:=by grind
  rw[this,Int.mul_fdiv_cancel _ (Int.ne_of_gt HW)]
 ·rw[cw (by lia)] at e1;rcases Int.mul_eq_zero.mp e1.symm with z|z
  ·lia
  ·lia
end Po
end SF
namespace SF
open Lean.Grind
theorem qO(s:Rat):s*(s.den:Rat)=(s.num:Rat):=by
 have h:=Rat.num_divInt_den s;rw[Rat.divInt_eq_div] at h;have hd:((s.den:Int):Rat)≠0:=by
  intro z;have z2:((s.den:Int):Rat)=((0:Int):Rat):=z;have:=Rat.intCast_inj.mp z2;have:=s.den_nz;lia
 have e:(s.den:Rat)=((s.den:Int):Rat):=rfl;rw[e]
 conv=>lhs;rw[<-h]
 grind
theorem xQ{s:Rat}(h:s.den∣s.num.natAbs*s.num.natAbs\/s.den∣s.num.natAbs*s.num.natAbs*s.num.natAbs):s=(s.num:Rat):=by
 have hc:Nat.Coprime s.den s.num.natAbs:=s.reduced.symm;have h1:s.den∣1:=by
  rcases h with h|h
  ·have:=hc.dvd_of_dvd_mul_left h;have h2:=hc.dvd_of_dvd_mul_left (k:=s.den) (n:=1) (m:=s.num.natAbs);exact h2 (by rw[Nat.mul_one];exact this)
  ·have h3:=hc.dvd_of_dvd_mul_right h;have h4:=hc.dvd_of_dvd_mul_right h3;have h2:=hc.dvd_of_dvd_mul_left (k:=s.den) (n:=1) (m:=s.num.natAbs);exact h2 (by rw[Nat.mul_one];exact h4)
 have h2:s.den=1:=Nat.eq_one_of_dvd_one h1;have:=qO s;rw[h2] at this;have e:((1:Nat):Rat)=1:=rfl;rw[e] at this;rw[<-this];grind
theorem HZ{s:Rat}{n:Int}(h:s*s=(n:Rat)):∃k:Int,k*k=n:=by
 have e:=qO s;have e1:((s.num*s.num:Int):Rat)=((n*(s.den*s.den):Int):Rat):=by
  rw[Rat.intCast_mul,Rat.intCast_mul,Rat.intCast_mul,<-e,<-h];have e0:(((s.den:Nat):Int):Rat)=(s.den:Rat):=rfl;rw[e0];grind
 have e2:=Rat.intCast_inj.mp e1;have hd:s.den∣s.num.natAbs*s.num.natAbs:=by
  have:(s.den:Int)∣s.num*s.num:=⟨n*s.den,by rw[e2];grind⟩;have:=Int.ofNat_dvd_left.mp this
  rwa [Int.natAbs_mul] at this
 have e3:=xQ (s:=s) (.inl hd);refine⟨s.num,?_⟩;rw[e3,<-Rat.intCast_mul] at h;exact Rat.intCast_inj.mp h
theorem Bt{s:Rat}{n:Int}(h:s*s*s=(n:Rat)):∃k:Int,k*k*k=n:=by
 have e:=qO s;have e1:((s.num*s.num*s.num:Int):Rat)=((n*(s.den*s.den*s.den):Int):Rat):=by
  rw[Rat.intCast_mul,Rat.intCast_mul,Rat.intCast_mul,Rat.intCast_mul,Rat.intCast_mul,<-e,<-h];have e0:(((s.den:Nat):Int):Rat)=(s.den:Rat):=rfl;rw[e0];grind
 have e2:=Rat.intCast_inj.mp e1;have hd:s.den∣s.num.natAbs*s.num.natAbs*s.num.natAbs:=by
  have:(s.den:Int)∣s.num*s.num*s.num:=⟨n*(s.den*s.den),by rw[e2];grind⟩;have:=Int.ofNat_dvd_left.mp this
  rwa [Int.natAbs_mul,Int.natAbs_mul] at this
 have e3:=xQ (s:=s) (.inr hd);refine⟨s.num,?_⟩;rw[e3,<-Rat.intCast_mul,<-Rat.intCast_mul] at h;exact Rat.intCast_inj.mp h
noncomputable def Jz(n:Int):Prop:=n=2\/n=3\/n=5\/n=6\/n=7\/n=8\/n=10\/n=12\/n=50\/n=99
noncomputable def JA(n:Int):Prop:=n=2\/n=3\/n=4\/n=5\/n=6\/n=7\/n=9\/n=10\/n=-2\/n=-5
theorem Ph{m c:Nat}(hc:c<121)(h:∀m,m<=10->m*m≠c):m*m≠c:=fun e=>by
 rcases Nat.lt_or_ge 10 m with z|z
 ·have:=Nat.mul_le_mul (show 11<=m from z) (show 11<=m from z);lia
 ·exact h m z e
theorem Pk{m c:Nat}(hc:c<27)(h:∀m,m<=2->m*m*m≠c):m*m*m≠c:=fun e=>by
 rcases Nat.lt_or_ge 2 m with z|z
 ·have:=Nat.mul_le_mul (Nat.mul_le_mul (show 3<=m from z) (show 3<=m from z)) (show 3<=m from z);lia
 ·exact h m z e
theorem H_{n:Int}(h:Jz n)(k:Int):k*k≠n:=fun e=>by
 have e2:k.natAbs*k.natAbs=n.natAbs:=by rw[<-Int.natAbs_mul,e]
 rcases h with rfl|rfl|rfl|rfl|rfl|rfl|rfl|rfl|rfl|rfl<;>exact Ph (by decide) (by decide) e2
theorem Ia{n:Int}(h:JA n)(k:Int):k*k*k≠n:=fun e=>by
 have e2:k.natAbs*k.natAbs*k.natAbs=n.natAbs:=by rw[<-Int.natAbs_mul,<-Int.natAbs_mul,e]
 rcases h with rfl|rfl|rfl|rfl|rfl|rfl|rfl|rfl|rfl|rfl<;>exact Pk (by decide) (by decide) e2
namespace Po
open Re
theorem dz(a:Int):((a:Int):Re)=q (a:Rat):=rfl
theorem at2(x:Re)(a b:Int):at' x (ao [a,b])=(a:Re)+x*(b:Re):=by
 rw[dN,dN,cH,eY];grind
theorem Ni(x:Re)(a b c:Int):at' x (ao [a,b,c])=(a:Re)+x*((b:Re)+x*(c:Re)):=by
 rw[dN,at2]
theorem U7(x:Re)(a b c d:Int):at' x (ao [a,b,c,d])=(a:Re)+x*((b:Re)+x*((c:Re)+x*(d:Re))):=by
 rw[dN,Ni]
theorem Pl{f:Po}(h:len f=2):jy f:=by
 refine⟨by lia,fun d hd=>?_⟩;have h0:f≠0:=a_ (by lia);have h1:=hd.len h0;have h2:=len_pos (hd.ne h0);lia
theorem tI{e f:Po}(he:len e=2)(hd:D e f):∃r:Rat,at' (q r) f=0:=by
 obtain⟨a,ha,p,eq⟩:=hd;have hl:e.c 1≠0:=by
  have:=lead (f:=e) (by lia);rw[he] at this;exact this
 have Jr:((e.c 1:Int):Rat)≠0:=fun z=>hl (Rat.intCast_inj.mp (show((e.c 1:Int):Rat)=((0:Int):Rat) from z));refine⟨-((e.c 0:Int):Rat)/((e.c 1:Int):Rat),?_⟩;generalize hr:-((e.c 0:Int):Rat)/((e.c 1:Int):Rat)=r;have e0:at' (q r) e=0:=by
  have e1:e=ao [e.c 0,e.c 1]:=ext fun i=>by
   rw[aX]
   match i with
   |0=>rfl
   |1=>rfl
   |i+2=>rw[dQ (by lia)];rfl
  rw[e1,at2,dz,dz,<-fo,<-j_];have e2:((ao [e.c 0,e.c 1]).c 0:Int)=e.c 0:=rfl;have:((e.c 0:Int):Rat)+r*((e.c 1:Int):Rat)=0:=by rw[<-hr];grind
  show q (((e.c 0:Int):Rat)+r*((e.c 1:Int):Rat))=0;rw[this];rfl
 have e3:=congrArg (at' (q r)) eq;rw[qM,cF,e0] at e3;have e4:(a:Re)*at' (q r) f=0:=by rw[e3];grind
 by_cases hz:at' (q r) f=0
 ·exact hz
 ·exfalso;refine Re.dy (fun z=>ha ?_) hz e4;have z2:q (a:Rat)=q ((0:Int):Rat):=z;exact Rat.intCast_inj.mp (pK z2)
theorem Bu{f:Po}(h:len f=3\/len f=4)(hn:∀r:Rat,at' (q r) f≠0):jy f:=by
 have h0:f≠0:=a_ (by lia);refine⟨by lia,fun d hd=>?_⟩;have h1:=hd.len h0;have h2:=len_pos (hd.ne h0);by_cases h3:len d<=1
 ·exact .inl h3
 by_cases h4:len f<=len d
 ·exact .inr h4
 exfalso;by_cases h5:len d=2
 ·obtain⟨r,hr⟩:=tI h5 hd;exact hn r hr
 ·obtain⟨a,ha,p,eq⟩:=hd;have hp:p≠0:=gx (f:=d) (by rw[<-eq];exact dy (jq ha) h0);have h6:=len_mul (a_ h2) hp;rw[<-eq,fL ha] at h6;obtain⟨r,hr⟩:=tI (e:=p) (f:=f) (by lia) ⟨a,ha,d,by rw[eq];grind⟩;exact hn r hr
noncomputable def aO:List Po->Po
 |[]=>1
 |g::r=>g*aO r
theorem kP{p:Po}(hp:jy p):∀gs:List Po,D p (aO gs)->∃g∈gs,D p g
 |[],h=>by
  have l1:len (1:Po)=1:=by rw[<-bN];exact len_K (by decide)
  have:=h.len (a_ (by show 0<len (1:Po);lia));have h2:=hp.1;have h3:len (aO [])=1:=l1;lia
 |g::r,h=>by
  rcases hp.prime h with z|z
  ·exact⟨g,List.mem_cons_self,z⟩
  ·obtain⟨x,hx,hd⟩:=kP hp r z;exact⟨x,List.mem_cons_of_mem _ hx,hd⟩
structure Fk(g:Po):Prop where
 zX:jy g
 pr:Pr g
 pos:0<g.c (len g-1)
theorem Fk.same{g h:Po}(hg:Fk g)(hh:Fk h)(d:D g h):g=h:=by
 rcases hh.zX.2 g d with z|z
 ·have:=hg.zX.1;lia
 ·exact hg.pr.same hh.pr d (d.ng hh.zX.ne z) hg.pos hh.pos
theorem xR:∀gs:List Po,(∀g∈gs,Fk g)->gs.Nodup->∀p,jy p->¬D (p*p) (aO gs)
 |[],_,_,p,hp,h=>by
  have l1:len (1:Po)=1:=by rw[<-bN];exact len_K (by decide)
  have h1:=h.len (show aO []≠0 from a_ (by show 0<len (1:Po);lia));have h2:=hp.1;have h3:=len_mul hp.ne hp.ne;have h4:len (aO [])=1:=l1;lia
 |g::r,hF,hN,p,hp,h=>by
  have hg:=hF g List.mem_cons_self;obtain⟨U8,U9⟩:=List.nodup_cons.mp hN;obtain⟨a,ha,t,e⟩:=h;have e':K a*(g*aO r)=p*p*t:=e;by_cases hd:D p g
  ·have Le:D g p:=by
    rcases hg.zX.2 p hd with z|z
    ·have:=hp.1;lia
    ·exact hd.ng hg.zX.ne z
   obtain⟨b,hb,s,es⟩:=Le;have U_:D g (aO r):=by
    refine⟨b*b*a,Int.mul_ne_zero (Int.mul_ne_zero hb hb) ha,s*s*t,Po.cancel hg.zX.ne ?_⟩;have e1:g*(K (b*b*a)*aO r)=K b*K b*(K a*(g*aO r)):=by rw[bF,bF];grind
    have e2:g*(g*(s*s*t))=(g*s)*(g*s)*t:=by grind
    rw[e1,e2,e',<-es];grind
   obtain⟨x,hx,U'⟩:=kP hg.zX r U_;have:=hg.same (hF x (List.mem_cons_of_mem _ hx)) U';exact U8 (by rw[this];exact hx)
  ·have h1:D p (g*aO r):=⟨a,ha,p*t,by rw[e'];grind⟩;have h2:=(hp.prime h1).resolve_left hd;obtain⟨c,hc,u,eu⟩:=h2;have h3:D p (g*u):=by
    refine⟨a,ha,K c*t,Po.cancel hp.ne ?_⟩;have e1:p*(K a*(g*u))=K a*(g*(p*u)):=by grind
    rw[e1,<-eu];have e2:K a*(g*(K c*aO r))=K c*(K a*(g*aO r)):=by grind
    rw[e2,e'];grind
   have h4:=(hp.prime h3).resolve_left hd;obtain⟨d,Va,v,ev⟩:=h4;refine xR r (fun x hx=>hF x (List.mem_cons_of_mem _ hx)) U9 p hp ⟨d*c,Int.mul_ne_zero Va hc,v,?_⟩;rw[bF];have e1:K d*K c*aO r=K d*(K c*aO r):=by grind
   rw[e1,eu];have e2:K d*(p*u)=p*(K d*u):=by grind
   rw[e2,ev];grind
theorem Pr.mul{f g:Po}(hf:Pr f)(hg:Pr g):Pr (f*g):=fun p hp=>by
 rcases Nat.lt_or_ge 1 p with h1|h1
 ·exfalso;obtain⟨r,hr,hd⟩:=Fo.ex _ p (Nat.le_refl _) h1;have jU:∀i,(r:Int)∣(f*g).c i:=fun i=>Int.dvd_trans (Int.ofNat_dvd.mpr hd) (hp i);have h2:=hr.1;rcases lI hr jU with z|z
  ·have:=hf r z;lia
  ·have:=hg r z;lia
 ·have h0:p≠0:=by
   rintro rfl;have hz:f*g=0:=ext fun i=>by
    rw[dP];exact Int.zero_dvd.mp (hp i)
   exact dy hf.ne hg.ne hz
  lia
theorem Pr.one:Pr 1:=fun p hp=>by
 have:=hp 0;rw[m_,if_pos rfl] at this;exact Nat.eq_one_of_dvd_one (Int.ofNat_dvd.mp this)
theorem nI:∀gs:List Po,(∀g∈gs,Fk g)->Pr (aO gs)/\0<(aO gs).c (len (aO gs)-1)
 |[],_=>by
  have l1:len (1:Po)=1:=by rw[<-bN];exact len_K (by decide)
  refine⟨Pr.one,?_⟩;show 0<(1:Po).c (len (1:Po)-1);rw[l1,m_,if_pos rfl];decide
 |g::r,h=>by
  obtain⟨h1,h2⟩:=nI r fun x hx=>h x (List.mem_cons_of_mem _ hx);have hg:=h g List.mem_cons_self;refine⟨hg.pr.mul h1,?_⟩;show 0<(g*aO r).c (len (g*aO r)-1);rw[nc hg.pr.ne h1.ne];exact Int.mul_pos hg.pos h2
theorem tJ{gs:List Po}(h:∀g∈gs,Fk g)(hN:gs.Nodup):DZ (aO gs) (aO gs):=
 ⟨(nI gs h).1,(nI gs h).2,fun _ _=>Iff.rfl,xR gs h hN⟩
theorem vJ{xs:List Int}(tx:Tr xs)(d8:xs≠[]){gs:List Po}(h:∀g∈gs,Fk g)(hN:gs.Nodup)(e:∀p,jy p->(D p (ao xs)↔D p (aO gs))):ao (kN xs)=aO gs:=
 (Lk tx d8).uniq (tJ h hN) e
theorem D8(z:Int):(if z<0 then -1 else if 0<z then 1 else 0:Int)=bA ((z:Int):Re):=by
 rcases Int.lt_trichotomy z 0 with h|h|h
 ·rw[if_pos h,fx];show q (z:Rat)<q ((0:Nat):Rat);rw[eJ];exact Rat.intCast_lt_intCast.mpr h
 ·rw[if_neg (by lia),if_neg (by lia),h];have:((0:Int):Re)=0:=Ring.intCast_zero;rw[this,cN]
 ·rw[if_neg (by lia),if_pos h,dE];show q ((0:Nat):Rat)<q (z:Rat);rw[eJ];exact Rat.intCast_lt_intCast.mpr h
theorem nJ(a:Int):∀n:Nat,((a^n:Int):Re)=((a:Int):Re)^n
 |0=>by
  rw[Int.pow_zero];have e:((a:Int):Re)^0=1:=Semiring.pow_zero _;rw[e];exact Ring.intCast_one
 |n+1=>by
  have e:((a:Int):Re)^(n+1)=((a:Int):Re)^n*((a:Int):Re):=Semiring.pow_succ _ _;rw[Int.pow_succ,Ring.intCast_mul,nJ a n,e]
theorem tK(a b:Re):∀n:Nat,(a*b)^n=a^n*b^n
 |0=>by
  have e1:(a*b)^0=1:=Semiring.pow_zero _;have e2:a^0=1:=Semiring.pow_zero _;have e3:b^0=1:=Semiring.pow_zero _;rw[e1,e2,e3];grind
 |n+1=>by
  have e1:(a*b)^(n+1)=(a*b)^n*(a*b):=Semiring.pow_succ _ _;have e2:a^(n+1)=a^n*a:=Semiring.pow_succ _ _;have e3:b^(n+1)=b^n*b:=Semiring.pow_succ _ _;rw[e1,e2,e3,tK a b n];grind
theorem Ib{t u:Int}(hu:0<u)(xs:List Int):(if hv t u xs<0 then -1 else if 0<hv t u xs then 1 else 0:Int)=bA (at' (q ((t:Rat)/(u:Rat))) (ao xs)):=by
 rw[D8];have XN:(u:Rat)≠0:=fun z=>by
  have:=Rat.intCast_inj.mp (show(u:Rat)=((0:Int):Rat) from z);lia
 have RY:(0:Re)<(u:Re):=by
  show q ((0:Nat):Rat)<q (u:Rat);rw[eJ];exact Rat.intCast_lt_intCast.mpr hu
 generalize hx:q ((t:Rat)/(u:Rat))=x;have Vb:x*(u:Re)=(t:Re):=by
  rw[<-hx,dz,dz,<-fo];congr 1;grind
 have JB:∀n:Nat,0<((u:Int):Re)^n:=fun n=>by
  induction n with
  |zero=>
   have e:((u:Int):Re)^0=1:=Semiring.pow_zero _;rw[e];grind
  |succ n ih=>
   have e:((u:Int):Re)^(n+1)=((u:Int):Re)^n*((u:Int):Re):=Semiring.pow_succ _ _;rw[e];exact Re.mul_pos ih RY
 have key:((hv t u xs:Int):Re)=((u:Int):Re)^(xs.length-1)*at' x (ao xs):=by
  rw[oF x (f:=ao xs) (n:=xs.length) (cy fun i hi=>by rw[aX];exact cw hi)];unfold hv;rw[nD,<-cj];refine aE fun i hi=>?_;rw[Ring.intCast_mul,Ring.intCast_mul,nJ,nJ,<-Vb,tK,aX];have e:xs.length-1=i+(xs.length-1-i):=by lia
  have e2:((u:Int):Re)^(xs.length-1)=((u:Int):Re)^i*((u:Int):Re)^(xs.length-1-i):=by rw[<-pow_add',<-e]
  rw[e2];grind
 rw[key,ka,dE (JB _)];lia
end Po
end SF
namespace SF
open Lean.Grind
namespace Po
open Re
theorem Bv{y:Re}(h:bA y=-1):y<0:=by
 rcases bf y with w|w|w
 ·exact w.1
 ·rw[h] at w;lia
 ·rw[h] at w;lia
theorem Bw{y:Re}(h:bA y=1):0<y:=by
 rcases bf y with w|w|w
 ·rw[h] at w;lia
 ·rw[h] at w;lia
 ·exact w.1
inductive kQ:List Int->Prop
 |Lw (t u:Int) (hu:0<u) (hc:Int.gcd t u=1):kQ [0-t,u]
 |Bx (a n:Int) (hn:Jz n):kQ [a*a-n,0-2*a,1]
 |Lx (a m:Int) (hm:0<m):kQ [a*a+m,0-2*a,1]
 |Ly (n:Int) (hn:JA n):kQ [0-n,0,0,1]
theorem fy{xs:List Int}{l:Int}(h:l≠0):Tr (xs++[l]):=by
 intro x hx;rw[List.getLast?_append] at hx;have:l=x:=by simpa using hx
 rw[<-this];exact h
theorem kQ.tr{g:List Int}(h:kQ g):Tr g/\g≠[]/\2<=g.length/\g.length<=4:=by
 cases h with
 |Lw t u hu hc=>exact⟨fy (xs:=[0-t]) (Int.ne_of_gt hu),by simp,by simp,by simp⟩
 |Bx a n hn=>exact⟨fy (xs:=[a*a-n,0-2*a]) (by decide),by simp,by simp,by simp⟩
 |Lx a m hm=>exact⟨fy (xs:=[a*a+m,0-2*a]) (by decide),by simp,by simp,by simp⟩
 |Ly n hn=>exact⟨fy (xs:=[0-n,0,0]) (by decide),by simp,by simp,by simp⟩
theorem zh(a:Int):((-a:Int):Re)=-((a:Int):Re):=Ring.intCast_neg a
theorem c0:((0:Int):Re)=0:=Ring.intCast_zero
theorem c1:((1:Int):Re)=1:=Ring.intCast_one
theorem c2:((2:Int):Re)=2:=by
 have e:(2:Int)=1+1:=rfl;rw[e,Ring.intCast_add,c1];grind
theorem pO(a b:Int):((a-b:Int):Re)=(a:Re)-(b:Re):=by
 rw[Int.sub_eq_add_neg,Ring.intCast_add,zh];grind
theorem mD(x:Re)(a n:Int):at' x (ao [a*a-n,0-2*a,1])=(x-(a:Re))*(x-(a:Re))-(n:Re):=by
 rw[Ni,pO,pO,Ring.intCast_mul,Ring.intCast_mul,c0,c1,c2];grind
theorem By(x:Re)(a m:Int):at' x (ao [a*a+m,0-2*a,1])=(x-(a:Re))*(x-(a:Re))+(m:Re):=by
 rw[Ni,Ring.intCast_add,pO,Ring.intCast_mul,Ring.intCast_mul,c0,c1,c2];grind
theorem vK(x:Re)(n:Int):at' x (ao [0-n,0,0,1])=x*x*x-(n:Re):=by
 rw[U7,pO,c0,c1];grind
theorem Ic(x:Re)(t u:Int):at' x (ao [0-t,u])=x*(u:Re)-(t:Re):=by
 rw[at2,pO,c0];grind
theorem D9:aR (ao [])=0:=by
 refine ext fun i=>?_;rw[j5,aX,dP];show _*0=0;grind
theorem d1(x:Re)(a:Int):at' x (aR (ao [a]))=0:=by
 rw[fN,D9,eO,cH,eY,cF,eY];grind
theorem d2(x:Re)(a b:Int):at' x (aR (ao [a,b]))=(b:Re):=by
 rw[fN,eO,cF,d1,dN,cH,eY];grind
theorem d3(x:Re)(a b c:Int):at' x (aR (ao [a,b,c]))=(b:Re)+2*(x*(c:Re)):=by
 rw[fN,eO,cF,d2,at2,zd];grind
theorem d4(x:Re)(a b c d:Int):at' x (aR (ao [a,b,c,d]))=(b:Re)+2*(x*(c:Re))+3*(x*x*(d:Re)):=by
 rw[fN,eO,cF,d3,Ni,zd];grind
theorem kc{n:Int}(h:0<n):(0:Re)<(n:Re):=by
 show q ((0:Nat):Rat)<q (n:Rat);rw[eJ];exact Rat.intCast_lt_intCast.mpr h
theorem sq_nonneg(x:Re):0<=x*x:=by
 rcases HK x 0 with h|h|h
 ·have:=Re.mul_pos (x:=-x) (y:=-x) (by grind) (by grind);grind
 ·rw[h];grind
 ·have:=Re.mul_pos h h;grind
theorem FD(a b:Int):(ao [a,b,1]).c (len (ao [a,b,1])-1)=1:=by
 have t:Tr [a,b,1]:=fy (xs:=[a,b]) (by decide);rw[aU t];rfl
theorem kR{f:Po}{i:Nat}(h:f.c i=1):Pr f:=fun p hp=>by
 have:=hp i;rw[h] at this;exact Nat.eq_one_of_dvd_one (Int.ofNat_dvd.mp this)
theorem kQ.fk{g:List Int}(h:kQ g):Fk (ao g):=by
 have ht:=h.tr.1;cases h with
 |Lw t u hu hc=>
  have hl:len (ao [0-t,u])=2:=aU ht;refine⟨Pl hl,fun p hp=>?_,by rw[hl];exact hu⟩;have h1:(p:Int)∣u:=hp 1;have h0:(p:Int)∣0-t:=hp 0;have h2:(p:Int)∣t:=by
   have e:t=-(0-t):=by lia
   rw[e];exact Int.dvd_neg.mpr h0
  have:=Int.dvd_coe_gcd h2 h1;rw[hc] at this;exact Nat.eq_one_of_dvd_one (Int.ofNat_dvd.mp this)
 |Bx a n hn=>
  refine⟨Bu (.inl (aU ht)) fun r z=>?_,kR (i:=2) rfl,by rw[FD];decide⟩;rw[mD,dz,dz] at z;have e:q ((r-(a:Rat))*(r-(a:Rat)))=q (n:Rat):=by
   rw[fo];have e2:r-(a:Rat)=r+-(a:Rat):=by grind
   rw[e2,j_,nB];grind
  obtain⟨k,hk⟩:=HZ (pK e);exact H_ hn k hk
 |Lx a m hm=>
  refine⟨Bu (.inl (aU ht)) fun r z=>?_,kR (i:=2) rfl,by rw[FD];decide⟩;rw[By] at z;have h1:=sq_nonneg (q r-(a:Re));have h2:=kc hm;grind
 |Ly n hn=>
  have hl:len (ao [0-n,0,0,1])=4:=aU ht;refine⟨Bu (.inr hl) fun r z=>?_,kR (i:=3) rfl,by rw[hl];show(0:Int)<1;decide⟩;rw[vK,dz] at z;have e:q (r*r*r)=q (n:Rat):=by rw[fo,fo];grind
  obtain⟨k,hk⟩:=Bt (pK e);exact Ia hn k hk
open Classical in
noncomputable def jw(g:List Int)(x:Rat):Int:=
 if g.length≠3 then(if 0<=bA (at' (q x) (ao g)) then 1 else 0)
 else if ¬co g 1*co g 1>4*co g 0 then 0
 else if bA (at' (q x) (ao g))<0 then 1
 else if bA (at' (q x) (ao g))=0 then 1+(if -((co g 1:Int):Rat)/2<x then 1 else 0)
 else 2*(if -((co g 1:Int):Rat)/2<x then 1 else 0)
theorem Lz{x:Re}{t:Rat}:x<=q t↔0<=bA (q t-x):=by
 rcases bf (q t-x) with z|z|z<;>rw[z.2]<;>constructor<;>intro h<;>grind
open Classical in
theorem zi{a n:Int}(hn:0<n)(x:Re):∃d:Rat,0<d/\∃n0:Int,∀t:Rat,Re.ab (q t-x)<q d->jw [a*a-n,0-2*a,1] t=n0+(if at' x (ao [a*a-n,0-2*a,1])=0/\x<=q t then 1 else 0):=by
 have wN:=kc hn;have ea:∀t:Rat,(-(((0-2*a:Int)):Rat)/2<t)↔(a:Re)<q t:=fun t=>by
  rw[dz,eJ];have e:(((0-2*a:Int)):Rat)=-(2*(a:Rat)):=by
   have e1:(0-2*a:Int)=-(2*a):=by lia
   rw[e1,Rat.intCast_neg,Rat.intCast_mul];rfl
  rw[e];grind
 have eb:∀t:Rat,jw [a*a-n,0-2*a,1] t=if bA (at' (q t) (ao [a*a-n,0-2*a,1]))<0 then 1 else if bA (at' (q t) (ao [a*a-n,0-2*a,1]))=0 then 1+(if(a:Re)<q t then 1 else 0) else 2*(if(a:Re)<q t then 1 else 0):=fun t=>by
  unfold jw;have iQ:(co [a*a-n,0-2*a,1] 1)*(co [a*a-n,0-2*a,1] 1)>4*co [a*a-n,0-2*a,1] 0:=by
   show(0-2*a)*(0-2*a)>4*(a*a-n);have:(0-2*a)*(0-2*a)=4*(a*a):=by grind
   rw[this];lia
  rw[if_neg (by simp),if_neg (fun z=>z iQ)];have e1:co [a*a-n,0-2*a,1] 1=0-2*a:=rfl;rw[e1];simp only[ea t]
 by_cases h0:at' x (ao [a*a-n,0-2*a,1])=0
 ·have Vc:(x-(a:Re))*(x-(a:Re))=(n:Re):=by rw[mD] at h0;grind
  have RZ:x-(a:Re)≠0:=fun z=>by rw[z] at Vc;grind
  have LA:at' x (aR (ao [a*a-n,0-2*a,1]))=2*(x-(a:Re)):=by
   rw[d3,pO,Ring.intCast_mul,c0,c1,c2];grind
  have Vd:at' x (aR (ao [a*a-n,0-2*a,1]))≠0:=by rw[LA];grind
  obtain⟨d,hd,hr⟩:=jj h0 Vd;have AA:bA (at' x (aR (ao [a*a-n,0-2*a,1])))=bA (x-(a:Re)):=by
   rw[LA,ka,dE (show(0:Re)<2 by grind)];lia
  rcases jz RZ with hs|hs
  ·
   have eL:x<(a:Re):=by have:=Bv hs;grind
   obtain⟨e,he,Nf⟩:=Re.small (x:=(a:Re)-x) (by grind);obtain⟨m,hm,m1,m2⟩:=ik hd he;refine⟨m,hm,0,fun t ht=>?_⟩;have k1:=hr (q t) (by grind);rw[AA,hs] at k1;have k2:¬(a:Re)<q t:=by
    have:=(aY.mp ht).2;grind
   rw[eb,k1,if_neg k2];rcases bf (q t-x) with z|z|z
   ·rw[z.2,if_neg (c:=at' x (ao [a*a-n,0-2*a,1])=0/\x<=q t) (by rintro⟨_,w⟩;grind)];rfl
   ·rw[z.2,if_pos (c:=at' x (ao [a*a-n,0-2*a,1])=0/\x<=q t) ⟨h0,by grind⟩];rfl
   ·rw[z.2,if_pos (c:=at' x (ao [a*a-n,0-2*a,1])=0/\x<=q t) ⟨h0,by grind⟩];rfl
  ·have eL:(a:Re)<x:=by have:=Bw hs;grind
   obtain⟨e,he,Nf⟩:=Re.small (x:=x-(a:Re)) (by grind);obtain⟨m,hm,m1,m2⟩:=ik hd he;refine⟨m,hm,1,fun t ht=>?_⟩;have k1:=hr (q t) (by grind);rw[AA,hs] at k1;have k2:(a:Re)<q t:=by
    have:=(aY.mp ht).1;grind
   rw[eb,k1,if_pos k2];rcases bf (q t-x) with z|z|z
   ·rw[z.2,if_neg (c:=at' x (ao [a*a-n,0-2*a,1])=0/\x<=q t) (by rintro⟨_,w⟩;grind)];rfl
   ·rw[z.2,if_pos (c:=at' x (ao [a*a-n,0-2*a,1])=0/\x<=q t) ⟨h0,by grind⟩];rfl
   ·rw[z.2,if_pos (c:=at' x (ao [a*a-n,0-2*a,1])=0/\x<=q t) ⟨h0,by grind⟩];rfl
 ·obtain⟨d,hd,hr⟩:=gW h0;rcases jz h0 with hs|hs
  ·refine⟨d,hd,1,fun t ht=>?_⟩;rw[eb,hr (q t) ht,hs,if_pos (by decide),if_neg (fun z=>h0 z.1)];rfl
  ·have RZ:x-(a:Re)≠0:=fun z=>by
    have HQ:at' x (ao [a*a-n,0-2*a,1])<0:=by rw[mD,z];grind
    rw[fx HQ] at hs;lia
   have hp:0<Re.ab (x-(a:Re)):=by unfold Re.ab;split<;>grind
   obtain⟨e,he,Nf⟩:=Re.small hp;obtain⟨m,hm,m1,m2⟩:=ik hd he;refine⟨m,hm,2*(if(a:Re)<x then 1 else 0),fun t ht=>?_⟩;have k2:(a:Re)<q t↔(a:Re)<x:=by
    have g1:=aY.mp ht;have g2:q m<Re.ab (x-(a:Re)):=by grind
    unfold Re.ab at g2;split at g2<;>constructor<;>intro h<;>grind
   rw[eb,hr (q t) (by grind),hs,if_neg (c:=at' x (ao [a*a-n,0-2*a,1])=0/\x<=q t) (fun z=>h0 z.1),if_neg (by decide),if_neg (by decide)];simp only[k2];lia
open Classical in
theorem kQ.near{g:List Int}(h:kQ g)(x:Re):∃d:Rat,0<d/\∃n0:Int,∀t:Rat,Re.ab (q t-x)<q d->jw g t=n0+(if at' x (ao g)=0/\x<=q t then 1 else 0):=by
 have other:∀g:List Int,g.length≠3->(at' x (ao g)=0->0<at' x (aR (ao g)))->∃d:Rat,0<d/\∃n0:Int,∀t:Rat,Re.ab (q t-x)<q d->jw g t=n0+(if at' x (ao g)=0/\x<=q t then 1 else 0):=fun g hl hp=>by
  by_cases h0:at' x (ao g)=0
  ·have h1:=hp h0;obtain⟨d,hd,hr⟩:=jj h0 (fun z=>by rw[z] at h1;exact lt_irrefl _ h1);refine⟨d,hd,0,fun t ht=>?_⟩;unfold jw;rw[if_pos hl,hr (q t) ht,dE h1,Int.mul_one];by_cases hx:x<=q t
   ·rw[if_pos (Lz.mp hx),if_pos ⟨h0,hx⟩];rfl
   ·rw[if_neg (fun z=>hx (Lz.mpr z)),if_neg (fun z=>hx z.2)];rfl
  ·obtain⟨d,hd,hr⟩:=gW h0;refine⟨d,hd,(if 0<=bA (at' x (ao g)) then 1 else 0),fun t ht=>?_⟩;unfold jw;rw[if_pos hl,hr (q t) ht,if_neg (c:=at' x (ao g)=0/\x<=q t) (fun z=>h0 z.1)];lia
 cases h with
 |Lw t u hu hc=>exact other _ (by simp) fun _=>by rw[d2];exact kc hu
 |Bx a n hn=>exact zi (by rcases hn with rfl|rfl|rfl|rfl|rfl|rfl|rfl|rfl|rfl|rfl<;>decide) x
 |Lx a m hm=>
  refine⟨1,by decide,0,fun t _=>?_⟩;have dA:at' x (ao [a*a+m,0-2*a,1])≠0:=fun z=>by
   rw[By] at z;have h1:=sq_nonneg (x-(a:Re));have h2:=kc hm;grind
  unfold jw;have iQ:¬(co [a*a+m,0-2*a,1] 1)*(co [a*a+m,0-2*a,1] 1)>4*co [a*a+m,0-2*a,1] 0:=by
   show ¬(0-2*a)*(0-2*a)>4*(a*a+m);have:(0-2*a)*(0-2*a)=4*(a*a):=by grind
   rw[this];lia
  rw[if_neg (by simp),if_pos iQ,if_neg (fun z=>dA z.1)];rfl
 |Ly n hn=>
  refine other _ (by simp) fun z=>?_;rw[vK] at z;have Pm:n≠0:=by rcases hn with rfl|rfl|rfl|rfl|rfl|rfl|rfl|rfl|rfl|rfl<;>decide
  have hx:x≠0:=fun w=>by
   rw[w] at z;have z2:(n:Re)=0:=by grind
   have z3:q (n:Rat)=q ((0:Int):Rat):=z2;exact Pm (Rat.intCast_inj.mp (pK z3))
  rw[d4,c0,c1];have h1:0<x*x:=by
   rcases jz hx with s|s
   ·have:x<0:=Bv s;have:=Re.mul_pos (x:=-x) (y:=-x) (by grind) (by grind);grind
   ·have:0<x:=Bw s;exact Re.mul_pos this this
  grind
noncomputable def oG:List (List Int)->Rat->Int
 |[],_=>0
 |g::r,x=>jw g x+oG r x
open Classical in
theorem pP:∀(gs:List (List Int)),(∀g∈gs,kQ g)->(∀x:Re,¬(at' x (aO (gs.map ao))=0/\at' x (aR (aO (gs.map ao)))=0))->∀x:Re,∃d:Rat,0<d/\∃n0:Int,∀t:Rat,Re.ab (q t-x)<q d->
 oG gs t=n0+(if at' x (aO (gs.map ao))=0/\x<=q t then 1 else 0)
 |[],_,_,x=>⟨1,by decide,0,fun t _=>by
  have h1:at' x (aO (List.map ao []))≠0:=by
   show at' x 1≠0
   rw[HN];grind
  rw[if_neg (fun z=>h1 z.1)];rfl⟩
 |g::r,hF,hz,x=>by
  have R0:∀x:Re,¬(at' x (aO (r.map ao))=0/\at' x (aR (aO (r.map ao)))=0):=fun y w=>by
   refine hz y ⟨?_,?_⟩
   ·show at' y (ao g*aO (r.map ao))=0;rw[cF,w.1];grind
   ·show at' y (aR (ao g*aO (r.map ao)))=0;rw[gM,eO,cF,cF,w.1,w.2];grind
  obtain⟨d,hd,n0,h1⟩:=(hF g List.mem_cons_self).near x;obtain⟨e,he,n1,h2⟩:=pP r (fun y hy=>hF y (List.mem_cons_of_mem _ hy)) R0 x;obtain⟨m,hm,m1,m2⟩:=ik hd he;refine⟨m,hm,n0+n1,fun t ht=>?_⟩;show jw g t+oG r t=_;rw[h1 t (by grind),h2 t (by grind)];have ep:at' x (aO ((g::r).map ao))=at' x (ao g)*at' x (aO (r.map ao)):=by
   show at' x (ao g*aO (r.map ao))=_;rw[cF]
  rw[ep];by_cases hg:at' x (ao g)=0
  ·have hr:at' x (aO (r.map ao))≠0:=fun w=>by
    refine hz x ⟨?_,?_⟩
    ·rw[ep,hg];grind
    ·show at' x (aR (ao g*aO (r.map ao)))=0;rw[gM,eO,cF,cF,hg,w];grind
   rw[if_neg (c:=at' x (aO (r.map ao))=0/\x<=q t) (fun w=>hr w.1)];have e0:at' x (ao g)*at' x (aO (r.map ao))=0:=by rw[hg];grind
   by_cases hx:x<=q t
   ·rw[if_pos ⟨hg,hx⟩,if_pos ⟨e0,hx⟩];lia
   ·rw[if_neg (fun w=>hx w.2),if_neg (fun w=>hx w.2)];lia
  ·rw[if_neg (c:=at' x (ao g)=0/\x<=q t) (fun w=>hg w.1)];by_cases hr:at' x (aO (r.map ao))=0
   ·have e0:at' x (ao g)*at' x (aO (r.map ao))=0:=by rw[hr];grind
    by_cases hx:x<=q t
    ·rw[if_pos ⟨hr,hx⟩,if_pos ⟨e0,hx⟩];lia
    ·rw[if_neg (fun w=>hx w.2),if_neg (fun w=>hx w.2)];lia
   ·rw[if_neg (fun w=>hr w.1),if_neg (fun w=>Re.dy hg hr w.1)];lia
end Po
end SF
namespace SF
open Lean.Grind
namespace Po
open Re
open Classical in
theorem BA{φ:Rat->Int}(loc:∀x:Re,∃d:Rat,0<d/\∀s t:Rat,s<=t->Re.ab (q s-x)<q d->Re.ab (q t-x)<q d->φ t<=φ s){a b:Rat}(f7:a<=b):φ b<=φ a:=by
 let ψ:Rat->Int:=fun t=>if ∀u,a<=u->u<=t->φ u<=φ a then 0 else 1;have h:ψ a=ψ b:=by
  refine iP (φ:=ψ) (fun x=>?_) f7;obtain⟨d,hd,h⟩:=loc x;have key:∀s t:Rat,s<=t->Re.ab (q s-x)<q d->Re.ab (q t-x)<q d->ψ s=ψ t:=fun s t rT hs ht=>by
   show(if _ then(0:Int) else 1)=if _ then 0 else 1;have mid:∀u,s<=u->u<=t->Re.ab (q u-x)<q d:=fun u h1 h2=>by
    have e1:=dI.mpr h1;have e2:=dI.mpr h2;rw[aY] at hs ht ⊢;constructor<;>grind
   by_cases c:∀u,a<=u->u<=s->φ u<=φ a
   ·rw[if_pos c,if_pos];intro u h1 h2;by_cases hu:u<=s
    ·exact c u h1 hu
    ·by_cases has:a<=s
     ·have g1:=c s has (by grind);have g2:=h s u (by grind) hs (mid u (by grind) h2);lia
     ·exact h a u h1 (mid a (by grind) (by grind)) (mid u (by grind) h2)
   ·rw[if_neg c,if_neg fun z=>c fun u h1 h2=>z u h1 (by grind)]
  refine⟨d,hd,fun s t hs ht=>?_⟩;by_cases rT:s<=t
  ·exact key s t rT hs ht
  ·exact(key t s (by grind) ht hs).symm
 have h0:ψ a=0:=if_pos fun u h1 h2=>by
  have:u=a:=by grind
  rw[this];lia
 rw[h0] at h;have h2:∀u,a<=u->u<=b->φ u<=φ a:=by
  by_cases c:∀u,a<=u->u<=b->φ u<=φ a
  ·exact c
  ·have:ψ b=1:=if_neg c;lia
 exact h2 b f7 (by grind)
open Classical in
theorem xS{p0:Po}{r:List Po}(hc:∀x:Re,ze x (p0::aR p0::r))(hz:∀x:Re,at' x p0=0->at' x (aR p0)≠0)(x:Re):
 ∃d:Rat,0<d/\∃n0:Int,∀t:Rat,Re.ab (q t-x)<q d->(cg 0 (d0 (q t) (p0::aR p0::r)):Int)=n0+(if at' x p0=0/\q t<x then 1 else 0):=by
 have c0:∀(s:Int)(l:List Int),s≠0->cg 0 (s::l)=cg s l:=fun s l hs=>by
  show(if s*0<0 then 1 else 0)+cg (if s≠0 then s else 0) l=_;rw[if_neg (by lia),if_pos hs];lia
 by_cases h0:at' x p0=0
 ·have h1:=hz x h0;have xJ:ze x (aR p0::r):=by
   have:=hc x;cases r with
   |nil=>exact this
   |cons e r=>exact this.2
  obtain⟨e,he,hr⟩:=jj h0 h1;obtain⟨f,hf,hs⟩:=gB r.length (aR p0) r (Nat.le_refl _) h1 xJ;obtain⟨m',K',m3,m4⟩:=ik he hf;refine⟨m',K',(cg (bA (at' x (aR p0))) (d0 x r):Int),fun t ht=>?_⟩;have k1:=hr (q t) (by grind);obtain⟨k2,k3⟩:=hs (q t) (by grind);have nz:bA (at' x (aR p0))≠0:=fun z=>h1 (cP z);show((cg 0 (bA (at' (q t) p0)::bA (at' (q t) (aR p0))::d0 (q t) r):Nat):Int)=_;rw[k1,k2];rw[k2] at k3;generalize bA (at' x (aR p0))=s1 at nz k3 ⊢;have sq:0<s1*s1:=by
   rcases Int.lt_or_lt_of_ne nz with w|w
   ·exact Int.mul_pos_of_neg_of_neg w w
   ·exact Int.mul_pos w w
  rcases bf (q t-x) with z|z|z
  ·rw[z.2,if_pos ⟨h0,by grind⟩,c0 _ _ (by lia)];show(((if s1*(-1*s1)<0 then 1 else 0)+cg (if s1≠0 then s1 else -1*s1) (d0 (q t) r):Nat):Int)=_;rw[if_pos (show s1*(-1*s1)<0 by grind),if_pos nz,k3];lia
  ·rw[z.2,if_neg (by rintro⟨_,w⟩;grind)];show(((if 0*s1*0<0 then 1 else 0)+((if s1*(if 0*s1≠0 then 0*s1 else 0)<0 then 1 else 0)+cg (if s1≠0 then s1 else(if 0*s1≠0 then 0*s1 else 0)) (d0 (q t) r)):Nat):Int)=_;have e0:0*s1=0:=by lia
   rw[e0,if_neg (by lia),if_neg (c:=(0:Int)≠0) (by lia),if_neg (by lia),if_pos nz,k3];lia
  ·rw[z.2,if_neg (by rintro⟨_,w⟩;grind),c0 _ _ (by lia)];show(((if s1*(1*s1)<0 then 1 else 0)+cg (if s1≠0 then s1 else 1*s1) (d0 (q t) r):Nat):Int)=_;rw[if_neg (show ¬s1*(1*s1)<0 by grind),if_pos nz,k3];lia
 ·obtain⟨e,he,hs⟩:=gB (r.length+1) p0 (aR p0::r) (Nat.le_refl _) h0 (hc x);refine⟨e,he,(cg (bA (at' x p0)) (d0 x (aR p0::r)):Int),fun t ht=>?_⟩;obtain⟨k2,k3⟩:=hs (q t) (by grind);have nz:bA (at' x p0)≠0:=fun z=>h0 (cP z);show((cg 0 (bA (at' (q t) p0)::d0 (q t) (aR p0::r)):Nat):Int)=_;rw[c0 _ _ (by rw[k2];exact nz),k3,if_neg (fun z=>h0 z.1)];lia
theorem BB{p0:Po}{r:List Po}(hc:∀x:Re,ze x (p0::aR p0::r))(hz:∀x:Re,at' x p0=0->at' x (aR p0)≠0){a b:Rat}(f7:a<=b):
 cg 0 (d0 (q b) (p0::aR p0::r))<=cg 0 (d0 (q a) (p0::aR p0::r)):=by
 have:=BA (φ:=fun t=>(cg 0 (d0 (q t) (p0::aR p0::r)):Int)) (fun x=>by
  obtain⟨d,hd,n0,h⟩:=xS hc hz x
  refine⟨d,hd,fun s t rT hs ht=>?_⟩
  have g:=dI.mpr rT
  show(cg 0 (d0 (q t) (p0::aR p0::r)):Int)<=(cg 0 (d0 (q s) (p0::aR p0::r)):Int)
  rw[h s hs,h t ht]
  by_cases c:at' x p0=0/\q t<x
  ·rw[if_pos c,if_pos ⟨c.1,by grind⟩];lia
  ·rw[if_neg c];split<;>lia) f7;have h2:(cg 0 (d0 (q b) (p0::aR p0::r)):Int)<=(cg 0 (d0 (q a) (p0::aR p0::r)):Int):=this;lia
open Classical in
theorem D_{p0:Po}{r:List Po}(hc:∀x:Re,ze x (p0::aR p0::r))(hz:∀x:Re,at' x p0=0->at' x (aR p0)≠0){a b:Rat}(f7:a<=b)(h1:∀x y:Re,q a<=x->x<=q b->q a<=y->y<=q b->at' x p0=0->at' y p0=0->x=y):
 cg 0 (d0 (q a) (p0::aR p0::r))<=cg 0 (d0 (q b) (p0::aR p0::r))+1:=by
 have Nd:∃z:Re,∀x:Re,q a<=x->x<=q b->at' x p0=0->x=z:=by
  by_cases c:∃z:Re,q a<=z/\z<=q b/\at' z p0=0
  ·obtain⟨z,z1,z2,z3⟩:=c;exact⟨z,fun x x1 x2 x3=>h1 x z x1 x2 z1 z2 x3 z3⟩
  ·exact⟨0,fun x x1 x2 x3=>absurd ⟨x,x1,x2,x3⟩ c⟩
 obtain⟨z,Ve⟩:=Nd;let cl:Rat->Rat:=fun t=>if t<a then a else if b<t then b else t;have XO:∀t,a<=cl t/\cl t<=b:=fun t=>by
  show a<=(if t<a then a else if b<t then b else t)/\(if t<a then a else if b<t then b else t)<=b;split
  ·exact⟨by grind,f7⟩
  ·split<;>constructor<;>grind
 have Vf:cl a=a:=by show(if a<a then a else if b<a then b else a)=a;rw[if_neg (by grind),if_neg (by grind)]
 have Vg:cl b=b:=by show(if b<a then a else if b<b then b else b)=b;rw[if_neg (by grind),if_neg (by grind)]
 let δ:Int:=if at' z p0=0 then 1 else 0;let φ:Rat->Int:=fun t=>(cg 0 (d0 (q (cl t)) (p0::aR p0::r)):Int)+(if z<=q (cl t) then δ else 0);have h:φ a=φ b:=by
  refine iP (φ:=φ) (fun x=>?_) f7;by_cases xa:x<q a
  ·obtain⟨d,hd,hd2⟩:=small (sub_pos xa);refine⟨d,hd,fun s t hs ht=>?_⟩;have key:∀s:Rat,Re.ab (q s-x)<q d->cl s=a:=fun s hs=>by
    rw[aY] at hs;have:q s<q a:=by grind
    exact if_pos (eJ.mp this)
   show(cg 0 (d0 (q (cl s)) (p0::aR p0::r)):Int)+(if z<=q (cl s) then δ else 0)=(cg 0 (d0 (q (cl t)) (p0::aR p0::r)):Int)+(if z<=q (cl t) then δ else 0);rw[key s hs,key t ht]
  ·by_cases xb:q b<x
   ·obtain⟨d,hd,hd2⟩:=small (sub_pos xb);refine⟨d,hd,fun s t hs ht=>?_⟩;have key:∀s:Rat,Re.ab (q s-x)<q d->cl s=b:=fun s hs=>by
     rw[aY] at hs;have g1:q b<q s:=by grind
     have g2:=eJ.mp g1;show(if s<a then a else if b<s then b else s)=b;rw[if_neg (by grind),if_pos g2]
    show(cg 0 (d0 (q (cl s)) (p0::aR p0::r)):Int)+(if z<=q (cl s) then δ else 0)=(cg 0 (d0 (q (cl t)) (p0::aR p0::r)):Int)+(if z<=q (cl t) then δ else 0);rw[key s hs,key t ht]
   ·have Vh:q a<=x:=by grind
    have Vi:x<=q b:=by grind
    obtain⟨d,hd,n0,hn⟩:=xS hc hz x;have near:∀(e:Rat)(s:Rat),Re.ab (q s-x)<q e->Re.ab (q (cl s)-x)<q e:=fun e s hs=>by
     rw[aY] at hs ⊢;show -q e<q (if s<a then a else if b<s then b else s)-x/\q (if s<a then a else if b<s then b else s)-x<q e;split
     ·rename_i g;have:=eJ.mpr g;constructor<;>grind
     ·split
      ·rename_i g;have:=eJ.mpr g;constructor<;>grind
      ·exact hs
    by_cases xz:x=z
    ·subst xz;refine⟨d,hd,fun s t hs ht=>?_⟩;have key:∀s:Rat,Re.ab (q s-x)<q d->φ s=n0+δ:=fun s hs=>by
      show(cg 0 (d0 (q (cl s)) (p0::aR p0::r)):Int)+(if x<=q (cl s) then δ else 0)=n0+δ;rw[hn _ (near d s hs)];by_cases c:q (cl s)<x
      ·rw[if_neg (c:=x<=q (cl s)) (by grind)];show n0+(if at' x p0=0/\q (cl s)<x then 1 else 0)+0=n0+(if at' x p0=0 then 1 else 0);by_cases c2:at' x p0=0
       ·rw[if_pos ⟨c2,c⟩,if_pos c2];lia
       ·rw[if_neg (fun z=>c2 z.1),if_neg c2];lia
      ·rw[if_pos (c:=x<=q (cl s)) (by grind),if_neg (fun z=>c z.2)];lia
     rw[key s hs,key t ht]
    ·have nr:¬at' x p0=0:=fun g=>xz (Ve x Vh Vi g);obtain⟨e,he,LB⟩:∃e:Rat,0<e/\∀s:Rat,Re.ab (q s-x)<q e->(z<=q s↔z<=x):=by
      rcases HK x z with g|g|g
      ·obtain⟨e,he,h2⟩:=small (sub_pos g);refine⟨e,he,fun s hs=>?_⟩;rw[aY] at hs;constructor<;>intro w<;>grind
      ·exact absurd g xz
      ·obtain⟨e,he,h2⟩:=small (sub_pos g);refine⟨e,he,fun s hs=>?_⟩;rw[aY] at hs;constructor<;>intro w<;>grind
     obtain⟨m,hm,m1,m2⟩:=ik hd he;refine⟨m,hm,fun s t hs ht=>?_⟩;have key:∀s:Rat,Re.ab (q s-x)<q m->φ s=n0+(if z<=x then δ else 0):=fun s hs=>by
      have g:=near m s hs;show(cg 0 (d0 (q (cl s)) (p0::aR p0::r)):Int)+(if z<=q (cl s) then δ else 0)=_;rw[hn _ (by grind),if_neg (fun w=>nr w.1)];have g2:=LB (cl s) (by grind);by_cases c:z<=x
      ·rw[if_pos c,if_pos (g2.mpr c)];lia
      ·rw[if_neg c,if_neg (fun w=>c (g2.mp w))];lia
     rw[key s hs,key t ht]
 have h2:(cg 0 (d0 (q (cl a)) (p0::aR p0::r)):Int)+(if z<=q (cl a) then δ else 0)=(cg 0 (d0 (q (cl b)) (p0::aR p0::r)):Int)+(if z<=q (cl b) then δ else 0):=h;rw[Vf,Vg] at h2;have d1:0<=δ/\δ<=1:=by
  show 0<=(if at' z p0=0 then(1:Int) else 0)/\(if at' z p0=0 then(1:Int) else 0)<=1;split<;>lia
 split at h2<;>split at h2<;>lia
end Po
end SF
namespace SF
open Lean.Grind
namespace Po
open Re
noncomputable def tL(M ρ:Rat):Nat->Rat
 |0=>0
 |n+1=>M+ρ*tL M ρ n
noncomputable def vL(M ρ:Rat):Nat->Rat
 |0=>0
 |n+1=>tL M ρ n+ρ*vL M ρ n
noncomputable def zZ(M ρ:Rat):Nat->Rat
 |0=>0
 |n+1=>ρ*zZ M ρ n+vL M ρ n
theorem D'(a:Rat):Re.ab (q a)=q (RR.ra a):=by
 unfold Re.ab RR.ra;by_cases h:a<0
 ·have h2:q a<0:=eJ (r:=a) (t:=0) |>.mpr h;rw[if_pos h,if_pos h2,nB]
 ·have h2:¬q a<0:=fun z=>h (eJ (r:=a) (t:=0) |>.mp z);rw[if_neg h,if_neg h2]
theorem vM{x:Re}{M ρ:Rat}(ju:0<=ρ)(hx:Re.ab x<=q ρ):∀xs:List Int,(∀a∈xs,RR.ra (a:Rat)<=M)->Re.ab (at' x (ao xs))<=q (tL M ρ xs.length)/\0<=tL M ρ xs.length
 |[],_=>by
  rw[cH,eY];exact⟨by show Re.ab 0<=q 0;rw[f6];unfold Re.ab;split<;>grind,by show(0:Rat)<=0;grind⟩
 |a::r,h=>by
  obtain⟨i1,i2⟩:=vM ju hx r fun b hb=>h b (List.mem_cons_of_mem _ hb);have ha:=h a List.mem_cons_self;have hM:0<=M:=by have:=RR.cX (a:Rat);grind
  rw[dN];have e1:=Re.fM ((a:Int):Re) (x*at' x (ao r));rw[Re.bX] at e1;have e2:=mul_le_mul hx i1 (dI (r:=0) (t:=ρ) |>.mpr ju) (Re.aD _);have e3:Re.ab ((a:Int):Re)<=q M:=by rw[dz,D',dI];exact ha
  have e4:q (tL M ρ (a::r).length)=q M+q ρ*q (tL M ρ r.length):=by
   show q (M+ρ*tL M ρ r.length)=_;rw[j_,fo]
  refine⟨by rw[e4];grind,?_⟩;show 0<=M+ρ*tL M ρ r.length;have:=Rat.mul_nonneg ju i2;grind
theorem BC{x:Re}{M ρ:Rat}(ju:0<=ρ)(hx:Re.ab x<=q ρ):∀xs:List Int,(∀a∈xs,RR.ra (a:Rat)<=M)->Re.ab (at' x (aR (ao xs)))<=q (vL M ρ xs.length)/\0<=vL M ρ xs.length
 |[],_=>by
  have:aR (ao [])=0:=by rw[<-eC];exact cH
  rw[this,eY];exact⟨by show Re.ab 0<=q 0;rw[f6];unfold Re.ab;split<;>grind,by show(0:Rat)<=0;grind⟩
 |a::r,h=>by
  obtain⟨i1,i2⟩:=BC ju hx r fun b hb=>h b (List.mem_cons_of_mem _ hb);obtain⟨j1,j2⟩:=vM ju hx r fun b hb=>h b (List.mem_cons_of_mem _ hb);rw[fN,eO,cF,zd];have e1:=Re.fM (at' x (ao r)) (x*at' x (aR (ao r)));rw[Re.bX] at e1;have e2:=mul_le_mul hx i1 (dI (r:=0) (t:=ρ) |>.mpr ju) (Re.aD _);have e4:q (vL M ρ (a::r).length)=q (tL M ρ r.length)+q ρ*q (vL M ρ r.length):=by
   show q (tL M ρ r.length+ρ*vL M ρ r.length)=_;rw[j_,fo]
  refine⟨by rw[e4];grind,?_⟩;show 0<=tL M ρ r.length+ρ*vL M ρ r.length;have:=Rat.mul_nonneg ju i2;grind
theorem BD{x t:Re}{M ρ:Rat}(ju:0<=ρ)(hx:Re.ab x<=q ρ)(ht:Re.ab t<=q ρ):∀xs:List Int,(∀a∈xs,RR.ra (a:Rat)<=M)->
 Re.ab (at' t (ao xs)-at' x (ao xs)-(t-x)*at' x (aR (ao xs)))<=q (zZ M ρ xs.length)*(Re.ab (t-x)*Re.ab (t-x))/\0<=zZ M ρ xs.length
 |[],_=>by
  have:aR (ao [])=0:=by rw[<-eC];exact cH
  rw[this,cH];simp only[eY];have e:(0:Re)-0-(t-x)*0=0:=by grind
  rw[e];refine⟨?_,by show(0:Rat)<=0;grind⟩;show Re.ab 0<=q 0*_;rw[f6];have:Re.ab (0:Re)=0:=by unfold Re.ab;split<;>grind
  rw[this];grind
 |a::r,h=>by
  obtain⟨i1,i2⟩:=BD ju hx ht r fun b hb=>h b (List.mem_cons_of_mem _ hb);obtain⟨j1,j2⟩:=BC ju hx r fun b hb=>h b (List.mem_cons_of_mem _ hb);rw[dN,dN,fN,eO,cF,zd];have e0:(a:Re)+t*at' t (ao r)-((a:Re)+x*at' x (ao r))-(t-x)*(at' x (ao r)+x*at' x (aR (ao r)))=
   t*(at' t (ao r)-at' x (ao r)-(t-x)*at' x (aR (ao r)))+at' x (aR (ao r))*((t-x)*(t-x)):=by grind
  rw[e0];have e1:=Re.fM (t*(at' t (ao r)-at' x (ao r)-(t-x)*at' x (aR (ao r)))) (at' x (aR (ao r))*((t-x)*(t-x)));rw[Re.bX,Re.bX,Re.bX] at e1;have e2:=mul_le_mul ht i1 (dI (r:=0) (t:=ρ) |>.mpr ju) (Re.aD _);have n2:0<=Re.ab (t-x)*Re.ab (t-x):=mul_nonneg (Re.aD _) (Re.aD _);have e3:=mul_le_mul j1 (Std.le_refl (a:=Re.ab (t-x)*Re.ab (t-x))) (dI (r:=0) (t:=vL M ρ r.length) |>.mpr j2) n2;have e4:q (zZ M ρ (a::r).length)=q ρ*q (zZ M ρ r.length)+q (vL M ρ r.length):=by
   show q (ρ*zZ M ρ r.length+vL M ρ r.length)=_;rw[j_,fo]
  refine⟨by rw[e4];grind,?_⟩;show 0<=ρ*zZ M ρ r.length+vL M ρ r.length;have:=Rat.mul_nonneg ju i2;grind
theorem zj{f g u0 v0:Po}{c0:Int}{M:Nat}(hf:f≠0)(hg:g≠0)(eb:u0*f+v0*g=K c0)(C2:c0≠0)(C0:∀i,ab (f.c i)<=M)(DV:∀i,ab (g.c i)<=M){A:Nat}(hA:len f+len g=A+2)(Li:0<A):
 ∃(U V:Po)(r:Int),r≠0/\U*f+V*g=K r/\len V<=len f-1/\∀i,ab (V.c i)<=(((2*A*M+1)^(A-1):Nat):Int):=by
 have lY:=len_pos hf;have nk:=len_pos hg;obtain⟨U,V,lU,lV,dA,bU,bV,hz,A_⟩:=pH (f:=f) (g:=g) C0 DV (n:=len g-1) (m:=len f-1) (A:=A) (by lia) Li 1;have lR:len (U*f+V*g)<=1:=cy fun i hi=>by
  by_cases Ju:i<1+A-1
  ·have:=hz (i-1) (by lia);have ei:1+(i-1)=i:=by lia
   rw[ei] at this;exact this
  ·show(U*f+V*g).c i=0;rw[jt,jh (W:=U) (z:=f) (b:=1+A-1) lU (by lia) (by lia),jh (W:=V) (z:=g) (b:=1+A-1) lV (by lia) (by lia)];rfl
 have er:=bW lR;refine⟨U,V,(U*f+V*g).c 0,?_,er,lV,bV⟩;intro z;rw[z,cE] at er;have dv:D f V:=⟨c0,C2,u0*V-v0*U,by
  rw[<-eb]
  have:V*g=-(U*f):=by grind
  have e2:(u0*f+v0*g)*V=u0*f*V+v0*(V*g):=by grind
  rw[e2,this];grind⟩;have du:D g U:=⟨c0,C2,v0*U-u0*V,by
  rw[<-eb]
  have:U*f=-(V*g):=by grind
  have e2:(u0*f+v0*g)*U=u0*(U*f)+v0*g*U:=by grind
  rw[e2,this];grind⟩;rcases dA with hU|hV
 ·have:=du.len hU;lia
 ·have:=dv.len hV;lia
theorem BE{f U V:Po}{r:Int}(hr:r≠0)(e:U*f+V*aR f=K r){x y:Re}(hx:at' x f=0)(hy:at' y f=0){VB TB:Rat}(h1:Re.ab (at' x V)<=q VB)(h2:Re.ab (at' y f-at' x f-(y-x)*at' x (aR f))<=q TB*(Re.ab (y-x)*Re.ab (y-x)))(hV:0<=VB)(hT:0<=TB)(h3:Re.ab (y-x)*q (VB*TB)<1):x=y:=by
 by_cases dA:y-x=0
 ·grind
 exfalso;have e1:at' x V*at' x (aR f)=((r:Int):Re):=by
  have:=congrArg (at' x) e;rw[eO,cF,cF,hx,zc] at this;rw[<-this];grind
 have e2:(1:Re)<=Re.ab ((r:Int):Re):=by
  rw[dz,D',<-xI,dI];unfold RR.ra;split
  ·rename_i c;have c2:r<0:=by
    have:((r:Int):Rat)<((0:Int):Rat):=c;exact Rat.intCast_lt_intCast.mp this
   have:((1:Int):Rat)<=((-r:Int):Rat):=Rat.intCast_le_intCast.mpr (by lia);rw[Rat.intCast_neg] at this;exact this
  ·rename_i c;have c2:¬r<0:=fun z=>c (by
    have:((r:Int):Rat)<((0:Int):Rat):=Rat.intCast_lt_intCast.mpr z
    exact this);exact Rat.intCast_le_intCast (a:=1).mpr (by lia)
 rw[<-e1,Re.bX] at e2;have nd:=Re.aD (at' x (aR f));have e3:=mul_le_mul h1 (Std.le_refl (a:=Re.ab (at' x (aR f)))) (dI (r:=0) (t:=VB) |>.mpr hV) nd;rw[hx,hy] at h2;have e4:(0:Re)-0-(y-x)*at' x (aR f)=-((y-x)*at' x (aR f)):=by grind
 rw[e4,Re.Bh,Re.bX] at h2;have hp:0<Re.ab (y-x):=by
  have g:=Re.aD (y-x);rcases HK (Re.ab (y-x)) 0 with g1|g1|g1
  ·grind
  ·exfalso;apply dA;unfold Re.ab at g1;split at g1<;>grind
  ·exact g1
 have e5:Re.ab (at' x (aR f))<=q TB*Re.ab (y-x):=by
  by_cases c:Re.ab (at' x (aR f))<=q TB*Re.ab (y-x)
  ·exact c
  ·exfalso;have c':0<Re.ab (at' x (aR f))-q TB*Re.ab (y-x):=by grind
   have:=mul_pos hp c';grind
 have e6:=mul_le_mul (Std.le_refl (a:=q VB)) e5 (dI (r:=0) (t:=VB) |>.mpr hV) nd;rw[fo] at h3;grind
end Po
end SF
namespace SF
open Lean.Grind
namespace Po
open Re
theorem cQ{a:Rat}(h:1<=a):∀n:Nat,1<=a^n
 |0=>by rw[Rat.pow_zero];grind
 |n+1=>by
  have i:=cQ h n;rw[Rat.pow_succ];have:=Rat.mul_le_mul_of_nonneg_left (c:=a^n) (show(1:Rat)<=a from h) (by grind);grind
theorem fO(a:Rat)(m:Nat):∀n:Nat,a^(m+n)=a^m*a^n
 |0=>by rw[Nat.add_zero,Rat.pow_zero];grind
 |n+1=>by rw[<-Nat.add_assoc,Rat.pow_succ,Rat.pow_succ,fO a m n];grind
theorem kS(a:Rat)(m:Nat):∀n:Nat,a^(m*n)=(a^m)^n
 |0=>by rw[Nat.mul_zero,Rat.pow_zero,Rat.pow_zero]
 |n+1=>by rw[Nat.mul_succ,fO,Rat.pow_succ,kS a m n]
theorem kT{a:Rat}(h:1<=a){m n:Nat}(hm:m<=n):a^m<=a^n:=by
 obtain⟨k,rfl⟩:=Nat.exists_eq_add_of_le hm;rw[fO];have h1:=cQ h m;have h2:=cQ h k;have:=Rat.mul_le_mul_of_nonneg_left (c:=a^m) h2 (by grind);grind
theorem nK{a b:Rat}(ha:0<=a)(h:a<=b):∀n:Nat,0<=a^n/\a^n<=b^n
 |0=>by rw[Rat.pow_zero,Rat.pow_zero];constructor<;>grind
 |n+1=>by
  obtain⟨i1,i2⟩:=nK ha h n;rw[Rat.pow_succ,Rat.pow_succ];exact⟨Rat.mul_nonneg i1 ha,RR.qK i2 h (by grind) ha⟩
theorem BF{M ρ:Rat}(hM:0<=M)(ju:1<=ρ):∀n:Nat,tL M ρ n<=M*(2*ρ)^n
 |0=>by show 0<=M*(2*ρ)^0;rw[Rat.pow_zero];grind
 |n+1=>by
  have i:=BF hM ju n;show M+ρ*tL M ρ n<=M*(2*ρ)^(n+1);have h1:=cQ (a:=2*ρ) (by grind) n;rw[Rat.pow_succ];have g1:=Rat.mul_le_mul_of_nonneg_left (c:=ρ) i (by grind);have g2:1<=(2*ρ)^n*ρ:=by
   have:=RR.qK h1 ju (by grind) (by grind);grind
  have g3:=Rat.mul_le_mul_of_nonneg_left (c:=M) g2 hM;grind
theorem FE{M ρ:Rat}(hM:0<=M)(ju:1<=ρ):∀n:Nat,vL M ρ n<=M*(4*ρ)^n
 |0=>by show 0<=M*(4*ρ)^0;rw[Rat.pow_zero];grind
 |n+1=>by
  have i:=FE hM ju n;have j:=BF hM ju n;show tL M ρ n+ρ*vL M ρ n<=M*(4*ρ)^(n+1);have h1:=cQ (a:=4*ρ) (by grind) n;have h2:=(nK (a:=2*ρ) (b:=4*ρ) (by grind) (by grind) n).2;rw[Rat.pow_succ];have g0:=Rat.mul_le_mul_of_nonneg_left (c:=M) h2 hM;have g1:=Rat.mul_le_mul_of_nonneg_left (c:=ρ) i (by grind);have g2:(4*ρ)^n<=(4*ρ)^n*ρ:=by
   have:=Rat.mul_le_mul_of_nonneg_left (c:=(4*ρ)^n) ju (by grind);grind
  have g3:=Rat.mul_le_mul_of_nonneg_left (c:=M) g2 hM;have g4:0<=M*((4*ρ)^n*ρ):=Rat.mul_nonneg hM (by grind);grind
theorem FF{M ρ:Rat}(hM:0<=M)(ju:1<=ρ):∀n:Nat,zZ M ρ n<=M*(8*ρ)^n
 |0=>by show 0<=M*(8*ρ)^0;rw[Rat.pow_zero];grind
 |n+1=>by
  have i:=FF hM ju n;have j:=FE hM ju n;show ρ*zZ M ρ n+vL M ρ n<=M*(8*ρ)^(n+1);have h1:=cQ (a:=8*ρ) (by grind) n;have h2:=(nK (a:=4*ρ) (b:=8*ρ) (by grind) (by grind) n).2;rw[Rat.pow_succ];have g0:=Rat.mul_le_mul_of_nonneg_left (c:=M) h2 hM;have g1:=Rat.mul_le_mul_of_nonneg_left (c:=ρ) i (by grind);have g2:(8*ρ)^n<=(8*ρ)^n*ρ:=by
   have:=Rat.mul_le_mul_of_nonneg_left (c:=(8*ρ)^n) ju (by grind);grind
  have g3:=Rat.mul_le_mul_of_nonneg_left (c:=M) g2 hM;have g4:0<=M*((8*ρ)^n*ρ):=Rat.mul_nonneg hM (by grind);grind
theorem FG{b:Nat}{a:Int}(h:Bd b a):RR.ra (a:Rat)<=(2:Rat)^b:=by
 unfold Bd at h;have e:((2:Rat)^b)=(((2^b:Nat):Int):Rat):=by
  rw[Int.natCast_pow,Rat.intCast_pow];rfl
 rw[e,RR.s_];rw[<-Rat.intCast_neg];constructor
 ·exact Rat.intCast_le_intCast.mpr (by lia)
 ·exact Rat.intCast_le_intCast.mpr (by lia)
theorem sep{xs:List Int}(tx:Tr xs)(hn:2<=xs.length)(Vj:xs.length<=13)(bx:∀a∈xs,Bd 100 a)(hs:DZ (ao xs) (ao xs)){x y:Re}(hx:at' x (ao xs)=0)(hy:at' y (ao xs)=0)(rx:Re.ab x<=q ((2:Rat)^110))(ry:Re.ab y<=q ((2:Rat)^110))(h:Re.ab (y-x)<=q (1/(2:Rat)^5500)):x=y:=by
 have lf:len (ao xs)=xs.length:=aU tx;have Dg:ao xs≠0:=a_ (by lia);have lg:len (aR (ao xs))=xs.length-1:=by rw[xr,lf]
 have Nc:aR (ao xs)≠0:=a_ (by lia);have gc:=cT (xs:=xs) (ys:=bT xs) (.inl Dg);have g1:=vA tx hs;have o1:ao [1]=1:=Po.ext fun i=>by
  rw[aX,m_];cases i with
  |zero=>rfl
  |succ i=>rfl
 rw[g1,o1,eC] at gc;obtain⟨bu,bv,ba,pC,LC⟩:=gc.bz;have BG:bu*ao xs+bv*aR (ao xs)=K ba:=by rw[LC];grind
 have R1:∀i,Bd 100 (co xs i):=fun i=>by
  by_cases hi:i<xs.length
  ·rw[bI hi];exact bx _ (List.getElem_mem _)
  ·rw[cw (by lia)];show(0:Int).natAbs<2^100;decide
 have m1:∀i,ab ((ao xs).c i)<=((2^104:Nat):Int):=fun i=>by
  have:=R1 i;unfold Bd at this;rw[aX];unfold ab;have e:(2:Nat)^100<=2^104:=Nat.pow_le_pow_right (by decide) (by decide);lia
 have m2:∀i,ab ((aR (ao xs)).c i)<=((2^104:Nat):Int):=fun i=>by
  rw[<-eC,aX];by_cases hi:i<xs.length-1
  ·have e0:co (bT xs) i=((i+1:Nat):Int)*co xs (i+1):=by rw[jV];rfl
   rw[e0];have h1:Bd 4 (((i+1:Nat):Int)):=Bd.of_two (by lia) (by lia);have:=h1.mul (R1 (i+1));unfold Bd at this;unfold ab;lia
  ·rw[cw (by unfold bT;rw[aA];lia)];show(0:Int)<=_;lia
 obtain⟨U,V,r,hr,e,lV,bV⟩:=zj (M:=2^104) (A:=2*xs.length-3) Dg Nc BG pC m1 m2 (by rw[lf,lg];lia) (by lia);have hH:(2*(2*xs.length-3)*2^104+1)^(2*xs.length-3-1)<=2^2420:=by
  have a1:2*(2*xs.length-3)*2^104+1<=2^110:=by lia
  have a2:=Nat.pow_le_pow_left a1 (2*xs.length-3-1);have a3:(2^110)^(2*xs.length-3-1)<=(2^110)^22:=Nat.pow_le_pow_right (by decide) (by lia);have a4:((2:Nat)^110)^22=2^2420:=by rw[<-Nat.pow_mul]
  lia
 have Vk:∀a∈lst V,Bd 2421 a:=fun a ha=>by
  obtain⟨i,hi,ea⟩:=List.getElem_of_mem ha;have:=bV i;rw[<-iJ,bI hi,ea] at this;unfold ab at this;unfold Bd;have e2:(2:Nat)^2420<2^2421:=Nat.pow_lt_pow_right (by decide) (by decide);lia
 have R3:(1:Rat)<=2^110:=cQ (by grind) _;obtain⟨v1,v2⟩:=vM (M:=(2:Rat)^2421) (ρ:=2^110) (by grind) rx (lst V) fun a ha=>FG (Vk a ha);obtain⟨t1,t2⟩:=BD (M:=(2:Rat)^100) (ρ:=2^110) (by grind) rx ry xs fun a ha=>FG (bx a ha);rw[cR] at v1;refine BE hr e hx hy v1 t1 v2 t2 ?_;have Vl:(lst V).length<=13:=by
  have:(lst V).length=len V:=rfl;lia
 have b1:tL ((2:Rat)^2421) (2^110) (lst V).length<=2^2421*(2*2^110)^13:=by
  have:=BF (M:=(2:Rat)^2421) (ρ:=2^110) (Rat.le_of_lt (Rat.pow_pos (by grind))) R3 (lst V).length;have g:=kT (a:=2*(2:Rat)^110) (by grind) Vl;have g2:=Rat.mul_le_mul_of_nonneg_left (c:=(2:Rat)^2421) g (Rat.le_of_lt (Rat.pow_pos (by grind)));grind
 have b2:zZ ((2:Rat)^100) (2^110) xs.length<=2^100*(8*2^110)^13:=by
  have:=FF (M:=(2:Rat)^100) (ρ:=2^110) (Rat.le_of_lt (Rat.pow_pos (by grind))) R3 xs.length;have g:=kT (a:=8*(2:Rat)^110) (by grind) Vj;have g2:=Rat.mul_le_mul_of_nonneg_left (c:=(2:Rat)^100) g (Rat.le_of_lt (Rat.pow_pos (by grind)));grind
 have c1:(2:Rat)*2^110=2^111:=by rw[Rat.pow_succ];grind
 have c2:(8:Rat)*2^110=2^113:=by rw[Rat.pow_succ,Rat.pow_succ,Rat.pow_succ];grind
 rw[c1,<-kS,<-fO] at b1;rw[c2,<-kS,<-fO] at b2;have b3:=RR.qK b1 b2 (Rat.le_of_lt (Rat.pow_pos (by grind))) t2;rw[<-fO] at b3;have b4:tL ((2:Rat)^2421) (2^110) (lst V).length*zZ ((2:Rat)^100) (2^110) xs.length<2^5500:=by
  have g:(2:Rat)^(2421+111*13+(100+113*13))<=2^5499:=kT (by grind) (by decide);have g2:(2:Rat)^5500=2^5499*2:=Rat.pow_succ ..;have g3:(0:Rat)<2^5499:=Rat.pow_pos (by grind);grind
 generalize tL ((2:Rat)^2421) (2^110) (lst V).length*zZ ((2:Rat)^100) (2^110) xs.length=W at b4 b3 ⊢;have p0:(0:Rat)<2^5500:=Rat.pow_pos (by grind);generalize (2:Rat)^5500=Z at b4 p0 h ⊢;by_cases hW:0<=W
 ·have f1:=mul_le_mul h (Std.le_refl (a:=q W)) (dI (r:=0) (t:=1/Z) |>.mpr (Rat.le_of_lt (RR.vF (by grind) p0))) (dI (r:=0) (t:=W) |>.mpr hW);have f2:q (1/Z)*q W<1:=by
   rw[<-fo,<-xI,eJ,Rat.div_def,Rat.one_mul];have:=(Rat.mul_lt_mul_left (Rat.inv_pos.mpr p0)).mpr b4;rw[Rat.inv_mul_cancel _ (by grind)] at this;exact this
  grind
 ·have f1:q W<=0:=dI (r:=W) (t:=0) |>.mpr (by grind);have f2:0<=Re.ab (y-x)*(-q W):=mul_nonneg (Re.aD _) (by grind);grind
end Po
end SF
namespace SF
open Lean.Grind
namespace Po
open Re
theorem Ie(t u:Int):hv t u []=0:=by simp[hv,ax]
theorem xT(t u:Int):∀xs:List Int,xs≠[]->∃w,hv t u xs=co xs (xs.length-1)*t^(xs.length-1)+u*w
 |[],h=>absurd rfl h
 |[x],_=>⟨0,by
  rw[qy,Ie]
  show 0*t+x*u^0=x*t^0+u*0
  rw[Int.pow_zero,Int.pow_zero];lia⟩
 |x::y::r,_=>by
  obtain⟨w,e⟩:=xT t u (y::r) (by simp);refine⟨w*t+x*u^r.length,?_⟩;rw[qy,e];have e1:(y::r).length-1=r.length:=by simp
  have e2:(x::y::r).length-1=r.length+1:=by simp
  have e3:co (x::y::r) (r.length+1)=co (y::r) r.length:=rfl;have e4:(y::r).length=r.length+1:=by simp
  rw[e1,e2,e3,e4,Int.pow_succ,Int.pow_succ];generalize co (y::r) r.length=l;generalize t^r.length=a;generalize u^r.length=b;grind
theorem jl{a b c:Int}(d:a∣b*c)(h:Int.gcd a b=1):a∣c:=by
 have d1:a.natAbs∣b.natAbs*c.natAbs:=by rw[<-Int.natAbs_mul];exact Int.natAbs_dvd_natAbs.mpr d
 have hc:Nat.Coprime a.natAbs b.natAbs:=h;exact Int.natAbs_dvd_natAbs.mp (hc.dvd_of_dvd_mul_left d1)
theorem xU{u t:Int}(h:Int.gcd u t=1){l:Int}:∀k:Nat,u∣l*t^k->u∣l
 |0,d=>by rw[Int.pow_zero,Int.mul_one] at d;exact d
 |k+1,d=>by
  rw[Int.pow_succ,<-Int.mul_assoc] at d;exact xU h k (jl (by rw[Int.mul_comm] at d;exact d) h)
theorem xV{xs:List Int}(hx:xs≠[]){t u o:Int}(hg:Int.gcd t u=1)(ho:o∣u)(hn:¬o∣co xs (xs.length-1)):hv t u xs≠0:=fun z=>by
 obtain⟨w,e⟩:=xT t u xs hx;rw[z] at e;have d:u∣co xs (xs.length-1)*t^(xs.length-1):=⟨-w,by rw[Int.mul_neg];lia⟩;exact hn (Int.dvd_trans ho (xU (by rw[Int.gcd_comm];exact hg) _ d))
noncomputable def Pt(o:Int)(k:Nat)(m t u:Int):Prop:=t*(o*2^k)=(2^k+o*m)*u
theorem lM{o:Int}(h:Int.gcd o 2=1):∀k:Nat,Int.gcd o (2^k)=1
 |0=>by rw[Int.pow_zero];exact Int.gcd_one_right _
 |k+1=>by
  have i:=lM h k;rw[Int.pow_succ];rw[Int.gcd_eq_one_iff] at*
  ·intro c Jx xJ;have g:Int.gcd c 2=1:=by
    have:(Int.gcd c 2:Int)∣1:=h _ (Int.dvd_trans (Int.gcd_dvd_left ..) Jx) (Int.gcd_dvd_right ..);have h2:=Int.le_of_dvd (by decide) this;have h3:0<Int.gcd c 2:=Int.gcd_pos_of_ne_zero_right _ (by decide);lia
   exact i c Jx (jl (by rw[Int.mul_comm] at xJ;exact xJ) g)
theorem Pt.odd{o:Int}{k:Nat}{m t u:Int}(h:Pt o k m t u)(ho:Int.gcd o 2=1):o∣u:=by
 have d:o∣(2^k+o*m)*u:=⟨t*2^k,by rw[<-h];grind⟩;have g:Int.gcd o (2^k+o*m)=1:=by
  rw[Int.gcd_comm,Int.add_comm,Int.gcd_mul_left_add_left,Int.gcd_comm];exact lM ho k
 exact jl d g
theorem Pt.up{o:Int}{k:Nat}{m t u:Int}(h:Pt o k m t u):Pt o (k+1) (2*m) t u:=by
 unfold Pt at*;rw[Int.pow_succ];generalize (2:Int)^k=z at*;grind
theorem Pt.mid{o:Int}{k:Nat}{m t u m' t' u' c d:Int}(h:Pt o k m t u)(h':Pt o k m' t' u')(hu:0<u)(fq:0<u')(e:c*(2*u*u')=(t*u'+t'*u)*d):Pt o (k+1) (m+m') c d:=by
 unfold Pt at*;rw[Int.pow_succ];generalize (2:Int)^k=z at*;have hp:=Int.mul_pos hu fq;refine Int.eq_of_mul_eq_mul_right (Int.ne_of_gt hp) ?_;grind
theorem Pt.bits{o:Int}{k:Nat}{m t u b:Int}(h:Pt o k m t u)(ho:0<o)(hu:0<u)(hg:Int.gcd t u=1)(bo:Bd 102 o)(bb:0<b/\b<=2^102)(h1:-(b*2^k)<=m)(h2:m<=b*2^k):Bd (k+210) t/\Bd (k+210) u:=by
 have hz:(0:Int)<2^k:=Int.pow_pos (by decide);have Vm:0<o*2^k:=Int.mul_pos ho hz;have d:u∣o*2^k:=by
  have:u∣t*(o*2^k):=⟨2^k+o*m,by rw[show t*(o*2^k)=_ from h];grind⟩;exact jl this (by rw[Int.gcd_comm];exact hg)
 have hle:=Int.le_of_dvd Vm d;have bz:Bd (k+1) ((2:Int)^k):=by
  unfold Bd;rw[Int.natAbs_pow];exact Nat.pow_lt_pow_right (by decide) (by lia)
 have Vn:=bo.mul bz;have bu:Bd (k+103) u:=by
  unfold Bd at*;have e:102+(k+1)=k+103:=by lia
  rw[e] at Vn;lia
 refine⟨?_,bu.mono (by lia)⟩;have bm:Bd (k+105) m:=by
  have b3:Bd 103 b:=by unfold Bd;lia
  have:=b3.mul bz;unfold Bd at*;have e:103+(k+1)=k+104:=by lia
  rw[e] at this;have e2:(2:Nat)^(k+105)=2^(k+104)*2:=Nat.pow_succ ..;lia
 have bom:=bo.mul bm;have bs:Bd (k+209) (2^k+o*m):=((bz.mono (n:=k+207) (by lia)).add (bom.mono (n:=k+207) (by lia))).mono (by lia);have key:t.natAbs<=(2^k+o*m).natAbs:=by
  have e:t.natAbs*(o*2^k).natAbs=(2^k+o*m).natAbs*u.natAbs:=by rw[<-Int.natAbs_mul,<-Int.natAbs_mul,show t*(o*2^k)=_ from h]
  have h3:u.natAbs<=(o*2^k).natAbs:=by lia
  have h4:(2^k+o*m).natAbs*u.natAbs<=(2^k+o*m).natAbs*(o*2^k).natAbs:=Nat.mul_le_mul_left _ h3;have h5:t.natAbs*(o*2^k).natAbs<=(2^k+o*m).natAbs*(o*2^k).natAbs:=Nat.le_trans (Nat.le_of_eq e) h4;exact Nat.le_of_mul_le_mul_right h5 (by lia)
 unfold Bd at*;have e2:(2:Nat)^(k+210)=2^(k+209)*2:=Nat.pow_succ ..;lia
theorem Pt.val{o:Int}{k:Nat}{m t u:Int}(h:Pt o k m t u)(ho:0<o)(hu:0<u):(t:Rat)/(u:Rat)=1/(o:Rat)+(m:Rat)/2^k:=by
 have Aa:(o:Rat)≠0:=fun z=>by
  have:=Rat.intCast_inj.mp (show(o:Rat)=((0:Int):Rat) from z);lia
 have fq:(u:Rat)≠0:=fun z=>by
  have:=Rat.intCast_inj.mp (show(u:Rat)=((0:Int):Rat) from z);lia
 have hz:(2:Rat)^k≠0:=fun z=>by
  have:(0:Rat)<2^k:=Rat.pow_pos (by grind);grind
 have e:(t:Rat)*((o:Rat)*2^k)=(2^k+(o:Rat)*(m:Rat))*(u:Rat):=by
  have:=congrArg (fun z:Int=>(z:Rat)) h;simp only[Rat.intCast_mul,Rat.intCast_add,Rat.intCast_pow] at this;exact this
 generalize (2:Rat)^k=z at*;generalize (o:Rat)=o' at*;generalize (u:Rat)=u' at*;generalize (t:Rat)=t' at*;generalize (m:Rat)=m' at*;grind
theorem nL:∀(l:List Int)(b:Int),b=1\/b=-1->(∀x∈l,x=0\/x=1\/x=-1)->(-1)^cg b l=b*l.foldl (fun b s=>if s≠0 then s else b) b
 |[],b,hb,_=>by
  show(-1:Int)^0=b*b;rcases hb with rfl|rfl<;>rfl
 |x::r,b,hb,h=>by
  have hx:=h x List.mem_cons_self;have hr:=fun y hy=>h y (List.mem_cons_of_mem _ hy);show(-1:Int)^((if x*b<0 then 1 else 0)+cg (if x≠0 then x else b) r)=b*r.foldl (fun b s=>if s≠0 then s else b) (if x≠0 then x else b);rcases hx with rfl|hx
  ·rw[if_neg (by lia),if_neg (by lia),Nat.zero_add];exact nL r b hb hr
  ·have C3:x≠0:=by lia
   rw[if_pos C3,Int.pow_add];rw[nL r x hx hr];have:(-1:Int)^(if x*b<0 then 1 else 0)=b*x:=by
    rcases hb with rfl|rfl<;>rcases hx with rfl|rfl<;>rfl
   rw[this];have:x*x=1:=by rcases hx with rfl|rfl<;>rfl
   generalize List.foldl _ x r=z;grind
theorem zk{l:List Int}{s:Int}(hs:s≠0)(b:Int):(l++[s]).foldl (fun b s=>if s≠0 then s else b) b=s:=by
 rw[List.foldl_append];show(if s≠0 then s else _)=s;rw[if_pos hs]
theorem xW(x:Re):bA x=0\/bA x=1\/bA x=-1:=by
 rcases bf x with z|z|z
 ·exact .inr (.inr z.2)
 ·exact .inl z.2
 ·exact .inr (.inl z.2)
theorem tM{x:Re}:∀{ps:List Po}{l:Po},ze x (ps++[l])->at' x l≠0
 |[],l,h=>h
 |[a],l,h=>h
 |a::b::[],l,h=>h.2
 |a::b::c::r,l,h=>tM (ps:=b::c::r) h.2
theorem Ea{p0 l:Po}{r:List Po}(hc:∀x:Re,ze x (p0::(r++[l]))){a b:Rat}(f7:a<=b)(ha:at' (q a) p0≠0)(hb:at' (q b) p0≠0):
 bA (at' (q a) p0)*bA (at' (q b) p0)=(-1)^cg 0 (d0 (q a) (p0::(r++[l])))*(-1)^cg 0 (d0 (q b) (p0::(r++[l]))):=by
 have hl:∀x:Re,at' x l≠0:=fun x=>tM (ps:=p0::r) (hc x);have xX:bA (at' (q a) l)=bA (at' (q b) l):=by
  refine iP (φ:=fun t=>bA (at' (q t) l)) (fun x=>?_) f7;obtain⟨d,hd,h⟩:=gW (hl x);exact⟨d,hd,fun s t hs ht=>by rw[h _ hs,h _ ht]⟩
 have key:∀c:Rat,at' (q c) p0≠0->(-1)^cg 0 (d0 (q c) (p0::(r++[l])))=bA (at' (q c) p0)*bA (at' (q c) l):=fun c C2=>by
  have h1:=jz C2;have e:d0 (q c) (p0::(r++[l]))=bA (at' (q c) p0)::(d0 (q c) r++[bA (at' (q c) l)]):=by
   unfold d0;rw[List.map_cons,List.map_append];rfl
  rw[e];have e2:cg 0 (bA (at' (q c) p0)::(d0 (q c) r++[bA (at' (q c) l)]))=cg (bA (at' (q c) p0)) (d0 (q c) r++[bA (at' (q c) l)]):=by
   show(if bA (at' (q c) p0)*0<0 then 1 else 0)+cg (if bA (at' (q c) p0)≠0 then bA (at' (q c) p0) else 0) _=_;rw[if_neg (by lia),if_pos (fun z=>C2 (cP z))];lia
  rw[e2,nL _ _ (h1.symm) (fun x hx=>?_),zk (fun z=>hl _ (cP z))];rcases List.mem_append.mp hx with z|z
  ·obtain⟨y,_,rfl⟩:=List.mem_map.mp z;exact xW _
  ·rw[List.mem_singleton.mp z];exact xW _
 rw[key a ha,key b hb,xX];have:=jz (hl (q b));have h2:bA (at' (q b) l)*bA (at' (q b) l)=1:=by rcases this with z|z<;>rw[z]<;>rfl
 generalize bA (at' (q b) l)=z at*;grind
end Po
end SF
namespace SF
open Lean.Grind
namespace Po
open Re
theorem BH{x:Re}{L r:Rat}(hL:0<L)(hr:0<r)(hx:q (2*r)<=Re.ab x){e:Int}(he:RR.ra (e:Rat)=L):∀l:List Int,(∀k,k<l.length->RR.ra ((co l (l.length-1-k):Int):Rat)<=L*r^(k+1))->q (L*r^l.length)<=Re.ab (at' x (ao (l++[e])))
 |[],_=>by
  show q (L*r^0)<=Re.ab (at' x (ao [e]));have e1:at' x (ao [e])=(e:Re):=by rw[dN,cH,eY];grind
  have e2:L*r^0=L:=by rw[Rat.pow_zero];grind
  rw[e1,dz,D',he,e2];exact Re.dI.mpr Rat.le_refl
 |a::l,h=>by
  have ih:=BH hL hr hx he l fun k hk=>by
   have:=h k (by rw[List.length_cons];lia);have e1:(a::l).length-1-k=(l.length-1-k)+1:=by rw[List.length_cons];lia
   rw[e1] at this;exact this
  have ha:=h l.length (by rw[List.length_cons];lia);have e0:(a::l).length-1-l.length=0:=by rw[List.length_cons];lia
  rw[e0] at ha;have JC:Re.ab (a:Re)<=q (L*r^(l.length+1)):=by
   rw[dz,D'];exact Re.dI.mpr ha
  show q (L*r^(l.length+1))<=Re.ab (at' x (ao (a::(l++[e]))));rw[dN];generalize at' x (ao (l++[e]))=A at ih ⊢;have hp:0<=L*r^l.length:=Rat.le_of_lt (Rat.mul_pos hL (Rat.pow_pos hr));have nk:0<=2*r:=by grind
  have m1:q (2*r)*q (L*r^l.length)<=Re.ab x*Re.ab A:=Re.mul_le_mul hx ih (Re.aD x) (by rw[<-Re.f6];exact Re.dI.mpr hp);rw[<-Re.fo,<-Re.bX] at m1;have e3:2*r*(L*r^l.length)=L*r^(l.length+1)+L*r^(l.length+1):=by rw[Rat.pow_succ];grind
  rw[e3,Re.j_] at m1;have m2:=Re.fM ((a:Re)+x*A) (-(a:Re));rw[Re.Bh] at m2;have e4:(a:Re)+x*A+-(a:Re)=x*A:=by grind
  rw[e4] at m2;grind
theorem Ig{xs:List Int}(hn:xs≠[]){r:Int}(hr:0<r)(hl:co xs (xs.length-1)≠0)(W:∀k,k<xs.length-1->ab (co xs (xs.length-2-k))<=ab (co xs (xs.length-1))*r^(k+1)){x:Re}(hx:q (2*(r:Rat))<=Re.ab x):at' x (ao xs)≠0:=by
 have FH:∀a:Int,RR.ra (a:Rat)=((ab a:Int):Rat):=fun a=>by
  unfold RR.ra ab;split
  ·rename_i h;have h2:a<0:=Rat.intCast_lt_intCast.mp h;have e:((a.natAbs:Nat):Int)=-a:=by lia
   rw[e,Rat.intCast_neg]
  ·rename_i h;have h2:¬a<0:=fun z=>h (Rat.intCast_lt_intCast.mpr z);have e:((a.natAbs:Nat):Int)=a:=by lia
   rw[e]
 have G8:(0:Rat)<(r:Rat):=Rat.intCast_pos.mpr hr;have gz:=List.length_pos_iff.mpr hn;have Pn:xs=xs.dropLast++[co xs (xs.length-1)]:=by
  have h1:=(List.dropLast_concat_getLast hn).symm;have h2:xs.getLast hn=co xs (xs.length-1):=by
   rw[List.getLast_eq_getElem,<-bI]
  rw[h2] at h1;exact h1
 have Vo:xs.dropLast.length=xs.length-1:=List.length_dropLast;have hL:(0:Rat)<((ab (co xs (xs.length-1)):Int):Rat):=Rat.intCast_pos.mpr (iL hl);have key:=BH (x:=x) hL G8 hx (e:=co xs (xs.length-1)) (FH _) xs.dropLast fun k hk=>by
  rw[Vo] at hk ⊢;have hi:xs.length-1-1-k<xs.length-1:=by lia
  have e1:co xs.dropLast (xs.length-1-1-k)=co xs (xs.length-2-k):=by
   have e2:xs.length-1-1-k=xs.length-2-k:=by lia
   rw[e2];have h3:xs.length-2-k<xs.dropLast.length:=by lia
   rw[bI h3,bI (by lia),List.getElem_dropLast]
  rw[e1,FH];have:=Rat.intCast_le_intCast.mpr (W k hk);rw[Rat.intCast_mul,Rat.intCast_pow] at this;exact this
 rw[<-Pn] at key;intro z;rw[z] at key;have h0:Re.ab (0:Re)=0:=by unfold Re.ab;rw[if_neg (by grind)]
 rw[h0,<-Re.f6] at key;have h2:=Re.dI.mp key;have h3:(0:Rat)<((ab (co xs (xs.length-1)):Int):Rat)*(r:Rat)^xs.dropLast.length:=Rat.mul_pos hL (Rat.pow_pos G8);grind
theorem kQ.const{g:List Int}(h:kQ g){a b:Rat}(f7:a<=b)(hz:∀x:Re,q a<=x->x<=q b->at' x (ao g)≠0):jw g a=jw g b:=by
 have key:=iP (φ:=fun t=>jw g (if t<a then a else if b<t then b else t)) (fun x=>?_) f7
 ·have e1:(if a<a then a else if b<a then b else a)=a:=by
   rw[if_neg (by grind),if_neg (by grind)]
  have e2:(if b<a then a else if b<b then b else b)=b:=by
   rw[if_neg (by grind),if_neg (by grind)]
  simp only[e1,e2] at key;exact key
 by_cases h1:x<q a
 ·obtain⟨d,hd,hd2⟩:=Re.small (x:=q a-x) (by grind);refine⟨d,hd,fun s t hs ht=>?_⟩;have xl:s<a:=Re.eJ.mp (by have:=(aY.mp hs).2;grind);have HR:t<a:=Re.eJ.mp (by have:=(aY.mp ht).2;grind);simp only[if_pos xl,if_pos HR]
 by_cases h2:q b<x
 ·obtain⟨d,hd,hd2⟩:=Re.small (x:=x-q b) (by grind);refine⟨d,hd,fun s t hs ht=>?_⟩;have xl:b<s:=Re.eJ.mp (by have:=(aY.mp hs).1;grind);have HR:b<t:=Re.eJ.mp (by have:=(aY.mp ht).1;grind);have n1:¬s<a:=by grind
  have n2:¬t<a:=by grind
  simp only[if_neg n1,if_neg n2,if_pos xl,if_pos HR]
 ·obtain⟨d,hd,n0,hn⟩:=h.near x;have dA:=hz x (Re.le_iff.mpr h1) (Re.le_iff.mpr h2);have c:∀t:Rat,Re.ab (q t-x)<q d->jw g (if t<a then a else if b<t then b else t)=n0:=fun t ht=>by
   have hh:=aY.mp ht;have h3:Re.ab (q (if t<a then a else if b<t then b else t)-x)<q d:=by
    refine aY.mpr ?_;split
    ·rename_i w;have:=Re.eJ.mpr w;grind
    ·split
     ·rename_i w;have:=Re.eJ.mpr w;grind
     ·exact hh
   rw[hn _ h3,if_neg (fun z=>dA z.1)];lia
  refine⟨d,hd,fun s t hs ht=>?_⟩;show jw g (if s<a then a else if b<s then b else s)=jw g (if t<a then a else if b<t then b else t);rw[c s hs,c t ht]
noncomputable def ft(g:List Int):Int:=if g.length=3 then(if co g 1*co g 1>4*co g 0 then 2 else 0) else 1
theorem Nj{z:Rat}(h:0<z):bA (q z)=1:=dE (by rw[<-Re.f6];exact Re.eJ.mpr h)
theorem LD{z:Rat}(h:z<0):bA (q z)=-1:=fx (by rw[<-Re.f6];exact Re.eJ.mpr h)
theorem qP(a b:Rat):q (a-b)=q a-q b:=by
 have e:a-b=a+-b:=by grind
 rw[e,Re.j_,Re.nB];grind
theorem BI{z n:Rat}(h1:1<=n)(h:n+1<=z\/z<=-(n+1)):n<z*z:=by
 rcases h with h|h
 ·have:=Rat.mul_le_mul_of_nonneg_left h (show(0:Rat)<=z by grind);have:=Rat.mul_le_mul_of_nonneg_left (show 1<=z by grind) (show(0:Rat)<=n+1 by grind);grind
 ·have:=Rat.mul_le_mul_of_nonneg_left (show n+1<=-z by grind) (show(0:Rat)<=-z by grind);have:=Rat.mul_le_mul_of_nonneg_left (show 1<=-z by grind) (show(0:Rat)<=n+1 by grind);grind
theorem kQ.big{g:List Int}(h:kQ g):∃M:Rat,∀y:Rat,M<=y->jw g y=ft g/\jw g (-y)=0:=by
 cases h with
 |Lw t u hu hc=>
  refine⟨RR.ra (t:Rat)+1,fun y hy=>?_⟩;have ht:=RR.s_.mp (Rat.le_refl (a:=RR.ra (t:Rat)));have h0:=RR.cX (t:Rat);have fq:(1:Rat)<=(u:Rat):=by
   have:((1:Int):Rat)<=(u:Rat):=Rat.intCast_le_intCast.mpr (by lia);exact this
  have XQ:y<=y*(u:Rat):=by
   have:=Rat.mul_le_mul_of_nonneg_left fq (show(0:Rat)<=y by grind);grind
  have ev:∀z:Rat,at' (q z) (ao [0-t,u])=q (z*(u:Rat)-(t:Rat)):=fun z=>by
   rw[Ic,dz,dz,qP,Re.fo]
  refine⟨?_,?_⟩
  ·have em:ft [0-t,u]=1:=if_neg (by simp);rw[em];unfold jw;rw[if_pos (by simp),ev,Nj (by grind),if_pos (by decide)]
  ·unfold jw;have e:-y*(u:Rat)-(t:Rat)=-(y*(u:Rat))-(t:Rat):=by grind
   rw[if_pos (by simp),ev,e,LD (by grind),if_neg (by decide)]
 |Bx a n hn=>
  have Pm:(1:Int)<=n:=by rcases hn with rfl|rfl|rfl|rfl|rfl|rfl|rfl|rfl|rfl|rfl<;>decide
  have xw:(1:Rat)<=(n:Rat):=by
   have:((1:Int):Rat)<=(n:Rat):=Rat.intCast_le_intCast.mpr Pm;exact this
  refine⟨RR.ra (a:Rat)+(n:Rat)+1,fun y hy=>?_⟩;have ha:=RR.s_.mp (Rat.le_refl (a:=RR.ra (a:Rat)));have h0:=RR.cX (a:Rat);have ev:∀z:Rat,at' (q z) (ao [a*a-n,0-2*a,1])=q ((z-(a:Rat))*(z-(a:Rat))-(n:Rat)):=fun z=>by
   rw[mD,dz,dz,qP,Re.fo,qP]
  have iQ:(co [a*a-n,0-2*a,1] 1)*(co [a*a-n,0-2*a,1] 1)>4*co [a*a-n,0-2*a,1] 0:=by
   show(0-2*a)*(0-2*a)>4*(a*a-n);have:(0-2*a)*(0-2*a)=4*(a*a):=by grind
   rw[this];lia
  have ec:-((co [a*a-n,0-2*a,1] 1:Int):Rat)/2=(a:Rat):=by
   show -((0-2*a:Int):Rat)/2=(a:Rat);have e1:(0-2*a:Int)=-(2*a):=by lia
   rw[e1,Rat.intCast_neg,Rat.intCast_mul];show- -((2:Rat)*(a:Rat))/2=(a:Rat);grind
  have s1:=BI (z:=y-(a:Rat)) xw (.inl (by grind));have s2:=BI (z:=-y-(a:Rat)) xw (.inr (by grind));refine⟨?_,?_⟩
  ·have em:ft [a*a-n,0-2*a,1]=2:=by
    unfold ft;rw[if_pos (by simp),if_pos iQ]
   rw[em];unfold jw;rw[if_neg (by simp),if_neg (fun z=>z iQ),ev,Nj (by grind),if_neg (by decide),if_neg (by decide),ec,if_pos (by grind)];rfl
  ·unfold jw;rw[if_neg (by simp),if_neg (fun z=>z iQ),ev,Nj (by grind),if_neg (by decide),if_neg (by decide),ec,if_neg (by grind)];rfl
 |Lx a m hm=>
  have iQ:¬(co [a*a+m,0-2*a,1] 1)*(co [a*a+m,0-2*a,1] 1)>4*co [a*a+m,0-2*a,1] 0:=by
   show ¬(0-2*a)*(0-2*a)>4*(a*a+m);have:(0-2*a)*(0-2*a)=4*(a*a):=by grind
   rw[this];lia
  refine⟨0,fun y _=>⟨?_,?_⟩⟩
  ·have em:ft [a*a+m,0-2*a,1]=0:=by
    unfold ft;rw[if_pos (by simp),if_neg iQ]
   rw[em];unfold jw;rw[if_neg (by simp),if_pos iQ]
  ·unfold jw;rw[if_neg (by simp),if_pos iQ]
 |Ly n hn=>
  refine⟨RR.ra (n:Rat)+1,fun y hy=>?_⟩;have ha:=RR.s_.mp (Rat.le_refl (a:=RR.ra (n:Rat)));have h0:=RR.cX (n:Rat);have ev:∀z:Rat,at' (q z) (ao [0-n,0,0,1])=q (z*z*z-(n:Rat)):=fun z=>by
   rw[vK,dz,qP,Re.fo,Re.fo]
  have y1:1<=y:=by grind
  have m1:y<=y*y:=by
   have:=Rat.mul_le_mul_of_nonneg_left y1 (show(0:Rat)<=y by grind);grind
  have m2:y*y<=y*y*y:=by
   have:=Rat.mul_le_mul_of_nonneg_left y1 (show(0:Rat)<=y*y by grind);grind
  refine⟨?_,?_⟩
  ·have em:ft [0-n,0,0,1]=1:=if_neg (by simp);rw[em];unfold jw;rw[if_pos (by simp),ev,Nj (by grind),if_pos (by decide)]
  ·unfold jw;have e:-y*-y*-y-(n:Rat)=-(y*y*y)-(n:Rat):=by grind
   rw[if_pos (by simp),ev,e,LD (by grind),if_neg (by decide)]
theorem BJ:∀{gs:List (List Int)},(∀g∈gs,kQ g)->∀{h:Rat},(∀g∈gs,∀x:Re,q h<=x->at' x (ao g)≠0)->oG gs h=(gs.map ft).sum
 |[],_,_,_=>rfl
 |g::r,hF,h,hz=>by
  rw[List.map_cons,List.sum_cons,<-BJ (gs:=r) (fun g hg=>hF g (List.mem_cons_of_mem _ hg)) fun g hg=>hz g (List.mem_cons_of_mem _ hg)];show jw g h+oG r h=_;obtain⟨M,hM⟩:=(hF g List.mem_cons_self).big;have e:jw g h=jw g (if h<=M then M else h):=(hF g List.mem_cons_self).const (by split<;>grind) fun x h1 _=>hz g List.mem_cons_self x h1;rw[e,(hM _ (by split<;>grind)).1]
theorem BK:∀{gs:List (List Int)},(∀g∈gs,kQ g)->∀{h:Rat},(∀g∈gs,∀x:Re,x<=q h->at' x (ao g)≠0)->oG gs h=0
 |[],_,_,_=>rfl
 |g::r,hF,h,hz=>by
  show jw g h+oG r h=0;rw[BK (gs:=r) (fun g hg=>hF g (List.mem_cons_of_mem _ hg)) fun g hg=>hz g (List.mem_cons_of_mem _ hg)];obtain⟨M,hM⟩:=(hF g List.mem_cons_self).big;have e:jw g (-(if -h<=M then M else -h))=jw g h:=(hF g List.mem_cons_self).const (by split<;>grind) fun x _ h1=>hz g List.mem_cons_self x h1;rw[<-e,(hM _ (by split<;>grind)).2];rfl
theorem jA{x:Re}{g:Po}:∀{gs:List Po},g∈gs->at' x g=0->at' x (aO gs)=0
 |y::r,h,z=>by
  show at' x (y*aO r)=0;rw[cF];rcases List.mem_cons.mp h with rfl|h
  ·rw[z];grind
  ·rw[jA h z];grind
end Po
theorem kd{t u t' u':Int}(hu:0<u)(fq:0<u')(g:Int.gcd t u=1)(g':Int.gcd t' u'=1)(e:t*u'=t'*u):t=t'/\u=u':=by
 have d1:u∣u':=Po.jl (b:=t) ⟨t',by rw[e];grind⟩ (by rw[Int.gcd_comm];exact g);have d2:u'∣u:=Po.jl (b:=t') ⟨t,by rw[<-e];grind⟩ (by rw[Int.gcd_comm];exact g');have ed:u=u':=Int.le_antisymm (Int.le_of_dvd fq d1) (Int.le_of_dvd hu d2);subst ed;exact⟨Int.eq_of_mul_eq_mul_right (Int.ne_of_gt hu) e,rfl⟩
noncomputable abbrev Q4:=Int×Int×Int×Int
noncomputable def tN(t u t' u':Int):Int:=rt (t*u'+t'*u) (2*u*u')
noncomputable def qQ(t u t' u':Int):Int:=ru (t*u'+t'*u) (2*u*u')
theorem BL{t u t' u':Int}(hu:0<u)(fq:0<u'):0<qQ t u t' u'/\Int.gcd (tN t u t' u') (qQ t u t' u')=1/\tN t u t' u'*(2*u*u')=(t*u'+t'*u)*qQ t u t' u':=by
 have hb:2*u*u'≠0:=Int.ne_of_gt (Int.mul_pos (by lia) fq);exact⟨Hc hb,K8 hb,DC hb⟩
theorem BN{t u t' u' c d:Int}(hu:0<u)(fq:0<u')(hd:0<d)(hg:Int.gcd c d=1)(e:c*(2*u*u')=(t*u'+t'*u)*d):c=tN t u t' u'/\d=qQ t u t' u':=by
 obtain⟨h1,h2,h3⟩:=BL (t:=t) (t':=t') hu fq;refine kd hd h1 hg h2 ?_;have hb:2*u*u'≠0:=Int.ne_of_gt (Int.mul_pos (by lia) fq);generalize 2*u*u'=b at*;generalize t*u'+t'*u=a at*;generalize tN t u t' u'=c' at*;generalize qQ t u t' u'=d' at*;refine Int.eq_of_mul_eq_mul_right hb ?_;have:c*d'*b=c*b*d':=by grind
 rw[this,e];have:c'*d*b=c'*b*d:=by grind
 rw[this,h3];grind
noncomputable def iw(δ:Int->Int->Int->Int->Int):Nat->Int->Int->Int->Int->List Q4
 |0,_,_,_,_=>[]
 |n+1,t,u,t',u'=>
  if δ t u t' u'=1 then[(t,u,t',u')]
  else if 1<δ t u t' u' then iw δ n t u (tN t u t' u') (qQ t u t' u')++iw δ n (tN t u t' u') (qQ t u t' u') t' u'
  else[]
theorem BO{δ:Int->Int->Int->Int->Int}{n:Nat}{t u t' u':Int}(h:δ t u t' u'=1):iw δ (n+1) t u t' u'=[(t,u,t',u')]:=if_pos h
theorem BP{δ:Int->Int->Int->Int->Int}{n:Nat}{t u t' u':Int}(h:1<δ t u t' u'):iw δ (n+1) t u t' u'=iw δ n t u (tN t u t' u') (qQ t u t' u')++iw δ n (tN t u t' u') (qQ t u t' u') t' u':=
 (if_neg (by lia)).trans (if_pos h)
theorem Eb{δ:Int->Int->Int->Int->Int}{n:Nat}{t u t' u':Int}(h:¬δ t u t' u'=1)(h2:¬1<δ t u t' u'):iw δ (n+1) t u t' u'=[]:=(if_neg h).trans (if_neg h2)
theorem jB{δ R4:Int->Int->Int->Int->Int}(h:∀t u t' u',0<u->0<u'->δ t u t' u'=R4 t u t' u'):∀(n:Nat){t u t' u':Int},0<u->0<u'->iw δ n t u t' u'=iw R4 n t u t' u'
 |0,_,_,_,_,_,_=>rfl
 |n+1,t,u,t',u',hu,fq=>by
  unfold iw;have hm:=(BL (t:=t) (t':=t') hu fq).1;rw[h t u t' u' hu fq,jB h n hu hm,jB h n hm fq]
end SF
namespace L2
open PySem PySem.Spec PyProof.Rows
section
variable {X:Cx}
end
end L2
namespace SF
open PySem
noncomputable abbrev S(l:List Nat):Str:=⟨l.toArray⟩
end SF
namespace L2
open PySem PySem.Spec PyProof.Rows
section
variable {X:Cx}
end
end L2
namespace SF
open PySem
end SF
namespace SF
open PySem PySem.Spec PyProof.Rows L2 PySem.W
section
variable {P:Program} {w:World} {H H':Hp} {h h':Heap} {a:Addr} {o:HO}
theorem fC(x:cI P w H h a o):∃ob,h.get? a=some ob:=by
 cases o with
 |lst xs=>obtain⟨_,_,_,_,e⟩:=x;exact⟨_,e⟩
 |tup xs=>obtain⟨_,_,_,ob,e,_⟩:=x;exact⟨_,e⟩
 |dK gF=>obtain⟨_,_,_,_,o,_,_,e,_⟩:=x;exact⟨_,e⟩
 |dT gF=>obtain⟨_,_,_,_,o,_,_,e,_⟩:=x;exact⟨_,e⟩
 |set S n=>obtain⟨o,_,_,_,e,_⟩:=x;exact⟨_,e⟩
 |ins C dx fs=>obtain⟨_,_,_,e,_⟩:=x;exact⟨_,e⟩
 |own y=>obtain⟨_,e⟩:=x;exact⟨_,e⟩
 |xd fs=>obtain⟨_,⟨_,_,_,e,_⟩,_⟩:=x;exact⟨_,e⟩
 |MX lo hi=>obtain⟨_,_,_,e⟩:=x;exact⟨_,e⟩
 |uO ob u=>obtain⟨e,_⟩:=x;exact⟨_,e⟩
 |oX ps=>exact⟨_,(show h.get? a=some _ from x)⟩
 |met f y=>exact⟨_,(show h.get? a=some _ from x)⟩
 |ext φ=>obtain⟨_,⟨_,e⟩,_⟩:=x;exact⟨_,e⟩
theorem ke(x:jc P w H h)(e:h.get? a=none):H a=none:=by
 cases q:H a with
 |none=>rfl
 |some u=>
  obtain⟨ob,z⟩:=fC (x a u q);rw[e] at z;cases z
theorem Ec{fs ex:List Addr}(x:jc P w H h)(k:∀b u,h.get? b=some u->h'.get? b=some u)(q:∀b u,h.get? b=some u->H' b=H b):Un fs ex H H' h h' where
 keep:=fun b u e _ _ _=>k b u e
 slot:=fun b u e _ _ _=>⟨u.slots,k b u e⟩
 free:=fun b u e n _=>(q b u e).trans n
 there:=fun b u e _=>⟨u,k b u e⟩
 oz:=fun b xs e=>by obtain⟨ob,z⟩:=fC (x b _ e);rw[q b ob z];exact e
 mH:=fun b u xs e=>by obtain⟨ob,z⟩:=fC (x b _ e);rw[q b ob z];exact e
 mI:=fun b ps e=>by obtain⟨ob,z⟩:=fC (x b _ e);exact⟨#[],by rw[q b ob z,e];simp⟩
theorem BQ(x:jc P w H h)(k:∀b u,h.get? b=some u->h'.get? b=some u)(q:∀b u,h.get? b=some u->H' b=H b)(new:∀b o,h.get? b=none->H' b=some o->cI P w H' h' b o):jc P w H' h':=fun b o e=>by
 cases z:h.get? b with
 |none=>exact new b o z e
 |some u=>
  rw[q b u z] at e;refine(x b o e).oy (fun c v _ e=>k c v e) (fun c r=>?_) fun c xs r=>?_
  ·obtain⟨ob,z⟩:=fC (x c _ r);rw[q c ob z];exact r
  ·obtain⟨ob,z⟩:=fC (x c _ r);rw[q c ob z];exact r
end
theorem BR{X:Cx}{pins:List (Addr×Obj)}{σ:L2.St}{H H':Hp}{s:Shared}{h':Heap}{t':Nat}(I:Inv X pins σ H s)(k:∀b u,s.heap.get? b=some u->h'.get? b=some u)(q:∀b u,s.heap.get? b=some u->H' b=H b)(new:∀b o,s.heap.get? b=none->H' b=some o->cI X.prog X.w H' h' b o):Inv X pins σ H' {s with heap:=h',toks:=t'}:=I.un (Ec I.bO k q) (BQ I.bO k q new)
noncomputable def dJ(a C t:Addr)(tb:Value)(d:Option Addr):HO:=.ext fun h=>∃o vs,h.get? a=some o/\o.cls=.ref C/\o.dict=d/\o.data=.fields vs/\vs.size=6/\vs[0]?=some (.ref t)/\vs[1]?=some tb
theorem tO{a C t:Addr}{tb:Value}{d:Option Addr}{P:Program}{w:World}{H:Hp}{h:Heap}{o:Obj}{vs:Array Value}(e:h.get? a=some o)(hc:o.cls=.ref C)(hd:o.dict=d)(hf:o.data=.fields vs)(h6:vs.size=6)(h0:vs[0]?=some (.ref t))(h1:vs[1]?=some tb):
 cI P w H h a (dJ a C t tb d):=
 ⟨⟨o,vs,e,hc,hd,hf,h6,h0,h1⟩,⟨o,e⟩,fun _ _ ⟨o,vs,e,r⟩ k=>⟨o,vs,k o e,r⟩⟩
noncomputable def Pp:List Value:=[.type "ValueError",.type "Exception",.type "BaseException",.type "object"]
noncomputable def BS(K:Frag)(C:Addr):Prop:=excIn K C Pp "ValueError.__new__"=true
section
variable {X:Cx} {C:Addr}
theorem Ed{K:Frag}{h:Heap}(XK:K.In h)(q:BS K C):∃bm N nm qn bs hdct sn sub ab col dd k0 k1 k2 k3 k5 mN,h.get? C=some (excClassObj nm qn C N bs bm hdct sn sub ab col dd k0 k1 k2 k3 k5 "ValueError.__new__")/\h.Ns N mN/\mN "__init__"=none/\OwnTail h Pp bm:=by
 unfold BS excIn at q;split at q
 ·rename_i dd cd sl ho;split at q
  ·rename_i C' bm k0 k1 k2 k3 n k5 hm hs;simp only[Bool.and_eq_true,beq_iff_eq,Bool.not_eq_true'] at q;obtain⟨⟨⟨⟨⟨rfl,rfl⟩,LF⟩,ht⟩,bO⟩,Nk⟩:=q;obtain⟨nm,bs,mro,ns,qn,hd,sn,sub,ab,col,del⟩:=cd
   dsimp only at hm LF bO Nk
   subst hm LF;have FI:sl=#[k0,k1,k2,k3,some (.builtin "ValueError.__new__"),k5]:=by
    obtain⟨l⟩:=sl;simp only at hs;rw[hs]
   subst FI;exact⟨bm,ns,nm,qn,bs,hd,sn,sub,ab,col,dd,k0,k1,k2,k3,k5,_,XK _ _ ho,.of_isNs (isNs_of_in XK bO),nsMap_none_of_in XK bO Nk,tail_of_in XK ht⟩
  ·cases q
 ·cases q
theorem BU{pins:List (Addr×Obj)}{σ:L2.St}{H:Hp}{s:Shared}{h':Heap}{e:Addr}{us:List Value}{vs:List V}{Q:VK}(I:Inv X pins σ H s)(r:Vals vs us)(hl:vs.length<=1000)(hm:Heap.MadeExcOf s.heap h' e (.ref C) us)(q:∀x tp,H x=none->H tp=none->x≠tp->Q (.ref x) (upd (upd H tp (.tup vs)) x (dJ x C tp .none none))):EP X pins σ Q (.ref e) {s with heap:=h'}:=by
 obtain⟨t,he,R5,ht⟩:=hm.there;have dA:e≠t:=fun z=>by subst z;rw[he] at ht;cases ht
 refine⟨.ref e,_,BR (t':=s.toks) I hm.keeps (fun b u z=>?_) (fun b o z zz=>?_),rfl,q e t (ke I.bO hm.new) (ke I.bO R5) dA⟩
 ·rw[aq (fun y=>by subst y;rw[hm.new] at z;cases z),aq (fun y=>by subst y;rw[R5] at z;cases z)]
 ·by_cases hb:b=e
  ·subst hb;rw[ai] at zz;cases zz;exact tO he rfl rfl rfl rfl rfl rfl
  ·rw[aq hb] at zz;by_cases Fs:b=t
   ·subst Fs;rw[ai] at zz;cases zz;exact⟨cD hl,us,r,_,ht,rfl,_,rfl⟩
   ·rw[aq Fs] at zz;rw[ke I.bO z] at zz;cases zz
end
end SF
namespace SF
open PySem PySem.Spec PyProof.Rows L2 PySem.W
section
variable {prog:Program} {w:World} {A:Around} {E:Value->Shared->Prop} {s:Shared} {K:Frag} {x C:Addr} {ox:Obj} {od:Option Obj} {name:Str} {tk:Tok}
theorem BV:builtinKind "BaseException.__getattribute__"=some .slot:=by decide +kernel
theorem zl:splitId "BaseException.__getattribute__"=some ("BaseException","__getattribute__"):=by decide +kernel
theorem BW{R:Result->Shared->Prop}(XK:K.In s.heap)(I:InstAt s.heap x ox C od)(hb:subIn K (.ref C) (.type "BaseException")=some true)(h:wpAny (model prog w) A.in1 (Builtin.«object.__getattribute__» ⟨[.ref x,.str name tk],[]⟩) (fun fin s'=>match fin with|.done f=>R (.ok f) s'|.again c'=>c'.quiet=true/\codeAny (model prog w) A c' R s') (fun e s'=>R (.error e) s') s):
 codeAny (model prog w) A (.call (.builtin "BaseException.__getattribute__") ⟨[.ref x,.str name tk],[]⟩) R s:=by
 have sub:Looks (model prog w) s.heap (isInstance (.ref x) (.type "BaseException")) true:=I.type.andThen (looks_subIn XK hb);exact codeAny_call_builtin PySem.F.attr_ValueError.ga.plain PySem.F.entry_bexc_ga (@check_slot (model prog w) _ _ s "BaseException.__getattribute__" "BaseException" "__getattribute__" (.ref x) [.str name tk] [] _ BV zl sub (PySem.F.args_bexc_ga (.ref x) (.str name tk)) h)
theorem zm{Q:Fin->Shared->Prop}(XK:K.In s.heap)(I:InstAt s.heap x ox C od)(hf:findObj K C od "__class__"=some (.bind (.builtin "getset_descriptor.__get__") (.builtin "object.__class__")))(hm:mroIn K C (.type "object")=some true)(h:Q (.done (.ret (.ref C))) s):
 wpAny (model prog w) A (Builtin.«object.__getattribute__» ⟨[.ref x,.str "__class__" tk],[]⟩) Q E s:=by
 have L0:=I.type (M:=model prog w);have L1:=looks_find (M:=model prog w) XK I hf;refine wpAny_bind (wpAny_pure (wpAny_bind (wpAny_pure (wpAny_bind (L0.here (wpAny_bind (L1.here ?_)))))));show wpAny _ _ (holding [.builtin "object.__class__"] (call (.builtin "getset_descriptor.__get__") [.builtin "object.__class__",.ref x,.ref C]) >>= ret) _ _ _;exact wpAny_bind (wpAny_holding (wpAny_call (class_get XK I hm (wpAny_pure h))))
theorem Ih:(Value.builtin "BaseException.__getattribute__"==Value.builtin "object.__getattribute__")=false:=by decide +kernel
theorem Vp{fill expr:Bool}{Q:Value->Shared->Prop}(XK:K.In s.heap)(I:InstAt s.heap x ox C od)(Vq:findIn K (.ref C) "__getattribute__"=some (some (.builtin "BaseException.__getattribute__")))(Vr:findIn K (.ref C) "__getattr__"=some none)(hb:subIn K (.ref C) (.type "BaseException")=some true)(h:∀A' E',wpAny (model prog w) A' (Builtin.«object.__getattribute__» ⟨[.ref x,.str name tk],[]⟩) (fun fin s'=>∃v,fin=.done (.ret v)/\handedIn v=true/\Q v s') E' s):
 wpAny (model prog w) A (getAttrBy (.ref x) (.str name tk) fill expr) Q E s:=by
 have L0:=I.type (M:=model prog w);have L1:=looks_findIn (M:=model prog w) XK Vq;have L2:=looks_findIn (M:=model prog w) XK Vr;have C3:(expr&&onTheHeap (Value.builtin "BaseException.__getattribute__"))=false:=by cases expr<;>rfl
 have oH:(onTheHeap (Value.ref C)&&Value.builtin "BaseException.__getattribute__"==Value.builtin "object.__getattribute__")=false:=by rw[Ih];rfl
 unfold getAttrBy;refine wpAny_holding (wpAny_bind (L0.here (wpAny_bind (L1.here ?_))));show wpAny _ _ (if(onTheHeap (Value.ref C)&&Value.builtin "BaseException.__getattribute__"==Value.builtin "object.__getattribute__")=true then _ else _) _ _ _;rw[oH,if_neg (by decide)];unfold getAttrByItsOwn;refine wpAny_bind ?_;show wpAny _ _ (typeLookup (.ref C) "__getattr__") _ _ _;refine L2.here (wpAny_bind (wpAny_attempt (wpAny_holding ?_)));unfold callGetattribute;rw[C3,if_neg (by decide)];unfold boundAndCalled;rw[PySem.F.attr_ValueError.ga.bind (.ref x)];refine wpAny_bind (wpAny_pure (wpAny_call (BW XK I hb (wpAny_mono (h _ _) (fun fin s' z=>?_) fun _ _ z=>z))));obtain⟨v,rfl,hh,q⟩:=z;show wpAny _ _ (handedOut v) _ _ _;rw[handedOut_of hh];exact wpAny_pure q
end
end SF
namespace SF
open PySem PySem.Spec PyProof.Rows L2 PySem.W
structure Ee(K:Frag)(D:Addr):Prop where
 ga:findIn K (.ref D) "__getattribute__"=some (some (.builtin "BaseException.__getattribute__"))
 gk:findIn K (.ref D) "__getattr__"=some none
 base:subIn K (.ref D) (.type "BaseException")=some true
 cls:findIn K (.ref D) "__class__"=some (some (.builtin "object.__class__"))
 Pq:specialIn K (.builtin "object.__class__") "__get__"=some (some (.builtin "getset_descriptor.__get__"))
 LG:takesIn K (.builtin "object.__class__")=some true
 obj:mroIn K D (.type "object")=some true
 Pu:hasDictIn K D=true
 str:findIn K (.ref D) "__str__"=some (some (.builtin "BaseException.__str__"))
section
variable {prog:Program} {w:World} {A:Around} {E:Value->Shared->Prop} {s:Shared} {K:Frag} {x C D:Addr} {ox:Obj} {od:Option Obj} {name:Str} {tk:Tok}
theorem BX(F:Ee K D):KitX K (.ref x) (.ref D) (fun h=>∃ox od,InstAt h x ox D od) where
 ty:=fun _ _ _ ⟨_,_,I⟩=>I.type
 it:=fun _ _ X _=>by
  obtain⟨Vs,Ii,_⟩:=any_some F.Pu;unfold clsIn at Ii;split at Ii
  ·rename_i c' d' Vt NX ho;intro A' Q' E' s' k q;unfold isType loadHead;exact wpAny_bind (wpAny_loadPart (k _ _ (X _ _ ho)) (wpAny_pure q))
  ·cases Ii
 ne:=fun h tp dd aK n sl X Vu=>by
  obtain⟨Vs,Ii,_⟩:=any_some F.Pu;refine Bool.eq_false_iff.mpr fun q=>?_;have e:D=tp:=Value.ref.inj (beq_iff_eq.mp q);subst e;unfold clsIn at Ii;split at Ii
  ·rename_i c' d' Vt NX ho;have z:=(X _ _ ho).symm.trans Vu;cases z
  ·cases Ii
 ca:=fun{prog w A E Q s} X⟨ox,od,I⟩ k=>by
  have hf:findObj K D od "__class__"=some (.bind (.builtin "getset_descriptor.__get__") (.builtin "object.__class__")):=by
   obtain⟨cd,hc,_⟩:=any_some F.Pu;unfold findObj;simp only[hc,F.cls,F.Pq,F.LG,Option.bind_some]
  unfold getAttr? getAttrBy?;refine wpAny_bind (wpAny_mkText (wpAny_bind (wpAny_attempt ?_)));refine Vp (s:={s with toks:=s.toks+1}) X I F.ga F.gk F.base fun A' E'=>?_;refine zm (s:={s with toks:=s.toks+1}) X I hf F.obj ⟨_,rfl,rfl,?_⟩;exact wpAny_pure k
end
end SF
namespace SF
open PySem PySem.Spec PyProof.Rows L2 PySem.W
noncomputable def uR(T:Addr)(fl:Value):HO:=.ext fun h=>∃o ts,h.get? T=some o/\o.data=.fields ts/\ts[3]?=some fl
theorem FJ{T:Addr}{fl:Value}{P:Program}{w:World}{H:Hp}{h:Heap}{o:Obj}{ts:Array Value}(e:h.get? T=some o)(hd:o.data=.fields ts)(h3:ts[3]?=some fl):cI P w H h T (uR T fl):=
 ⟨⟨o,ts,e,hd,h3⟩,⟨o,e⟩,fun _ _ ⟨o,ts,e,r⟩ k=>⟨o,ts,k o e,r⟩⟩
section
variable {M:Model} {A:Around} {E:Value->Shared->Prop} {s:Shared} {base:Heap} {env:Env} {outer:List Env} {L e:Addr} {oe:Obj} {vs:Array Value} {head:Value} {Q:Unit->Shared->Prop}
structure FK(fs:List Addr)(e:Addr)(oe:Obj)(fl:Value)(h h':Heap)(T:Addr):Prop where
 new:h.get? T=none
 ent:∃oT ts,h'.get? T=some oT/\oT.data=.fields ts/\ts[3]?=some fl
 ne:T≠e
 exc:h'.get? e=some (Obj.mapFields (·.setIfInBounds 1 (.ref T)) oe)
 keep:∀b o,b≠e->b∉fs->h.get? b=some o->h'.get? b=some o
 slot:∀b o,b≠e->h.get? b=some o->∃sl,h'.get? b=some {o with slots:=sl}
theorem pQ{Ef:Bool}(sv:A.frames=some (env::outer))(hl:s.heap.FunFrames base (env::outer))(hf:env.frame=some L)(he:s.heap.get? e=some oe)(hd:oe.data=.fields vs)(hsz:1<vs.size)(h:∀h' T,FK (rH (env::outer)) e oe (rawInt L) s.heap h' T->Q () {s with heap:=h'}):
 wpAny M A (do let a<-frameOf env;let pl<-entryPlaceOf L Ef;let b<-EntryCells.newEntry head a .none (rawInt L) .none pl;setField (.ref e) 1 b) Q E s:=by
 have Pw:e∉(env::outer).filterMap (·.frame):=fun hm=>by
  obtain⟨_,o,ho,Vv⟩:=hl.mem hm;rw[he] at ho;injection ho with ho;subst ho;exact Vv vs hd
 refine wpAny_bind (wpAny_frameOf_fun sv hl hf fun iu xY=>?_);refine wpAny_bind (wpAny_entryPlaceOf fun pl r_=>?_);unfold EntryCells.newEntry newFields;refine wpAny_bind (wpAny_newObj_type ?_ (r_.sizeOk5 _ _ _ _ _));have FL:iu.get? e=some oe:=(xY.2.1 e Pw).trans he;generalize R6:({cls:=.type "traceback",dict:=none,data:=.fields ([head,.ref L,.none,rawInt L,.none]++(if pl.isEmpty then List.replicate 6 Value.none else pl)).toArray}:Obj)=oT;have FN:=Heap.get?_push_of_some (h:=iu) oT FL;refine wpAny_setField FN hd hsz ?_;have Py:iu.objs.size≠e:=Nat.ne_of_gt (Heap.lt_size FL);have LH:=Obj.data_mapFields hd (·.setIfInBounds 1 (Value.ref iu.objs.size));have LI:=Heap.get?_update_self (Obj.mapFields (·.setIfInBounds 1 (Value.ref iu.objs.size))) FN (Obj.isFreed_of_fields LH);have LJ:=(Heap.get?_update_other (iu.push oT) (Obj.mapFields (·.setIfInBounds 1 (Value.ref iu.objs.size))) (Ne.symm Py)).trans (Heap.get?_push_size iu (by subst R6;rfl));have keep:∀b o,b≠e->iu.get? b=some o->((iu.push oT).update e (Obj.mapFields (·.setIfInBounds 1 (Value.ref iu.objs.size)))).get? b=some o:=fun b o rO hb=>by
  rw[Heap.get?_update_other _ _ (Ne.symm rO)];exact Heap.get?_push_of_some _ hb
 refine h _ iu.objs.size ⟨Heap.get?_none_of_le (by rw[xY.1];exact Nat.le_refl _),⟨oT,_,LJ,by subst R6;rfl,by first|(simp;done)|(rcases r_ with rfl|⟨_,_,_,_,_,_,_,rfl⟩<;>simp)⟩,Py,LI,fun b o rO JD hb=>keep b o rO ((xY.2.1 b JD).trans hb),fun b o rO hb=>?_⟩;obtain⟨sl,q⟩:=xY.2.2 b o hb;exact⟨sl,keep b _ rO q⟩
theorem vN{o:Obj}{ts:Array Value}{i:Nat}{x:Value}(hd:o.data=.fields ts)(h3:ts[i]?=some x):Obj.mapFields (·.setIfInBounds i x) o=o:=by
 obtain⟨c,d,dt,sl⟩:=o;subst hd;have:ts.setIfInBounds i x=ts:=by
  apply Array.ext_getElem?;intro j;rw[Array.getElem?_setIfInBounds];by_cases q:i=j
  ·subst q;rw[if_pos rfl,h3];have:=(Array.getElem?_eq_some_iff.mp h3).1;simp[this]
  ·rw[if_neg q]
 simp only[Obj.mapFields,this]
theorem BY(sv:A.frames=some (env::outer))(hl:s.heap.FunFrames base (env::outer))(hf:env.frame=some L)(he:s.heap.get? e=some oe)(hd:oe.data=.fields vs)(h1:vs[1]?=some head)(hh:head=.none\/∃T oT ts,head=.ref T/\T≠e/\s.heap.get? T=some oT/\oT.data=.fields ts/\ts[3]?=some .none)(h:∀h' T,FK (rH (env::outer)) e oe (rawInt L) s.heap h' T->Q () {s with heap:=h'}):wpAny M A (noteFrame (.ref e) env) Q E s:=by
 have hsz:1<vs.size:=(Array.getElem?_eq_some_iff.mp h1).1;unfold noteFrame;simp only[hf];refine wpAny_bind (wpAny_field he hd h1 ?_);rcases hh with rfl|⟨T,oT,ts,rfl,Py,hT,FO,h3⟩
 ·rw[if_neg (by decide)];exact pQ sv hl hf he hd hsz h
 ·rw[if_pos (show(Value.ref T !=Value.none)=true from by simp)];refine wpAny_bind (wpAny_field hT FO h3 ?_);rw[if_neg (show ¬((Value.none==rawInt L)=true) from by simp[rawInt])];refine wpAny_bind (wpAny_setField hT FO (Array.getElem?_eq_some_iff.mp h3).1 ?_);have same:∀b,(s.heap.update T (Obj.mapFields (·.setIfInBounds 3 Value.none))).get? b=s.heap.get? b:=fun b=>by
   by_cases q:b=T
   ·subst q;rw[Heap.get?_update_self _ hT (Obj.isFreed_of_fields (Obj.data_mapFields FO _)),hT,vN FO h3]
   ·exact Heap.get?_update_other _ _ (Ne.symm q)
  refine pQ (base:=base) sv (hl.of_keeps fun b o hb _=>⟨o,(same b).trans hb,rfl⟩) hf ((same e).trans he) hd hsz fun h' T' N=>h h' T' ?_;exact⟨(same _).symm.trans N.new,N.ent,N.ne,N.exc,fun b o rO JD hb=>N.keep b o rO JD ((same b).trans hb),fun b o rO hb=>N.slot b o rO ((same b).trans hb)⟩
theorem vO{T:Addr}{oT:Obj}{ts:Array Value}{fl:Value}(he:s.heap.get? e=some oe)(hd:oe.data=.fields vs)(h1:vs[1]?=some (.ref T))(hT:s.heap.get? T=some oT)(FO:oT.data=.fields ts)(h3:ts[3]?=some fl)(h:∀h',(∃Pz PC,h'.get? T=some Pz/\Pz.data=.fields PC/\PC[3]?=some .none)->(∀b,b≠T->h'.get? b=s.heap.get? b)->Q () {s with heap:=h'}):wpAny M A (setFlight (.ref e) none) Q E s:=by
 have hsz:=(Array.getElem?_eq_some_iff.mp h3).1;unfold setFlight;refine wpAny_bind (wpAny_field he hd h1 ?_);rw[if_pos (show(Value.ref T !=Value.none)=true from by simp)];refine wpAny_setField hT FO hsz (h _ ⟨_,_,Heap.get?_update_self _ hT (Obj.isFreed_of_fields (Obj.data_mapFields FO _)),Obj.data_mapFields FO _,by simp[hsz]⟩ fun b hb=>Heap.get?_update_other _ _ (Ne.symm hb))
end
noncomputable def zo(H:Hp)(a:Addr)(tb:Value):Prop:=tb=.none\/∃T,tb=.ref T/\T≠a/\H T=some (uR T .none)
noncomputable def Sub(a:Addr)(H1 H':Hp):Prop:=∀b o,b≠a->H1 b=some o->H' b=some o
theorem Sub.refl{a:Addr}{H:Hp}:Sub a H H:=fun _ _ _ e=>e
theorem Sub.trans{a:Addr}{H1 H2 H3:Hp}(x:Sub a H1 H2)(y:Sub a H2 H3):Sub a H1 H3:=fun b o n e=>y b o n (x b o n e)
section
variable {X:Cx} {pins:List (Addr×Obj)} {σ:L2.St} {H:Hp} {s:Shared} {a C t T:Addr} {tb fl:Value} {d:Option Addr} {E:Value->Shared->Prop} {Q:Unit->Shared->Prop}
theorem mE{P:Program}{w:World}{h:Heap}(x:jc P w H h)(ha:H a=some (dJ a C t tb d)):∃o vs,h.get? a=some o/\o.cls=.ref C/\o.dict=d/\o.data=.fields vs/\vs.size=6/\vs[0]?=some (.ref t)/\vs[1]?=some tb:=(x a _ ha).1
theorem BZ{P:Program}{w:World}{h:Heap}(x:jc P w H h)(ha:H T=some (uR T fl)):∃o ts,h.get? T=some o/\o.data=.fields ts/\ts[3]?=some fl:=(x T _ ha).1
theorem tP(rT:X.stack=X.env::X.outer)(sv:X.env.frame=some X.env.locals)(I:Inv X pins σ H s)(ha:H a=some (dJ a C t tb d))(ht:zo H a tb)(k:∀s' T,H T=none->T≠a->Inv X pins σ (upd (upd H a (dJ a C t (.ref T) d)) T (uR T (rawInt X.env.locals))) s'->Q () s'):wpAny (model X.prog X.w) X.A (noteFrame (.ref a) X.env) Q E s:=by
 obtain⟨o,vs,e,hc,hd,hf,h6,h0,h1⟩:=mE I.bO ha;have PD:X.A.frames=some (X.env::X.outer):=by rw[<-rT];exact I.ok.frames
 have PF:s.heap.FunFrames X.base (X.env::X.outer):=by rw[<-rT];exact I.stack
 have free:∀b∈rH (X.env::X.outer),H b=none:=by rw[<-rT];exact I.qd
 refine BY PD PF sv e hf h1 ?_ fun h' T N=>?_
 ·rcases ht with rfl|⟨T,rfl,n,q⟩
  ·exact .inl rfl
  ·obtain⟨oT,ts,x,y,z⟩:=BZ I.bO q;exact .inr ⟨T,oT,ts,rfl,n,x,y,z⟩
 ·have JE:H T=none:=ke I.bO N.new;obtain⟨oT,ts,x1,x2,x3⟩:=N.ent;have JF:∀b u,H b=some u->(∀φ,u≠.ext φ)->b≠a:=fun b u q n z=>by subst z;rw[ha] at q;cases q;exact n _ rfl
  have neT:∀b u,H b=some u->b≠T:=fun b u q z=>by subst z;rw[JE] at q;cases q
  have Ij:∀b,H b=none->b≠a:=fun b q z=>by subst z;rw[ha] at q;cases q
  have un:Un (rH X.stack) [] H (upd (upd H a (dJ a C t (.ref T) d)) T (uR T (rawInt X.env.locals))) s.heap h':=by
   rw[rT];exact⟨fun b ob q n hb _=>N.keep b ob (Ij b n) hb q,fun b ob q n _ _=>N.slot b ob (Ij b n) q,fun b ob q n _=>by rw[aq (fun z=>by subst z;rw[N.new] at q;cases q),aq (Ij b n)];exact n,
    fun b ob q _=>by
     by_cases z:b=a
     ·subst z;exact⟨_,N.exc⟩
     ·obtain⟨sl,q⟩:=N.slot b ob z q;exact⟨_,q⟩,
    fun b xs q=>by rw[aq (neT b _ q),aq (JF b _ q (fun _ z=>nomatch z))];exact q,fun b u xs q=>by rw[aq (neT b _ q),aq (JF b _ q (fun _ z=>nomatch z))];exact q,
    fun b ps q=>⟨#[],by rw[aq (neT b _ q),aq (JF b _ q (fun _ z=>nomatch z)),q];simp⟩⟩
  have bO:jc X.prog X.w (upd (upd H a (dJ a C t (.ref T) d)) T (uR T (rawInt X.env.locals))) h':=fun b u q=>by
   by_cases R7:b=T
   ·subst R7;rw[ai] at q;cases q;exact FJ x1 x2 x3
   ·rw[aq R7] at q;by_cases pC:b=a
    ·subst pC;rw[ai] at q;cases q;refine tO N.exc ((Obj.cls_mapFields _ _).trans hc) ?_ (Obj.data_mapFields hf _) (by simp[h6]) (by rw[Array.getElem?_setIfInBounds_ne (by decide)];exact h0) (by simp[h6]);obtain⟨cc,dd,dt,sl⟩:=o;simp only at hf;subst hf;exact hd
    ·rw[aq pC] at q;refine(I.bO b u q).oy (fun c v hc e=>?_) (fun c r=>by rw[aq (neT c _ r),aq (JF c _ r (fun _ z=>nomatch z))];exact r) fun c xs r=>by rw[aq (neT c _ r),aq (JF c _ r (fun _ z=>nomatch z))];exact r
     refine N.keep c v ?_ (fun z=>?_) e
     ·rcases hc with rfl|hc
      ·exact pC
      ·exact JF c _ hc (fun _ z=>nomatch z)
     ·have:=free c z;rcases hc with rfl|hc
      ·rw[this] at q;cases q
      ·rw[this] at hc;cases hc
  exact k _ T JE N.ne (I.call (g':=s.gens) (d':=s.drawn) (t':=s.toks) (ch:=[]) un bO I.bare (fun b z=>absurd z (by simp)))
theorem Ik:Jk (some (uR T fl)):=trivial
theorem nM(I:Inv X pins σ H s)(ha:H a=some (dJ a C t (.ref T) d))(hT:H T=some (uR T fl))(k:∀s',Inv X pins σ (upd H T (uR T .none)) s'->Q () s'){A:Around}:wpAny (model X.prog X.w) A (setFlight (.ref a) none) Q E s:=by
 obtain⟨o,vs,e,hc,hd,hf,h6,h0,h1⟩:=mE I.bO ha;obtain⟨oT,ts,x,y,z⟩:=BZ I.bO hT;refine vO e hf h1 x y z fun h'⟨Pz,PC,p,q,r⟩ other=>?_;have keep:∀b u,b≠T->s.heap.get? b=some u->h'.get? b=some u:=fun b u n e=>(other b n).trans e;have mu:Jk (H T):=by rw[hT];exact Ik
 exact k _ (I.un (t':=s.toks) (Un.write mu (.inl rfl) keep ⟨_,p⟩) (I.bO.write mu (.inl rfl) keep ⟨_,p⟩ (FJ p q r)))
theorem pR(rT:X.stack=X.env::X.outer)(sv:X.env.frame=some X.env.locals)(I:Inv X pins σ H s)(ha:H a=some (dJ a C t tb d))(ht:zo H a tb)(k:∀s' H' T,Inv X pins σ H' s'->H' a=some (dJ a C t (.ref T) d)->zo H' a (.ref T)->Sub a H H'->Q () s'):wpAny (model X.prog X.w) X.A (leaving X.env (.ref a)) Q E s:=by
 unfold leaving;refine wpAny_bind (tP rT sv I ha ht fun s1 T JE dA I1=>?_);refine nM (T:=T) (fl:=rawInt X.env.locals) (C:=C) (t:=t) (d:=d) I1 (by rw[aq (Ne.symm dA),ai]) (by rw[ai]) fun s2 I2=>?_;rw[wL] at I2;refine k s2 _ T I2 (by rw[aq (Ne.symm dA),ai]) (.inr ⟨T,rfl,dA,by rw[ai]⟩) fun b o n e=>?_;rw[aq (fun z=>by subst z;rw[JE] at e;cases e),aq n];exact e
end
noncomputable def C4(P:Program)(w:World):ow:=fun outer H s E e s'=>∃a C t tb d H1 H' rM,e=.ref a/\s'.os=s.os/\AllBare s'.gens/\Un (rH outer) [] H H' s.heap s'.heap/\jc P w H' s'.heap/\
 H' a=some (dJ a C t tb d)/\zo H' a tb/\Sub a H1 H'/\H1 a=some (dJ a C t rM d)/\E (.ref C) d H1
noncomputable def gD(X:Cx)(E:XK):Prop:=∀pins σ H' s' a C t tb d H1 rM,Inv X pins σ H' s'->H' a=some (dJ a C t tb d)->zo H' a tb->Sub a H1 H'->H1 a=some (dJ a C t rM d)->E (.ref C) d H1->X.xe (.ref a) s'
theorem gD.passes{X:Cx}{E:XK}(h:gD X E):Passes (C4 X.prog X.w) X E:=fun pins σ H s e s' I⟨a,C,t,tb,d,H1,H',rM,r,os,bare,un,bO,ha,ht,hs,h1,hE⟩=>by
 subst r;exact h pins σ H' s' a C t tb d H1 rM (I.E3 (ch:=[]) os un bO bare fun b z=>absurd z (by simp)) ha ht hs h1 hE
noncomputable def Il(C:Addr)(E:XK)(t:TA):TS:=fun _ σ H=>t σ H fun vs H1=>vs.length<=1000/\∀x tp,H1 x=none->H1 tp=none->x≠tp->E (.ref C) none (upd (upd H1 tp (.tup vs)) x (dJ x C tp .none none))
theorem zp{X:Cx}{C:Addr}{pins:List (Addr×Obj)}{σ:L2.St}{H:Hp}{s:Shared}{h':Heap}{e:Addr}{us:List Value}{vs:List V}(I:Inv X pins σ H s)(r:Vals vs us)(hl:vs.length<=1000)(hm:Heap.MadeExcOf s.heap h' e (.ref C) us):
 ∃tp,H e=none/\H tp=none/\e≠tp/\Inv X pins σ (upd (upd H tp (.tup vs)) e (dJ e C tp .none none)) {s with heap:=h'}:=by
 obtain⟨v,H',I',rv,x,tp,e1,e2,e3,rfl,e4⟩:=BU (Q:=fun v H'=>∃x tp,H x=none/\H tp=none/\x≠tp/\v=.ref x/\H'=upd (upd H tp (.tup vs)) x (dJ x C tp .none none)) I r hl hm fun x tp a b c=>⟨x,tp,a,b,c,rfl,rfl⟩;have:e=x:=Value.ref.inj rv;subst this e4;exact⟨tp,e1,e2,e3,I'⟩
theorem B0{X:Cx}{C:Addr}{E:XK}{x:Str}{p kG pos:Pos}{e:Expr}{es:List Expr}{t:TA}(hE:gD X E)(LK:X.calm=true)(hg:Gl X x)(hm:X.mg x=some (.ref C))(hc:BS X.K C)(ha:PA X (e::es) t)(u5:(x==("__debug__":Str))=false:=by decide)(he:starEach (e::es) X.env=(false,eval e X.env)::starEach es X.env:=by rfl)(r_:(backTo kG (starEach (e::es) X.env)).any (·.1)=false:=by rfl):
 L2.PS X (.Raise (some (.Call (.Name x p) (e::es) [] kG)) none pos) (Il C E t):=by
 intro pins s σ H D I h;obtain⟨bm,N,nm,qn,bs,hdct,sn,sub,ab,col,dd,k0,k1,k2,k3,k5,mN,hC,hN,Nk,TL⟩:=Ed I.ok.mod.Gv hc;refine wpAny_Raise_call_subU (N:=N) (bm:=bm) (nm:=nm) (q:=qn) (bs:=bs) (hdct:=hdct) (sn:=sn) (sub:=sub) (ab:=ab) (col:=col) (dd:=dd) (k0:=k0) (k1:=k1) (k2:=k2) (k3:=k3) (k5:=k5) (C:=C) (mN:=mN) PySem.F.excBase_ValueError (by decide) PySem.F.excBase_ValueError (TL.hasType (by decide)) (I.ok.hd LK) r_ Nk
  (jd I hg hm ⟨rfl,?_⟩ u5)
 rw[he];refine Calls.evalArgs_plain ?_;have R8:=ha kG pins s σ H _ I h;rw[he] at R8;refine c_ R8 fun us s1⟨vs,H1,I1,r,hl,q⟩=>?_;have Vw:us.length<=1000:=by rw[<-r.length];exact hl
 refine⟨rfl,cD Vw,I1.bk _ _ hC,hN.keeps I1.bk,TL.keeps I1.bk,fun h' x hm=>?_⟩;obtain⟨tp,e1,e2,e3,I2⟩:=zp I1 r hl hm;exact hE pins σ _ _ x C tp .none none _ .none I2 (by rw[ai]) (.inl rfl) Sub.refl (by rw[ai]) (q x tp e1 e2 e3)
end SF
namespace SF
open PySem PySem.Spec PyProof.Rows L2 PySem.W
structure dG(cm:Bool)(k:Nat)(A:Around):Prop where
 hd:cm=true->A.handled=none
 dp:A.depth+3*k+5<recursionLimit
 un:A.units+16*k+200<cLine
section
variable {cm:Bool} {j k:Nat} {A:Around}
theorem FP(r:fi k A):dG cm k A:=⟨fun _=>r.hd,r.dp,r.un⟩
theorem dG.calm(r:dG true k A):fi k A:=⟨r.hd rfl,r.dp,r.un⟩
theorem dG.deeper(r:dG cm (k+1) A)(env:Env):dG cm k (A.deeper env):=
 ⟨r.hd,by have:=r.dp;show A.depth+1+3*k+5<_;lia,by have:=r.un;show A.units+3+16*k+200<_;lia⟩
theorem dG.mono(r:dG cm k A)(h:j<=k):dG cm j A:=⟨r.hd,by have:=r.dp;lia,by have:=r.un;lia⟩
theorem dG.mark{v:Option Value}(r:dG cm k A):dG false k (A.mark v):=⟨nofun,r.dp,r.un⟩
theorem dG.depth(r:dG cm k A):A.depth<recursionLimit:=by have:=r.dp;lia
end
section
variable {X:Cx} {pins:List (Addr×Obj)} {σ:L2.St} {H:Hp} {s:Shared}
noncomputable abbrev PH(X:Cx)(A:Around)(cm:Bool)(E:Value->Shared->Prop):Cx:={X with A:=A,calm:=cm,xe:=E}
theorem B3{A:Around}{cm:Bool}{E:Value->Shared->Prop}(I:Inv X pins σ H s)(hf:A.frames=some X.stack)(hh:cm=true->A.handled=none):Inv (PH X A cm E) pins σ H s:=
 ⟨⟨I.ok.mod,I.ok.kind,I.ok.glob,I.ok.blt,I.ok.above,I.ok.inj,I.ok.has,I.ok.EZ,hh,hf,I.ok.Gw,I.ok.JZ,I.ok.bs,I.ok.yx,I.ok.rQ,I.ok.uS,I.ok.jo,I.ok.z_⟩,I.os,I.bare,I.base,I.loc,I.cell,I.free,I.fj,I.pin,I.bO,I.len⟩
theorem kf{A:Around}{cm:Bool}{E:Value->Shared->Prop}(ok:X.Ok)(I:Inv (PH X A cm E) pins σ H s):Inv X pins σ H s:=⟨ok,I.os,I.bare,I.base,I.loc,I.cell,I.free,I.fj,I.pin,I.bO,I.len⟩
noncomputable abbrev tQ(X:Cx)(pins:List (Addr×Obj))(E:XK):Cx:={X with pn:=X.pn++pins,xe:=fun e s'=>∃a C t tb d σ H1 H' rM,e=.ref a/\Inv X pins σ H' s'/\H' a=some (dJ a C t tb d)/\zo H' a tb/\Sub a H1 H'/\H1 a=some (dJ a C t rM d)/\E (.ref C) d H1}
theorem nN{E:XK}{mK:List (Addr×Obj)}(I:Inv (tQ X pins E) mK σ H s):Inv X pins σ H s:=
 ⟨⟨I.ok.mod,I.ok.kind,I.ok.glob,I.ok.blt,I.ok.above,I.ok.inj,I.ok.has,I.ok.EZ,I.ok.hd,I.ok.frames,I.ok.Gw,I.ok.JZ,I.ok.bs,I.ok.yx,I.ok.rQ,I.ok.uS,I.ok.jo,I.ok.z_⟩,I.os,I.bare,I.base,I.loc,I.cell,I.free,I.fj,
  fun p hp=>I.pin p (List.mem_append_left _ hp),I.bO,I.len⟩
theorem Im{E:XK}(I:Inv X pins σ H s):Inv (tQ X pins E) [] σ H s:=
 ⟨⟨I.ok.mod,I.ok.kind,I.ok.glob,I.ok.blt,I.ok.above,I.ok.inj,I.ok.has,I.ok.EZ,I.ok.hd,I.ok.frames,I.ok.Gw,I.ok.JZ,I.ok.bs,I.ok.yx,I.ok.rQ,I.ok.uS,I.ok.jo,I.ok.z_⟩,I.os,I.bare,I.base,I.loc,I.cell,I.free,I.fj,
  fun p hp=>I.pin p (by rcases List.mem_append.mp hp with z|z;exact z;cases z),I.bO,I.len⟩
theorem vP{E:XK}:gD (tQ X pins E) E:=fun _ σ H' _ a C t tb d H1 rM I ha ht hs h1 hE=>⟨a,C,t,tb,d,σ,H1,H',rM,rfl,nN I,ha,ht,hs,h1,hE⟩
noncomputable abbrev jm(X:Cx)(a:Addr):Cx:=PH X (X.A.mark (some (.ref a))) false fun _ _=>False
theorem B4{a:Addr}(I:Inv X pins σ H s):Inv (jm X a) pins σ H s:=B3 I I.ok.frames nofun
theorem B5{i:Nat}{n:Str}{h':Heap}{v:Option Value}{m:Str->Option Value}{tk:Nat}(I:Inv X pins σ H s)(hN:X.N.Nodup)(hi:X.N[i]?=some n)(hl:X.env.kindOf n=some .local)(hm:∀(j:Nat)(x:Str)(v:V),X.N[j]?=some x->σ[j]?=some (some v)->JY X.env.scope x->∃u,RelV v u/\Look X.env s.heap m x u)(hn:h'.Ns X.env.locals (fun x=>if x=n then v else m x))(hs:Heap.SameBut X.env.locals s.heap h'):Inv X pins (σ.set i none) H {s with heap:=h',toks:=tk}:=by
 have Df:i<σ.length:=by rw[I.len];exact(List.getElem?_eq_some_iff.mp hi).1
 have old:∀b o,X.fh.heap.get? b=some o->b≠X.env.locals:=fun b o e=>Nat.ne_of_lt (Nat.lt_of_lt_of_le (Heap.lt_size e) I.ok.above);refine⟨I.ok,I.os,I.bare,⟨fun b o e n hb hx=>(hs.2 b (old b o e)).trans (I.base.keep b o e n hb hx),fun b o e n hb hx=>?_,I.base.free,fun b o e hx=>?_,I.base.oz,I.base.mH,I.base.mI⟩,⟨_,hn,fun j y v' e1 e2 e3=>?_⟩,fun y c e=>?_,I.free,I.fj,fun p hp=>?_,fun b o e=>?_,by simpa using I.len⟩
 ·obtain⟨sl,e1⟩:=I.base.slot b o e n hb hx;exact⟨sl,(hs.2 b (old b o e)).trans e1⟩
 ·obtain⟨o',e1⟩:=I.base.there b o e hx;exact⟨o',(hs.2 b (old b o e)).trans e1⟩
 ·by_cases hj:j=i
  ·subst hj;rw[List.getElem?_set_self Df] at e2;cases e2
  ·rw[List.getElem?_set_ne (Ne.symm hj)] at e2;obtain⟨u',r',q⟩:=hm j y v' e1 e2 e3;refine⟨u',r',?_⟩;rcases q with⟨k,e⟩|⟨k,c,e,z⟩
   ·have ne:y≠n:=fun e=>hj (mL hN e1 (e▸hi));exact .inl ⟨k,(show(if y=n then v else m y)=some u' from(if_neg ne).trans e)⟩
   ·exact .inr ⟨k,c,e,z.sameBut hs (I.De y c e)⟩
 ·obtain⟨w',z⟩:=I.cell y c e;exact⟨w',z.sameBut hs (I.De y c e)⟩
 ·obtain⟨e,n,ne,nf,d⟩:=I.pin p hp;exact⟨(hs.2 p.1 ne).trans e,n,ne,nf,d⟩
 ·refine(I.bO b o e).oy (fun c v hc q=>(hs.2 c ?_).trans q) (fun _ q=>q) fun _ _ q=>q;rintro rfl;rcases hc with z|z
  ·rw[<-z,I.free] at e;cases e
  ·rw[I.free] at z;cases z
theorem name_goes{M:Model}{A:Around}{E:Value->Shared->Prop}{i:Nat}{n:Str}{pos:Pos}{Q:Unit->Shared->Prop}(I:Inv X pins σ H s)(hN:X.N.Nodup)(hi:X.N[i]?=some n)(hl:X.env.kindOf n=some .local)(h:∀s',Inv X pins (σ.set i none) H s'->Q () s'):
 wpAny M A (do bindName X.env n .none;unbindBehindTheSuite X.env n pos) Q E s:=by
 obtain⟨m,hn,hm⟩:=id I.loc;have Gx:(X.env.scope.kind==.class||(X.env.scope.kind==.module&&X.env.locals !=X.env.globals))=false:=by rw[I.ok.kind];rfl
 exact wpAny_nameGoes_keeps hl hn Gx fun h' v wN hs=>h _ (B5 I hN hi hl hm wN hs)
end
noncomputable def PJ(E:XK)(i:Nat)(tb ts:TS):TS:=fun D σ H=>tb D σ H/\∀(bE:L2.St)(H':Hp)(a C t:Addr)(tb:Value)(d:Option Addr)(H1:Hp)(rM:Value),bE.length=σ.length->H' a=some (dJ a C t tb d)->Sub a H1 H'->H1 a=some (dJ a C t rM d)->E (.ref C) d H1->
 ts {nx:=fun eI H2=>D.nx (eI.set i none) H2,rt:=D.rt,bk:=fun eI H2=>D.bk (eI.set i none) H2,ct:=fun eI H2=>D.ct (eI.set i none) H2} (bE.set i (some (.ref a))) H'
theorem Io{X:Cx}{E:XK}{body FQ:List Stmt}{LL:Stmt}{tb ts:TS}{c:Addr}{x n:Str}{i:Nat}{p hp pos:Pos}(rT:X.stack=X.env::X.outer)(sv:X.env.frame=some X.env.locals)(hb:∀pins,oA (tQ X pins E) body tb)(hs:∀a,oA (jm X a) (LL::FQ) ts)(hg:Gl X x)(hm:X.mg x=some (.ref c))(hE:∀C d H,E (.ref C) d H->exmOne X.K (.ref C) (.ref c)=some true)(hN:X.N.Nodup)(hi:X.N[i]?=some n)(hl:X.env.kindOf n=some .local)(u5:(x==("__debug__":Str))=false:=by decide):
 L2.PS X (.Try body [.ExceptHandler (some (.Name x p)) (some n) (LL::FQ) hp] [] [] pos) (PJ E i tb ts):=by
 intro pins s σ H D I h;refine wpAny_Try_except (wpAny_mono (hb pins [] s σ H D (Im I) h.1) (fun f s1 q=>?_) fun e s1 q=>?_)
 ·cases f with
  |next=>obtain⟨bE,H',J,q⟩:=q;exact wpAny_execs_nil ⟨bE,H',nN J,q⟩
  |brk=>obtain⟨bE,H',J,q⟩:=q;exact⟨bE,H',nN J,q⟩
  |cont=>obtain⟨bE,H',J,q⟩:=q;exact⟨bE,H',nN J,q⟩
  |ret u=>obtain⟨v,bE,H',J,r,q⟩:=q;exact⟨v,bE,H',nN J,r,q⟩
 ·obtain⟨a,C,t,XR,d,bE,H1,H',rM,rfl,J,ha,ht,LM,Vx,R9⟩:=q;refine tP rT sv J ha ht fun s2 T JE dA J2=>?_;have JC:upd (upd H' a (dJ a C t (.ref T) d)) T (uR T (rawInt X.env.locals)) a=some (dJ a C t (.ref T) d):=by rw[aq (Ne.symm dA),ai]
  refine nM (T:=T) (fl:=rawInt X.env.locals) (C:=C) (t:=t) (d:=d) J2 JC (by rw[ai]) fun s3 J3=>?_;rw[wL] at J3;have Nl:upd (upd H' a (dJ a C t (.ref T) d)) T (uR T .none) a=some (dJ a C t (.ref T) d):=by rw[aq (Ne.symm dA),ai]
  have PK:upd (upd H' a (dJ a C t (.ref T) d)) T (uR T .none) T=some (uR T .none):=by rw[ai]
  have R_:Sub a H1 (upd (upd H' a (dJ a C t (.ref T) d)) T (uR T .none)):=LM.trans fun b o n e=>by
   rw[aq (fun z=>by subst z;rw[JE] at e;cases e),aq n];exact e
  generalize upd (upd H' a (dJ a C t (.ref T) d)) T (uR T .none)=H3 at J3 Nl PK R_;have K3:Inv (jm X a) pins bE H3 s3:=B4 J3;refine wpAny_handleBy_cons (codeAny_handlers_test ?_) (by intro q;cases q);refine jd (X:=jm X a) K3 hg hm ?_ u5;obtain⟨o,vs,e,hc,hd,hf,h6,h0,h1⟩:=mE J3.bO Nl;have LT:Looks (model X.prog X.w) s3.heap (typeOf (.ref a)) (.ref C):=fun A' Q' E' s' k q=>by
   unfold typeOf
   dsimp only
   exact wpAny_bind (wpAny_loadPart (k _ _ e) (wpAny_pure (by rw[hc];exact q)))
  refine(exm_one J3.ou LT (hE _ _ _ R9)).here ?_;refine codeAny_handlers_suite_as (nM (X:=jm X a) (T:=T) (fl:=.none) (C:=C) (t:=t) (d:=d) K3 Nl PK fun s4 K4=>?_);have e4:upd H3 T (uR T .none)=H3:=by
   funext b;unfold upd;by_cases z:b=T
   ·rw[if_pos z,z,PK]
   ·rw[if_neg z]
  rw[e4] at K4;refine mM (X:=jm X a) (v:=.ref a) K4 hN hi (.inl hl) rfl (fun s5 K5=>?_) (.inr hl);have hlen:bE.length=σ.length:=by rw[J.len,I.len]
  refine wpAny_mono (hs a pins s5 _ H3 _ K5 (h.2 bE H3 a C t (.ref T) d H1 rM hlen Nl R_ Vx R9)) (fun f s6 q=>?_) fun _ _ z=>z.elim;cases f with
  |next=>obtain⟨Kh,H6,K6,q⟩:=q;exact name_goes (kf J.ok K6) hN hi hl fun s7 K7=>⟨_,H6,K7,q⟩
  |brk=>obtain⟨Kh,H6,K6,q⟩:=q;exact name_goes (kf J.ok K6) hN hi hl fun s7 K7=>⟨_,H6,K7,q⟩
  |cont=>obtain⟨Kh,H6,K6,q⟩:=q;exact name_goes (kf J.ok K6) hN hi hl fun s7 K7=>⟨_,H6,K7,q⟩
  |ret u=>obtain⟨v,Kh,H6,K6,r,q⟩:=q;exact name_goes (kf J.ok K6) hN hi hl fun s7 K7=>⟨v,_,H6,K7,r,q⟩
structure FR(P:Program)(w:World)(K:Frag)(mg:Str->Option Value)(base:Heap)(CX:ow)(cm:Bool)(k:Nat)(f:Addr)(fd:FuncData)(ps:List Str)(sp:Shared->Sp):Prop where
 len:∀s vs H Q E,sp s vs H Q E->vs.length=ps.length
 run:∀(A:Around)(outer:List Env)(s:Shared)(H:Hp)(args:Args)(us:List Value)(vs:List V)(Q:VK)(E:XK),dG cm k A->rZ P w K mg base A outer s H->BindsTo s fd args (ps.zip us)->Vals vs us->sp s vs H Q E->
  codeAny (model P w) A (.call (.ref f) args) (CR CX outer P w H s Q E) s
noncomputable abbrev Ip(CX:ow)(cm:Bool)(P:Program)(w:World)(K:Frag)(mg:Str->Option Value)(base:Heap)(N:List Str)(qual:Str)(scope:Scope)(f:Addr)(cd:Value)(A:Around)(outer:List Env)(s:Shared)(H:Hp)(E:XK):Cx:=
 {oC CX P w K mg base N qual scope f cd A outer s H E with calm:=cm}
section
variable {P:Program} {w:World} {K:Frag} {mg:Str->Option Value} {base:Heap} {CX:ow} {cm:Bool} {k:Nat}
theorem vQ{N ps:List Str}{qual:Str}{scope:Scope}{f:Addr}{cd:Value}{A:Around}{outer:List Env}{s s1:Shared}{H:Hp}{E:XK}{us:List Value}{vs:List V}(S:aB N ps scope)(hd:cm=true->A.handled=none)(e0:rZ P w K mg base A outer s H)(hl:vs.length=ps.length)(r:Vals vs us)(x:InCallC s s.heap.objs.size (bindL (envOfC qual scope s.heap.objs.size f cd).kindOf (ps.zip us) fun _=>none) (cellsFrom (s.heap.objs.size+1) scope.names []) (bindC (envOfC qual scope s.heap.objs.size f cd).kindOf (ps.zip us) fun _=>none) s1):
 Inv (Ip CX cm P w K mg base N qual scope f cd A outer s H E) [] (start N vs) H s1:=by
 have e1:rZ P w K mg base {A with handled:=none} outer s H:=⟨e0.frames,e0.mod,e0.bs,e0.yx,e0.jo,e0.z_,e0.bO,e0.bare⟩;have I:=o9 (CX:=CX) (E:=E) S (A:={A with handled:=none}) rfl e1 hl r x;exact B3 (X:=oC CX P w K mg base N qual scope f cd {A with handled:=none} outer s H E) (A:=A.deeper (envOfC qual scope s.heap.objs.size f cd)) (cm:=cm) (E:=(oC CX P w K mg base N qual scope f cd A outer s H E).xe) I (Around.frames_deeper e0.frames) hd
theorem _root_.L2.Av.JG{x qual:Str}{st:Stmt}{f:Addr}{fd:FuncData}{N ps:List Str}{sp:Shared->Sp}(F:Av K x qual st f fd)(S:aB N ps (au st))(len:∀s vs H Q E,sp s vs H Q E->vs.length=ps.length)(iD:∀(cq:Value)(A:Around)(outer:List Env)(s:Shared)(H:Hp)(vs:List V)(Q:VK)(E:XK),codeIn K cq qual=true->fd.code=cq->dG cm k (A.deeper (envOfC qual (au st) s.heap.objs.size f cq))->sp s vs H Q E->
 ∃t,oA (Ip CX cm P w K mg base N qual (au st) f cq A outer s H E) (dM st) t/\t {nx:=fun _ H'=>Q .gf H',rt:=Q} (start N vs) H):FR P w K mg base CX cm (k+1) f fd ps sp:=by
 obtain⟨oc,od,kV,doc,pm,an,cq,ct,Dp,rfl,lk,lT⟩:=F.ex;refine⟨len,fun A outer s H args us vs Q E hr e0 hb r An=>?_⟩;have KX:K.In s.heap:=e0.mod.Gv.keeps fun b o e=>(e0.bs b o e).1;have lim:s.heap.NoLimit:=e0.mod.nolimit.keeps fun b o e=>(e0.bs b o e).1;refine codeAny_call_function hr.depth (KX _ _ lk) rfl S.co S.gen rfl (codeRec_of KX lT) (hb _ _ _ _ ?_);refine wpAny_newFunctionEnv_cells S.kind (fun⟨n,v⟩ hy=>?_) fun env he s1 x=>?_
 ·rcases S.par n (List.of_mem_zip hy).1 with q|q
  ·exact .inl q
  ·exact .inr ⟨q,cellsFrom_some _ _ _ (.inl q)⟩
 ·subst he;refine⟨lim.keeps x.toInCall.keep,codeAny_func ?_⟩;obtain⟨t,ht,hq⟩:=iD cq A outer s H vs Q E lT rfl (hr.deeper _) An;have I:Inv (Ip CX cm P w K mg base N qual (au st) f cq A outer s H E) [] (start N vs) H s1:=vQ S hr.hd e0 (len _ _ _ _ _ An) r x;refine wpAny_mono (ht [] s1 _ H _ I hq) (fun fl s' hs=>?_) fun e s' hs=>hs;cases fl with
  |ret u=>obtain⟨v,bE,H',J,rv,q⟩:=hs;exact⟨v,H',J.os,J.bare,J.base,J.bO,rv,q⟩
  |next=>obtain⟨bE,H',J,q⟩:=hs;exact⟨.gf,H',J.os,J.bare,J.base,J.bO,rfl,q⟩
  |brk=>obtain⟨_,_,_,q⟩:=hs;exact q.elim
  |cont=>obtain⟨_,_,_,q⟩:=hs;exact q.elim
end
structure nO(P:Program)(w:World)(K:Frag)(mg:Str->Option Value)(base:Heap)(CX:ow)(cm:Bool)(k:Nat)(x:Str)(ps:List Str)(sp:Shared->Sp):Prop where
 ex:∃f fd,FR P w K mg base CX cm k f fd ps sp/\mg x=some (.ref f)/\keepIn K (.ref f)=true/\Binds K fd ps []
theorem _root_.L2.aN.JG{P:Program}{w:World}{K:Frag}{mg:Str->Option Value}{base:Heap}{CX:ow}{cm:Bool}{k:Nat}{x:Str}{st:Stmt}{N ps:List Str}{sp:Shared->Sp}(D:aN K mg x st ps)(S:aB N ps (au st))(len:∀s vs H Q E,sp s vs H Q E->vs.length=ps.length)(iD:∀(f:Addr)(cq:Value)(A:Around)(outer:List Env)(s:Shared)(H:Hp)(vs:List V)(Q:VK)(E:XK),codeIn K cq x=true->dG cm k (A.deeper (envOfC x (au st) s.heap.objs.size f cq))->sp s vs H Q E->
 ∃t,oA (Ip CX cm P w K mg base N x (au st) f cq A outer s H E) (dM st) t/\t {nx:=fun _ H'=>Q .gf H',rt:=Q} (start N vs) H):nO P w K mg base CX cm (k+1) x ps sp:=
 let⟨f,fd,a,b,c⟩:=D.ex
 ⟨f,fd,a.JG S len fun cq A outer s H vs Q E hc _=>iD f cq A outer s H vs Q E hc,b,a.kp,c⟩
theorem vR{cm:Bool}{P:Program}{w:World}{K:Frag}{mg:Str->Option Value}{base:Heap}{N:List Str}{qual:Str}{scope:Scope}{f:Addr}{cd:Value}{A:Around}{outer:List Env}{s:Shared}{H:Hp}{E:XK}:
 gD (Ip (C4 P w) cm P w K mg base N qual scope f cd A outer s H E) E:=fun pins σ H' s' a C t tb d H1 rM I ha ht hs h1 hE=>by
 show wpAny _ _ (leaving _ _) _ _ _;exact pR (X:=Ip (C4 P w) cm P w K mg base N qual scope f cd A outer s H E) rfl rfl I ha ht fun s2 H2 T J JC PL AA=>
  ⟨a,C,t,_,d,H1,H2,rM,rfl,J.os,J.bare,J.base,J.bO,JC,PL,hs.trans AA,h1,hE⟩
section
variable {X:Cx} {CX:ow} {cm:Bool} {k:Nat} {f:Addr} {fd:FuncData} {ps:List Str} {E:XK} {x:Str} {p pos:Pos} {e:Expr} {es:List Expr} {t:TA}
theorem xZ{sp:Shared->Sp}{pins:List (Addr×Obj)}{σ:L2.St}{H:Hp}{s:Shared}{Q:VK}{us:List Value}{vs:List V}(F:FR X.prog X.w X.K X.mg X.base CX cm k f fd ps sp)(hr:dG cm k X.A)(hb:Binds X.K fd ps [])(hx:Passes CX X E)(I:Inv X pins σ H s)(r:Vals vs us)(h:sp s vs H Q E):wpAny (model X.prog X.w) X.A (call (.ref f) us) (EP X pins σ Q) X.xe s:=by
 have hl:us.length=ps.length:=by rw[<-r.length];exact F.len _ _ _ _ _ h
 have JH:BindsTo s fd ⟨us,[]⟩ (ps.zip us):=by
  have:=hb s us I.ou (by rw[List.append_nil];exact hl);rw[List.append_nil] at this;exact this
 refine wpAny_call (codeAny_mono (F.run X.A X.stack s H ⟨us,[]⟩ us vs Q E hr I.GL JH r h) fun r s' hq=>?_);cases r with
 |error e=>exact hx pins σ H s e s' I hq
 |ok fl=>
  cases fl with
  |ret u=>exact I.after hq
  |next=>exact False.elim hq
  |brk=>exact False.elim hq
  |cont=>exact False.elim hq
theorem B6{sp:Sp}(F:nO X.prog X.w X.K X.mg X.base CX cm k x ps fun _=>sp)(hr:dG cm k X.A)(hx:Passes CX X E)(ha:PA X (e::es) t)(hg:Gl X x:=by rfl)(u5:(x==("__debug__":Str))=false:=by decide)(he:starEach (e::es) X.env=(false,eval e X.env)::starEach es X.env:=by rfl)(r_:(backTo pos (starEach es X.env)).any (·.1)=false:=by rfl):PE X (.Call (.Name x p) (e::es) [] pos) (wX sp [] E t):=by
 obtain⟨f,fd,a,b,c,d⟩:=F.ex;intro pins s σ H Q I h;refine wpAny_Call_Name_kw (jd I hg b ?_ u5);refine callWith_K (h₀:=X.base) I.ok.mod.Gv c (c_ (ha pos pins s σ H _ I h) fun us s1⟨vs,H1,I1,r,q⟩=>⟨I1.ou,?_⟩) he r_;have q':sp (vs++[]) H1 Q E:=q;rw[List.append_nil] at q';exact xZ a hr d hx I1 r q'
end
end SF
namespace SF
open PySem PySem.Spec PyProof.Rows L2 PySem.W
noncomputable def B7(f:Addr)(name qual:Str)(params:Arguments)(body:Expr)(scope:Scope)(cl:List (Str×Addr))(c':Addr):HO:=.ext fun h=>∃pm Eg,h.get? f=some (kla_obj name qual params body scope cl pm c' Eg)
noncomputable def LN(c':Addr)(q:Str):HO:=.ext fun h=>∃o vs t,h.get? c'=some o/\o.data=.fields vs/\vs[1]?=some (.str q t)
noncomputable def BMain(base:Heap)(mg:Str->Option Value):Prop:=∃bm ob,mg "__builtins__"=some (.ref bm)/\bm≠builtinsNs/\bm≠mainGlobals/\base.get? bm=some ob/\ob.cls=.type "module"/\ob.dict=some builtinsNs/\ob.data=.plain
noncomputable def PM(P:Addr)(pos:Pos)(qual:Str)(params:Arguments)(body:Expr)(scope:Scope)(cl:List (Str×Addr)):TE:=fun _ H Q=>∃ps,H P=some (.oX ps)/\TriplesOk ps.toList/\codeAmong pos ps.toList=none/\
 ∀f c',H f=none->H c'=none->f≠c'->Q (.ref f) (upd (upd (upd H P (.oX (ps++#[rawInt pos.line,rawInt pos.col,.ref c']))) c' (LN c' qual)) f (B7 f "<lambda>" qual params body scope cl c'))
theorem Iq{X:Cx}{params:Arguments}{body:Expr}{scope:Scope}{pos:Pos}{c P:Addr}{cl:List (Str×Addr)}(LO:X.env.code=.ref c)(C:CodeHd X.base c P)(Eh:closureFor scope X.env=pure cl)(PN:defaultsOf params X.env=([],[]))(B:BMain X.base X.mg):
 PE X (.Lambda params body scope pos) (PM P pos (X.env.qual++"<lambda>") params body scope cl):=by
 intro pins s σ H Q I h;obtain⟨ps,hP,ht,hn,q⟩:=h;have Vy:s.heap.get? P=some (tabObj ps):=I.bO P _ hP;have hg:=I.mod.glob.keeps I.bk;have R':∀b o,X.base.get? b=some o->b≠P:=fun b o e z=>by subst z;have:=(I.bs b o e).2;rw[hP] at this;cases this
 have Vz:mainGlobals≠P:=by obtain⟨o,_,_,e,_⟩:=I.mod.glob;exact R' _ o e
 obtain⟨bm,ob,b1,b2,b3,b4,b5,b6,b7⟩:=B;refine kla_eval PN (kla_makeFunction (mg:=X.mg) Eh I.ok.glob hg LO (C.keeps I.bk) Vy ht hn Vz ⟨bm,ob,b1,b2,b3,R' _ _ b4,I.bk _ _ b4,b5,b6,b7⟩ fun c' Eg h' tk hx JI eL B8 Sa=>?_);obtain⟨c2,oc,vs,t2,e2,MY,hd,hv⟩:=B8;cases e2;have hsz:s.heap.objs.size<=h'.objs.size:=Nat.le_of_lt (Nat.lt_of_le_of_lt JI eL);have LP:H c'=none:=I.bO.fresh JI;have Dg:H h'.objs.size=none:=I.bO.fresh hsz;have LQ:h'.objs.size≠c':=Nat.ne_of_gt eL;have old:∀b o,s.heap.get? b=some o->b≠c'/\b≠h'.objs.size:=fun b o e=>⟨Nat.ne_of_lt (Nat.lt_of_lt_of_le (Heap.lt_size e) JI),Nat.ne_of_lt (Nat.lt_of_lt_of_le (Heap.lt_size e) hsz)⟩;have nP:∀b u,H b=some u->(∀z,u≠.oX z)->b≠P:=fun b u e n z=>by subst z;rw[hP] at e;cases e;exact n _ rfl
 have PQ:∀b,H b=none->b≠P:=fun b e z=>by subst z;rw[hP] at e;cases e
 have rP:∀b u,H b=some u->b≠c'/\b≠h'.objs.size:=fun b u e=>⟨fun z=>(by rw[z,LP] at e;cases e),fun z=>(by rw[z,Dg] at e;cases e)⟩;have XS:P≠c':=(rP P _ hP).1;have XT:P≠h'.objs.size:=(rP P _ hP).2;generalize LR:kla_obj "<lambda>" (X.env.qual++"<lambda>") params body scope cl ((X.mg "__name__").getD .none) c' Eg=obj;have keep:∀b o,b≠P->s.heap.get? b=some o->(h'.push obj).get? b=some o:=fun b o n e=>Heap.get?_push_of_some _ (hx b o n e);have Sd:(h'.push obj).get? h'.objs.size=some obj:=Heap.get?_push_size _ (by subst LR;rfl);refine⟨.ref h'.objs.size,_,I.un (t':=tk) (H':=upd (upd (upd H P (.oX (ps++#[rawInt pos.line,rawInt pos.col,.ref c']))) c' (LN c' (X.env.qual++"<lambda>"))) h'.objs.size (B7 h'.objs.size "<lambda>" (X.env.qual++"<lambda>") params body scope cl c')) ⟨fun b o e n _ _=>keep b o (PQ b n) e,fun b o e n _ _=>⟨o.slots,keep b o (PQ b n) e⟩,fun b o e n _=>?_,fun b o e _=>?_,fun b xs e=>?_,fun b u xs e=>?_,fun b pz e=>?_⟩ fun b u e=>?_,rfl,q _ c' Dg LP LQ⟩
 ·rw[aq (old b o e).2,aq (old b o e).1,aq (PQ b n)];exact n
 ·by_cases z:b=P
  ·subst z;exact⟨_,Heap.get?_push_of_some _ Sa⟩
  ·exact⟨o,keep b o z e⟩
 ·rw[aq (rP b _ e).2,aq (rP b _ e).1,aq (nP b _ e nofun)];exact e
 ·rw[aq (rP b _ e).2,aq (rP b _ e).1,aq (nP b _ e nofun)];exact e
 ·rw[aq (rP b _ e).2,aq (rP b _ e).1];by_cases z:b=P
  ·subst z;rw[hP] at e;cases e;exact⟨_,ai⟩
  ·exact⟨#[],by rw[aq z,e];simp⟩
 ·by_cases JD:b=h'.objs.size
  ·subst JD;rw[ai] at e;cases e;subst LR;exact⟨⟨_,_,Sd⟩,⟨_,Sd⟩,fun _ _ ⟨pm,Eg,e⟩ k=>⟨pm,Eg,k _ e⟩⟩
  ·rw[aq JD] at e;by_cases Se:b=c'
   ·subst Se;rw[ai] at e;cases e;have:=Heap.get?_push_of_some obj MY;exact⟨⟨oc,vs,t2,this,hd,hv⟩,⟨_,this⟩,fun _ _ ⟨o,vs,t,e,r⟩ k=>⟨o,vs,t,k _ e,r⟩⟩
   ·rw[aq Se] at e;by_cases Ei:b=P
    ·subst Ei;rw[ai] at e;cases e;exact Heap.get?_push_of_some obj Sa
    ·rw[aq Ei] at e;refine(I.bO b u e).oy (fun c v hc e=>keep c v ?_ e) (fun c r=>?_) fun c xs r=>?_
     ·rcases hc with rfl|hc
      ·exact Ei
      ·exact nP c _ hc nofun
     ·rw[aq (rP c _ r).2,aq (rP c _ r).1,aq (nP c _ r nofun)];exact r
     ·rw[aq (rP c _ r).2,aq (rP c _ r).1,aq (nP c _ r nofun)];exact r
structure tR(N ps:List Str)(sc:Scope):Prop where
 kind:sc.kind=.function
 co:sc.isCoroutine=false
 gen:sc.isGenerator=false
 par:∀x∈ps,sc.names.lookup x=some .local
 iF:∀y∈sc.names,y.2≠.cell
noncomputable def LS(CX:ow)(cm:Bool)(P:Program)(w:World)(K:Frag)(mg:Str->Option Value)(base:Heap)(N:List Str)(qual:Str)(scope:Scope)(f:Addr)(cd:Value)(cl:List (Str×Addr))(A:Around)(outer:List Env)(s:Shared)(H:Hp)(E:XK):Cx where
 prog:=P
 w:=w
 K:=K
 mg:=mg
 base:=base
 A:=A.deeper (envX qual scope s.heap.objs.size f cd cl)
 N:=N
 fh:=s
 yw:=H
 env:=envX qual scope s.heap.objs.size f cd cl
 outer:=outer
 stack:=envX qual scope s.heap.objs.size f cd cl::outer
 ex:=[]
 calm:=cm
 fn:=fun _=>false
 pn:=[]
 xe:=fun e s'=>wpAny (model P w) (A.deeper (envX qual scope s.heap.objs.size f cd cl)) (leaving (envX qual scope s.heap.objs.size f cd cl) e) (fun _ GP=>CX outer H s E e GP) (fun e' GP=>CX outer H s E e' GP) s'
section
variable {P:Program} {w:World} {K:Frag} {mg:Str->Option Value} {base:Heap} {CX:ow} {cm:Bool} {k:Nat} {N ps:List Str} {name qual:Str} {params:Arguments} {body:Expr} {scope:Scope} {f c':Addr} {cl:List (Str×Addr)} {A:Around} {outer:List Env} {s:Shared} {H:Hp} {E:XK} {Q:VK} {pm Eg:Value}
theorem vS{cd:Value}:gD (LS (C4 P w) cm P w K mg base N qual scope f cd cl A outer s H E) E:=fun pins σ H' s' a C t tb d H1 rM I ha ht hs h1 hE=>by
 show wpAny _ _ (leaving _ _) _ _ _;exact pR (X:=LS (C4 P w) cm P w K mg base N qual scope f cd cl A outer s H E) rfl rfl I ha ht fun s2 H2 T J JC PL AA=>
  ⟨a,C,t,_,d,H1,H2,rM,rfl,J.os,J.bare,J.base,J.bO,JC,PL,hs.trans AA,h1,hE⟩
theorem Ej{args:Args}{us:List Value}(S:tR N ps scope)(ho:s.heap.get? f=some (kla_obj name qual params body scope cl pm c' Eg))(lT:s.heap.CodeRec (.ref c') qual)(e0:rZ P w K mg base A outer s H)(hr:dG cm (k+1) A)(B9:bindArgs (kla_fn name qual params body scope cl pm (.ref c') Eg) args=pure (ps.zip us))(Eh:∀x c,cl.lookup x=some c->(∃v,s.heap.IsCell c v)/\H c=none)(PR:∀x y c,cl.lookup x=some c->cl.lookup y=some c->x=y)(PU:∀x,scope.names.lookup x=some .free->∃c,cl.lookup x=some c){σ:L2.St}(HX:σ.length=N.length)(hv:∀(i:Nat)(x:Str)(v:V),N[i]?=some x->σ[i]?=some (some v)->(scope.names.lookup x=some .local/\∃u,RelV v u/\(ps.zip us).reverse.lookup x=some u)\/(scope.names.lookup x=some .free/\∃c u,cl.lookup x=some c/\s.heap.IsCell c (some u)/\RelV v u))(iD:dG cm k (A.deeper (envX qual scope s.heap.objs.size f (.ref c') cl))->∃t,PE (LS CX cm P w K mg base N qual scope f (.ref c') cl A outer s H E) body t/\t σ H Q):
 codeAny (model P w) A (.call (.ref f) args) (CR CX outer P w H s Q E) s:=by
 have lim:s.heap.NoLimit:=e0.mod.nolimit.keeps fun b o e=>(e0.bs b o e).1;refine kla_callFunE hr.depth ho rfl S.co S.gen rfl lT ?_;rw[B9];refine wpAny_pure (wpAny_newFunctionEnv S.iF (fun x hx=>S.par _ (List.of_mem_zip (show(x.1,x.2)∈ps.zip us from hx)).1) (fun iu zV Fh=>⟨lim.fresh _ Fh,?_⟩) S.kind);show codeAny _ _ (.expr body (envX qual scope s.heap.objs.size f (.ref c') cl)) _ _;have B_:∀b o,s.heap.get? b=some o->iu.get? b=some o:=fun b o e=>Fh.extBut b o (Nat.ne_of_lt (Heap.lt_size e)) (Heap.get?_push_of_some _ e);obtain⟨t,ht,hq⟩:=iD (hr.deeper _);have cK:∀c v,s.heap.IsCell c v->iu.IsCell c v:=fun c v⟨o,e,d⟩=>⟨o,B_ _ _ e,d⟩;have I:Inv (LS CX cm P w K mg base N qual scope f (.ref c') cl A outer s H E) [] σ H {s with heap:=iu,toks:=s.toks+(ps.zip us).length}:=by
  have Am:∀b:Addr,b∉(LS CX cm P w K mg base N qual scope f (.ref c') cl A outer s H E).ex:=fun b z=>absurd (show b∈([]:List Addr) from z) (by simp);refine⟨⟨e0.mod,S.kind,rfl,rfl,Nat.le_refl _,PR,fun y hy=>?_,fun y c z=>Bool.noConfusion (show false=true from z),hr.hd,Around.frames_deeper e0.frames,.inr ⟨rfl,rfl⟩,fun b z=>absurd z (Am b),e0.bs,e0.yx,fun b _ _=>Am b,fun b z=>absurd z (Am b),e0.jo,e0.z_⟩,
   rfl,e0.bare,Un.kept B_,⟨_,zV,fun i x v h1 h2 h3=>?_⟩,fun y c e=>?_,e0.bO.fresh (Nat.le_refl _),fun y c e=>(Eh y c e).2,fun p hp=>absurd (show p∈([]:List (Addr×Obj)) from hp) (by simp),e0.bO.kept B_,HX⟩
  ·have hy:scope.names.lookup y=some .cell\/scope.names.lookup y=some .free:=hy;rcases hy with hy|hy
   ·exact absurd rfl (S.iF _ (PySem.mem_of_lookup hy))
   ·exact PU y hy
  ·rcases hv i x v h1 h2 with⟨k,u,r,e⟩|⟨k,c,u,e,z,r⟩
   ·exact⟨u,r,.inl ⟨k,e⟩⟩
   ·exact⟨u,r,.inr ⟨.inr k,c,e,cK _ _ z⟩⟩
  ·obtain⟨v,z⟩:=(Eh y c e).1;exact⟨v,cK _ _ z⟩
 refine kla_codeExpr (wpAny_mono (ht [] _ σ H Q I hq) (fun u s'⟨v,H',J,rv,q⟩=>⟨v,H',J.os,J.bare,J.base,J.bO,rv,q⟩) fun e s' hs=>hs)
end
noncomputable def PV(i:Nat)(R:Addr->Hp->VK->Prop):TE:=fun σ H Q=>∃f,σ[i]?=some (some (.ref f))/\R f H Q
theorem Ir{X:Cx}{CX:ow}{E:XK}{i:Nat}{x:Str}{p pos:Pos}{R:Addr->Hp->VK->Prop}(hN:X.N[i]?=some x)(hv:JY X.env.scope x)(hx:Passes CX X E)(hR:∀pins σ H s f Q,Inv X pins σ H s->R f H Q->FnAt f s.heap/\codeAny (model X.prog X.w) X.A (.call (.ref f) ⟨[],[]⟩) (CR CX X.stack X.prog X.w H s Q E) s)(hd:(x==("__debug__":Str))=false:=by decide)(lT:(x==("__classdict__":Str))=false:=by decide):PE X (.Call (.Name x p) [] [] pos) (PV i R):=by
 intro pins s σ H Q I ⟨f,e,h⟩;refine wpAny_Call_Name_kw (c_ (Ac (X:=X) (pos:=p) hN hv hd lT pins s σ H (fun v H1=>v=.ref f/\H1=H) I ⟨_,e,rfl,rfl⟩) fun u s1⟨v,H1,I1,r,ev,eh⟩=>?_);subst ev eh;cases r;obtain⟨a,b⟩:=hR pins σ _ s1 f Q I1 h;refine callWith_F0 a (wpAny_call (codeAny_mono b fun r s' hq=>?_));cases r with
 |error e=>exact hx pins σ _ s1 e s' I1 hq
 |ok fl=>
  cases fl with
  |ret u=>exact I1.after hq
  |next=>exact False.elim hq
  |brk=>exact False.elim hq
  |cont=>exact False.elim hq
end SF
namespace SF
open PySem PySem.Spec PyProof.Rows L2 PySem.W
noncomputable def pS(H:Hp)(d:Option Addr):Prop:=d=none\/∃dx fs,d=some dx/\H dx=some (.xd fs)
theorem pS.same{H H':Hp}{d:Option Addr}(h:pS H d)(s:av H H'):pS H' d:=by
 rcases h with rfl|⟨dx,fs,rfl,e⟩
 ·exact .inl rfl
 ·exact .inr ⟨dx,fs,rfl,s _ _ e⟩
noncomputable def Iu:V->Value
 |.ref a=>.ref a
 |.ty n=>.type n
 |_=>.none
theorem Ca{P:Program}{w:World}{H:Hp}{h:Heap}{a C t:Addr}{tb:Value}{d:Option Addr}(x:jc P w H h)(ha:H a=some (dJ a C t tb d))(hd:pS H d):∃ox od vs,InstAt h a ox C od/\ox.dict=d/\ox.data=.fields vs/\vs[0]?=some (.ref t):=by
 obtain⟨o,vs,e,hc,CV,hf,h6,h0,h1⟩:=mE x ha;have no:notCls o=true:=by
  obtain⟨cc,dd,dt,sl⟩:=o;simp only at hf;subst hf;rfl
 rcases hd with rfl|⟨dx,fs,rfl,hx⟩
 ·exact⟨o,none,vs,⟨e,hc,no,by rw[CV];trivial⟩,CV,hf,h0⟩
 ·obtain⟨mA,⟨od,es,ep,e2,r⟩,_⟩:=(show cI P w H h dx (.xd fs) from x dx _ hx);exact⟨o,some od,vs,⟨e,hc,no,by rw[CV];exact e2⟩,CV,hf,h0⟩
section
variable {X:Cx}
noncomputable def Ek(K:Frag):List V->Hp->VK->Prop:=fun xs H Q=>∃a C t tb d c b,xs=[.ref a,c]/\H a=some (dJ a C t tb d)/\pS H d/\Ee K C/\Iu c≠.none/\kitOne K (.ref C) (Iu c)=some b/\Q (.bl b) H
theorem fP:gn X (.builtin "isinstance") (Ek X.K):=by
 intro pins s σ H xs us Q I r h;obtain⟨a,C,t,tb,d,c,b,rfl,ha,hd,F,hc,e,q⟩:=h;obtain⟨u,v,rfl,ru,rv⟩:=Vals.two r;cases ru;have ev:v=Iu c:=by
  cases c<;>first|exact rv|exact absurd rfl hc
 subst ev;obtain⟨ox,od,vs,J,_⟩:=Ca I.bO ha hd;exact kia_one (BX F) I.ou ⟨ox,od,J⟩ e (fun z=>nomatch z) fun tk=>⟨.bl b,H,I.tok _,rfl,q⟩
theorem nQ(k:Bool):∀{bs:List Bool}{us:List Value},Vals (bs.map V.bl) us->∀y,y∈us->∀(A:Around)(s:Shared),SeqAt.EqAt A s y (.bool k) (isBoolOf k y)
 |[],_,.nil,_,hy,_,_=>absurd hy (by simp)
 |b::bs,_,.cons r t,y,hy,A,s=>by
  rcases List.mem_cons.mp hy with e|hy
  ·subst e;cases r;exact SeqAt.EqAt.bool_bool b k
  ·exact nQ k t y hy A s
theorem lN(k:Bool):∀{bs:List Bool}{us:List Value},Vals (bs.map V.bl) us->us.countP (isBoolOf k)=bs.countP (·==k)
 |[],_,.nil=>rfl
 |b::bs,_,.cons r t=>by
  cases r;rw[List.countP_cons,List.countP_cons,lN k t];rfl
theorem kU(k:Bool):∀{bs:List Bool}{us:List Value}(i:Nat)(h:i<us.length),Vals (bs.map V.bl) us->isBoolOf k us[i]=(bs.getD i (!k)==k)
 |[],_,i,h,.nil=>absurd h (by simp)
 |_::_,_,0,_,.cons r t=>by cases r;rfl
 |b::bs,_::us,i+1,h,.cons r t=>by
  have:=kU k (bs:=bs) i (Nat.lt_of_succ_lt_succ h) t;simpa using this
noncomputable def LU(K:Frag):V->List V->Hp->VK->Prop:=fun x vs H Q=>∃(p:Addr)(bs:List Bool)(k:Bool),x=.ref p/\vs=[.bl k]/\aM K H p (bs.map V.bl)/\Q (.int (bs.countP (·==k):Nat)) H
theorem El:M4 X "list.count" (LU X.K):=by
 intro pins s σ H x xs v us Q I rx r h;obtain⟨p,bs,k,rfl,rfl,hs,q⟩:=h;cases rx;obtain⟨u,rfl,ru⟩:=Vals.one r;cases ru;obtain⟨aK,rv,⟨o,n,e1,e2,e3,e4⟩,hz⟩:=I.list hs;obtain⟨cls,dd,data,sl⟩:=o;simp only at e2 e3 e4;subst e2 e3 e4;refine call_meets PySem.F.slot_list_count ⟨_,e1,rfl⟩ PySem.F.entry_list_count (PySem.F.args_list_count_2 _ _) (SeqAt.list_countAt p aK.toArray n none sl (.bool k) (isBoolOf k)) ⟨e1,fun y hy=>nQ k rv y (by simpa using hy) _ _,?_⟩;rw[show aK.toArray.toList=aK from rfl,lN k rv];exact⟨.int _,H,I.tok _,⟨_,rfl⟩,q⟩
noncomputable def LV(K:Frag):V->List V->Hp->VK->Prop:=fun x vs H Q=>∃(p:Addr)(bs:List Bool)(k:Bool)(i:Nat),x=.ref p/\vs=[.bl k]/\aM K H p (bs.map V.bl)/\i<bs.length/\bs.getD i (!k)=k/\(∀j,j<i->bs.getD j (!k)=(!k))/\Q (.int (i:Nat)) H
theorem Em:M4 X "list.index" (LV X.K):=by
 intro pins s σ H x xs v us Q I rx r h;obtain⟨p,bs,k,i,rfl,rfl,hs,hi,hh,En,q⟩:=h;cases rx;obtain⟨u,rfl,ru⟩:=Vals.one r;cases ru;obtain⟨aK,rv,⟨o,n,e1,e2,e3,e4⟩,hz⟩:=I.list hs;obtain⟨cls,dd,data,sl⟩:=o;simp only at e2 e3 e4;subst e2 e3 e4;have hl:aK.length=bs.length:=by rw[<-rv.length];simp
 have R0:bs.length<=sizeLine:=by simpa using hz
 have hsz:sizeLine<2^62:=by decide
 refine call_meets PySem.F.slot_list_index ⟨_,e1,rfl⟩ PySem.F.entry_list_index (PySem.F.args_list_index_2 _ _) (SeqAt.list_indexAt p aK.toArray n none sl (.bool k) (isBoolOf k) i (by simpa[hl] using hi) (by lia) ?_ fun m hm VA=>?_) ⟨e1,fun y hy=>nQ k rv y (by simpa using hy) _ _,?_⟩
 ·have:=kU k i (by rw[hl];exact hi) rv;rw[hh] at this;simpa using this
 ·have:=kU k m (by simpa using hm) rv;rw[En m VA] at this;simp only[List.getElem_toArray];rw[this];cases k<;>rfl
 ·exact⟨.int _,H,I.tok _,⟨_,rfl⟩,q⟩
end
end SF
namespace SF
open PySem PySem.W PySem.Builtin PySem.Builtin.ObjectAttr
section
variable {prog:Program} {w:World} {A:Around} {E:Value->Shared->Prop} {h:Heap} {g:Array GenState} {d:Drawn} {t:Nat} {os:OsState}
variable {nm q:Str} {C N:Addr} {bs bm XU:List Value} {hdct:Bool} {sn:List Str} {sub:List Value} {ab:Bool} {col:Option Bool} {dd:Option Addr} {k0 k1 k2 k3 k5:Option Value} {B Bn newId XW PX XX:String} {XY:List Value}
end
section
variable {prog:Program} {w:World} {A:Around} {E:Value->Shared->Prop} {s:Shared} {K:Frag} {x C:Addr} {ox:Obj} {vs:Array Value} {name:Str} {v:Value} {Q:Unit->Shared->Prop}
end
end SF
namespace SF
open PySem PySem.Spec PyProof.Rows L2 PySem.W
section
variable {X:Cx} {C fI:Addr}
end
end SF
namespace SF
open PySem PySem.Spec PyProof.Rows L2 PySem.W
theorem zq{P:Program}{w:World}{K:Frag}{mg mb:Str->Option Value}{k:Nat}{fa a c Pt:Addr}{fd:FuncData}{x:Str}{sp:Sp}{bR:Shared}{vs:List Value}{ns:List Int}(KX:K.In bR.heap)(zV:bR.heap.Ns mainGlobals mg)(hb:bR.heap.Ns builtinsNs mb)(JH:∀x:Str,x≠"__name__"->mb x=bootBuiltins x)(PY:bR.heap.NoLimit)(x4:bR.heap.NoSeer)(hg:bR.gens=#[])(ha:bR.heap.get? a=some {cls:=.type "list",data:=.seq vs.toArray})(hi:IntsAre vs ns)(hl:ns.length<=sizeLine)(hr:fi k callerA)(lT:CodeHd bR.heap c Pt)(Eo:bR.heap.get? Pt=some (tabObj #[]))(LW:noTabs K=true)(BM:BMain bR.heap mg)(F:∀base:Heap,K.In base->base.Ns mainGlobals mg->BMain base mg->CodeHd base c Pt->FR P w K mg base vd true k fa fd [x] fun _=>sp)(B9:∀(s:Shared)(u:Value),BindsTo s fd ⟨[u],[]⟩ [(x,u)])(An:∀H:Hp,aM K H a (ns.map V.int)->H Pt=some (.oX #[])->sp [.ref a] H (fun v _=>v=.bl true) E0):
 codeAny (model P w) callerA (.call (.ref fa) ⟨[.ref a],[]⟩) (fun r s'=>r=.ok (.ret (.bool true))/\OldK bR.heap s'.heap/\s'.os=bR.os/\AllBare s'.gens) bR:=by
 have rv:=o_ hi;have PZ:=hi.length;have Nn:a≠Pt:=fun z=>by rw[z,Eo] at ha;cases ha
 have core:∀H:Hp,aM K H a (ns.map V.int)->H Pt=some (.oX #[])->jc P w H bR.heap->(∀b,H b≠none->b=a\/b=Pt)->(H a=none\/∃o xs,H a=some (.uO o (.lst xs)))->(H a≠none->K.lookup a=none)->
  codeAny (model P w) callerA (.call (.ref fa) ⟨[.ref a],[]⟩) (fun r s'=>r=.ok (.ret (.bool true))/\OldK bR.heap s'.heap/\s'.os=bR.os/\AllBare s'.gens) bR:=by
  intro H hS hP bO hA hO hK;have Am:∀{b:Addr}{o:Obj},bR.heap.get? b=some o->(o.cls≠.type "list"\/∀xs n,o.data≠.seq xs n)->o≠tabObj #[]->H b=none:=fun{b o} e d d2=>by
   cases q:H b with
   |none=>rfl
   |some u=>
    rcases hA b (by rw[q];simp) with z|z
    ·subst z;rw[ha] at e;cases e;rcases d with d|d
     ·exact absurd rfl d
     ·exact absurd rfl (d _ _)
    ·subst z;rw[Eo] at e;cases e;exact absurd rfl d2
  have FT:∀{b:Addr}{m:Str->Option Value},bR.heap.Ns b m->(mJ bR.heap H).Ns b m:=fun{b m}⟨o,es,ep,e,d,r⟩=>⟨o,es,ep,jO e (Am e (.inr fun xs n z=>by rw[d] at z;cases z) fun z=>by rw[z] at d;cases d),d,r⟩;have Sf:K.In (mJ bR.heap H):=fun b o e=>jO (KX b o e) (by
   cases q:H b with
   |none=>rfl
   |some u=>
    rcases hA b (by rw[q];simp) with z|z
    ·subst z
     rw[hK (by rw[q];simp)] at e;cases e
    ·subst z
     have h2:=List.all_eq_true.mp LW (b,o) (mem_of_lookupK e)
     have:=KX b o e
     rw[Eo] at this;cases this
     exact absurd (show false=true from h2) Bool.false_ne_true);have Sg:∀{b:Addr}{o:Obj},bR.heap.get? b=some o->o.cls=.type "module"->(mJ bR.heap H).get? b=some o:=fun{b o} e c=>jO e (Am e (.inl (by rw[c];intro z;exact absurd (Value.type.inj z) (by decide))) fun z=>by rw[z] at c;cases c);have hM:Mod K mg (mJ bR.heap H):=⟨Sf,FT zV,⟨mb,FT hb,JH⟩,(let⟨mc,h1,h2⟩:=PY;⟨mc,FT h1,h2⟩),(let⟨mc,h1,h2⟩:=x4.statics;⟨mc,FT h1,h2⟩),(let⟨mc,h1,h2⟩:=x4.mods;⟨mc,FT h1,h2⟩),(let⟨mc,h1,h2⟩:=x4.imp;⟨mc,FT h1,h2⟩),
   (let⟨g,bm,ob,h1,h2,h3,h4,h5⟩:=x4.main;⟨g,bm,ob,FT h1,h2,Sg h3 h4,h4,h5⟩)⟩;have VC:BMain (mJ bR.heap H) mg:=let⟨bm,ob,b1,b2,b3,b4,b5,b6⟩:=BM;⟨bm,ob,b1,b2,b3,Sg b4 b5,b5,b6⟩;have P0:CodeHd (mJ bR.heap H) c Pt:=by
   obtain⟨o,ws,file,tf,flags,tg,VD,text,tt,e1,r1,r2⟩:=lT;exact⟨o,ws,file,tf,flags,tg,VD,text,tt,jO e1 (Am e1 (.inl (by rw[r1];intro z;exact absurd (Value.type.inj z) (by decide))) fun z=>by rw[z] at r1;cases r1),r1,r2⟩
  have e0:rZ P w K mg (mJ bR.heap H) callerA [] bR H:=⟨rfl,hM,fun b o e=>Dc e,Nat.le_of_eq (yv _ _),trivial,fun b hb=>absurd (show b∈([]:List Addr) from hb) (by simp),bO,.of_eq hg⟩;refine codeAny_mono ((F _ Sf (FT zV) VC P0).run callerA [] bR H ⟨[.ref a],[]⟩ [.ref a] [.ref a] _ _ (FP hr) e0 (B9 bR (.ref a)) (.cons rfl .nil) (An H hS hP)) fun r s' h=>?_;cases r with
  |error e=>exact h.elim
  |ok fl=>
   cases fl with
   |next=>exact False.elim h
   |brk=>exact False.elim h
   |cont=>exact False.elim h
   |ret u=>
    obtain⟨v,H',os,bare,un,LX,r',q⟩:=h;have q':v=.bl true:=q;subst q';obtain rfl:u=Value.bool true:=r';obtain⟨more,eP⟩:=un.mI Pt #[] hP;have Sh:s'.heap.get? Pt=some (tabObj (#[]++more)):=LX Pt _ eP;have kp:∀b o,b≠Pt->bR.heap.get? b=some o->s'.heap.get? b=some o:=fun b o nb e=>by
     cases q:H b with
     |none=>exact un.keep b o e q (by intro z;exact absurd (show b∈([]:List Addr) from z) (by simp)) (by simp)
     |some u=>
      have pC:b=a:=(hA b (by rw[q];simp)).resolve_right nb;subst pC;rcases hO with z|⟨ob,xs,z⟩
      ·rw[q] at z;cases z
      ·have z2:=un.mH b ob _ z;obtain⟨e1,_⟩:=bO b _ z;obtain⟨e2,_⟩:=LX b _ z2;rw[e] at e1;cases e1;exact e2
    refine⟨rfl,⟨fun b o e=>?_,fun b o e=>?_⟩,os,bare⟩
    ·by_cases Ei:b=Pt
     ·subst Ei;have eo:o=tabObj #[]:=Option.some.inj (e.symm.trans Eo);subst eo;exact .inr (.inl ⟨(lT.tab Eo).isCodeTable,rfl,#[],more,rfl,Sh⟩)
     ·exact .inl (kp b o Ei e)
    ·by_cases Ei:b=Pt
     ·subst Ei;exact⟨_,Sh⟩
     ·exact⟨o,kp b o Ei e⟩
 have FU:∀H,cI P w H bR.heap Pt (.oX #[]):=fun _=>Eo;cases hk:K.lookup a with
 |some o=>
  have e:=KX a o hk;rw[ha] at e;cases e;refine core (fun b=>if b=Pt then some (.oX #[]) else none) (.inr ⟨_,vs.toArray,_,hk,rfl,rfl,rfl,by rw[List.size_toArray,PZ];exact hl,by simpa using rv⟩) (if_pos rfl) (fun b u z=>?_) (fun b z=>?_) (.inl (if_neg Nn)) fun z=>absurd (if_neg Nn) z
  ·by_cases hb:b=Pt
   ·have z':=(if_pos hb).symm.trans z;cases z';subst hb;exact FU _
   ·have z':=(if_neg hb).symm.trans z;cases z'
  ·by_cases hb:b=Pt
   ·exact .inr hb
   ·exact absurd (if_neg hb) z
 |none=>
  refine core (fun b=>if b=Pt then some (.oX #[]) else if b=a then some (.uO {cls:=.type "list",data:=.seq vs.toArray} (.lst (ns.map V.int))) else none) (.inl (.inr ⟨{cls:=.type "list",data:=.seq vs.toArray},by show(if a=Pt then _ else _)=_;rw[if_neg Nn,if_pos rfl]⟩)) (if_pos rfl) (fun b u z=>?_) (fun b z=>?_) (.inr ⟨_,_,by show(if a=Pt then _ else _)=_;rw[if_neg Nn,if_pos rfl]⟩) fun _=>hk
  ·have z:(if b=Pt then some (.oX #[]) else if b=a then some (.uO {cls:=.type "list",data:=.seq vs.toArray} (.lst (ns.map V.int))) else none:Option HO)=some u:=z;by_cases hb:b=Pt
   ·rw[if_pos hb] at z;cases z;subst hb;exact FU _
   ·rw[if_neg hb] at z;by_cases pC:b=a
    ·rw[if_pos pC] at z;cases z;subst pC;exact⟨ha,by rw[List.length_map];exact hl,vs,_,rv,ha⟩
    ·rw[if_neg pC] at z;cases z
  ·by_cases hb:b=Pt
   ·exact .inr hb
   ·rw[if_neg hb] at z;by_cases pC:b=a
    ·exact .inl pC
    ·rw[if_neg pC] at z;exact absurd rfl z
theorem walk2{l:OpenLaw}{n k j:Nat}{q:Program}{loose:List Str}{XP:(Str->Option Value)->Heap->Prop}{YP:World->Heap->Prop}{d:DefRec}{K:Params->Frag}{sp:Frag->Addr->Sp}{x:Str}(hn:l.most=some n)(Pb:n<=sizeLine)(Kv:d.params.defaults=[])(hr:fi k callerA)(B8:(recsOf q)[j]?=some d)(hY:∀(w:World)(h:Heap),YP w h->(K w.params).In h)(LW:∀w:World,noTabs (K w.params)=true)(F:∀(w:World)(mg:Str->Option Value)(fa:Addr)(h:Heap),(K w.params).In h->h.Ns mainGlobals mg->mg d.name=some (.ref fa)->
 ∃fd:FuncData,(∃oc od sl,(K w.params).lookup fa=some ⟨oc,od,.func fd,sl⟩)/\(∀(s:Shared)(u:Value),BindsTo s fd ⟨[u],[]⟩ [(x,u)])/\
  ∀(base:Heap)(c Pt:Addr),fd.code=.ref c->(K w.params).In base->base.Ns mainGlobals mg->BMain base mg->CodeHd base c Pt->FR l.prog w (K w.params) mg base vd true k fa fd [x] fun _=>sp (K w.params) Pt)(An:∀(K:Frag)(Pt:Addr)(H:Hp)(a:Addr)(ns:List Int),ns.length<=n->aM K H a (ns.map V.int)->H Pt=some (.oX #[])->sp K Pt [.ref a] H (fun v _=>v=.bl true) E0)(hi:importsNone q=true):
 WalkO q loose XP YP l.row.toRowW d [] (fun f vs=>PySem.call f vs):=by
 refine Ry.sj hn Kv fun w fh bR mg mb fa o pm cd doc a vs ns G Y ho hd lT Jo GS hints hlen hg=>?_;have KX:=hY w _ Y;obtain⟨fd,⟨oc,od,sl,lk⟩,hb,hF⟩:=F w mg fa _ KX G.T.g Jo;obtain⟨a2,o2,VE,c,Pt,t1,t2,t3,t4,t5,t6⟩:=G.T.tab d (List.mem_of_getElem? B8);have ea:a2=fa:=Value.ref.inj (Option.some.inj (t1.symm.trans Jo));subst ea;have eo:=Option.some.inj (t2.symm.trans (KX _ _ lk));subst eo;have VF:fd=VE:=by injection t3
 subst VF;have BM:BMain bR.heap mg:=by
  obtain⟨bm,ob,b1,b2,b3,b4,b5,b6⟩:=G.T.bmain;refine⟨bm,ob,b1,b2,fun z=>?_,b3,b4,b5,b6⟩;obtain⟨o',es,ep,e,dd,_⟩:=G.T.g;rw[z,e] at b3;cases b3;rw[dd] at b6;cases b6
 exact zq KX G.T.g G.T.b G.T.builtins G.T.nolimit (G.T.seer hi) hg GS hints (Nat.le_trans hlen Pb) hr (CodeHd.of t5 t6) t6.2 (LW w) BM (fun base b1 b2 b3 b4=>hF base c Pt t4 b1 b2 b3 b4) hb fun H hS hP=>An _ Pt H a ns hlen hS hP
end SF
namespace SF
open PySem PySem.Spec PyProof.Rows L2 PySem.W
section
variable {M:Model} {A:Around} {E:Value->Shared->Prop} {env:Env}
variable {nm q:Str} {C N:Addr} {bs bm:List Value} {hdct:Bool} {sn:List Str} {sub:List Value} {ab:Bool} {col:Option Bool} {dd:Option Addr} {k0 k1 k2 k3 k5:Option Value} {newId:String}
end
end SF
namespace L2
open PySem PySem.Spec PyProof.Rows
inductive vT:List Expr->List Str->Prop
 |nil:vT [] []
 |cons {x:Str} {j:Nat} {p:Pos} {es:List Expr} {ns:List Str} (h:vT es ns):vT (.Constant (.str x) j p::es) (x::ns)
end L2
local macro_rules|`(tactic| walk_at "sf")=>`(tactic| (repeat first
 |((with_reducible apply L2.KD);exact rfl)
 |with_reducible apply L2.Uj|with_reducible apply L2.Ky|with_reducible apply L2.Kz|with_reducible apply L2.KC|with_reducible apply L2.Oy|with_reducible apply L2.Oz
 |with_reducible apply L2.OA|with_reducible apply L2.Uk|with_reducible apply L2.GZ|with_reducible apply L2.OB|with_reducible apply L2.OC|with_reducible apply L2.KH|with_reducible apply L2.KI
 |with_reducible apply L2.KJ|with_reducible apply L2.KL|with_reducible apply L2.KN|with_reducible apply L2.OD|with_reducible apply L2.KO|with_reducible apply L2.G0|with_reducible apply L2.KP|with_reducible apply L2.G1
 |with_reducible apply L2.KQ|with_reducible apply L2.G2|with_reducible apply L2.G3|with_reducible apply L2.OE|with_reducible apply L2.KR|with_reducible apply L2.KS|with_reducible apply L2.GV|with_reducible apply L2.GW
 |with_reducible apply L2.KU|with_reducible apply L2.KG|with_reducible apply L2.GX|with_reducible apply L2.Dt|with_reducible apply L2.Du|with_reducible apply L2.GY|with_reducible apply L2.KA
 |with_reducible apply L2.Dy|with_reducible apply L2.G9|with_reducible apply L2.G_|with_reducible apply L2.Dz|with_reducible apply L2.G'|with_reducible apply L2.Ha|with_reducible apply L2.AG|with_reducible apply L2.DA|with_reducible apply L2.K1
 |((with_reducible show(_<=PySem.sizeLine)/\_);refine And.intro (L2.cD (Nat.le_of_ble_eq_true rfl)) ?_)))
namespace eQ
open PySem PyProof.Rows L2 SF
noncomputable def top(i:Nat):Stmt:=PySem.Challenge.pw_surefoot_k15_whole_no_root_is_missed.main.body.getD i (.Pass ⟨0,0,0,0⟩)
noncomputable abbrev eS:Stmt:=top 8
theorem bQ:aB ["one","other","greater","lesser","rest"] ["one","other"] (au eS):=⟨rfl,rfl,rfl,by decide +kernel,rfl,by decide +kernel,by decide +kernel⟩
noncomputable abbrev vU:Stmt:=top 9
theorem Ep:aB ["number"] ["number"] (au vU):=⟨rfl,rfl,rfl,by decide +kernel,rfl,by decide +kernel,by decide +kernel⟩
noncomputable abbrev qR:Stmt:=top 10
theorem fQ:aB ["number","many","product","square","left"] ["number","many"] (au qR):=⟨rfl,rfl,rfl,by decide +kernel,rfl,by decide +kernel,by decide +kernel⟩
noncomputable abbrev qS:Stmt:=top 11
theorem nR:aB ["top","under","shared"] ["top","under"] (au qS):=⟨rfl,rfl,rfl,by decide +kernel,rfl,by decide +kernel,by decide +kernel⟩
noncomputable abbrev nS:Stmt:=top 12
theorem zr:aB ["one","other"] ["one","other"] (au nS):=⟨rfl,rfl,rfl,by decide +kernel,rfl,by decide +kernel,by decide +kernel⟩
noncomputable abbrev kW:Stmt:=top 14
theorem jC:aB ["row","length"] ["row"] (au kW):=⟨rfl,rfl,rfl,by decide +kernel,rfl,by decide +kernel,by decide +kernel⟩
noncomputable abbrev nT:Stmt:=top 15
theorem zt:aB ["poly"] ["poly"] (au nT):=⟨rfl,rfl,rfl,by decide +kernel,rfl,by decide +kernel,by decide +kernel⟩
noncomputable abbrev gY:Stmt:=top 16
theorem oI:aB ["poly"] ["poly"] (au gY):=⟨rfl,rfl,rfl,by decide +kernel,rfl,by decide +kernel,by decide +kernel⟩
noncomputable abbrev kX:Stmt:=top 17
theorem gZ:aB ["poly","shared","number"] ["poly"] (au kX):=⟨rfl,rfl,rfl,by decide +kernel,rfl,by decide +kernel,by decide +kernel⟩
noncomputable abbrev iR:Stmt:=top 18
theorem kg:aB ["poly","shared"] ["poly"] (au iR):=⟨rfl,rfl,rfl,by decide +kernel,rfl,by decide +kernel,by decide +kernel⟩
noncomputable abbrev jD:Stmt:=top 19
theorem fV:aB ["poly","point","value","number"] ["poly","point"] (au jD):=⟨rfl,rfl,rfl,by decide +kernel,rfl,by decide +kernel,by decide +kernel⟩
noncomputable abbrev nU:Stmt:=top 20
theorem fD:aB ["value","point","poly","rest","number"] ["value","point"] (au nU):=⟨rfl,rfl,rfl,by decide +kernel,rfl,by decide +kernel,by decide +kernel⟩
noncomputable abbrev kY:Stmt:=top 21
theorem dS:aB ["poly","divisor","rest","factors","factor","shift","power","number"] ["poly","divisor"] (au kY):=⟨rfl,rfl,rfl,by decide +kernel,rfl,by decide +kernel,by decide +kernel⟩
noncomputable abbrev kZ:Stmt:=top 22
theorem vV:aB ["poly"] ["poly"] (au kZ):=⟨rfl,rfl,rfl,by decide +kernel,rfl,by decide +kernel,by decide +kernel⟩
noncomputable abbrev g7:Stmt:=top 23
theorem cG:aB ["one","other","first","second","point","shared","found"] ["one","other"] (au g7):=⟨rfl,rfl,rfl,by decide +kernel,rfl,by decide +kernel,by decide +kernel⟩
noncomputable abbrev jE:Stmt:=top 24
theorem tS:aB ["one","other"] ["one","other"] (au jE):=⟨rfl,rfl,rfl,by decide +kernel,rfl,by decide +kernel,by decide +kernel⟩
noncomputable abbrev f9:Stmt:=top 25
theorem nV:aB ["poly"] ["poly"] (au f9):=⟨rfl,rfl,rfl,by decide +kernel,rfl,by decide +kernel,by decide +kernel⟩
noncomputable abbrev iS:Stmt:=top 26
theorem dF:aB ["poly","top","under","height","scale","number"] ["poly","top","under"] (au iS):=⟨rfl,rfl,rfl,by decide +kernel,rfl,by decide +kernel,by decide +kernel⟩
noncomputable abbrev k_:Stmt:=top 27
theorem vW:aB ["poly","given"] ["poly","given"] (au k_):=⟨rfl,rfl,rfl,by decide +kernel,rfl,by decide +kernel,by decide +kernel⟩
noncomputable abbrev g8:Stmt:=top 29
theorem cY:aB ["row","many","before","number"] ["row"] (au g8):=⟨rfl,rfl,rfl,by decide +kernel,rfl,by decide +kernel,by decide +kernel⟩
noncomputable abbrev iT:Stmt:=top 30
theorem bZ:aB ["one","other","size","turn","rest","shift","factor","power_of_x","number"] ["one","other"] (au iT):=⟨rfl,rfl,rfl,by decide +kernel,rfl,by decide +kernel,by decide +kernel⟩
noncomputable abbrev jF:Stmt:=top 31
theorem b_:aB ["free","chain","size","scale","one","other","gap","shared"] ["free"] (au jF):=⟨rfl,rfl,rfl,by decide +kernel,rfl,by decide +kernel,by decide +kernel⟩
noncomputable abbrev g9:Stmt:=top 32
theorem oJ:aB ["chain","given"] ["chain","given"] (au g9):=⟨rfl,rfl,rfl,by decide +kernel,rfl,by decide +kernel,by decide +kernel⟩
noncomputable abbrev iU:Stmt:=top 35
theorem fz:aB ["free","reach","bound","number"] ["free","reach"] (au iU):=⟨rfl,rfl,rfl,by decide +kernel,rfl,by decide +kernel,by decide +kernel⟩
noncomputable abbrev jG:Stmt:=top 36
theorem iV:aB ["free","reach"] ["free"] (au jG):=⟨rfl,rfl,rfl,by decide +kernel,rfl,by decide +kernel,by decide +kernel⟩
noncomputable abbrev eE:Stmt:=top 37
theorem cU:aB ["free","odd","bound"] ["free"] (au eE):=⟨rfl,rfl,rfl,by decide +kernel,rfl,by decide +kernel,by decide +kernel⟩
noncomputable abbrev nW:Stmt:=top 38
theorem zu:aB ["chain","given"] ["chain","given"] (au nW):=⟨rfl,rfl,rfl,by decide +kernel,rfl,by decide +kernel,by decide +kernel⟩
noncomputable abbrev g_:Stmt:=top 39
theorem bH:aB ["poly","free","chain","around","waiting","found","stretch","low","high","many","cut"] ["poly"] (au g_):=⟨rfl,rfl,rfl,by decide +kernel,rfl,by decide +kernel,by decide +kernel⟩
noncomputable abbrev jH:Stmt:=top 41
theorem tT:aB ["_law_script","_law_k"] ["_law_script","_law_k"] (au jH):=⟨rfl,rfl,rfl,by decide +kernel,rfl,by decide +kernel,by decide +kernel⟩
noncomputable abbrev iW:Stmt:=top 42
theorem kh:aB ["_law_cell_here","_law_k","_law_more"] ["_law_cell_here","_law_k"] (au iW):=⟨rfl,rfl,rfl,by decide +kernel,rfl,by decide +kernel,by decide +kernel⟩
noncomputable abbrev jI:Stmt:=top 43
theorem iX:aB ["_law_e","_law_flags"] ["_law_e"] (au jI):=⟨rfl,rfl,rfl,by decide +kernel,rfl,by decide +kernel,by decide +kernel⟩
noncomputable abbrev eT:Stmt:=top 44
theorem lO:aB ["_law_rule","_law_e"] ["_law_rule"] (au eT):=⟨rfl,rfl,rfl,by decide +kernel,rfl,by decide +kernel,by decide +kernel⟩
noncomputable abbrev h_:Stmt:=top 45
theorem cZ:aB ["_law_one","_law_other","_law_left"] ["_law_one","_law_other"] (au h_):=⟨rfl,rfl,rfl,by decide +kernel,rfl,by decide +kernel,by decide +kernel⟩
noncomputable abbrev iY:Stmt:=top 46
theorem ki:aB ["_law_top","_law_under","_law_divisor"] ["_law_top","_law_under"] (au iY):=⟨rfl,rfl,rfl,by decide +kernel,rfl,by decide +kernel,by decide +kernel⟩
noncomputable abbrev iZ:Stmt:=top 47
theorem kj:aB ["_law_one","_law_other","_law_gap"] ["_law_one","_law_other"] (au iZ):=⟨rfl,rfl,rfl,by decide +kernel,rfl,by decide +kernel,by decide +kernel⟩
noncomputable abbrev f_:Stmt:=top 48
theorem eF:aB ["_law_one","_law_other","_law_made","_law_k","_law_j"] ["_law_one","_law_other"] (au f_):=⟨rfl,rfl,rfl,by decide +kernel,rfl,by decide +kernel,by decide +kernel⟩
noncomputable abbrev i4:Stmt:=top 49
theorem cV:aB ["_law_poly","_law_given","_law_total","_law_k","_law_part","_law_j"] ["_law_poly","_law_given"] (au i4):=⟨rfl,rfl,rfl,by decide +kernel,rfl,by decide +kernel,by decide +kernel⟩
noncomputable abbrev gb:Stmt:=top 50
theorem aW:aB ["_law_script","_law_k","_law_many_here","_law_made","_law_j","_law_more","_law_a","_law_given","_law_one","_law_n"] ["_law_script","_law_k","_law_many_here"] (au gb):=⟨rfl,rfl,rfl,by decide +kernel,rfl,by decide +kernel,by decide +kernel⟩
noncomputable abbrev jJ:Stmt:=top 51
theorem tU:aB ["_law_factor"] ["_law_factor"] (au jJ):=⟨rfl,rfl,rfl,by decide +kernel,rfl,by decide +kernel,by decide +kernel⟩
noncomputable abbrev lj:Stmt:=top 52
theorem fR:aB ["_law_factors_here","_law_powers","_law_made","_law_k","_law_j"] ["_law_factors_here","_law_powers"] (au lj):=⟨rfl,rfl,rfl,by decide +kernel,rfl,by decide +kernel,by decide +kernel⟩
noncomputable abbrev eU:Stmt:=top 53
theorem de:aB ["_law_pair","_law_plain","_law_one","_law_low","_law_high"] ["_law_pair","_law_plain"] (au eU):=⟨rfl,rfl,rfl,by decide +kernel,rfl,by decide +kernel,by decide +kernel⟩
noncomputable abbrev ip:Stmt:=top 54
theorem gd:aB ["_law_script","_law_factors_here","_law_powers","_law_poly","_law_plain","_law_told_here","_law_k","_law_kept","_law_great"] ["_law_script"] (au ip):=⟨rfl,rfl,rfl,by decide +kernel,rfl,by decide +kernel,by decide +kernel⟩
structure Nm(mg:Str->Option Value):Prop where
 kl:mg "abs"=none
 cx:mg "len"=none
 pT:mg "int"=none
 LY:mg "max"=none
 LZ:mg "min"=none
 L3:mg "sum"=none
 L4:mg "any"=none
 Si:mg "all"=none
 nX:mg "list"=none
 eZ:mg "range"=none
 i7:mg "enumerate"=none
 ie:mg "reversed"=none
 Er:mg "tuple"=none
 b0:mg "isinstance"=none
 qT:mg "ValueError"=none
noncomputable abbrev IL(H:Hp)(a:Addr)(xs:List Int):Prop:=H a=some (.lst (xs.map V.int))
noncomputable def Ab(n:Nat)(xs:List Int):Prop:=∀x∈xs,Bd n x
theorem Ab.co{n:Nat}{xs:List Int}(h:Ab n xs)(i:Nat):Bd n (SF.co xs i):=by
 by_cases hi:i<xs.length
 ·rw[bI hi];exact h _ (List.getElem_mem _)
 ·rw[cw (by lia)];show(0:Int).natAbs<2^n;exact Nat.two_pow_pos n
theorem Ab.mono{m n:Nat}{xs:List Int}(h:Ab m xs)(hm:m<=n):Ab n xs:=fun x hx=>(h x hx).mono hm
theorem bC{i j:Int}{m n:Nat}(hi:Bd m i)(hj:Bd n j)(h:m+n<=134217728):IntMulOk i j:=by
 have bits:∀{k:Nat}{x:Int},Bd k x->Builtin.Int.intBits x<=k:=fun{k x} hx=>PySem.intBits_le_iff.mpr hx;exact PySem.IntMulOk.of_le (bits hi) (bits hj) (by lia)
theorem iq{xs:List Int}{n:Nat}(h:n<xs.length):qk (xs.map V.int) (n:Int)=some (.int (SF.co xs n)):=
 fw (by rw[List.getElem?_map,List.getElem?_eq_getElem h,bI h]<;>rfl)
theorem ll{xs:List Int}{n:Nat}{x:V}(h:(xs.map V.int)[n]?=some x):n<xs.length/\x=.int (SF.co xs n):=by
 have hn:n<xs.length:=by
  have:=(List.getElem?_eq_some_iff.mp h).1
  rwa [List.length_map] at this
 rw[List.getElem?_map,List.getElem?_eq_getElem hn] at h;rw[bI hn];exact⟨hn,(Option.some.inj h).symm⟩
theorem Cb(xs:List Int)(n:Nat):gp (xs.map V.int) none (some (n:Int))=(xs.take n).map V.int:=by
 unfold gp;rw[HT.mT,HT.wY,List.length_map,List.drop_zero,Nat.sub_zero,List.map_take];rcases Nat.le_total n xs.length with h|h
 ·rw[Nat.min_eq_left h]
 ·rw[Nat.min_eq_right h,List.take_of_length_le (by simp),List.take_of_length_le (by simpa using h)]
theorem Cc(xs:List Int)(k:Nat):gp (xs.map V.int) (some (k:Int)) none=(xs.drop k).map V.int:=by
 unfold gp;rw[HT.mT,HT.wY,List.length_map,List.map_drop];rcases Nat.le_total k xs.length with h|h
 ·rw[Nat.min_eq_left h,List.take_of_length_le (by simp)]
 ·rw[Nat.min_eq_right h,Nat.sub_self,List.take_zero,List.drop_of_length_le (by simpa using h)]
theorem tV(xs:List Int):gp (xs.map V.int) none (some (-1))=xs.dropLast.map V.int:=by
 unfold gp;rw[HT.mT,List.drop_zero,Nat.sub_zero,List.length_map,List.dropLast_eq_take,List.map_take];have e:HT.rK xs.length xs.length (some (-1))=xs.length-1:=by
  show(if(-1:Int)<0 then((-1:Int)+(xs.length:Int)).toNat else min (-1:Int).toNat xs.length)=xs.length-1;rw[if_pos (by decide)];lia
 rw[e]
theorem km{α:Type}(x:α):∀n:Nat,(List.replicate n [x]).flatten=List.replicate n x
 |0=>rfl
 |n+1=>by
  rw[List.replicate_succ,List.flatten_cons,km x n,List.replicate_succ];rfl
theorem qU(n:Nat)(x:Int):(List.replicate n x).map V.int=List.replicate n (V.int x):=List.map_replicate
theorem vX{n i:Nat}(h:i<n):u6 n (i:Int)=some i:=by
 unfold u6;rw[if_pos (by lia),if_pos (by lia)];simp
theorem fW{xs:List Int}(h:xs≠[]):qk (xs.map V.int) (-1)=some (.int (SF.co xs (xs.length-1))):=by
 have hl:0<xs.length:=List.length_pos_iff.mpr h;unfold qk;have e:u6 (xs.map V.int).length (-1)=some (xs.length-1):=by
  unfold u6;rw[List.length_map,if_neg (by decide),if_pos (by lia)];congr 1;lia
 rw[e];show(xs.map V.int)[xs.length-1]?=_;rw[List.getElem?_map,List.getElem?_eq_getElem (by lia),bI (by lia)];rfl
noncomputable def x5:Sp:=fun vs H Q _=>∃a b:Int,vs=[.int a,.int b]/\Q (.int ((Int.gcd a b:Nat):Int)) H
noncomputable def C5(f:List Int->List Int)(Pr:List Int->Prop):Sp:=fun vs H Q _=>∃(a:Addr)(xs:List Int),vs=[.ref a]/\IL H a xs/\Pr xs/\∀(p:Addr)(H':Hp),av H H'->IL H' p (f xs)->Q (.ref p) H'
noncomputable def zv(f:List Int->List Int->List Int)(Pr:List Int->List Int->Prop):Sp:=fun vs H Q _=>∃(a b:Addr)(xs ys:List Int),vs=[.ref a,.ref b]/\IL H a xs/\IL H b ys/\Pr xs ys/\∀(p:Addr)(H':Hp),av H H'->IL H' p (f xs ys)->Q (.ref p) H'
noncomputable def Sj(f:List Int->Int)(Pr:List Int->Prop):Sp:=fun vs H Q _=>∃(a:Addr)(xs:List Int),vs=[.ref a]/\IL H a xs/\Pr xs/\Q (.int (f xs)) H
noncomputable abbrev Cd(xs:List Int):Prop:=xs.length<=1000
noncomputable abbrev lP:Nat:=60000000
noncomputable abbrev Sk(xs ys:List Int):Prop:=(xs.length<=100/\ys.length<=100)/\Ab lP xs/\Ab lP ys
section
variable {P:Program} {w:World} {K:PySem.W.Frag} {mg:Str->Option Value} {base:Heap}
theorem ko(T:Nm mg)(D:aN K mg "common_divisor" eS ["one","other"]):cb P w K mg base 1 "common_divisor" ["one","other"] x5:=by
 refine D.ok bQ (fun vs H Q E h=>?_) (fun f cq A outer s H vs Q E hr h=>?_)
 ·obtain⟨a,b,rfl,_⟩:=h;rfl
 obtain⟨a,b,rfl,q⟩:=h;refine⟨_,(ae (ar (i:=2) bQ.nd rfl (Or.inl rfl) (aw d9 rfl T.kl boot_abs (aa (pv 0) af)))
  (ae (ar (i:=3) bQ.nd rfl (Or.inl rfl) (aw d9 rfl T.kl boot_abs (aa (pv 1) af)))
  (ae (dj PassesOwn.never (fE (pv 3) (fun _=>rfl))
  (ae (ar (i:=4) bQ.nd rfl (Or.inl rfl) (ak bL (pv 2) (pv 3)))
  (ae (ar (i:=2) bQ.nd rfl (Or.inl rfl) (pv 3))
  (aj (ar (i:=3) bQ.nd rfl (Or.inl rfl) (pv 4))))))
  (aj (aC (pv 2)))))),?_⟩;walk_at "sf";refine⟨_,rfl,?_⟩;walk_at "sf";refine⟨_,rfl,?_⟩;walk_at "sf";refine cW (fun m σ H'=>∃(g l:Int)(r:Option V),m=l.toNat/\σ=[some (.int a),some (.int b),some (.int g),some (.int l),r]/\H'=H/\0<=g/\0<=l/\Int.gcd g l=Int.gcd a b)
  ⟨_,_,_,_,rfl,rfl,rfl,by split<;>lia,by split<;>lia,xc⟩ ?_
 rintro m σ H' ⟨g,l,r,rfl,rfl,rfl,hg,hl,e⟩;walk_at "sf";refine eM (fun c=>?_) (fun c=>?_)
 ·have vC:l≠0:=by simpa using c
  have hp:0<l:=by lia
  refine⟨_,fun bE H' h=>h,?_⟩;walk_at "sf";refine cB vC ?_;walk_at "sf";have h1:=Int.emod_nonneg g vC;have h2:=Int.emod_lt_of_pos g hp;rw[dr hp];exact⟨_,by lia,_,_,_,rfl,rfl,rfl,hl,h1,by rw[sC hg hp,e]⟩
 ·have vC:l=0:=by simpa using c
  subst vC;walk_at "sf";have e':((Int.gcd a b:Nat):Int)=g:=by rw[<-e];exact xf hg
  rw[e'] at q;exact q
theorem zw(xs:List Int):az xs=dX (fun i=>(co xs i).fdiv (cont xs)) xs.length:=by
 unfold az;refine List.ext_getElem (by rw[List.length_map,aA]) fun i h1 h2=>?_;simp only[dX,List.getElem_map,List.getElem_range];rw[bI (by simpa using h1)]
theorem oK(T:Nm mg)(D:aN K mg "derivative" gY ["poly"]):cb P w K mg base 1 "derivative" ["poly"] (C5 bT (fun xs=>Cd xs/\Ab lP xs)):=by
 refine D.ok oI (fun vs H Q E h=>?_) (fun f cq A outer s H vs Q E hr h=>?_)
 ·obtain⟨a,xs,rfl,_⟩:=h;rfl
 obtain⟨a,xs,rfl,ha,⟨hx,bx⟩,q⟩:=h;refine⟨_,(aj (aC (jS mi (je rfl rfl (gL (own:=["power","number"]) (fr:=[]) (fs:=[]) (by with_unfolding_all rfl) rfl (by decide +kernel) (by decide +kernel) (by exact trivial) (by with_unfolding_all rfl) (by exact trivial)) (qo rfl T.i7 (aa (pv 0) af)) (fun _ _ _ _ _=>(DG (K:=K) (n:=2) rfl rfl (e_ (aT (i:=0) (show List.Nodup (["power","number"]:List Str) by decide +kernel) rfl (Or.inl rfl) (Or.inr rfl)) (e_ (aT (i:=1) (show List.Nodup (["power","number"]:List Str) by decide +kernel) rfl (Or.inl rfl) (Or.inr rfl)) l_)) rfl rfl)) (fun _ _ _ _ _=>(ak aF (pv 0) (pv 1)))) (me ah) md))),?_⟩;walk_at "sf";refine gR (H1:=H) (AB K a) (fun R hR=>?_) (vn (xs:=xs) (aM.of ha) (fun i=>(i:Int)*co xs i) hx ?_ ?_)
 ·walk_at "sf";exact⟨a,rfl,⟨_,aM.of ha⟩,hR⟩
 ·intro i p r H2 hi hr d_ hp Z hZ;obtain⟨x0,x1,rfl⟩:=OW hr;refine qm (cJ.of hp) rfl ?_;walk_at "sf";refine cB (bC (m:=10) (Bd.fF (by lia) (by have:xs.length<=1000:=hx;lia)) (bx.co i) (by decide)) ?_;exact hZ _ _ (av.refl _) ⟨[_,_],rfl,rfl⟩
 ·intro D H2 hD d_ h2;walk_at "sf";refine⟨_,rfl,?_⟩;walk_at "sf";refine⟨D,_,rfl,aM.of h2,fun p hp=>q p _ (d_.trans (av.new hp _)) ?_⟩;show upd H2 p _ p=_;rw[ai];have e:gp ((dX (fun i=>(i:Int)*co xs i) xs.length).map V.int) (some 1) none=((dX (fun i=>(i:Int)*co xs i) xs.length).drop 1).map V.int:=Cc _ 1;rw[e,yQ]
theorem vY{xs:List Int}{i:Nat}(h:i<xs.length):jW 0 (xs.take (i+1))=Int.gcd ((jW 0 (xs.take i):Nat):Int) (co xs i):=by
 rw[List.take_add_one,List.getElem?_eq_getElem h,Option.toList_some];unfold jW;rw[List.foldl_append,bI h];rfl
theorem vZ(cO:cb P w K mg base 1 "common_divisor" ["one","other"] x5)(D:aN K mg "content" kX ["poly"]):cb P w K mg base 2 "content" ["poly"] (Sj cont Cd):=by
 refine D.ok gZ (fun vs H Q E h=>?_) (fun f cq A outer s H vs Q E hr h=>?_)
 ·obtain⟨a,xs,rfl,_⟩:=h;rfl
 obtain⟨a,xs,rfl,ha,hx,q⟩:=h;refine⟨_,(ae (ar (i:=1) gZ.nd rfl (Or.inl rfl) ah)
  (ae (dm PassesOwn.never rfl (fu (pv 0)) (aT (i:=2) gZ.nd rfl (Or.inl rfl))
  (aj (ar (i:=1) gZ.nd rfl (Or.inl rfl) (aJ cO hr (aa (pv 1) (aa (pv 2) af))))))
  (aj (aC (rR (PW.pt (mP (fE (pv 0) (fun _=>rfl)) (jP (aG jR (aL aP (pv 0) (dH cC ah) (fun _ _=>rfl)) ah (aI _))))) (dH cC (pv 1)) (pv 1)))))),?_⟩;walk_at "sf";refine⟨a,rfl,⟨_,aM.of ha⟩,?_⟩;refine rY (xs:=xs.map V.int) (fun i σ H'=>(∃r,σ=[some (.ref a),some (.int ((jW 0 (xs.take i):Nat):Int)),r])/\H'=H) ⟨⟨_,rfl⟩,rfl⟩ (fun i σ H' _ z=>by rw[z.2];exact aM.of ha) ?_ ?_
 ·rintro i x σ H' hi ⟨⟨r,rfl⟩,rfl⟩;obtain⟨FV,rfl⟩:=ll hi;walk_at "sf";refine⟨_,_,rfl,?_⟩;walk_at "sf";exact⟨⟨_,by rw[vY FV];rfl⟩,rfl⟩
 ·rintro σ H' ⟨⟨r,rfl⟩,rfl⟩;have e:jW 0 (xs.take (xs.map V.int).length)=eK xs:=by rw[List.length_map,List.take_length];rfl
  rw[e];walk_at "sf";refine vi (aM.of ha) ?_
  dsimp only
  unfold cont at q;by_cases C3:xs=[]
  ·subst C3;rw[if_neg (by decide),if_neg (by decide)];walk_at "sf";exact q
  ·have e1:(!(xs.map V.int).isEmpty)=true:=by
    cases xs with
    |nil=>exact absurd rfl C3
    |cons x r=>rfl
   rw[e1,if_pos rfl];walk_at "sf";refine bP (aM.of ha) (fW C3) ?_;walk_at "sf";refine eM (fun c=>?_) (fun c=>?_)
   ·rw[if_pos (by simpa using c)] at q;walk_at "sf";exact q
   ·rw[if_neg (by simpa using c)] at q;walk_at "sf";exact q
theorem qV(hT:P.given.tree=none)(zx:cb P w K mg base 33 "content" ["poly"] (Sj cont Cd))(D:aN K mg "primitive" iR ["poly"]):cb P w K mg base 34 "primitive" ["poly"] (C5 az (fun xs=>Cd xs/\Tr xs)):=by
 refine D.ok kg (fun vs H Q E h=>?_) (fun f cq A outer s H vs Q E hr h=>?_)
 ·obtain⟨a,xs,rfl,_⟩:=h;rfl
 obtain⟨a,xs,rfl,ha,⟨hx,tx⟩,q⟩:=h;refine⟨_,(ae (ar (i:=1) kg.nd rfl (Or.inr rfl) (aJ zx hr (aa (pv 0) af)))
  (aj (aC (je rfl rfl (gL (own:=["number"]) (fr:=[1]) (fs:=["shared"]) (by with_unfolding_all rfl) rfl (by decide +kernel) (by decide +kernel) (by exact⟨rfl,trivial⟩) (by with_unfolding_all rfl) (by exact⟨⟨rfl,rfl,rfl,Or.inl rfl⟩,trivial⟩)) (fu (pv 0)) (fun _ _ _ _ _=>(aT (i:=0) (show List.Nodup (["number","shared"]:List Str) by decide +kernel) rfl (Or.inl rfl) (Or.inr rfl))) (fun _ _ _ _ _=>(ak (fK ⟨hT,⟨_,_,rfl,rfl,rfl,rfl,rfl⟩,hr.py⟩) (pv 0) (pv 1))))))),?_⟩;walk_at "sf";refine⟨a,xs,rfl,ha,hx,?_⟩;walk_at "sf";refine gR (H1:=H) (rJ K a) (fun R hR=>?_) (fJ (xs:=xs) (aM.of ha) (fun i=>(co xs i).fdiv (cont xs)) hx ?_ ?_)
 ·walk_at "sf";exact⟨a,rfl,⟨_,aM.of ha⟩,hR⟩
 ·intro i r H2 hi hr d_ Z hZ;have hn:xs≠[]:=by rintro rfl;exact absurd hi (Nat.not_lt_zero _)
  obtain⟨x0,rfl⟩:=sL hr;walk_at "sf";refine cB (eV tx hn) ?_;exact hZ _ _ (av.refl _) ⟨[_],rfl,rfl⟩
 ·intro D H2 hD d_ h2;refine q D H2 d_ ?_;show H2 D=some (.lst ((az xs).map V.int));rw[zw];exact h2
end
end eQ
namespace eQ
open PySem PyProof.Rows L2 SF
noncomputable def v3(K:PySem.W.Frag):Sp:=fun vs H Q _=>∃(a:Addr)(ns:List Int)(k:Int),vs=[.ref a,.int k]/\aM K H a (ns.map V.int)/\ns.length<=63/\0<=k/\∀(c:Int)(H':Hp),av H H'->Q (.int c) H'
noncomputable def qW:Sp:=fun vs H Q _=>∃c k:Int,vs=[.int c,.int k]/\∀m:Int,0<=m->Bd 128 m->Q (.int m) H
theorem fm{x:Int}{m:Int}(hm:0<m):x.fmod m=x%m/\0<=x%m/\x%m<m:=⟨dr hm,Int.emod_nonneg x (Int.ne_of_gt hm),Int.emod_lt_of_pos x hm⟩
theorem JJ(n:Int)(h1:0<n)(h2:n<2^64):(n≠0/\n.natAbs.log2<9000):=⟨Int.ne_of_gt h1,(Bd.fF (n:=64) (by lia) h2).log2 (by decide)⟩
section
variable {P:Program} {w:World} {K:PySem.W.Frag} {mg:Str->Option Value} {base:Heap}
theorem tW(T:Nm mg)(D:aN K mg "_law_cell" jH ["_law_script","_law_k"]):cb P w K mg base 1 "_law_cell" ["_law_script","_law_k"] (v3 K):=by
 refine D.ok tT (fun vs H Q E h=>?_) (fun f cq A outer s H vs Q E hr h=>?_)
 ·obtain⟨a,ns,k,rfl,_⟩:=h;rfl
 obtain⟨a,ns,k,rfl,hS,hl,hk,q⟩:=h;refine⟨_,(ae (bM (aG (GU hr.u4) (pv 0) (bS af) (aI _))
  (aj (aC (ak aF (pv 1) ah)))
  aS)
  (aj (aC (ak aZ (aL aP (pv 0) (ak bL (pv 1) (aw ay rfl T.cx boot_len (aa (pv 0) af))) (fun _ _=>rfl)) (ak aF (ak dn (pv 1) (aw ay rfl T.cx boot_len (aa (pv 0) af))) ah))))),?_⟩;walk_at "sf";intro p hp;have g1:av H (upd H p (.lst [])):=av.new hp _;refine⟨a,p,ns,[],rfl,rfl,g1.seq hS,aM.of ai,?_⟩;walk_at "sf";refine eM (fun c=>?_) (fun c=>?_)
 ·walk_at "sf";refine cB (IntMulOk.of_right (by decide)) ?_;exact q _ _ g1
 ·have dA:ns≠[]:=by simpa using c
  have lY:0<ns.length:=List.length_pos_iff.mpr dA;have em:(ns.map V.int).length=ns.length:=List.length_map _;have L5:(0:Int)<((ns.map V.int).length:Nat):=by rw[em];lia
  walk_at "sf";refine⟨a,_,rfl,.inl (g1.seq hS),?_⟩;refine cB (Int.ne_of_gt L5) ?_;rw[dr L5];have h1:=Int.emod_nonneg k (Int.ne_of_gt L5);have h2:=Int.emod_lt_of_pos k L5;obtain⟨j,ej⟩:=Int.eq_ofNat_of_zero_le h1;rw[ej] at h2 ⊢;have hj:j<ns.length:=by rw[em] at h2;lia
  refine bP (g1.seq hS) (fw (v:=V.int ns[j]) (by rw[List.getElem?_map,List.getElem?_eq_getElem hj]<;>rfl)) ?_;walk_at "sf";refine⟨a,_,rfl,.inl (g1.seq hS),?_⟩;refine cB ⟨Int.ne_of_gt L5,(Bd.fF (n:=64) (by lia) (by rw[em];lia)).log2 (by decide)⟩ ?_;walk_at "sf";refine cB (IntMulOk.of_right (by decide)) ?_;walk_at "sf";exact q _ _ g1
theorem qX(D:aN K mg "_law_drawn" iW ["_law_cell_here","_law_k"]):cb P w K mg base 1 "_law_drawn" ["_law_cell_here","_law_k"] qW:=by
 refine D.ok kh (fun vs H Q E h=>?_) (fun f cq A outer s H vs Q E hr h=>?_)
 ·obtain⟨c,k,rfl,_⟩:=h;rfl
 obtain⟨c,k,rfl,q⟩:=h;refine⟨_,(ae (ar (i:=2) kh.nd rfl (Or.inl rfl) (ak bL (ak aZ (ak aF (pv 0) ah) (ak aF (ak aZ (pv 1) ah) ah)) ah))
  (aj (aC (ak bL (ak aF (pv 2) (pv 2)) ah)))),?_⟩;walk_at "sf";refine cB (IntMulOk.of_right (by decide)) ?_;walk_at "sf";refine cB (IntMulOk.of_right (by decide)) ?_;walk_at "sf";refine cB (by decide) ?_;rw[dr (by decide)];generalize hm:(c*6364136223846793005+(k+1)*1442695040888963407)%340282366920938463463374607431768211507=m;have m1:0<=m:=by rw[<-hm];exact Int.emod_nonneg _ (by decide)
 have m2:m<340282366920938463463374607431768211507:=by rw[<-hm];exact Int.emod_lt_of_pos _ (by decide)
 have mz:Bd 129 m:=Bd.fF m1 (Int.lt_of_lt_of_le m2 (by decide));walk_at "sf";refine cB (bC mz mz (by decide)) ?_;walk_at "sf";refine cB (by decide) ?_;rw[dr (by decide)];exact q _ (Int.emod_nonneg _ (by decide)) (Bd.fF (Int.emod_nonneg _ (by decide)) (Int.lt_of_lt_of_le (Int.emod_lt_of_pos _ (by decide)) (by decide)))
theorem nY(T:Nm mg)(D:aN K mg "_law_product" f_ ["_law_one","_law_other"]):cb P w K mg base 1 "_law_product" ["_law_one","_law_other"] (zv mulL (fun xs ys=>Sk xs ys/\xs≠[]/\ys≠[])):=by
 refine D.ok eF (fun vs H Q E h=>?_) (fun f cq A outer s H vs Q E hr h=>?_)
 ·obtain⟨a,b,xs,ys,rfl,_⟩:=h;rfl
 obtain⟨a,b,xs,ys,rfl,ha,hb,⟨⟨⟨hx,hy⟩,bx,Es⟩,C3,Sl⟩,q⟩:=h;have ex:(xs.map V.int).length=xs.length:=List.length_map _;have ey:(ys.map V.int).length=ys.length:=List.length_map _;have lx:=List.length_pos_iff.mpr C3;have ly:=List.length_pos_iff.mpr Sl;refine⟨_,(ae (ar (i:=2) eF.nd rfl (Or.inl rfl) (ak vc (bS (aa ah af)) (ak bB (ak aZ (aw ay rfl T.cx boot_len (aa (pv 0) af)) (aw ay rfl T.cx boot_len (aa (pv 1) af))) ah)))
  (ae (dm PassesOwn.never rfl (dB rfl T.eZ (aa (aw ay rfl T.cx boot_len (aa (pv 0) af)) af)) (aT (i:=3) eF.nd rfl (Or.inl rfl))
  (aj (dm PassesOwn.never rfl (dB rfl T.eZ (aa (aw ay rfl T.cx boot_len (aa (pv 1) af)) af)) (aT (i:=4) eF.nd rfl (Or.inl rfl))
  (aj (qi (ak aZ (aL aP (pv 2) (ak aZ (pv 3) (pv 4)) (fun _ _=>rfl)) (ak aF (aL aP (pv 0) (pv 3) (fun _ _=>rfl)) (aL aP (pv 1) (pv 4) (fun _ _=>rfl)))) (uU (pv 2) (ak aZ (pv 3) (pv 4)) set_list))))))
  (aj (aC (pv 2))))),?_⟩;walk_at "sf";intro p1 lY;walk_at "sf";have s1:=av.new lY (.lst [V.int 0]);refine⟨a,_,rfl,.inl (aM.of (s1 _ _ ha)),?_⟩;walk_at "sf";refine⟨b,_,rfl,.inl (aM.of (s1 _ _ hb)),?_⟩;walk_at "sf";rw[ex,ey];refine⟨p1,_,_,rfl,rfl,ai,by lia,by lia,by show 1*((xs.length:Int)+(ys.length:Int)-1).toNat<=sizeLine;exact cD (by lia),fun p2 nk=>?_⟩;have s2:=s1.trans (av.new nk (.lst (List.replicate ((xs.length:Int)+(ys.length:Int)-1).toNat [V.int 0]).flatten));have h2:upd (upd H p1 (.lst [V.int 0])) p2 (.lst (List.replicate ((xs.length:Int)+(ys.length:Int)-1).toNat [V.int 0]).flatten) p2=some (.lst ((dX (cv xs ys 0) (xs.length+ys.length-1)).map V.int)):=by
  rw[ai,show dX (cv xs ys 0) (xs.length+ys.length-1)=dX (fun _=>0) _ from cL fun j _=>rfl,AO,qU,km];have e:((xs.length:Int)+(ys.length:Int)-1).toNat=xs.length+ys.length-1:=by lia
  rw[e]
 have n2:H p2=none:=s1.free nk;revert s2 h2;generalize upd (upd H p1 (.lst [V.int 0])) p2 (.lst (List.replicate ((xs.length:Int)+(ys.length:Int)-1).toNat [V.int 0]).flatten)=H2;intro s2 h2;walk_at "sf";refine⟨a,_,rfl,.inl (aM.of (s2 _ _ ha)),?_⟩;walk_at "sf";rw[ex];refine⟨_,rfl,by lia,by lia,?_⟩;rw[Int.toNat_natCast];refine dU (fun i σ H'=>(∃r1 r2,σ=[some (.ref a),some (.ref b),some (.ref p2),r1,r2])/\av H H'/\IL H' p2 (dX (cv xs ys i) (xs.length+ys.length-1)))
  ⟨⟨_,_,rfl⟩,s2,h2⟩ ?_ ?_
 ·rintro i σ H' FV ⟨⟨r1,r2,rfl⟩,s4,h4⟩;have e0:(0:Int)+(i:Int)=(i:Int):=by lia
  rw[e0];walk_at "sf";refine⟨b,_,rfl,.inl (aM.of (s4 _ _ hb)),?_⟩;walk_at "sf";rw[ey];refine⟨_,rfl,by lia,by lia,?_⟩;rw[Int.toNat_natCast];refine dU (fun k σ H'=>(∃r2,σ=[some (.ref a),some (.ref b),some (.ref p2),some (.int (i:Int)),r2])/\av H H'/\IL H' p2 (dX (fun j=>cv xs ys i j+if i<=j/\j<i+k then SF.co xs i*SF.co ys (j-i) else 0) (xs.length+ys.length-1)))
   ⟨⟨_,rfl⟩,s4,?_⟩ ?_ ?_
  ·show H' p2=_;rw[h4];refine congrArg (fun l=>some (HO.lst (l.map V.int))) (cL fun j hj=>?_);rw[if_neg (by lia)];lia
  ·rintro k σ H6 VG ⟨⟨r2,rfl⟩,s6,h6⟩;have e0:(0:Int)+(k:Int)=(k:Int):=by lia
   rw[e0];have ei:(i:Int)+(k:Int)=((i+k:Nat):Int):=by lia
   walk_at "sf";rw[ei];refine bP (aM.of h6) (iq (by rw[aA];lia)) ?_;walk_at "sf";refine bP (aM.of (s6 _ _ ha)) (iq FV) ?_;walk_at "sf";refine bP (aM.of (s6 _ _ hb)) (iq VG) ?_;refine cB (bC (bx.co i) (Es.co k) (by decide)) ?_;walk_at "sf";rw[ei];refine⟨p2,_,_,i+k,rfl,rfl,h6,vX (by rw[List.length_map,aA];lia),?_⟩;refine⟨⟨_,rfl⟩,fun c o z=>?_,?_⟩
   ·rw[aq (aH z n2)];exact s6 _ _ z
   ·show upd _ p2 _ p2=_;rw[ai,gP,if_pos (by lia),<-List.map_set,qx (by lia)];refine congrArg (fun l=>some (HO.lst (l.map V.int))) (cL fun j hj=>?_);show(if j=i+k then _ else _)=_;by_cases e:j=i+k
    ·subst e;have e3:i+k-i=k:=by lia
     rw[if_pos rfl,if_neg (by lia),if_pos ⟨by lia,by lia⟩,e3];lia
    ·rw[if_neg e];by_cases e4:i<=j/\j<i+k
     ·rw[if_pos e4,if_pos ⟨e4.1,by lia⟩]
     ·rw[if_neg e4,if_neg (by lia)]
  ·rintro σ H6 ⟨⟨r2,rfl⟩,s6,h6⟩;refine⟨⟨_,_,rfl⟩,s6,?_⟩;show H6 p2=_;rw[h6];exact congrArg (fun l=>some (HO.lst (l.map V.int))) (cL fun j hj=>AM xs ys i j)
 ·rintro σ H' ⟨⟨r1,r2,rfl⟩,s4,h4⟩;walk_at "sf";refine q p2 H' s4 ?_;rw[AN C3 Sl];exact h4
end
end eQ
namespace eQ
open PySem PyProof.Rows L2 SF SF.Po
theorem Ce{p:Int}{P b:Nat}(hb:Bd P p){xs:List Int}(hx:Ab b xs):∀i,i<=xs.length->Bd (b+(P+1)*i) (d7 p (xs.drop (xs.length-i)))
 |0,_=>by rw[sZ];show(0:Int).natAbs<_;exact Nat.two_pow_pos _
 |i+1,h=>by
  rw[sY p xs (by lia)];have ih:=Ce hb hx i (by lia);have h1:Bd (b+(P+1)*i+P) (d7 p (xs.drop (xs.length-i))*p):=ih.mul hb;have h2:Bd (b+(P+1)*i+P) (co xs (xs.length-1-i)):=(hx.co _).mono (by lia);have e:b+(P+1)*(i+1)=b+(P+1)*i+P+1:=by rw[Nat.mul_add];lia
  rw[e];exact h1.add h2
noncomputable def FW:Sp:=fun vs H Q _=>∃(a:Addr)(xs:List Int)(p:Int)(P:Nat),vs=[.ref a,.int p]/\IL H a xs/\(∃b,xs.length<=40/\Ab b xs/\Bd P p/\P<=1400000/\b<=1000000)/\Q (.int (d7 p xs)) H
noncomputable def tX:Sp:=fun vs H Q _=>∃(v p:Int)(n:Nat),vs=[.int v,.int p]/\(3<=p/\0<=v/\v<=p^n/\n<=50)/\∀(a:Addr)(xs:List Int)(H':Hp),av H H'->IL H' a xs->Ft p v xs->xs.length<=n+1->Q (.ref a) H'
noncomputable def pU:Sp:=fun vs H Q _=>∃(a:Addr)(xs:List Int),vs=[.ref a]/\IL H a xs/\(xs≠[]/\Cd xs)/\∀(m:Int)(H':Hp),av H H'->(∃x∈xs,m=ab x)->(∀x∈xs,ab x<=m)->Q (.int m) H'
section
variable {P:Program} {w:World} {K:PySem.W.Frag} {mg:Str->Option Value} {base:Heap}
theorem tY(T:Nm mg)(D:aN K mg "value_at" jD ["poly","point"]):cb P w K mg base 1 "value_at" ["poly","point"] FW:=by
 refine D.ok fV (fun vs H Q E h=>?_) (fun f cq A outer s H vs Q E hr h=>?_)
 ·obtain⟨a,xs,p,P,rfl,_⟩:=h;rfl
 obtain⟨a,xs,p,P,rfl,ha,⟨b,hx,VH,hb,hP,VI⟩,q⟩:=h;refine⟨_,(ae (ar (i:=2) fV.nd rfl (Or.inl rfl) ah)
  (ae (dm PassesOwn.never rfl (vf rfl T.ie (aa (pv 0) af)) (aT (i:=3) fV.nd rfl (Or.inl rfl))
  (aj (ar (i:=2) fV.nd rfl (Or.inl rfl) (ak aZ (ak aF (pv 2) (pv 1)) (pv 3)))))
  (aj (aC (pv 2))))),?_⟩;walk_at "sf";refine⟨a,_,rfl,aM.of ha,?_⟩;refine qu (xs:=xs.map V.int) (fun i σ H'=>(∃r,σ=[some (.ref a),some (.int p),some (.int (d7 p (xs.drop (xs.length-i)))),r])/\H'=H) ⟨⟨_,by rw[sZ];rfl⟩,rfl⟩ (fun i σ H' _ z=>by rw[z.2];exact aM.of ha) ?_ ?_
 ·rintro i x σ H' hi C6 ⟨⟨r,rfl⟩,rfl⟩;rw[List.length_map] at hi C6;obtain⟨FV,rfl⟩:=ll C6;have h1:=Ce hb VH i (by lia);have h2:(P+1)*i<=1400001*40:=Nat.mul_le_mul (by lia) (by lia);walk_at "sf";refine cB (bC h1 hb (by lia)) ?_;walk_at "sf";exact⟨⟨_,by rw[sY p xs hi];rfl⟩,rfl⟩
 ·rintro σ H' ⟨⟨r,rfl⟩,rfl⟩;rw[List.length_map,Bc];walk_at "sf";exact q
theorem zy(hT:P.given.tree=none)(D:aN K mg "spread" nU ["value","point"]):cb P w K mg base 33 "spread" ["value","point"] tX:=by
 refine D.ok fD (fun vs H Q E h=>?_) (fun f cq A outer s H vs Q E hr h=>?_)
 ·obtain⟨v,p,n,rfl,_⟩:=h;rfl
 obtain⟨v,p,n,rfl,⟨L6,hv,Iv,hn⟩,q⟩:=h;have hp:0<p:=by lia
 have pB:p≠0:=by lia
 refine⟨_,(ae (ar (i:=2) fD.nd rfl (Or.inl rfl) (bS af))
  (ae (ar (i:=3) fD.nd rfl (Or.inl rfl) (pv 0))
  (ae (dj PassesOwn.never (fE (pv 3) (fun _=>rfl))
  (ae (ar (i:=4) fD.nd rfl (Or.inl rfl) (ak bL (pv 3) (pv 1)))
  (ae (bM (aG fb (ak aF ah (pv 4)) (pv 1) (aI _))
  (aj (ar (i:=4) fD.nd rfl (Or.inl rfl) (ak bB (pv 4) (pv 1))))
  aS)
  (ae (fS (js PySem.F.plainAttrs_list PySem.F.slot_list_append PySem.F.type_list_append dD (pv 2) (aa (pv 4) af)))
  (aj (ar (i:=3) fD.nd rfl (Or.inl rfl) (ak (fK ⟨hT,⟨_,_,rfl,rfl,rfl,rfl,rfl⟩,hr.py⟩) (ak bB (pv 3) (pv 4)) (pv 1))))))))
  (aj (aC (pv 2)))))),?_⟩;walk_at "sf";intro p1 lY;walk_at "sf";refine cW (fun m σ H'=>∃(xs:List Int)(r:Int)(z:Option V),m=r.toNat/\σ=[some (.int v),some (.int p),some (.ref p1),some (.int r),z]/\av H H'/\IL H' p1 xs/\0<=r/\
  d7 p xs+p^xs.length*r=v/\(∀x∈xs,-p<2*x/\2*x<=p)/\(r=0->Tr xs)/\((xs.length<=n/\r<=p^(n-xs.length))\/(xs.length<=n+1/\r=0)))
  ⟨_,[],v,_,rfl,rfl,av.new lY _,ai,hv,by show 0+p^0*v=v;rw[Int.pow_zero];lia,fun x hx=>by simp at hx,fun _=>Tr.nil,.inl ⟨Nat.zero_le _,Iv⟩⟩ ?_
 rintro m σ H' ⟨xs,r,z,rfl,rfl,s1,h1,FX,e,HA,VJ,hsz⟩;walk_at "sf";refine eM (fun c=>?_) (fun c=>?_)
 ·have Cf:r≠0:=by simpa using c
  have Sm:0<r:=by lia
  have hlen:xs.length<=n/\r<=p^(n-xs.length):=by
   rcases hsz with h|h
   ·exact h
   ·exact absurd h.2 Cf
  have fin:∀d:Int,d=digit p r->∀H2:Hp,av H H2->IL H2 p1 (xs++[d])->∃m',m'<r.toNat/\∃(xs:List Int)(t:Int)(z:Option V),m'=t.toNat/\[some (.int v),some (.int p),some (.ref p1),some (.int ((iO p r))),some (V.int d)]=[some (.int v),some (.int p),some (.ref p1),some (.int t),z]/\av H H2/\IL H2 p1 xs/\0<=t/\
   d7 p xs+p^xs.length*t=v/\(∀x∈xs,-p<2*x/\2*x<=p)/\(t=0->Tr xs)/\((xs.length<=n/\t<=p^(n-xs.length))\/(xs.length<=n+1/\t=0)):=by
   intro d hd H2 s2 h2;have q0:=sX hp FX;have q1:=D3 L6 Sm;refine⟨_,by lia,xs++[d],iO p r,_,rfl,rfl,s2,h2,q0,?_,?_,?_,?_⟩
   ·rw[xG,List.length_append,List.length_singleton,Int.pow_succ];show d7 p xs+p^xs.length*(d+p*0)+p^xs.length*p*iO p r=v;have e2:=nu (v:=r) hp;rw[<-e,hd]
    conv=>rhs;rw[<-e2]
    grind
   ·intro x hx;rcases List.mem_append.mp hx with hx|hx
    ·exact HA x hx
    ·rw[List.mem_singleton.mp hx,hd];exact mB hp
   ·intro hz y hy;rw[List.getLast?_append,List.getLast?_singleton] at hy;have:d=y:=by simpa using hy
    rw[<-this,hd];exact vD hp Cf hz
   ·rw[List.length_append,List.length_singleton];by_cases hl:xs.length=n
    ·right;have h3:=hlen.2;rw[hl,Nat.sub_self,Int.pow_zero] at h3;have h4:r=1:=by lia
     rw[h4];exact⟨by lia,(Bb (by lia)).1⟩
    ·left;refine⟨by lia,D1 hp ?_⟩;have e3:n-xs.length=n-(xs.length+1)+1:=by lia
     have h3:=hlen.2;rw[e3,Int.pow_succ] at h3;rw[Int.mul_comm];exact h3
  have L7:∀d:Int,IL (upd H' p1 (.lst (xs.map V.int++[V.int d]))) p1 (xs++[d]):=fun d=>by
   show upd H' p1 _ p1=_;rw[ai,List.map_append];rfl
  have xX:∀o:HO,av H (upd H' p1 o):=fun o c u z=>by
   rw[aq (aH z lY)];exact s1 _ _ z
  refine⟨_,fun bE H' h=>h,?_⟩;walk_at "sf";refine cB pB ?_;rw[dr hp];walk_at "sf";have b1:IntMulOk 2 (r%p):=IntMulOk.of_left (by decide);refine cB b1 ?_;walk_at "sf";refine eM (fun c2=>?_) (fun c2=>?_)
  ·have h2:2*(r%p)>p:=by simpa using c2
   have ed:r%p-p=digit p r:=by unfold digit;rw[if_pos h2]
   walk_at "sf";refine⟨_,rfl,.inl ⟨rfl,_,aM.of h1⟩,?_⟩;walk_at "sf";refine⟨p1,_,_,rfl,rfl,h1,?_,?_⟩
   ·rw[List.length_map];exact Nat.lt_of_lt_of_le (Nat.lt_of_le_of_lt hlen.1 (by lia:n<1000)) (cD (Nat.le_refl _))
   ·walk_at "sf";refine cB pB ?_;rw[ed,iG hp];exact fin _ rfl _ (xX _) (L7 _)
  ·have h2:¬2*(r%p)>p:=by simpa using c2
   have ed:r%p=digit p r:=by unfold digit;rw[if_neg h2]
   walk_at "sf";refine⟨_,rfl,.inl ⟨rfl,_,aM.of h1⟩,?_⟩;walk_at "sf";refine⟨p1,_,_,rfl,rfl,h1,?_,?_⟩
   ·rw[List.length_map];exact Nat.lt_of_lt_of_le (Nat.lt_of_le_of_lt hlen.1 (by lia:n<1000)) (cD (Nat.le_refl _))
   ·walk_at "sf";refine cB pB ?_;rw[ed,iG hp];exact fin _ rfl _ (xX _) (L7 _)
 ·have Cf:r=0:=by simpa using c
  subst Cf;walk_at "sf";refine q p1 xs H' s1 h1 ⟨by rw[<-e];lia,HA,VJ rfl⟩ ?_;rcases hsz with h|h<;>lia
theorem v5(T:Nm mg)(D:aN K mg "largest" kZ ["poly"]):cb P w K mg base 1 "largest" ["poly"] pU:=by
 refine D.ok vV (fun vs H Q E h=>?_) (fun f cq A outer s H vs Q E hr h=>?_)
 ·obtain⟨a,xs,rfl,_⟩:=h;rfl
 obtain⟨a,xs,rfl,ha,⟨hn,hf⟩,q⟩:=h;have Iw:∀i,(if co xs i<0 then-co xs i else co xs i)=ab (co xs i):=fun i=>by unfold ab;split<;>lia
 refine⟨_,(aj (aC (aw (yU rfl) rfl T.LY boot_max (aa (je rfl rfl (gL (own:=["number"]) (fr:=[]) (fs:=[]) (by with_unfolding_all rfl) rfl (by decide +kernel) (by decide +kernel) (by exact trivial) (by with_unfolding_all rfl) (by exact trivial)) (fu (pv 0)) (fun _ _ _ _ _=>(aT (i:=0) (show List.Nodup (["number"]:List Str) by decide +kernel) rfl (Or.inl rfl) (Or.inr rfl))) (fun _ _ _ _ _=>(aw d9 rfl T.kl boot_abs (aa (pv 0) af)))) af)))),?_⟩;walk_at "sf";refine gR (H1:=H) (rJ K a) (fun R hR=>?_) (fJ (xs:=xs) (aM.of ha) (fun i=>ab (co xs i)) hf ?_ ?_)
 ·walk_at "sf";exact⟨a,rfl,⟨_,aM.of ha⟩,hR⟩
 ·intro i r H2 hi hr d_ Z hZ;obtain⟨x0,rfl⟩:=sL hr;walk_at "sf";refine⟨_,rfl,?_⟩;rw[Iw];exact hZ _ _ (av.refl _) ⟨[_],rfl,rfl⟩
 ·intro D H2 hD d_ h2;walk_at "sf";have hl:=List.length_pos_iff.mpr hn;refine⟨D,_,rfl,aM.of h2,fun z=>?_,fun m hm P1=>q m H2 d_ ?_ fun x hx=>?_⟩
  ·have:=congrArg List.length z;rw[aA] at this;simp at this;exact hn this
  ·obtain⟨i,hi,e⟩:=List.mem_map.mp hm;have hi:=List.mem_range.mp hi;exact⟨co xs i,by rw[bI hi];exact List.getElem_mem hi,e.symm⟩
  ·obtain⟨i,hi,e⟩:=List.getElem_of_mem hx;refine P1 _ (List.mem_map.mpr ⟨i,List.mem_range.mpr hi,?_⟩);rw[bI hi,e]
end
end eQ
namespace eQ
open PySem PyProof.Rows L2 SF SF.Po
noncomputable def v7:Sp:=fun vs H Q _=>∃(a d:Addr)(xs ds:List Int)(b c:Nat),vs=[.ref a,.ref d]/\IL H a xs/\IL H d ds/\(ds≠[]/\Tr ds/\xs.length<=40/\ds.length<=60/\Ab b xs/\Ab c ds/\b+41*(c+1)<=lP)/\
 (∀H',av H H'->(∀s,ao xs≠ao ds*s)->Q .gf H')/\
 (∀(a':Addr)(qs:List Int)(H':Hp),av H H'->IL H' a' qs->ao xs=ao ds*ao qs->(ds.length<=xs.length->qs.length+ds.length=xs.length+1)->Q (.ref a') H')
theorem Et{rs ds:List Int}{t:Int}{k r c:Nat}(hk:k+ds.length<=rs.length)(b1:Ab r rs)(b2:Ab c ds)(bt:Bd r t):Ab (r+(c+1)) (iN rs ds t k):=fun x hx=>by
 obtain⟨j,e⟩:=kM hx;rw[<-e,nt hk];have h1:Bd (r+c) (co rs j):=(b1.co j).mono (by lia);have h2:Bd (r+c) (if k<=j then t*co ds (j-k) else 0):=by
  split
  ·exact bt.mul (b2.co _)
  ·show(0:Int).natAbs<_;exact Nat.two_pow_pos _
 exact h1.sub h2
theorem tZ{xs:List Int}(h:xs≠[]):(xs.map V.int)[(xs.map V.int).length-1]?=some (.int (SF.co xs (xs.length-1))):=by
 have hl:0<xs.length:=List.length_pos_iff.mpr h;rw[List.length_map,List.getElem?_map,List.getElem?_eq_getElem (by lia),bI (by lia)];rfl
section
variable {P:Program} {w:World} {K:PySem.W.Frag} {mg:Str->Option Value} {base:Heap}
theorem v8(T:Nm mg)(hT:P.given.tree=none)(D:aN K mg "divided" kY ["poly","divisor"]):cb P w K mg base 33 "divided" ["poly","divisor"] v7:=by
 refine D.ok dS (fun vs H Q E h=>?_) (fun f cq A outer s H vs Q E hr h=>?_)
 ·obtain⟨a,d,xs,ds,b,c,rfl,_⟩:=h;rfl
 obtain⟨a,d,xs,ds,b,c,rfl,ha,hd,⟨vB,td,hx,XZ,bx,bd,hsz⟩,qn,qs⟩:=h;have ed:(ds.map V.int).length=ds.length:=List.length_map _;have X1:=List.length_pos_iff.mpr vB;have FY:=td.last vB;have lp:lP=60000000:=rfl;refine⟨_,(ae (ar (i:=2) dS.nd rfl (Or.inl rfl) (dC gJ rfl T.nX boot_list (aa (pv 0) af)))
  (ae (ar (i:=3) dS.nd rfl (Or.inl rfl) (bS af))
  (ae (dj PassesOwn.never (aG Al (aw ay rfl T.cx boot_len (aa (pv 2) af)) (aw ay rfl T.cx boot_len (aa (pv 1) af)) (aI _))
  (ae (ar (i:=4) dS.nd rfl (Or.inl rfl) (ak (fK ⟨hT,⟨_,_,rfl,rfl,rfl,rfl,rfl⟩,hr.py⟩) (aL aP (pv 2) (dH cC ah) (fun _ _=>rfl)) (aL aP (pv 1) (dH cC ah) (fun _ _=>rfl))))
  (ae (ar (i:=5) dS.nd rfl (Or.inl rfl) (ak bB (aw ay rfl T.cx boot_len (aa (pv 2) af)) (aw ay rfl T.cx boot_len (aa (pv 1) af))))
  (ae (dm PassesOwn.never rfl (qo rfl T.i7 (aa (pv 1) af)) (qh rfl (e_ (aT (i:=6) dS.nd rfl (Or.inl rfl)) (e_ (aT (i:=7) dS.nd rfl (Or.inl rfl)) l_)))
  (aj (qi (ak bB (aL aP (pv 2) (ak aZ (pv 5) (pv 6)) (fun _ _=>rfl)) (ak aF (pv 4) (pv 7))) (uU (pv 2) (ak aZ (pv 5) (pv 6)) set_list))))
  (ae (bM (aG o4 (u9 PySem.F.plainAttrs_list PySem.F.slot_list_pop PySem.F.type_list_pop va (pv 2)) ah (aI _))
  (aj (aC qe))
  aS)
  (aj (fS (js PySem.F.plainAttrs_list PySem.F.slot_list_append PySem.F.type_list_append dD (pv 3) (aa (pv 4) af)))))))))
  (ae (bM (jx (aw (yT rfl) rfl T.L4 boot_any (aa (pv 2) af)))
  (aj (aC qe))
  aS)
  (aj (aC (DJ rfl rfl T.ie rfl T.nX (aa (pv 3) af)))))))),?_⟩;walk_at "sf";refine⟨a,_,rfl,.inl (aM.of ha),fun p1 lY=>?_⟩;have s1:=av.new lY (.lst (xs.map V.int));walk_at "sf";intro p2 nk;have s2:=s1.trans (av.new nk (.lst []));have P2:H p2=none:=s1.free nk;have Np:p1≠p2:=fun z=>by rw[<-z,ai] at nk;cases nk
 walk_at "sf";refine cW (fun m σ H'=>∃(rs fs:List Int)(z1 z2 z3 z4:Option V),m=rs.length/\σ=[some (.ref a),some (.ref d),some (.ref p1),some (.ref p2),z1,z2,z3,z4]/\av H H'/\IL H' p1 rs/\IL H' p2 fs/\
  ao xs=ao rs+ao ds*(X (rs.length+1-ds.length)*ao fs.reverse)/\rs.length+fs.length=xs.length/\(ds.length<=rs.length+1\/fs=[])/\Ab (b+fs.length*(c+1)) rs)
  ⟨_,xs,[],_,_,_,_,rfl,rfl,s2,by show upd _ p2 _ p1=_;rw[aq Np,ai],ai,?_,by simp,.inr rfl,bx.mono (by simp)⟩ ?_
 ·rw[List.reverse_nil,cH];grind
 rintro m σ H' ⟨rs,fs,z1,z2,z3,z4,rfl,rfl,s3,h1,h2,e,hlen,VL,Eu⟩;have er:(rs.map V.int).length=rs.length:=List.length_map _;have X3:fs.length*(c+1)<=40*(c+1):=Nat.mul_le_mul_right _ (by lia);walk_at "sf";refine⟨p1,_,rfl,.inl (aM.of h1),?_⟩;walk_at "sf";refine⟨d,_,rfl,.inl (aM.of (s3 _ _ hd)),?_⟩;walk_at "sf";rw[er,ed];refine eM (fun cc=>?_) (fun cc=>?_)
 ·have JI:ds.length<=rs.length:=by simpa using cc
  have Cf:rs≠[]:=List.length_pos_iff.mp (by lia);refine⟨_,fun bE H' h=>h,?_⟩;walk_at "sf";refine bP (aM.of h1) (fW Cf) ?_;walk_at "sf";refine bP (aM.of (s3 _ _ hd)) (fW vB) ?_;refine cB FY ?_;generalize ht:(co rs (rs.length-1)).fdiv (co ds (ds.length-1))=t;have bt:Bd (b+fs.length*(c+1)) t:=(Eu.co (rs.length-1)).of_le (by rw[<-ht];exact xF _ _);walk_at "sf";refine⟨p1,_,rfl,.inl (aM.of h1),?_⟩;walk_at "sf";refine⟨d,_,rfl,.inl (aM.of (s3 _ _ hd)),?_⟩;walk_at "sf";rw[er,ed];have ek:(rs.length:Int)-(ds.length:Int)=((rs.length-ds.length:Nat):Int):=by lia
  rw[ek];generalize hk:rs.length-ds.length=k;have X4:k+ds.length=rs.length:=by lia
  refine⟨d,rfl,⟨_,aM.of (s3 _ _ hd)⟩,?_⟩;refine sy (xs:=ds.map V.int) (fun i σ H'=>(∃r1 r2,σ=[some (.ref a),some (.ref d),some (.ref p1),some (.ref p2),some (.int t),some (.int (k:Int)),r1,r2])/\av H H'/\IL H' p2 fs/\
   IL H' p1 (dX (fun j=>co rs j-if k<=j/\j<k+i then t*co ds (j-k) else 0) rs.length))
   ⟨⟨_,_,rfl⟩,s3,h2,?_⟩ (fun i σ H' _ z=>aM.of (z.2.1 _ _ hd)) ?_ ?_
  ·show H' p1=_;rw[h1];refine congrArg (fun l:List Int=>some (HO.lst (l.map V.int))) ?_
   conv=>lhs;rw[<-He rs]
   exact cL fun j _=>by rw[if_neg (by lia)];lia
  ·rintro i x pp σ H4 hi xk ⟨⟨r1,r2,rfl⟩,s4,h4,h5⟩;obtain⟨OX,rfl⟩:=ll hi;have s5:=av.new xk (.tup [.int (i:Int),.int (co ds i)]);have h6:=s5 _ _ h5;have ei:(k:Int)+(i:Int)=((k+i:Nat):Int):=by lia
   refine qm (cJ.of ai) rfl ?_;walk_at "sf";rw[ei];refine bP (aM.of h6) (iq (by rw[aA];lia)) ?_;walk_at "sf";refine cB (bC bt (bd.co i) (by lia)) ?_;walk_at "sf";rw[ei];refine⟨p1,_,_,k+i,rfl,rfl,h6,vX (by rw[List.length_map,aA];lia),?_⟩;refine⟨⟨_,_,rfl⟩,fun c o z=>?_,?_,?_⟩
   ·rw[aq (aH z lY)];exact s5 _ _ (s4 _ _ z)
   ·show upd _ p1 _ p2=_;rw[aq Np.symm];exact s5 _ _ h4
   ·show upd _ p1 _ p1=_;rw[ai,gP,if_pos (by lia),<-List.map_set,qx (by lia)];refine congrArg (fun l=>some (HO.lst (l.map V.int))) (cL fun j hj=>?_);show(if j=k+i then _ else _)=_;by_cases e:j=k+i
    ·subst e;have e3:k+i-k=i:=by lia
     rw[if_pos rfl,if_neg (by lia),if_pos ⟨by lia,by lia⟩,e3];lia
    ·rw[if_neg e];by_cases e4:k<=j/\j<k+i
     ·rw[if_pos e4,if_pos ⟨e4.1,by lia⟩]
     ·rw[if_neg e4,if_neg (by lia)]
  ·rintro σ H4 ⟨⟨r1,r2,rfl⟩,s4,h4,h5⟩;rw[ed] at h5;have es:dX (fun j=>co rs j-if k<=j/\j<k+ds.length then t*co ds (j-k) else 0) rs.length=iN rs ds t k:=cL fun j hj=>by
    by_cases e:k<=j
    ·rw[if_pos e,if_pos ⟨e,by lia⟩]
    ·rw[if_neg e,if_neg (fun z=>e z.1)]
   rw[es] at h5;have FI:=yZ rs ds t k;have VM:iN rs ds t k≠[]:=List.length_pos_iff.mp (by rw[FI];lia);have etop:co (iN rs ds t k) ((iN rs ds t k).length-1)=co rs (rs.length-1)-t*co ds (ds.length-1):=by
    rw[FI,nt (by lia),if_pos (by lia)];have e3:rs.length-1-k=ds.length-1:=by lia
    rw[e3]
   have s6:∀o:HO,av H (upd H4 p1 o):=fun o c u z=>by
    rw[aq (aH z lY)];exact s4 _ _ z
   walk_at "sf";refine⟨_,rfl,.inl ⟨rfl,_,aM.of h5⟩,p1,_,_,rfl,rfl,h5,tZ VM,?_⟩;walk_at "sf";rw[etop];refine eM (fun c2=>?_) (fun c2=>?_)
   ·have dA:co rs (rs.length-1)-t*co ds (ds.length-1)≠0:=by simpa using c2
    walk_at "sf";refine qn _ (s6 _) fun s hs=>dA ?_;have e2:ao rs=ao ds*(s-X (rs.length+1-ds.length)*ao fs.reverse):=by
     rw[e] at hs;grind
    have:=y9 td vB JI e2;rw[ht] at this;exact this
   ·have hz:co rs (rs.length-1)-t*co ds (ds.length-1)=0:=by simpa using c2
    walk_at "sf";have h7:upd H4 p1 (.lst ((iN rs ds t k).map V.int).dropLast) p2=some (.lst (fs.map V.int)):=by rw[aq Np.symm];exact h4
    refine⟨_,rfl,.inl ⟨rfl,_,aM.of h7⟩,?_⟩;walk_at "sf";refine⟨p2,_,_,rfl,rfl,h7,?_,?_⟩
    ·rw[List.length_map];exact Nat.lt_of_lt_of_le (by lia:fs.length<1000) (cD (Nat.le_refl _))
    ·refine⟨_,?_,(iN rs ds t k).dropLast,fs++[t],_,_,_,_,rfl,rfl,fun c o z=>?_,?_,?_,?_,?_,?_,?_⟩
     ·rw[List.length_dropLast,FI];lia
     ·rw[aq (aH z P2)];exact s6 _ _ _ z
     ·show upd _ p2 _ p1=_;rw[aq Np,ai,List.map_dropLast]
     ·show upd _ p2 _ p2=_;rw[ai,List.map_append];rfl
     ·rw[Ba (by rw[etop];exact hz),y8 (by lia),List.length_dropLast,FI,List.reverse_append,List.reverse_singleton,List.singleton_append,ni];have e3:rs.length+1-ds.length=k+1:=by lia
      have e4:rs.length-1+1-ds.length=k:=by lia
      rw[e3] at e;rw[e4,e,Fu];grind
     ·rw[List.length_dropLast,FI,List.length_append,List.length_singleton];lia
     ·left;rw[List.length_dropLast,FI];lia
     ·rw[List.length_append,List.length_singleton];have:=Et (k:=k) (by lia) Eu bd bt;have e5:b+(fs.length+1)*(c+1)=b+fs.length*(c+1)+(c+1):=by rw[Nat.add_mul];lia
      rw[e5];exact fun x hx=>this x (List.mem_of_mem_take (by rw[List.dropLast_eq_take] at hx;exact hx))
 ·have eL:rs.length<ds.length:=by
   have:¬ds.length<=rs.length:=by simpa using cc
   lia
  have e0:rs.length+1-ds.length=0:=by lia
  rw[e0,qE] at e;have e1:ao xs=ao rs+ao ds*ao fs.reverse:=by rw[e];grind
  walk_at "sf";refine⟨p1,_,rfl,aM.of h1,?_⟩;walk_at "sf";cases L8:rs.any (·!=0) with
  |true=>
   rw[if_pos rfl];walk_at "sf";refine qn H' s3 fun s hs=>?_;have e2:ao rs=ao ds*(s-ao fs.reverse):=by rw[e1] at hs;grind
   have:=any_zero.mpr (y_ td eL e2);rw[L8] at this;cases this
  |false=>
   have hz:=any_zero.mp L8;rw[hz] at e1;have e2:ao xs=ao ds*ao fs.reverse:=by rw[e1];grind
   rw[if_neg (by decide)];walk_at "sf";refine⟨_,rfl,p2,_,rfl,aM.of h2,fun l hl=>?_⟩;refine qs l fs.reverse _ (s3.trans (av.new hl _)) ?_ e2 fun JI=>?_
   ·show upd H' l _ l=_;rw[ai,List.map_reverse]
   ·rw[List.length_reverse];rcases VL with h|h
    ·lia
    ·rw[h,List.length_nil] at hlen;lia
end
end eQ
namespace eQ
open PySem PyProof.Rows L2 SF SF.Po
theorem eH{xs:List Int}{n:Nat}(h:Tr xs)(hn:xs≠[])(b:Ab n xs):Ab n (az xs):=fun x hx=>by
 obtain⟨i,hi,e⟩:=List.getElem_of_mem hx;rw[bD] at hi;have e2:=m8 hi;have hc:=eV h hn;rw[<-e,<-bI];refine(b.co i).of_le ?_;rw[<-e2,Int.natAbs_mul];exact Nat.le_mul_of_pos_right _ (Int.natAbs_pos.mpr hc)
theorem t_{b:Nat}{x:Int}(h:Bd b x):ab x<=((2^b:Nat):Int):=by
 unfold Bd at h;unfold ab;lia
theorem L9{b:Nat}{x:Int}{B:Nat}(h:ab x<=(B:Int))(hB:B<2^b):Bd b x:=by
 unfold Bd;unfold ab at h;lia
noncomputable def L_(xs ys:List Int):Prop:=Tr xs/\Tr ys/\xs.length<=40/\ys.length<=40/\xs.length+ys.length<=62/\∃b,b<=10000/\Ab b xs/\Ab b ys
theorem L'{xs:List Int}:(!(xs.map V.int).isEmpty)=decide (xs≠[]):=by cases xs<;>rfl
theorem Ew{xs ys:List Int}{b:Nat}(hx:Tr xs)(hy:Tr ys)(hl:xs.length+ys.length<=62)(b1:Ab b xs)(b2:Ab b ys):Ab (61*b+427) (di xs ys):=by
 by_cases d8:xs=[]
 ·subst d8;rw[pJ,j8 hy];by_cases gG:ys=[]
  ·subst gG;intro x hx;exact absurd hx (by simp[az])
  ·exact(eH hy gG b2).mono (by lia)
 by_cases gG:ys=[]
 ·subst gG;rw[j8 hx];exact(eH hx d8 b1).mono (by lia)
 intro x C6;obtain⟨i,e⟩:=kM C6;have h1:=D0 hx hy d8 gG (A:=60) (M:=2^b) (by lia) (fun i=>t_ ((eH hx d8 b1).co i)) (fun i=>t_ ((eH hy gG b2).co i)) i;rw[e] at h1;have h2:=xH b;exact L9 h1 (by lia)
section
variable {P:Program} {w:World} {K:PySem.W.Frag} {mg:Str->Option Value} {base:Heap}
theorem oM(T:Nm mg)(cO:cb P w K mg base 34 "common_divisor" ["one","other"] x5)(dY:cb P w K mg base 34 "primitive" ["poly"] (C5 az (fun xs=>Cd xs/\Tr xs)))(nZ:cb P w K mg base 34 "value_at" ["poly","point"] FW)(Cg:cb P w K mg base 34 "spread" ["value","point"] tX)(pV:cb P w K mg base 34 "largest" ["poly"] pU)(jn:cb P w K mg base 34 "divided" ["poly","divisor"] v7)(D:aN K mg "divisor_of" g7 ["one","other"]):cb P w K mg base 35 "divisor_of" ["one","other"] (zv di L_):=by
 refine D.ok cG (fun vs H Q E h=>?_) (fun f cq A outer s H vs Q E hr h=>?_)
 ·obtain⟨a,b,xs,ys,rfl,_⟩:=h;rfl
 obtain⟨a,b,xs,ys,rfl,ha,hb,⟨tx,ty,lx,ly,X5,bb,JH,bx,Es⟩,q⟩:=h;refine⟨_,(ae (ar (i:=2) cG.nd rfl (Or.inl rfl) (aJ dY hr (aa (pv 0) af)))
  (ae (ar (i:=3) cG.nd rfl (Or.inl rfl) (aJ dY hr (aa (pv 1) af)))
  (ae (bM (iz (fE (pv 2) (fun _=>rfl)))
  (aj (aC (pv 3)))
  aS)
  (ae (bM (iz (fE (pv 3) (fun _=>rfl)))
  (aj (aC (pv 2)))
  aS)
  (ae (ar (i:=4) cG.nd rfl (Or.inl rfl) (ak aF (ak aF ah (ak aZ (aw (yD rfl) rfl T.LZ boot_min (aa (aJ pV hr (aa (pv 2) af)) (aa (aJ pV hr (aa (pv 3) af)) af))) ah)) (ak GH ah ah)))
  (aj (dj PassesOwn.never (fE gj (fun _=>rfl))
  (ae (ar (i:=5) cG.nd rfl (Or.inl rfl) (aJ cO hr (aa (aJ nZ hr (aa (pv 2) (aa (pv 4) af))) (aa (aJ nZ hr (aa (pv 3) (aa (pv 4) af))) af))))
  (ae (ar (i:=6) cG.nd rfl (Or.inl rfl) (aJ dY hr (aa (aJ Cg hr (aa (pv 5) (aa (pv 4) af))) af)))
  (ae (bM (PW.pt (mP (aG wW (aJ jn hr (aa (pv 2) (aa (pv 6) af))) qe (aI _)) (jP (aG wW (aJ jn hr (aa (pv 3) (aa (pv 6) af))) qe (aI _)))))
  (aj (aC (pv 6)))
  aS)
  (aj (ar (i:=4) cG.nd rfl (Or.inl rfl) (ak aF (pv 4) (pv 4)))))))))))))),?_⟩;walk_at "sf";refine⟨a,xs,rfl,ha,⟨by show xs.length<=1000;lia,tx⟩,fun p1 H1 s1 h1=>?_⟩;walk_at "sf";refine⟨b,ys,rfl,s1 _ _ hb,⟨by show ys.length<=1000;lia,ty⟩,fun p2 H2 s2 h2=>?_⟩;have d_:=s1.trans s2;walk_at "sf";refine vi (aM.of (s2 _ _ h1)) ?_
 dsimp only
 rw[L'];by_cases d8:xs=[]
 ·subst d8;have e1:az []=[]:=rfl;rw[if_pos (by rw[e1];rfl)];walk_at "sf";refine q p2 H2 d_ ?_;rw[pJ,j8 ty];exact h2
 have Nq:az xs≠[]:=fun z=>d8 (by have:=congrArg List.length z;rw[bD] at this;exact List.length_eq_zero_iff.mp this);rw[if_neg (by simpa using Nq)];walk_at "sf";refine vi (aM.of h2) ?_
 dsimp only
 rw[L'];by_cases gG:ys=[]
 ·subst gG;have e1:az []=[]:=rfl;rw[if_pos (by rw[e1];rfl)];walk_at "sf";refine q p1 H2 d_ ?_;rw[j8 tx];exact s2 _ _ h1
 have Nr:az ys≠[]:=fun z=>gG (by have:=congrArg List.length z;rw[bD] at this;exact List.length_eq_zero_iff.mp this);rw[if_neg (by simpa using Nr)];have Hl:=s2 _ _ h1;have VN:=bD xs;have VO:=bD ys;have Nt:=eH tx d8 bx;have P4:=eH ty gG Es;walk_at "sf";refine⟨p1,_,rfl,Hl,⟨Nq,by show(az xs).length<=1000;lia⟩,fun m1 H3 s3⟨x1,oH,So⟩ Nu=>?_⟩;walk_at "sf";refine⟨p2,_,rfl,s3 _ _ h2,⟨Nr,by show(az ys).length<=1000;lia⟩,fun m2 H4 s4⟨x2,JK,VP⟩ P5=>?_⟩;walk_at "sf";refine⟨_,_,rfl,?_⟩;walk_at "sf";have x6:=s3.trans s4;have P6:=d_.trans x6;have P7:ab m1<=((2^bb:Nat):Int):=by
  rw[So,lJ (aD _)];exact t_ (Nt _ oH)
 have Ma:0<=m1:=by rw[So];exact aD _
 have P8:0<=m2:=by rw[VP];exact aD _
 have key:∀M:Int,M=(if m2<m1 then m2 else m1)->0<=M/\M<=((2^bb:Nat):Int)/\((∀x∈az xs,ab x<=M)\/(∀y∈az ys,ab y<=M)):=fun M e=>by
  rw[lJ Ma] at P7;rw[e];split
  ·exact⟨P8,by lia,.inr P5⟩
  ·exact⟨Ma,by lia,.inl Nu⟩
 generalize hM:(if m2<m1 then m2 else m1)=M at*;obtain⟨Hv,X6,Mb⟩:=key M rfl;refine cB (IntMulOk.of_left (by decide)) ?_;walk_at "sf";refine cB ⟨by decide,by decide,by decide⟩ ?_;refine cB (IntMulOk.of_right (by decide)) ?_;walk_at "sf";have VQ:(2:Int)^(32:Int).toNat=4294967296:=by decide
 rw[VQ]
 dsimp only
 let PB:Nat:=122*bb+860;have X7:PB=122*bb+860:=rfl;have X8:=xH bb;have Nv:Pr (ao (az xs)):=cS tx d8;have P9:Pr (ao (az ys)):=cS ty gG;have Mc:(∀i,ab ((ao (az xs)).c i)<=M)\/(∀i,ab ((ao (az ys)).c i)<=M):=by
  rcases Mb with h|h
  ·exact .inl fun i=>mem_co h Hv i
  ·exact .inr fun i=>mem_co h Hv i
 have pB:Bd PB (2*(M+1)*4294967296):=by
  unfold Bd;have e3:(2*(M+1)*4294967296).natAbs=(2*(M+1)*4294967296).toNat:=by lia
  have e4:2^(bb+35)=2^bb*34359738368:=by rw[Nat.pow_add]
  have e5:2^(bb+35)<=2^PB:=Nat.pow_le_pow_right (by decide) (by lia);have e6:0<2^bb:=Nat.two_pow_pos bb;lia
 refine cW (fun m σ H'=>∃(p:Int)(z1 z2:Option V),m=(2*((NB 60 (2^bb):Nat):Int)+1-p).toNat/\σ=[some (.ref a),some (.ref b),some (.ref p1),some (.ref p2),some (.int p),z1,z2]/\av H2 H'/\2*(M+1)<p/\Bd PB p)
  ⟨_,_,_,_,rfl,rfl,x6,by lia,pB⟩ ?_
 rintro m σ H5 ⟨p,z1,z2,rfl,rfl,s5,hp,bp⟩;have Md:=y' Nv.ne P9.ne Mb Hv hp 40 (by lia) (by lia);have P_:=d_.trans s5;walk_at "sf";refine⟨true,rfl,?_⟩
 dsimp only
 rw[if_pos rfl];refine⟨_,fun bE H' h=>h,?_⟩;walk_at "sf";refine⟨p1,_,p,PB,rfl,s5 _ _ Hl,⟨bb,by lia,Nt,bp,by lia,by lia⟩,?_⟩;walk_at "sf";refine⟨p2,_,p,PB,rfl,s5 _ _ h2,⟨bb,by lia,P4,bp,by lia,by lia⟩,?_⟩;walk_at "sf";refine⟨_,_,rfl,?_⟩;walk_at "sf";refine⟨_,_,40,rfl,⟨by lia,by lia,Md.2,by decide⟩,fun p6 G H6 s6 h6 JL X9=>?_⟩;walk_at "sf";refine⟨p6,G,rfl,h6,⟨by show G.length<=1000;lia,JL.tr⟩,fun p7 H7 s7 h7=>?_⟩;have P':=(s5.trans s6).trans s7;have DW:G≠[]:=by
  rintro rfl;have:=JL.val;have e0:d7 p []=0:=rfl;rw[e0] at this;lia
 have Sq:az G≠[]:=fun z=>DW (by have:=congrArg List.length z;rw[bD] at this;exact List.length_eq_zero_iff.mp this);have X_:=bD G;have bG:Ab PB G:=fun x hx=>by
  have h8:=JL.HA x hx;unfold Bd at bp ⊢;lia
 have Sr:=eH JL.tr DW bG;have Qa:=cM JL.tr;have Me:Ft p ((Int.gcd (ev p (ao (az xs))) (ev p (ao (az ys))):Nat):Int) G:=by rw[iM,iM];exact JL
 have small:(∀s,ao (az xs)≠ao (az G)*s)\/(∀s,ao (az ys)≠ao (az G)*s)->p<=2*((NB 60 (2^bb):Nat):Int):=fun En=>by
  rcases Int.lt_or_le (2*((NB 60 (2^bb):Nat):Int)) p with eL|hle
  ·exfalso;have gc:=cT (xs:=az xs) (ys:=az ys) (.inl Nv.ne);have ef:=yW Nv P9 (fun i=>t_ (Nt.co i)) (fun i=>t_ (P4.co i)) gc (A:=60) (by rw[aU (cM tx),aU (cM ty)];lia) eL Me (by rw[iM,iM];exact Md.1);obtain⟨f1,e1⟩:=gc.pr.div gc.df;obtain⟨g1,e2⟩:=gc.pr.div gc.dg;rcases En with h|h
   ·exact h f1 (by rw[ef];exact e1)
   ·exact h g1 (by rw[ef];exact e2)
  ·exact hle
 have again:∀H8:Hp,av H2 H8->p<=2*((NB 60 (2^bb):Nat):Int)->IntMulOk p p/\∃m',m'<(2*((NB 60 (2^bb):Nat):Int)+1-p).toNat/\∃(p':Int)(z1 z2:Option V),m'=(2*((NB 60 (2^bb):Nat):Int)+1-p').toNat/\
  [some (V.ref a),some (V.ref b),some (V.ref p1),some (V.ref p2),some (V.int (p*p)),some (V.int ((Int.gcd (d7 p (az xs)) (d7 p (az ys)):Nat):Int)),some (V.ref p7)]=[some (.ref a),some (.ref b),some (.ref p1),some (.ref p2),some (.int p'),z1,z2]/\av H2 H8/\2*(M+1)<p'/\Bd PB p':=fun H8 s8 hle=>by
  have xk:p*2<=p*p:=Int.mul_le_mul_of_nonneg_left (by lia) (by lia);refine⟨bC bp bp (by lia),_,?_,p*p,_,_,rfl,rfl,s8,by lia,?_⟩
  ·lia
  ·have h9:Bd (61*bb+427) p:=by unfold Bd;lia
   exact(h9.mul h9).mono (by lia)
 walk_at "sf";refine⟨p1,p7,_,_,bb,PB,rfl,P' _ _ Hl,h7,⟨Sq,Qa,by lia,by lia,Nt,Sr,by show bb+41*(PB+1)<=60000000;lia⟩,fun H8 s8 En=>?_,fun p8 q1 H8 s8 h8 e8 _=>?_⟩
 ·obtain⟨Qb,fin⟩:=again H8 (P'.trans s8) (small (.inl En));walk_at "sf";refine⟨rfl,false,rfl,?_⟩;rw[if_neg (by decide),if_neg (by decide)];walk_at "sf";refine cB Qb ?_;walk_at "sf";exact fin
 ·walk_at "sf";refine⟨rfl,true,rfl,?_⟩;rw[if_pos rfl];walk_at "sf";have Qc:=P'.trans s8;refine⟨p2,p7,_,_,bb,PB,rfl,Qc _ _ h2,s8 _ _ h7,⟨Sq,Qa,by lia,by lia,P4,Sr,by show bb+41*(PB+1)<=60000000;lia⟩,fun H9 s9 En=>?_,fun p9 q2 H9 s9 h9 e9 _=>?_⟩
  ·obtain⟨Qb,fin⟩:=again H9 (Qc.trans s9) (small (.inr En));walk_at "sf";refine⟨rfl,false,rfl,?_⟩;rw[if_neg (by decide)];walk_at "sf";refine cB Qb ?_;walk_at "sf";exact fin
  ·walk_at "sf";refine⟨rfl,true,rfl,?_⟩;rw[if_pos rfl];walk_at "sf";refine q p7 H9 (d_.trans (Qc.trans s9)) ?_;have gc:GC (ao (az xs)) (ao (az ys)) (ao (az G)):=gcd_right Nv P9 Mc hp Me (by rw[e8];exact Po.D.mul _ _) (by rw[e9];exact Po.D.mul _ _);rw[<-nq tx ty d8 gG,<-my Qa gc];exact s9 _ _ (s8 _ _ h7)
noncomputable def Mf(xs ys:List Int):Prop:=Tr xs/\Tr ys/\xs≠[]/\ys≠[]/\xs.length<=40/\ys.length<=40/\Po.D (ao ys) (ao xs)/\∃b c,b<=1000000/\c<=1000000/\Ab b xs/\Ab c ys
theorem ua(dY:cb P w K mg base 34 "primitive" ["poly"] (C5 az (fun xs=>Cd xs/\Tr xs)))(jn:cb P w K mg base 34 "divided" ["poly","divisor"] v7)(D:aN K mg "quotient" jE ["one","other"]):cb P w K mg base 35 "quotient" ["one","other"] (zv j9 Mf):=by
 refine D.ok tS (fun vs H Q E h=>?_) (fun f cq A outer s H vs Q E hr h=>?_)
 ·obtain⟨a,b,xs,ys,rfl,_⟩:=h;rfl
 obtain⟨a,b,xs,ys,rfl,ha,hb,⟨tx,ty,d8,gG,lx,ly,hd,bb,cc,JH,N1,bx,Es⟩,q⟩:=h;have Nq:az xs≠[]:=fun z=>d8 (by have:=congrArg List.length z;rw[bD] at this;exact List.length_eq_zero_iff.mp this);have Nr:az ys≠[]:=fun z=>gG (by have:=congrArg List.length z;rw[bD] at this;exact List.length_eq_zero_iff.mp this);have VN:=bD xs;have VO:=bD ys;have eq:=qJ tx ty d8 gG hd;refine⟨_,(aj (aC (aJ jn hr (aa (aJ dY hr (aa (pv 0) af)) (aa (aJ dY hr (aa (pv 1) af)) af))))),?_⟩;walk_at "sf";refine⟨a,xs,rfl,ha,⟨by show xs.length<=1000;lia,tx⟩,fun p1 H1 s1 h1=>?_⟩;walk_at "sf";refine⟨b,ys,rfl,s1 _ _ hb,⟨by show ys.length<=1000;lia,ty⟩,fun p2 H2 s2 h2=>?_⟩;have d_:=s1.trans s2;walk_at "sf";refine⟨p1,p2,_,_,bb,cc,rfl,s2 _ _ h1,h2,⟨Nr,cM ty,by lia,by lia,eH tx d8 bx,eH ty gG Es,by show bb+41*(cc+1)<=60000000;lia⟩,fun H3 s3 En=>?_,fun p3 qs H3 s3 h3 e3 hl=>?_⟩
 ·exact absurd eq (En _)
 ·refine q p3 H3 (d_.trans s3) ?_;have uP:(az ys).length<=(az xs).length:=by
   have h0:=(cS tx d8).ne;rw[eq] at h0;have:=len_mul (qD h0) (gx h0);rw[<-eq,aU (cM tx),aU (cM ty)] at this;have:=len_pos (gx h0);lia
  have tq:Tr qs:=HD (cM tx) Nq (cM ty) e3 (hl uP);rw[<-DX ty gG tq e3];exact h3
noncomputable def Ey(xs:List Int):Prop:=Tr xs/\xs≠[]/\xs.length<=31/\∃b,b<=9990/\Ab b xs
theorem x8{xs:List Int}{b:Nat}(h:Ab b xs)(hl:xs.length<=31):Ab (b+5) (bT xs):=fun x hx=>by
 obtain⟨i,hi,e⟩:=List.getElem_of_mem hx;have Ju:i<xs.length-1:=by rw[show(bT xs).length=xs.length-1 from aA _ _] at hi;exact hi
 rw[<-e,<-bI,jV];show Bd (b+5) (((i+1:Nat):Int)*co xs (i+1));have h1:Bd 5 (((i+1:Nat):Int)):=Bd.fF (by lia) (by lia);have h2:=h1.mul (h.co (i+1));rw[Nat.add_comm] at h2;exact h2
theorem ub(xs:List Int):(bT xs).length=xs.length-1:=aA _ _
theorem n8(v9:cb P w K mg base 35 "quotient" ["one","other"] (zv j9 Mf))(qY:cb P w K mg base 35 "divisor_of" ["one","other"] (zv di L_))(ig:cb P w K mg base 35 "derivative" ["poly"] (C5 bT (fun xs=>Cd xs/\Ab lP xs)))(D:aN K mg "square_free" f9 ["poly"]):cb P w K mg base 36 "square_free" ["poly"] (C5 kN Ey):=by
 refine D.ok nV (fun vs H Q E h=>?_) (fun f cq A outer s H vs Q E hr h=>?_)
 ·obtain⟨a,xs,rfl,_⟩:=h;rfl
 obtain⟨a,xs,rfl,ha,⟨tx,d8,lx,bb,JH,bx⟩,q⟩:=h;have lp:lP=60000000:=rfl;have ld:=ub xs;have td:=xh tx;have bd:=x8 bx lx;have h0:ao xs≠0\/ao (bT xs)≠0:=.inl (gU tx d8);refine⟨_,(aj (aC (aJ v9 hr (aa (pv 0) (aa (aJ qY hr (aa (pv 0) (aa (aJ ig hr (aa (pv 0) af)) af))) af))))),?_⟩;walk_at "sf";refine⟨a,xs,rfl,ha,⟨by show xs.length<=1000;lia,bx.mono (by lia)⟩,fun p1 H1 s1 h1=>?_⟩;walk_at "sf";refine⟨a,p1,xs,_,rfl,s1 _ _ ha,h1,⟨tx,td,by lia,by lia,by lia,bb+5,by lia,bx.mono (by lia),bd⟩,fun p2 H2 s2 h2=>?_⟩;have d_:=s1.trans s2;have X':(di xs (bT xs)).length<=xs.length:=by
  have:=(cT h0).df.len (gU tx d8);rw[aU (fU _ _),aU tx] at this;exact this
 walk_at "sf";refine⟨a,p2,xs,_,rfl,d_ _ _ ha,h2,⟨tx,fU _ _,d8,xD h0,by lia,by lia,Lj tx d8,bb,61*(bb+5)+427,by lia,by lia,bx,Ew tx td (by lia) (bx.mono (by lia)) bd⟩,fun p3 H3 s3 h3=>?_⟩;exact q p3 H3 (d_.trans s3) h3
end
end eQ
namespace eQ
open PySem PyProof.Rows L2 SF
noncomputable def sg(a:Int):Int:=if a<0 then -1 else if 0<a then 1 else 0
noncomputable def qZ:Sp:=fun vs H Q _=>∃a:Int,vs=[.int a]/\Q (.int (sg a)) H
noncomputable def uc:Sp:=fun vs H Q _=>∃(a:Addr)(xs:List Int)(t u:Int)(b p:Nat),vs=[.ref a,.int t,.int u]/\IL H a xs/\(xs.length<=100/\Ab b xs/\Bd p t/\Bd p u/\b+(p+1)*101<=lP)/\Q (.int (hv t u xs)) H
noncomputable def Mg:Sp:=fun vs H Q _=>∃(a g:Addr)(xs:List Int)(t u:Int)(b p:Nat),vs=[.ref a,.ref g]/\IL H a xs/\H g=some (.tup [.int t,.int u])/\(xs.length<=100/\Ab b xs/\Bd p t/\Bd p u/\b+(p+1)*101<=lP)/\Q (.int (sg (hv t u xs))) H
theorem Iy{t u:Int}{xs:List Int}{j b p:Nat}(bt:Bd p t)(bu:Bd p u)(hb:Ab b xs):j<=xs.length->Bd (b+(p+1)*j+1) (AQ t u xs j).1/\Bd (p*j+1) (AQ t u xs j).2:=by
 induction j with
 |zero=>
  intro _;rw[AR];exact⟨by show(0:Int).natAbs<_;exact Nat.two_pow_pos _,Bd.mono (m:=1) (by show(1:Int).natAbs<2^1;decide) (by lia)⟩
 |succ j ih=>
  intro hj;obtain⟨h1,h2⟩:=ih (by lia);rw[sI t u xs j (by lia)];unfold iH;have e1:(p+1)*(j+1)=(p+1)*j+(p+1):=by rw[Nat.mul_add];lia
  have e2:p*(j+1)=p*j+p:=by rw[Nat.mul_add];lia
  have e3:(p+1)*j=p*j+j:=by rw[Nat.add_mul];lia
  refine⟨?_,(h2.mul bu).mono (by lia)⟩;have z1:=(h1.mul bt);have z2:=((hb.co (xs.length-1-j)).mul h2);exact((z1.mono (by lia:b+(p+1)*j+1+p<=b+(p+1)*j+1+p)).add (z2.mono (by lia))).mono (by lia)
section
variable {P:Program} {w:World} {K:PySem.W.Frag} {mg:Str->Option Value} {base:Heap}
theorem Ez(D:aN K mg "sign" vU ["number"]):cb P w K mg base 1 "sign" ["number"] qZ:=by
 refine D.ok Ep (fun vs H Q E h=>?_) (fun f cq A outer s H vs Q E hr h=>?_)
 ·obtain⟨a,rfl,_⟩:=h;rfl
 obtain⟨a,rfl,q⟩:=h;refine⟨_,(ae (bM (aG jR (pv 0) ah (aI _))
  (aj (aC (dH cC ah)))
  aS)
  (aj (aC (rR (aG fb (pv 0) ah (aI _)) ah ah)))),?_⟩;walk_at "sf";unfold sg at q;refine eM (fun c=>?_) (fun c=>?_)
 ·walk_at "sf";rw[if_pos (by simpa using c)] at q;exact q
 ·rw[if_neg (by simpa using c)] at q;walk_at "sf";refine eM (fun c2=>?_) (fun c2=>?_)
  ·walk_at "sf";rw[if_pos (by simpa using c2)] at q;exact q
  ·walk_at "sf";rw[if_neg (by simpa using c2)] at q;exact q
theorem v_(T:Nm mg)(D:aN K mg "trimmed" kW ["row"]):cb P w K mg base 1 "trimmed" ["row"] (C5 dw Cd):=by
 refine D.ok jC (fun vs H Q E h=>?_) (fun f cq A outer s H vs Q E hr h=>?_)
 ·obtain⟨a,xs,rfl,_⟩:=h;rfl
 obtain⟨a,xs,rfl,ha,hl,q⟩:=h;have em:(xs.map V.int).length=xs.length:=List.length_map _;refine⟨_,(ae (ar (i:=1) jC.nd rfl (Or.inl rfl) (aw ay rfl T.cx boot_len (aa (pv 0) af)))
  (ae (dj PassesOwn.never (PW.pt (mP (aG fb (pv 1) ah (aI _)) (jP (aG jr (aL aP (pv 0) (ak bB (pv 1) ah) (fun _ _=>rfl)) ah (aI _)))))
  (aj (ar (i:=1) jC.nd rfl (Or.inl rfl) (ak bB (pv 1) ah))))
  (aj (aC (jS mi (pv 0) md (me (pv 1))))))),?_⟩;walk_at "sf";refine⟨a,_,rfl,.inl (aM.of ha),?_⟩;walk_at "sf";rw[em];refine cW (fun m σ H'=>∃n:Nat,n=m/\σ=[some (.ref a),some (.int (n:Int))]/\H'=H/\n<=xs.length/\dw (xs.take n)=dw xs) ⟨_,xs.length,rfl,rfl,rfl,Nat.le_refl _,by rw[List.take_length]⟩ ?_;rintro m σ H' ⟨n,rfl,rfl,rfl,hn,e⟩;have fin:(n=0\/SF.co xs (n-1)≠0)->∀p,H' p=none->Q (.ref p) (upd H' p (.lst (gp (xs.map V.int) none (some (n:Int))))):=fun hz p hp=>by
  have e2:dw xs=xs.take n:=by rw[<-e];exact AK (DD hn hz)
  exact q p _ (av.new hp _) (by show upd H' p _ p=_;rw[ai,Cb,e2])
 walk_at "sf";refine eM (fun c=>?_) (fun c=>?_)
 ·have hp:0<n:=by simpa using c
  have ei:((n:Int)-1)=((n-1:Nat):Int):=by lia
  walk_at "sf";rw[ei];refine bP (aM.of ha) (iq (by lia)) ?_;walk_at "sf";refine eM (fun c2=>?_) (fun c2=>?_)
  ·have hz:SF.co xs (n-1)=0:=by simpa using c2
   refine⟨_,fun bE H' h=>h,?_⟩;walk_at "sf";rw[ei];refine⟨n-1,by lia,n-1,rfl,rfl,rfl,by lia,?_⟩;have:=vk (xs:=xs) hz;rw[Nat.sub_add_cancel hp] at this;rw[<-this,e]
  ·have hz:SF.co xs (n-1)≠0:=by simpa using c2
   walk_at "sf";refine⟨_,rfl,?_⟩;exact⟨a,_,rfl,aM.of ha,fin (.inr hz)⟩
 ·have hp:n=0:=by simpa using c
  rw[if_neg (by decide)];walk_at "sf";refine⟨_,rfl,?_⟩;exact⟨a,_,rfl,aM.of ha,fin (.inl hp)⟩
theorem q_(T:Nm mg)(D:aN K mg "height_at" iS ["poly","top","under"]):cb P w K mg base 1 "height_at" ["poly","top","under"] uc:=by
 refine D.ok dF (fun vs H Q E h=>?_) (fun f cq A outer s H vs Q E hr h=>?_)
 ·obtain⟨a,xs,t,u,b,p,rfl,_⟩:=h;rfl
 obtain⟨a,xs,t,u,b,p,rfl,ha,⟨hx,bx,bt,bu,hsz⟩,q⟩:=h;have lp:lP=60000000:=rfl;refine⟨_,(ae (ar (i:=3) dF.nd rfl (Or.inl rfl) ah)
  (ae (ar (i:=4) dF.nd rfl (Or.inl rfl) ah)
  (ae (dm PassesOwn.never rfl (vf rfl T.ie (aa (pv 0) af)) (aT (i:=5) dF.nd rfl (Or.inl rfl))
  (ae (ar (i:=3) dF.nd rfl (Or.inl rfl) (ak aZ (ak aF (pv 3) (pv 1)) (ak aF (pv 5) (pv 4))))
  (aj (ar (i:=4) dF.nd rfl (Or.inl rfl) (ak aF (pv 4) (pv 2))))))
  (aj (aC (pv 3)))))),?_⟩;walk_at "sf";refine⟨a,_,rfl,aM.of ha,?_⟩;refine qu (xs:=xs.map V.int) (fun i σ H'=>(∃r,σ=[some (.ref a),some (.int t),some (.int u),some (.int (AQ t u xs i).1),some (.int (AQ t u xs i).2),r])/\H'=H) ⟨⟨_,rfl⟩,rfl⟩ (fun i σ H' _ z=>by rw[z.2];exact aM.of ha) ?_ ?_
 ·rintro i x σ H' hi C6 ⟨⟨r,rfl⟩,rfl⟩;rw[List.length_map] at hi C6;obtain⟨FV,rfl⟩:=ll C6;obtain⟨b1,b2⟩:=Iy bt bu bx (j:=i) (by lia);have k1:(p+1)*i<=(p+1)*100:=Nat.mul_le_mul_left _ (by lia);have k2:p*i<=p*100:=Nat.mul_le_mul_left _ (by lia);have k3:(p+1)*101=(p+1)*100+(p+1):=by lia
  have k4:(p+1)*100=p*100+100:=by lia
  walk_at "sf";refine cB (bC b1 bt (by lia)) ?_;walk_at "sf";refine cB (bC (bx.co _) b2 (by lia)) ?_;walk_at "sf";refine cB (bC b2 bu (by lia)) ?_;walk_at "sf";exact⟨⟨_,by rw[sI t u xs i hi];rfl⟩,rfl⟩
 ·rintro σ H' ⟨⟨r,rfl⟩,rfl⟩;rw[List.length_map];walk_at "sf";rw[AS];exact q
theorem wa(n9:cb P w K mg base 1 "sign" ["number"] qZ)(ud:cb P w K mg base 1 "height_at" ["poly","top","under"] uc)(D:aN K mg "sign_at" k_ ["poly","given"]):cb P w K mg base 2 "sign_at" ["poly","given"] Mg:=by
 refine D.ok vW (fun vs H Q E h=>?_) (fun f cq A outer s H vs Q E hr h=>?_)
 ·obtain⟨a,g,xs,t,u,b,p,rfl,_⟩:=h;rfl
 obtain⟨a,g,xs,t,u,b,p,rfl,ha,hg,yH,q⟩:=h;refine⟨_,(aj (aC (aJ n9 hr (aa (aJ ud hr (aa (pv 0) (aa (aL bq (pv 1) ah (fun _ _=>rfl)) (aa (aL bq (pv 1) ah (fun _ _=>rfl)) af)))) af)))),?_⟩;walk_at "sf";refine cu (cJ.of hg) rfl ?_;walk_at "sf";refine cu (cJ.of hg) rfl ?_;walk_at "sf";refine⟨a,xs,t,u,b,p,rfl,ha,yH,?_⟩;walk_at "sf";exact⟨_,rfl,q⟩
end
end eQ
namespace eQ
open PySem PyProof.Rows L2 SF SF.Po
theorem Bd.pow{b:Nat}{x:Int}(h:Bd b x):∀k:Nat,Bd (b*k+1) (x^k)
 |0=>Bd.mono (m:=1) (by rw[Int.pow_zero];show(1:Int).natAbs<2^1;decide) (by lia)
 |k+1=>by
  rw[Int.pow_succ];have e:b*(k+1)=b*k+b:=by rw[Nat.mul_add];lia
  exact((Bd.pow h k).mul h).mono (by lia)
noncomputable def FZ:Sp:=fun vs H Q _=>∃(x:Int)(k b:Nat),vs=[.int x,.int (k:Int)]/\(Bd b x/\k<=100/\b*k<=lP/\b<=lP)/\Q (.int (x^k)) H
noncomputable def F4:Sp:=fun vs H Q _=>∃(a d:Addr)(xs ys:List Int)(b c:Nat),vs=[.ref a,.ref d]/\IL H a xs/\IL H d ys/\(ys≠[]/\Tr ys/\ys.length<=xs.length/\xs.length<=60/\Ab b xs/\Ab c ys/\b+(xs.length-ys.length+1)*(c+1)<=lP)/\
 ∀(p:Addr)(rs:List Int)(H':Hp),av H H'->IL H' p rs->RX xs ys rs->Ab (b+(xs.length-ys.length+1)*(c+1)) rs->Q (.ref p) H'
theorem VR{d:Nat}(h:d<=60):Builtin.Range.small (d:Int) (-1) (-1)=true:=by
 revert d;decide
theorem Qd{d:Nat}:Builtin.Range.rangeSize (d:Int) (-1) (-1)=((d+1:Nat):Int):=by
 unfold Builtin.Range.rangeSize;rw[if_neg (by decide),if_pos (by lia)];have:((d:Int)- -1-1)=(d:Int):=by lia
 rw[this];simp
section
variable {P:Program} {w:World} {K:PySem.W.Frag} {mg:Str->Option Value} {base:Heap}
theorem Ci(T:Nm mg)(D:aN K mg "power" qR ["number","many"]):cb P w K mg base 1 "power" ["number","many"] FZ:=by
 refine D.ok fQ (fun vs H Q E h=>?_) (fun f cq A outer s H vs Q E hr h=>?_)
 ·obtain⟨x,k,b,rfl,_⟩:=h;rfl
 obtain⟨x,k,b,rfl,⟨bx,hk,Ya,hb⟩,q⟩:=h;have lp:lP=60000000:=rfl;refine⟨_,(ae (ar (i:=2) fQ.nd rfl (Or.inl rfl) ah)
  (ae (ar (i:=3) fQ.nd rfl (Or.inl rfl) (pv 0))
  (ae (ar (i:=4) fQ.nd rfl (Or.inl rfl) (pv 1))
  (ae (dj PassesOwn.never (aG fb (pv 4) ah (aI _))
  (ae (bM (aG jr (ak bL (pv 4) ah) ah (aI _))
  (aj (ar (i:=2) fQ.nd rfl (Or.inl rfl) (ak aF (pv 2) (pv 3))))
  aS)
  (ae (ar (i:=4) fQ.nd rfl (Or.inl rfl) (ak dn (pv 4) ah))
  (aj (bM (aG fb (pv 4) ah (aI _))
  (aj (ar (i:=3) fQ.nd rfl (Or.inl rfl) (ak aF (pv 3) (pv 3))))
  aS)))))
  (aj (aC (pv 2))))))),?_⟩;walk_at "sf";refine cW (fun m σ H'=>∃(j s:Nat),σ=[some (.int x),some (.int (k:Int)),some (.int (x^j)),some (.int (x^s)),some (.int (m:Int))]/\H'=H/\j+s*m=k)
  ⟨k,0,1,by rw[Int.pow_zero,Int.pow_succ,Int.pow_zero,Int.one_mul];rfl,rfl,by lia⟩ ?_
 rintro m σ H' ⟨j,s,rfl,rfl,e⟩;walk_at "sf";refine eM (fun c=>?_) (fun c=>?_)
 ·have hm:0<m:=by
   have:(0:Int)<(m:Int):=by simpa using c
   lia
  have hs:s<=k:=by
   have:=Nat.mul_le_mul_left s hm;lia
  have h1:b*j<=b*k:=Nat.mul_le_mul_left _ (by lia);have h2:b*s<=b*k:=Nat.mul_le_mul_left _ hs;have ef:(m:Int).fmod 2=((m%2:Nat):Int):=by rw[dr (by decide)];rfl
  have ed:(m:Int).fdiv 2=((m/2:Nat):Int):=by rw[Int.fdiv_eq_ediv_of_nonneg _ (by decide)];rfl
  have VS:=Nat.div_add_mod m 2;have Ss:s*m=s*(2*(m/2))+s*(m%2):=by rw[<-Nat.mul_add,VS]
  have VT:s*(2*(m/2))=(s+s)*(m/2):=by rw[<-Nat.mul_assoc,Nat.mul_two]
  refine⟨_,fun bE H' h=>h,?_⟩;walk_at "sf";refine cB (by decide) ?_;rw[ef];walk_at "sf";refine eM (fun c1=>?_) (fun c1=>?_)
  case' refine_1=>
   have e1:m%2=1:=by
    have:((m%2:Nat):Int)=1:=by simpa using c1
    lia
   walk_at "sf";refine cB (bC (Bd.pow bx j) (Bd.pow bx s) (by lia)) ?_;rw[<-Int.pow_add];have e2:(j+s)+(s+s)*(m/2)=k:=by
    rw[e1,Nat.mul_one] at Ss;lia
   generalize VU:j+s=j' at e2 ⊢
  case' refine_2=>
   have e1:m%2=0:=by
    have:¬((m%2:Nat):Int)=1:=by simpa using c1
    lia
   have e2:j+(s+s)*(m/2)=k:=by
    rw[e1,Nat.mul_zero] at Ss;lia
   generalize VU:j=j' at e2 ⊢
  all_goals
   walk_at "sf";refine cB ⟨by decide,by decide⟩ ?_;rw[ed];have eL:m/2<m:=Nat.div_lt_self hm (by decide);walk_at "sf";generalize m/2=d at e2 eL ⊢;refine eM (fun c2=>?_) (fun c2=>?_)
   ·have hd:0<d:=by
     have:(0:Int)<(d:Int):=by simpa using c2
     lia
    have h3:(s+s)<=k:=by
     have:=Nat.mul_le_mul_left (s+s) hd;lia
    have h4:b*(s+s)<=b*k:=Nat.mul_le_mul_left _ h3;rw[Nat.mul_add] at h4;walk_at "sf";refine cB (bC (Bd.pow bx s) (Bd.pow bx s) (by lia)) ?_;rw[<-Int.pow_add];walk_at "sf";exact⟨d,eL,j',s+s,rfl,rfl,e2⟩
   ·have hd:d=0:=by
     have:¬(0:Int)<(d:Int):=by simpa using c2
     lia
    walk_at "sf";exact⟨d,eL,j',s,rfl,rfl,by rw[hd,Nat.mul_zero] at e2 ⊢;exact e2⟩
 ·have hm:m=0:=by
   have:¬(0:Int)<(m:Int):=by simpa using c
   lia
  subst hm;have ej:j=k:=by lia
  subst ej;walk_at "sf";exact q
theorem rd(T:Nm mg)(n9:cb P w K mg base 1 "sign" ["number"] qZ)(zA:cb P w K mg base 1 "trimmed" ["row"] (C5 dw Cd))(D:aN K mg "remainder" iT ["one","other"]):
 cb P w K mg base 2 "remainder" ["one","other"] F4:=by
 refine D.ok bZ (fun vs H Q E h=>?_) (fun f cq A outer s H vs Q E hr h=>?_)
 ·obtain⟨a,d,xs,ys,b,c,rfl,_⟩:=h;rfl
 obtain⟨a,d,xs,ys,b,c,rfl,ha,hd,⟨gG,ty,hl,hx,bx,Es,hsz⟩,q⟩:=h;have lp:lP=60000000:=rfl;have ex:(xs.map V.int).length=xs.length:=List.length_map _;have ey:(ys.map V.int).length=ys.length:=List.length_map _;have hyp:=List.length_pos_iff.mpr gG;have FY:=ty.last gG;refine⟨_,(ae (ar (i:=2) bZ.nd rfl (Or.inr rfl) (aw d9 rfl T.kl boot_abs (aa (aL aP (pv 1) (dH cC ah) (fun _ _=>rfl)) af)))
  (ae (ar (i:=3) bZ.nd rfl (Or.inl rfl) (aJ n9 hr (aa (aL aP (pv 1) (dH cC ah) (fun _ _=>rfl)) af)))
  (ae (ar (i:=4) bZ.nd rfl (Or.inl rfl) (dC gJ rfl T.nX boot_list (aa (pv 0) af)))
  (ae (dm PassesOwn.never rfl (yL rfl T.eZ (aa (ak bB (aw ay rfl T.cx boot_len (aa (pv 0) af)) (aw ay rfl T.cx boot_len (aa (pv 1) af))) (aa (dH cC ah) (aa (dH cC ah) af)))) (aT (i:=5) bZ.nd rfl (Or.inl rfl))
  (ae (ar (i:=6) bZ.nd rfl (Or.inl rfl) (ak aF (u9 PySem.F.plainAttrs_list PySem.F.slot_list_pop PySem.F.type_list_pop va (pv 4)) (pv 3)))
  (ae (qp (i:=4) bZ.nd rfl rfl rfl (gL (own:=["number"]) (fr:=[2]) (fs:=["size"]) (by with_unfolding_all rfl) rfl (by decide +kernel) (by decide +kernel) (by exact⟨rfl,trivial⟩) (by with_unfolding_all rfl) (by exact⟨⟨rfl,rfl,rfl,Or.inl rfl⟩,trivial⟩)) (fu (pv 4)) (fun _ _ _ _ _=>(aT (i:=0) (show List.Nodup (["number","size"]:List Str) by decide +kernel) rfl (Or.inl rfl) (Or.inr rfl))) (fun _ _ _ _ _=>(ak aF (pv 0) (pv 1))) rfl)
  (aj (dm PassesOwn.never rfl (qo rfl T.i7 (aa (jS mi (pv 1) md (me (dH cC ah))) af)) (qh rfl (e_ (aT (i:=7) bZ.nd rfl (Or.inl rfl)) (e_ (aT (i:=8) bZ.nd rfl (Or.inl rfl)) l_)))
  (aj (qi (ak bB (aL aP (pv 4) (ak aZ (pv 5) (pv 7)) (fun _ _=>rfl)) (ak aF (pv 6) (pv 8))) (uU (pv 4) (ak aZ (pv 5) (pv 7)) set_list))))))))
  (aj (aC (aJ zA hr (aa (pv 4) af)))))))),?_⟩;walk_at "sf";refine bP (aM.of hd) (fW gG) ?_;walk_at "sf";refine⟨_,rfl,?_⟩;walk_at "sf";refine bP (aM.of hd) (fW gG) ?_;walk_at "sf";refine⟨_,rfl,?_⟩;walk_at "sf";have Iw:(if co ys (ys.length-1)<0 then -co ys (ys.length-1) else co ys (ys.length-1))=ab (co ys (ys.length-1)):=by unfold ab;split<;>lia
 rw[Iw];have HX:sg (co ys (ys.length-1))*co ys (ys.length-1)=ab (co ys (ys.length-1)):=Lv _;have Nw:Bd 1 (sg (co ys (ys.length-1))):=by unfold sg Bd;split<;>(try split)<;>decide
 have bl:Bd c (ab (co ys (ys.length-1))):=by
  have:=Es.co (ys.length-1);unfold Bd at*;unfold ab;lia
 generalize sg (co ys (ys.length-1))=σs at HX Nw ⊢;generalize hle:ab (co ys (ys.length-1))=l at HX bl ⊢;refine⟨a,_,rfl,.inl (aM.of ha),fun p1 lY=>?_⟩;have s1:=av.new lY (.lst (xs.map V.int));walk_at "sf";refine⟨a,_,rfl,.inl (aM.of (s1 _ _ ha)),?_⟩;walk_at "sf";refine⟨d,_,rfl,.inl (aM.of (s1 _ _ hd)),?_⟩;walk_at "sf";rw[ex,ey];have ek:(xs.length:Int)-(ys.length:Int)=((xs.length-ys.length:Nat):Int):=by lia
 rw[ek];generalize FC:xs.length-ys.length=δ at hsz ⊢;refine⟨_,_,_,δ+1,rfl,by decide,by decide,VR (by lia),Qd,?_⟩;refine ve (fun i σ H'=>∃(p:Addr)(rs:List Int)(q:Po)(z5 z6 z7 z8:Option V),σ=[some (.ref a),some (.ref d),some (.int l),some (.int σs),some (.ref p),z5,z6,z7,z8]/\av H H'/\IL H' p rs/\H p=none/\
  rs.length+i=xs.length/\Po.K (l^i)*ao xs=q*ao ys+ao rs/\len q<=δ+1/\Ab (b+i*(c+1)) rs)
  ⟨p1,xs,0,_,_,_,_,rfl,s1,ai,lY,by lia,by rw[Int.pow_zero,Po.bN];grind,by rw[fe];lia,bx.mono (by lia)⟩ ?_ ?_
 ·rintro i σ H2 hi ⟨p,rs,qq,z5,z6,z7,z8,rfl,s2,h2,JM,hlen,eq,hq,Eu⟩;have Su:ys.length<=rs.length:=by lia
  have Cf:rs≠[]:=List.length_pos_iff.mp (by lia);have hk:rs.length-ys.length=δ-i:=by lia
  have Yb:i*(c+1)<=(δ+1)*(c+1):=Nat.mul_le_mul_right _ (by lia);have VV:(i+1)*(c+1)<=(δ+1)*(c+1):=Nat.mul_le_mul_right _ (by lia);have VW:(i+1)*(c+1)=i*(c+1)+(c+1):=by rw[Nat.add_mul];lia
  walk_at "sf";refine⟨_,rfl,.inl ⟨rfl,_,aM.of h2⟩,p,_,_,rfl,rfl,h2,tZ Cf,?_⟩;walk_at "sf";refine cB (bC (Eu.co _) Nw (by lia)) ?_;walk_at "sf";have em:(rs.map V.int).dropLast=rs.dropLast.map V.int:=(List.map_dropLast ..).symm;have h3:IL (upd H2 p (.lst (rs.map V.int).dropLast)) p rs.dropLast:=by show upd _ p _ p=_;rw[ai,em]
  have s3:av H (upd H2 p (.lst (rs.map V.int).dropLast)):=fun c o z=>by
   rw[aq (aH z JM)];exact s2 _ _ z
  generalize upd H2 p (.lst (rs.map V.int).dropLast)=H3 at h3 s3 ⊢;have ld:rs.dropLast.length=rs.length-1:=List.length_dropLast;have cd:∀j,j<rs.length-1->co rs.dropLast j=co rs j:=fun j hj=>by rw[List.dropLast_eq_take,gO,if_pos hj]
  refine gR (H1:=H3) (rJ K p) (fun R hR=>?_) (fJ (xs:=rs.dropLast) (aM.of h3) (fun i=>co rs.dropLast i*l) (by lia) ?_ ?_)
  ·walk_at "sf";exact⟨p,rfl,⟨_,aM.of h3⟩,hR⟩
  ·intro j r H4 hj hr x6 Z hZ;obtain⟨x0,rfl⟩:=sL hr;walk_at "sf";have bj:Bd (b+i*(c+1)) (co rs.dropLast j):=by rw[cd j (by lia)];exact Eu.co j
   refine cB (bC bj bl (by lia)) ?_;exact hZ _ _ (av.refl _) ⟨[_],rfl,rfl⟩
  ·intro D2 H4 Nx x6 h4;have s4:=s3.trans x6;have Qe:H D2=none:=s3.free Nx;have e4:dX (fun i=>co rs.dropLast i*l) rs.dropLast.length=dX (fun j=>co rs j*l) (rs.length-1):=by
    rw[ld];exact cL fun j hj=>by rw[cd j hj]
   rw[e4] at h4;walk_at "sf";refine⟨_,rfl,?_⟩;walk_at "sf";refine⟨d,_,rfl,aM.of (s4 _ _ hd),fun p5 Mh=>?_⟩;have e5:gp (ys.map V.int) none (some (-1))=ys.dropLast.map V.int:=tV ys;have zB:=av.new Mh (.lst (gp (ys.map V.int) none (some (-1))));have h5:IL (upd H4 p5 (.lst (gp (ys.map V.int) none (some (-1))))) p5 ys.dropLast:=by show upd _ p5 _ p5=_;rw[ai,e5]
   have Sv:=zB _ _ h4;have s5:=s4.trans zB;have VX:p5≠D2:=fun z=>by rw[z,h4] at Mh;cases Mh
   generalize upd H4 p5 (.lst (gp (ys.map V.int) none (some (-1))))=H5 at h5 Sv s5 ⊢;have Sw:ys.dropLast.length=ys.length-1:=List.length_dropLast;have Sy:∀j,j<ys.length-1->co ys.dropLast j=co ys j:=fun j hj=>by rw[List.dropLast_eq_take,gO,if_pos hj]
   have VY:(ys.dropLast.map V.int).length=ys.length-1:=by rw[List.length_map,Sw]
   generalize OQ:rs.length-ys.length=kk at hk;have VZ:(δ:Int)+(i:Int)*-1=(kk:Int):=by lia
   rw[VZ];generalize ht:co rs (rs.length-1)=t;have bt:Bd (b+i*(c+1)) t:=by rw[<-ht];exact Eu.co _
   walk_at "sf";refine⟨p5,rfl,⟨_,aM.of h5⟩,?_⟩;refine sy (xs:=ys.dropLast.map V.int) (fun e σ H'=>(∃r1 r2,σ=[some (.ref a),some (.ref d),some (.int l),some (.int σs),some (.ref D2),some (.int (kk:Int)),some (.int (t*σs)),r1,r2])/\av H H'/\IL H' p5 ys.dropLast/\
    IL H' D2 (dX (fun j=>co rs j*l-if kk<=j/\j<kk+e then t*σs*co ys (j-kk) else 0) (rs.length-1)))
    ⟨⟨_,_,rfl⟩,s5,h5,?_⟩ (fun e σ H' _ z=>aM.of z.2.2.1) ?_ ?_
   ·show H5 D2=_;rw[Sv];exact congrArg (fun l:List Int=>some (HO.lst (l.map V.int))) (cL fun j _=>by rw[if_neg (by lia)];lia)
   ·rintro e x pp σ H6 V0 xk ⟨⟨r1,r2,rfl⟩,s6,h6,h7⟩;obtain⟨Qf,rfl⟩:=ll V0;rw[Sw] at Qf;have Qg:=av.new xk (.tup [.int (e:Int),.int (co ys.dropLast e)]);have h8:=Qg _ _ h7;have ei:(kk:Int)+(e:Int)=((kk+e:Nat):Int):=by lia
    refine qm (cJ.of ai) rfl ?_;walk_at "sf";rw[ei];refine bP (aM.of h8) (iq (by rw[aA];lia)) ?_;walk_at "sf";have be:Bd c (co ys.dropLast e):=by rw[Sy e Qf];exact Es.co e
    refine cB (bC (bt.mul Nw) be (by lia)) ?_;walk_at "sf";rw[ei];refine⟨D2,_,_,kk+e,rfl,rfl,h8,vX (by rw[List.length_map,aA];lia),?_⟩;refine⟨⟨_,_,rfl⟩,fun c o z=>?_,?_,?_⟩
    ·rw[aq (aH z Qe)];exact Qg _ _ (s6 _ _ z)
    ·show upd _ D2 _ p5=_;rw[aq VX];exact Qg _ _ h6
    ·show upd _ D2 _ D2=_;rw[ai,gP,if_pos (by lia),Sy e Qf,<-List.map_set,qx (by lia)];refine congrArg (fun l=>some (HO.lst (l.map V.int))) (cL fun j hj=>?_);show(if j=kk+e then _ else _)=_;by_cases e2:j=kk+e
     ·subst e2;have e3:kk+e-kk=e:=by lia
      rw[if_pos rfl,if_neg (by lia),if_pos ⟨by lia,by lia⟩,e3];lia
     ·rw[if_neg e2];by_cases e4:kk<=j/\j<kk+e
      ·rw[if_pos e4,if_pos ⟨e4.1,by lia⟩]
      ·rw[if_neg e4,if_neg (by lia)]
   ·rintro σ H6 ⟨⟨r1,r2,rfl⟩,s6,h6,h7⟩;rw[VY] at h7;have es:=Bs (rs:=rs) gG Su HX;rw[OQ,ht] at es;have Fs:Ab (b+(i+1)*(c+1)) (dX (fun j=>co rs j*l-if kk<=j/\j<kk+(ys.length-1) then t*σs*co ys (j-kk) else 0) (rs.length-1)):=fun x hx=>by
     obtain⟨j,hj,rfl⟩:=List.mem_map.mp hx;have g1:Bd (b+i*(c+1)+c) (co rs j*l):=(Eu.co j).mul bl;have g2:Bd (b+i*(c+1)+c) (if kk<=j/\j<kk+(ys.length-1) then t*σs*co ys (j-kk) else 0):=by
      split
      ·have e5:(t*σs*co ys (j-kk)).natAbs<=(t*co ys (j-kk)).natAbs:=by
        rw[Int.natAbs_mul,Int.natAbs_mul,Int.natAbs_mul];have:σs.natAbs<=1:=by unfold Bd at Nw;lia
        have h9:t.natAbs*σs.natAbs<=t.natAbs*1:=Nat.mul_le_mul_left _ this;rw[Nat.mul_one] at h9;exact Nat.mul_le_mul_right _ h9
       exact(bt.mul (Es.co (j-kk))).of_le e5
      ·show(0:Int).natAbs<_;exact Nat.two_pow_pos _
     have e6:b+(i+1)*(c+1)=b+i*(c+1)+c+1:=by lia
     rw[e6];exact g1.sub g2
    refine⟨D2,_,Po.K l*qq+Po.K (t*σs)*X kk,_,_,_,_,rfl,s6,h7,Qe,by rw[aA];lia,?_,?_,Fs⟩
    ·rw[es,Int.pow_succ,Po.bF];have e7:Po.K (l^i)*Po.K l*ao xs=Po.K l*(Po.K (l^i)*ao xs):=by grind
     rw[e7,eq];grind
    ·refine Nat.le_trans (qC _ _) (Nat.max_le.mpr ⟨?_,Nat.le_trans (HY _ _) (by lia)⟩);refine Nat.le_trans (cy fun j hj=>?_) hq;rw[aV,dQ hj];grind
 ·rintro σ H2 ⟨p,rs,qq,z5,z6,z7,z8,rfl,s2,h2,JM,hlen,eq,hq,Eu⟩;walk_at "sf";refine⟨p,_,rfl,h2,by show rs.length<=1000;lia,fun p3 H3 s3 h3=>?_⟩;refine q p3 _ H3 (s2.trans s3) h3 ⟨gv _,D7 (by lia),qq,?_,by rw[FC];exact hq⟩ ?_
  ·rw[FC,hle,A2];exact eq
  ·intro x hx;obtain⟨j,e⟩:=kM hx;rw[<-e,fH,FC];exact Eu.co j
end
end eQ
namespace eQ
open PySem PyProof.Rows L2 SF SF.Po
noncomputable def jK(H:Hp):List Addr->List (List Int)->Prop
 |[],[]=>True
 |a::as,p::ps=>IL H a p/\jK H as ps
 |_,_=>False
theorem jK.len{H:Hp}:∀{as:List Addr}{ps:List (List Int)},jK H as ps->as.length=ps.length
 |[],[],_=>rfl
 |_::_,_::_,h=>by rw[List.length_cons,List.length_cons,h.2.len]
theorem jK.map{H H':Hp}(f:∀a(p:List Int),IL H a p->IL H' a p):∀{as:List Addr}{ps:List (List Int)},jK H as ps->jK H' as ps
 |[],[],_=>trivial
 |_::_,_::_,h=>⟨f _ _ h.1,h.2.map f⟩
theorem jK.snoc{H:Hp}{a:Addr}{p:List Int}(ha:IL H a p):∀{as:List Addr}{ps:List (List Int)},jK H as ps->jK H (as++[a]) (ps++[p])
 |[],[],_=>⟨ha,trivial⟩
 |_::_,_::_,h=>⟨h.1,h.2.snoc ha⟩
theorem jK.get{H:Hp}:∀{as:List Addr}{ps:List (List Int)}(i:Nat){a:Addr},jK H as ps->as[i]?=some a->∃p,ps[i]?=some p/\IL H a p
 |[],[],i,a,_,e=>by simp at e
 |b::as,p::ps,0,a,h,e=>by
  have:b=a:=by simpa using e
  subst this;exact⟨p,rfl,h.1⟩
 |b::as,p::ps,i+1,a,h,e=>jK.get i h.2 (by simpa using e)
theorem lq{as:List Addr}{u v:Addr}:qk ((as++[u,v]).map V.ref) (-1)=some (.ref v):=by
 unfold qk;have e:u6 ((as++[u,v]).map V.ref).length (-1)=some (as.length+1):=by
  unfold u6;rw[List.length_map,List.length_append,if_neg (by decide),if_pos (by simp;lia)];congr 1;simp;lia
 rw[e];show((as++[u,v]).map V.ref)[as.length+1]?=_;rw[List.getElem?_map,List.getElem?_append_right (by lia)];have e2:as.length+1-as.length=1:=by lia
 rw[e2];rfl
theorem wb{as:List Addr}{u v:Addr}:qk ((as++[u,v]).map V.ref) (-2)=some (.ref u):=by
 unfold qk;have e:u6 ((as++[u,v]).map V.ref).length (-2)=some as.length:=by
  unfold u6;rw[List.length_map,List.length_append,if_neg (by decide),if_pos (by simp;lia)];congr 1;simp;lia
 rw[e];show((as++[u,v]).map V.ref)[as.length]?=_;rw[List.getElem?_map,List.getElem?_append_right (by lia)];have e2:as.length-as.length=0:=by lia
 rw[e2];rfl
theorem x9{H:Hp}{c a:Addr}{as:List Addr}{p:List Int}(hc:H c=some (.lst (as.map V.ref)))(hn:as≠[])(ha:IL H a p):a≠c:=fun z=>by
 subst z;have:some (HO.lst (as.map V.ref))=some (HO.lst (p.map V.int)):=hc.symm.trans ha;injection this with e;injection e with e;cases as with
 |nil=>exact hn rfl
 |cons x r=>
  cases p with
  |nil=>simp at e
  |cons y t=>simp at e
noncomputable abbrev BM:Nat:=56332746
structure EA(xs:List Int)(ps:List (List Int)):Prop where
 shape:∃rest,ps=xs::bT xs::rest
 HV:2<=xs.length->∀x:Re,ze x (ps.map ao)
 one:xs.length=1->ps=[xs,[]]
 zC:∀p∈ps,p.length<=13/\Ab BM p
 cnt:ps.length<=60
noncomputable def wc(xs:List Int):Prop:=Tr xs/\xs≠[]/\xs.length<=13/\Ab 100 xs/\DZ (ao xs) (ao xs)
noncomputable def x_:Sp:=fun vs H Q _=>∃(a:Addr)(xs:List Int),vs=[.ref a]/\IL H a xs/\wc xs/\∀(c:Addr)(as:List Addr)(ps:List (List Int))(H':Hp),av H H'->H' c=some (.lst (as.map V.ref))->jK H' as ps->EA xs ps->Q (.ref c) H'
theorem Qh{δ:Nat}(h:1<=δ):δ+2<=3^δ:=by
 induction δ with
 |zero=>lia
 |succ δ ih=>
  by_cases h0:δ=0
  ·subst h0;decide
  ·have:=ih (by lia);rw[Nat.pow_succ];lia
theorem F5{k:Nat}(h:k<=12):3^k*106<=BM:=by
 have:3^k<=3^12:=Nat.pow_le_pow_right (by decide) h;have e:3^12*106=BM:=by decide
 lia
theorem Cj{k δ:Nat}(h:1<=δ):3^k*106-2+(δ+1)*(3^k*106-2+1)<=3^(k+δ)*106-2/\δ*(3^k*106)<=3^(k+δ)*106/\106<=3^k*106:=by
 have h1:=Qh h;have h2:0<3^k:=Nat.pow_pos (by decide);have h3:(δ+2)*(3^k*106)<=3^δ*(3^k*106):=Nat.mul_le_mul_right _ h1;have h4:3^(k+δ)*106=3^δ*(3^k*106):=by rw[Nat.pow_add];grind
 have h5:(δ+2)*(3^k*106)=δ*(3^k*106)+2*(3^k*106):=by rw[Nat.add_mul]
 have h6:(δ+1)*(3^k*106-2+1)<=(δ+1)*(3^k*106)-(δ+1):=by
  have:3^k*106-2+1=3^k*106-1:=by lia
  rw[this,Nat.mul_sub,Nat.mul_one];exact Nat.le_refl _
 have h7:(δ+1)*(3^k*106)=δ*(3^k*106)+3^k*106:=by rw[Nat.add_mul];lia
 refine⟨?_,?_,?_⟩<;>lia
theorem x'{σ:L2.St}{H:Hp}{Q:VK}{own:List Str}{fr:List Nat}{wi:TI}{g:TG}{te:TE}(Pj:It->Hp->Prop)(h:∀R:It->Hp->Prop,(∀J H1,Pj J H1->R J H1)->wi σ H R)(h2:∀J H1,Pj J H1->kJ J own fr σ g te H1 Q):w8 own fr wi g te σ H Q:=h _ h2
section
variable {P:Program} {w:World} {K:PySem.W.Frag} {mg:Str->Option Value} {base:Heap}
theorem ue(T:Nm mg)(hT:P.given.tree=none)(ig:cb P w K mg base 33 "derivative" ["poly"] (C5 bT (fun xs=>Cd xs/\Ab lP xs)))(rf:cb P w K mg base 33 "power" ["number","many"] FZ)(uf:cb P w K mg base 33 "remainder" ["one","other"] F4)(D:aN K mg "chain_of" jF ["free"]):cb P w K mg base 34 "chain_of" ["free"] x_:=by
 refine D.ok b_ (fun vs H Q E h=>?_) (fun f cq A outer s H vs Q E hr h=>?_)
 ·obtain⟨a,xs,rfl,_⟩:=h;rfl
 obtain⟨a,xs,rfl,ha,⟨tx,d8,lx,bx,JN⟩,q⟩:=h;have lp:lP=60000000:=rfl;have V1:BM=56332746:=rfl;have ld:=ub xs;have bd:=x8 bx (by lia);have td:=xh tx;refine⟨_,(ae (ar (i:=1) b_.nd rfl (Or.inl rfl) (bS (aa (pv 0) (aa (aJ ig hr (aa (pv 0) af)) af))))
  (ae (ar (i:=2) b_.nd rfl (Or.inl rfl) ah)
  (ae (ar (i:=3) b_.nd rfl (Or.inl rfl) ah)
  (ae (dj PassesOwn.never (aG fb (aw ay rfl T.cx boot_len (aa (aL aP (pv 1) (dH cC ah) (fun _ _=>rfl)) af)) ah (aI _))
  (ae (ar (i:=4) b_.nd rfl (Or.inl rfl) (aL aP (pv 1) (dH cC ah) (fun _ _=>rfl)))
  (ae (ar (i:=5) b_.nd rfl (Or.inl rfl) (aL aP (pv 1) (dH cC ah) (fun _ _=>rfl)))
  (ae (ar (i:=6) b_.nd rfl (Or.inl rfl) (ak bB (aw ay rfl T.cx boot_len (aa (pv 4) af)) (aw ay rfl T.cx boot_len (aa (pv 5) af))))
  (ae (ar (i:=7) b_.nd rfl (Or.inr rfl) (ak aF (pv 2) (aJ rf hr (aa (pv 3) (aa (pv 6) af)))))
  (ae (fS (js PySem.F.plainAttrs_list PySem.F.slot_list_append PySem.F.type_list_append dD (pv 1) (aa (je rfl rfl (gL (own:=["number"]) (fr:=[7]) (fs:=["shared"]) (by with_unfolding_all rfl) rfl (by decide +kernel) (by decide +kernel) (by exact⟨rfl,trivial⟩) (by with_unfolding_all rfl) (by exact⟨⟨rfl,rfl,rfl,Or.inl rfl⟩,trivial⟩)) (fu (aJ uf hr (aa (pv 4) (aa (pv 5) af)))) (fun _ _ _ _ _=>(aT (i:=0) (show List.Nodup (["number","shared"]:List Str) by decide +kernel) rfl (Or.inl rfl) (Or.inr rfl))) (fun _ _ _ _ _=>(ak (fK ⟨hT,⟨_,_,rfl,rfl,rfl,rfl,rfl⟩,hr.py⟩) (dH cC (pv 0)) (pv 1)))) af)))
  (ae (ar (i:=2) b_.nd rfl (Or.inl rfl) (aw d9 rfl T.kl boot_abs (aa (aL aP (pv 5) (dH cC ah) (fun _ _=>rfl)) af)))
  (aj (ar (i:=3) b_.nd rfl (Or.inl rfl) (ak (fK ⟨hT,⟨_,_,rfl,rfl,rfl,rfl,rfl⟩,hr.py⟩) (aJ rf hr (aa (pv 2) (aa (pv 6) af))) (aJ rf hr (aa (pv 3) (aa (ak bB (pv 6) ah) af)))))))))))))
  (aj (aC (pv 1))))))),?_⟩;walk_at "sf";refine⟨a,xs,rfl,ha,⟨by show xs.length<=1000;lia,bx.mono (by lia)⟩,fun p1 H1 s1 h1=>?_⟩;walk_at "sf";intro pc Qi;have Qj:H pc=none:=s1.free Qi;have s2:=s1.trans (av.new Qi (.lst [.ref a,.ref p1]));have xJ:upd H1 pc (.lst [.ref a,.ref p1]) pc=some (.lst (([]++[a,p1]).map V.ref)):=ai;have i2:jK (upd H1 pc (.lst [.ref a,.ref p1])) ([]++[a,p1]) ([]++[xs,bT xs]):=⟨s2 _ _ ha,(av.new Qi _) _ _ h1,trivial⟩;generalize upd H1 pc (.lst [.ref a,.ref p1])=H2 at s2 xJ i2 ⊢;walk_at "sf";have Sz:Ab 104 (bT xs):=fun x hx=>by
  obtain⟨i,hi,e⟩:=List.getElem_of_mem hx;have Ju:i<xs.length-1:=by rw[ld] at hi;exact hi
  rw[<-e,<-bI,jV];show Bd 104 (((i+1:Nat):Int)*co xs (i+1));have h1:Bd 4 (((i+1:Nat):Int)):=Bd.fF (by lia) (by lia);exact(h1.mul (bx.co (i+1))).mono (by lia)
 by_cases JK:2<=xs.length
 ·
  have vB:bT xs≠[]:=List.length_pos_iff.mp (by lia);obtain⟨n',wN⟩:∃n',xs.length=n'+2:=⟨xs.length-2,by lia⟩;have lF:len (ao xs)=n'+2:=by rw[aU tx];exact wN
  have lG:len (ao (bT xs))=n'+1:=by rw[aU td,ld];lia
  have gc:=cT (xs:=xs) (ys:=bT xs) (.inl JN.pr.ne);have g1:=vA tx JN;have o1:ao [1]=1:=Po.ext fun i=>by
   rw[aX,m_];cases i with
   |zero=>rfl
   |succ i=>rfl
  rw[g1,o1] at gc;obtain⟨bu,bv,ba,pC,LC⟩:=gc.bz;have BG:bu*ao xs+bv*ao (bT xs)=Po.K ba:=by rw[LC];grind
  refine cW (fun m σ H'=>∃(hs:List (List Int))(us vs:List Int)(has:List Addr)(pu pv:Addr)(g0 h0:Int)(k:Nat)(z4 z5 z6 z7:Option V),m=vs.length/\
   σ=[some (.ref a),some (.ref pc),some (.int g0),some (.int h0),z4,z5,z6,z7]/\av H H'/\H' pc=some (.lst ((has++[pu,pv]).map V.ref))/\jK H' (has++[pu,pv]) (hs++[us,vs])/\(∃rest,hs++[us,vs]=xs::bT xs::rest)/\
   Tr us/\Tr vs/\us≠[]/\vs≠[]/\IL H' pu us/\IL H' pv vs/\us.length<=xs.length/\us.length+k=xs.length/\uQ (ao xs) (ao (bT xs)) (ao us) (ao vs) (n'+1) n' (us.length-1) (vs.length-1) g0 h0/\
   (∀x:Re,lZ x ((hs++[us,vs]).map ao))/\(∀x:Re,¬(at' x (ao us)=0/\at' x (ao vs)=0))/\(∀d,Po.D d (ao us)->Po.D d (ao vs)->Po.D d (ao xs)/\Po.D d (ao (bT xs)))/\
   Ab (3^k*106-2) us/\Ab (3^k*106-2) vs/\Bd (3^k*106) g0/\Bd (3^k*106) h0/\(∀p∈hs++[us,vs],p.length<=13/\Ab BM p)/\hs.length+vs.length<=xs.length)
   ⟨_,[],xs,bT xs,[],a,p1,1,1,0,_,_,_,_,rfl,rfl,s2,xJ,i2,⟨[],rfl⟩,tx,td,d8,vB,i2.1,i2.2.1,Nat.le_refl _,rfl,?_,fun x=>trivial,fun x=>pN pC BG,fun d h1 h2=>⟨h1,h2⟩,bx.mono (by decide),Sz.mono (by decide),?_,?_,?_,by show 0+(bT xs).length<=xs.length;lia⟩ ?_
  ·have e1:xs.length-1=n'+1:=by lia
   have e2:(bT xs).length-1=n':=by lia
   rw[e1,e2];exact uQ.start lF lG
  ·exact Bd.mono (m:=1) (by show(1:Int).natAbs<2^1;decide) (by decide)
  ·exact Bd.mono (m:=1) (by show(1:Int).natAbs<2^1;decide) (by decide)
  ·intro p hp;rcases List.mem_cons.mp hp with z|z
   ·rw[z];exact⟨lx,bx.mono (by lia)⟩
   ·rw[List.mem_singleton.mp z];exact⟨by lia,Sz.mono (by lia)⟩
  rintro m σ H' ⟨hs,us,vs,has,pu,pv,g0,h0,k,z4,z5,z6,z7,rfl,rfl,s3,zY,i3,M5,tu,tv,V2,Iv,hu,hv,lu,lk,F6,Mi,nz,ic,C7,Qk,bg,bh,zC,hlen⟩;have eu:(us.map V.int).length=us.length:=List.length_map _;have ev:(vs.map V.int).length=vs.length:=List.length_map _;have RY:=List.length_pos_iff.mpr V2;have AQ:=List.length_pos_iff.mpr Iv;have Fz:=F6.nm;walk_at "sf";refine bP (aM.of zY) lq ?_;refine⟨pv,_,rfl,.inl (aM.of hv),?_⟩;walk_at "sf";rw[ev];refine eM (fun cc=>?_) (fun cc=>?_)
  ·have Yc:2<=vs.length:=by
    have:(1:Int)<(vs.length:Int):=by simpa using cc
    lia
   refine⟨_,fun bE H' h=>h,?_⟩;walk_at "sf";refine bP (aM.of zY) wb ?_;walk_at "sf";refine bP (aM.of zY) lq ?_;walk_at "sf";refine⟨pu,_,rfl,.inl (aM.of hu),?_⟩;walk_at "sf";refine⟨pv,_,rfl,.inl (aM.of hv),?_⟩;walk_at "sf";rw[eu,ev];generalize FC:us.length-vs.length=δ;have Ql:1<=δ:=by lia
   have ek:(us.length:Int)-(vs.length:Int)=(δ:Int):=by lia
   rw[ek];obtain⟨V3,Yd,Ye⟩:=Cj (k:=k) Ql;have Yf:=F5 (k:=k+δ) (by lia);have Yg:=F5 (k:=k) (by lia);have Ny:δ*(3^k*106)=3^k*106*δ:=Nat.mul_comm _ _;refine⟨h0,δ,3^k*106,rfl,⟨bh,by lia,by lia,by lia⟩,?_⟩;have Qm:=Bd.pow bh δ;refine cB (bC bg Qm (by lia)) ?_;have dd:us.length-1-(vs.length-1)=δ:=by lia
   have HW:0<g0*h0^δ:=Int.mul_pos F6.Nh (bY F6.Jy _);walk_at "sf";refine⟨_,rfl,.inl ⟨rfl,_,aM.of zY⟩,?_⟩;walk_at "sf";refine x' (fun J H4=>∃(p:Addr)(rs:List Int),J=rJ K p/\av H' H4/\IL H4 p rs/\RX us vs rs/\Ab (3^k*106-2+(us.length-vs.length+1)*(3^k*106-2+1)) rs) (fun R hR=>?_) ?_
   ·walk_at "sf";refine⟨pu,pv,us,vs,_,_,rfl,hu,hv,⟨Iv,tv,by lia,by lia,C7,Qk,by rw[FC];lia⟩,fun p rs H4 s4 h4 wd hb=>?_⟩;exact⟨p,rfl,⟨_,aM.of h4⟩,hR _ _ ⟨p,rs,rfl,s4,h4,wd,hb⟩⟩
   rintro J H4 ⟨pr,rs,rfl,s4,h4,wd,SA⟩;rw[FC] at SA;obtain⟨qq,eq,hq⟩:=wd.eq;rw[FC] at eq hq;have hl:=F6.lead;have yb:(ao vs).c (vs.length-1)=co vs (vs.length-1):=rfl;rw[yb] at hl;have eq1:Po.K (ab ((ao vs).c (vs.length-1))^(us.length-1-(vs.length-1)+1))*ao us=qq*ao vs+ao rs:=by rw[dd];exact eq
   obtain⟨hh,Nz⟩:=F6.rem (by lia) eq1 (by rw[dd];exact hq) (Nat.le_trans (by rw[aU wd.tr];exact Nat.le_refl _) (by have:=wd.lt;lia));rw[dd] at Nz;have Su:=wd.lt;have Mj:=neg_fdiv HW Nz;refine fJ (xs:=rs) (aM.of h4) (fun i=>(-(co rs i)).fdiv (g0*h0^δ)) (by lia) ?_ ?_
   ·intro i r H5 hi hr zB Z hZ;obtain⟨x0,rfl⟩:=sL hr;walk_at "sf";refine cB (Int.ne_of_gt HW) ?_;exact hZ _ _ (av.refl _) ⟨[_],rfl,rfl⟩
   intro D2 H5 Nx zB h5;have G7:=s4.trans zB;have s5:=s3.trans G7;have SD:=G7 _ _ zY;have i5:jK H5 (has++[pu,pv]) (hs++[us,vs]):=i3.map fun a p z=>G7 _ _ z;have Qe:H D2=none:=(s3.trans s4).free Nx;have Cf:rs≠[]:=fun z=>by
    subst z;have e1:Po.K (ab (co vs (vs.length-1))^(δ+1))*ao us=ao vs*qq:=by rw[eq,cH];grind
    have d1:Po.D (ao vs) (ao us):=⟨_,Int.ne_of_gt (bY hl _),qq,e1⟩;obtain⟨d2,d3⟩:=ic _ d1 (Po.D.refl _);have d4:=gc.Na d2 d3;have l1:len (1:Po)=1:=by rw[<-Po.bN];exact len_K (by decide)
    have:=d4.len (a_ (by lia));rw[aU tv] at this;lia
   have Sm:=List.length_pos_iff.mpr Cf;have tw:Tr (dX (fun i=>(-(co rs i)).fdiv (g0*h0^δ)) rs.length):=by
    refine Tr.gQ fun _=>?_;rw[aA];have e1:(ao (dX (fun i=>(-(co rs i)).fdiv (g0*h0^δ)) rs.length)).c (rs.length-1)=(-hh).c (rs.length-1):=by rw[Mj]
    rw[aX,Fn] at e1;rw[e1];have e2:(ao rs).c (rs.length-1)=(Po.K (g0*h0^δ)*hh).c (rs.length-1):=by rw[Nz]
    rw[aX,aV] at e2;have e3:=wd.tr.last Cf;rw[e2] at e3;intro z;have:hh.c (rs.length-1)=0:=by lia
    rw[this] at e3;exact e3 (by simp)
   have bw:Ab (3^(k+δ)*106-2) (dX (fun i=>(-(co rs i)).fdiv (g0*h0^δ)) rs.length):=fun x hx=>by
    obtain⟨i,hi,rfl⟩:=List.mem_map.mp hx;have h6:Bd (3^(k+δ)*106-2) (co rs i):=(SA.co i).mono V3;refine h6.of_le ?_;have:=xF (-(co rs i)) (g0*h0^δ);rw[Int.natAbs_neg] at this;exact this
   have lw:(dX (fun i=>(-(co rs i)).fdiv (g0*h0^δ)) rs.length).length=rs.length:=aA _ _;have eqw:Po.K (ab ((ao vs).c (vs.length-1))^(us.length-1-(vs.length-1)+1))*ao us=qq*ao vs+Po.K (-(g0*h0^(us.length-1-(vs.length-1))))*ao (dX (fun i=>(-(co rs i)).fdiv (g0*h0^δ)) rs.length):=by
    rw[eq1,dd,Mj,Nz,Po.A1];grind
   generalize dX (fun i=>(-(co rs i)).fdiv (g0*h0^δ)) rs.length=ws at h5 tw bw lw eqw;have V4:ws≠[]:=List.length_pos_iff.mp (by lia);walk_at "sf";refine⟨pc,_,_,rfl,rfl,SD,?_,?_⟩
   ·rw[List.length_map];have e1:=i5.len;have e2:(hs++[us,vs]).length<=200:=by rw[List.length_append];simp;lia
    exact Nat.lt_of_lt_of_le (by lia:(has++[pu,pv]).length<1000) (cD (Nat.le_refl _))
   have Qn:has++[pu,pv]≠[]:=by simp
   have keep:∀(a:Addr)(p:List Int),IL H5 a p->IL (upd H5 pc (.lst ((has++[pu,pv]).map V.ref++[V.ref D2]))) a p:=fun a p z=>by
    show upd H5 pc _ a=_;rw[aq (x9 SD Qn z)];exact z
   have s6:av H (upd H5 pc (.lst ((has++[pu,pv]).map V.ref++[V.ref D2]))):=fun c o z=>by
    rw[aq (aH z Qj)];exact s5 _ _ z
   have SE:upd H5 pc (.lst ((has++[pu,pv]).map V.ref++[V.ref D2])) pc=some (.lst (((has++[pu])++[pv,D2]).map V.ref)):=by
    rw[ai];simp
   have i6:jK (upd H5 pc (.lst ((has++[pu,pv]).map V.ref++[V.ref D2]))) ((has++[pu])++[pv,D2]) ((hs++[us])++[vs,ws]):=by
    have z:=(i5.map keep).snoc (keep _ _ h5);simpa using z
   have Qo:=keep _ _ (G7 _ _ hv);have Ml:=keep _ _ h5;generalize upd H5 pc (.lst ((has++[pu,pv]).map V.ref++[V.ref D2]))=H6 at s6 SE i6 Qo Ml ⊢;walk_at "sf";refine bP (aM.of Qo) (fW Iv) ?_;walk_at "sf";refine⟨_,rfl,?_⟩;have Iw:(if co vs (vs.length-1)<0 then -co vs (vs.length-1) else co vs (vs.length-1))=ab (co vs (vs.length-1)):=by unfold ab;split<;>lia
   rw[Iw];have bl:Bd (3^k*106-2) (ab (co vs (vs.length-1))):=by
    have:=Qk.co (vs.length-1);unfold Bd at*;unfold ab;lia
   have Nb:=F6.scale;rw[dd,yb] at Nb;walk_at "sf";have V5:(3^k*106-2)*δ<=3^k*106*δ:=Nat.mul_le_mul_right _ (by lia);refine⟨ab (co vs (vs.length-1)),δ,3^k*106-2,rfl,⟨bl,by lia,by lia,by lia⟩,?_⟩;walk_at "sf";have V6:(δ:Int)-1=((δ-1:Nat):Int):=by lia
   have V7:3^k*106*(δ-1)<=3^k*106*δ:=Nat.mul_le_mul_left _ (by lia);refine⟨h0,δ-1,3^k*106,by rw[V6];rfl,⟨bh,by lia,by lia,by lia⟩,?_⟩;have dA:h0^(δ-1)≠0:=Int.ne_of_gt (bY F6.Jy _);refine cB dA ?_;have Qp:=Int.fdiv_mul_cancel Nb;have Qq:=Int.ne_of_gt (bY hl δ);generalize (ab (co vs (vs.length-1))^δ).fdiv (h0^(δ-1))=h1 at Qp ⊢;have V8:Bd (3^(k+δ)*106) h1:=by
    have:=(Bd.pow bl δ).of_dvd ⟨h0^(δ-1),Qp.symm⟩ Qq;refine this.mono ?_;have:(3^k*106-2)*δ+2*δ=3^k*106*δ:=by
     rw[Nat.sub_mul];have:2*δ<=3^k*106*δ:=Nat.mul_le_mul_right _ (by lia);lia
    lia
   have Qr:uQ (ao xs) (ao (bT xs)) (ao vs) (ao ws) (n'+1) n' (vs.length-1) (ws.length-1) (ab (co vs (vs.length-1))) h1:=by
    refine F6.next eqw (by rw[dd];exact hq) (by rw[aU tw];lia) (by lia) ?_
    rw[dd,yb];exact Qp
   have SG:∀x:Re,(at' x (ao vs)=0->bA (at' x (ao us))*bA (at' x (ao ws))<0)/\¬(at' x (ao vs)=0/\at' x (ao ws)=0):=fun x=>by
    rw[dd] at eqw;exact zg (bY hl _) HW eqw (nz x)
   walk_at "sf";refine⟨ws.length,by lia,hs++[us],vs,ws,has++[pu],pv,D2,_,h1,k+δ,_,_,_,_,rfl,rfl,s6,SE,i6,?_,tv,tw,Iv,V4,Qo,Ml,by lia,by lia,Qr,fun x=>?_,fun x=>(SG x).2,fun d d1 d2=>?_,?_,bw,?_,V8,?_,?_⟩
   ·obtain⟨rest,er⟩:=M5;refine⟨rest++[ws],?_⟩;have e1:hs++[us]++[vs,ws]=(hs++[us,vs])++[ws]:=by simp
    rw[e1,er];rfl
   ·have t1:=Mi x;have e1:(hs++[us,vs]).map ao=hs.map ao++[ao us,ao vs]:=by simp
    have e2:(hs++[us]++[vs,ws]).map ao=hs.map ao++[ao us,ao vs,ao ws]:=by simp
    rw[e1] at t1;rw[e2];exact lZ.snoc (SG x).1 _ t1
   ·refine ic d (Po.D.xq (Int.ne_of_gt (bY hl (δ+1))) ?_) d1;have Mm:=eqw;rw[dd,yb] at Mm;rw[Mm];exact(d1.mulL _).add (d2.mulL _)
   ·exact Qk.mono (by lia)
   ·exact bl.mono (by lia)
   ·intro p hp;have e1:hs++[us]++[vs,ws]=(hs++[us,vs])++[ws]:=by simp
    rw[e1] at hp;rcases List.mem_append.mp hp with z|z
    ·exact zC p z
    ·rw[List.mem_singleton.mp z];exact⟨by lia,bw.mono (by lia)⟩
   ·rw[List.length_append];simp;lia
  ·have Yh:vs.length=1:=by
    have:¬(1:Int)<(vs.length:Int):=by simpa using cc
    lia
   walk_at "sf";refine q pc _ _ H' s3 zY i3 ⟨M5,fun _ x=>?_,fun h1=>by lia,zC,by rw[List.length_append];show hs.length+2<=60;lia⟩;have e1:(hs++[us,vs]).map ao=(hs.map ao++[ao us])++[ao vs]:=by simp
   have t1:=Mi x;rw[e1] at t1 ⊢;refine lZ.HV ?_ _ t1;have ek:=bW (f:=ao vs) (by rw[aU tv];lia);have dA:(ao vs).c 0≠0:=fun z=>gU tv Iv (by rw[ek,z,Po.cE]);rw[ek,zc];intro z;have z2:Re.q (((ao vs).c 0:Int):Rat)=Re.q 0:=z;have z3:(((ao vs).c 0:Int):Rat)=((0:Int):Rat):=Re.pK z2;exact dA (Rat.intCast_inj.mp z3)
 ·have oH:xs.length=1:=by have:=List.length_pos_iff.mpr d8;lia
  have vB:bT xs=[]:=List.length_eq_zero_iff.mp (by lia);rw[vB] at i2;refine cW (fun m σ H'=>σ=[some (.ref a),some (.ref pc),some (.int 1),some (.int 1),none,none,none,none]/\H'=H2) ⟨0,rfl,rfl⟩ ?_;rintro m σ H' ⟨rfl,rfl⟩;walk_at "sf";refine bP (aM.of xJ) (lq (as:=[])) ?_;refine⟨p1,_,rfl,.inl (aM.of i2.2.1),?_⟩;walk_at "sf";rw[if_neg (by decide)];walk_at "sf";refine q pc _ _ H' s2 xJ i2 ⟨⟨[],by rw[vB];rfl⟩,fun h=>absurd h JK,fun _=>rfl,fun p hp=>?_,show 2<=60 by decide⟩;rcases List.mem_cons.mp hp with z|z
  ·rw[z];exact⟨lx,bx.mono (by lia)⟩
  ·rw[List.mem_singleton.mp z];exact⟨by simp,fun x hx=>nomatch hx⟩
end
end eQ
namespace eQ
open PySem PyProof.Rows L2 SF SF.Po
noncomputable def dZ(t u:Int)(ps:List (List Int)):List Int:=ps.map fun p=>sg (hv t u p)
theorem ug(b:Int):∀(l:List Int)(s:Int),cg b (l++[s])=cg b l+(if s*(l.foldl (fun b s=>if s≠0 then s else b) b)<0 then 1 else 0)
 |[],s=>by
  show(if s*b<0 then 1 else 0)+0=0+_;simp
 |x::l,s=>by
  show(if x*b<0 then 1 else 0)+cg (if x≠0 then x else b) (l++[s])=(if x*b<0 then 1 else 0)+cg (if x≠0 then x else b) l+_;rw[ug _ l s,List.foldl_cons];lia
noncomputable def i8(l:List Int):Int:=l.foldl (fun b s=>if s≠0 then s else b) 0
theorem we(l:List Int)(s:Int):i8 (l++[s])=if s≠0 then s else i8 l:=by
 unfold i8;rw[List.foldl_append];rfl
noncomputable def yc:Sp:=fun vs H Q _=>∃(a:Addr)(xs:List Int)(b:Nat),vs=[.ref a]/\IL H a xs/\(Ab b xs/\b<=lP/\xs.length<=100)/\Q (.int ((cg 0 (xs.map sg):Nat):Int)) H
noncomputable def F7:Sp:=fun vs H Q _=>∃(c g:Addr)(as:List Addr)(ps:List (List Int))(t u:Int)(p:Nat),vs=[.ref c,.ref g]/\H c=some (.lst (as.map V.ref))/\jK H as ps/\H g=some (.tup [.int t,.int u])/\
 ((∀q∈ps,q.length<=13/\Ab BM q)/\ps.length<=60/\Bd p t/\Bd p u/\p<=30000)/\∀H',av H H'->Q (.int ((cg 0 (dZ t u ps):Nat):Int)) H'
theorem n_{K:PySem.W.Frag}{own:List Str}{fr:List Nat}{g:TG}{te:TE}{σ:L2.St}{H1:Hp}{Q:VK}{a:Addr}{xs:List V}(hS:aM K H1 a xs)(Pv:List V->Prop)(hz:xs.length<=sizeLine)(p0:Pv [])(hs:∀(i:Nat)(x:V)(r:L2.St)(ys:List V)(H2:Hp),xs[i]?=some x->r.length=own.length->ys.length=i->Pv ys->av H1 H2->∀Z:V->L2.St->Hp->Prop,(∀y da H5,av H2 H5->Pv (ys++[y])->(∃r':L2.St,r'.length=own.length/\da=r'++rL fr σ)->Z y da H5)->g x (r++rL fr σ) H2 fun da H4=>te da H4 fun y H5=>Z y da H5)(hq:∀D H2 ys,H1 D=none->av H1 H2->H2 D=some (.lst ys)->ys.length=xs.length->Pv ys->Q (.ref D) H2):kJ (rJ K a) own fr σ g te H1 Q:=pb hS Pv hz p0 hs hq
theorem yd(x:Int):Bd 2 (sg x):=by unfold sg Bd;split<;>(try split)<;>decide
theorem EB:∀(l:List Int),(∀x∈l,Bd 2 x)->Bd 2 (i8 l):=by
 intro l hl;unfold i8;have key:∀(l:List Int)(b:Int),Bd 2 b->(∀x∈l,Bd 2 x)->Bd 2 (l.foldl (fun b s=>if s≠0 then s else b) b):=by
  intro l
  induction l with
  |nil=>exact fun b hb _=>hb
  |cons x l ih=>
   intro b hb h;rw[List.foldl_cons];refine ih _ ?_ fun y hy=>h y (List.mem_cons_of_mem _ hy);split
   ·exact h x List.mem_cons_self
   ·exact hb
 exact key l 0 (by show(0:Int).natAbs<2^2;decide) hl
section
variable {P:Program} {w:World} {K:PySem.W.Frag} {mg:Str->Option Value} {base:Heap}
theorem Mn(x:Int):sg (sg x)=sg x:=by
 rcases Int.lt_trichotomy x 0 with h|h|h
 ·have:sg x=-1:=if_pos h;rw[this];rfl
 ·rw[h];rfl
 ·have:sg x=1:=by unfold sg;rw[if_neg (by lia),if_pos h]
  rw[this];rfl
theorem oa(x y:Int):x*y<0↔sg x*y<0:=by
 have hp:=fun a b:Int=>Int.mul_neg_of_pos_of_neg (a:=a) (b:=b);unfold sg;split
 ·rename_i h;constructor
  ·intro z;have:0<y:=by
    rcases Int.lt_trichotomy y 0 with h'|h'|h'
    ·have:=Int.mul_pos_of_neg_of_neg h h';lia
    ·rw[h',Int.mul_zero] at z;lia
    ·exact h'
   lia
  ·intro z;exact Int.mul_neg_of_neg_of_pos h (by lia)
 ·split
  ·rename_i h;constructor
   ·intro z;have:y<0:=by
     rcases Int.lt_trichotomy y 0 with h'|h'|h'
     ·exact h'
     ·rw[h',Int.mul_zero] at z;lia
     ·have:=Int.mul_pos h h';lia
    lia
   ·intro z;exact Int.mul_neg_of_pos_of_neg h (by lia)
  ·have:x=0:=by lia
   subst this;simp
theorem ye{x:Int}:sg x≠0↔x≠0:=by
 unfold sg;split<;>(try split)<;>constructor<;>intro h<;>lia
theorem oN(n9:cb P w K mg base 1 "sign" ["number"] qZ)(D:aN K mg "changes_in" g8 ["row"]):cb P w K mg base 2 "changes_in" ["row"] yc:=by
 refine D.ok cY (fun vs H Q E h=>?_) (fun f cq A outer s H vs Q E hr h=>?_)
 ·obtain⟨a,xs,b,rfl,_⟩:=h;rfl
 obtain⟨a,xs,b,rfl,ha,⟨bx,hb,hl⟩,q⟩:=h;have lp:lP=60000000:=rfl;refine⟨_,(ae (ar (i:=1) cY.nd rfl (Or.inl rfl) ah)
  (ae (ar (i:=2) cY.nd rfl (Or.inl rfl) ah)
  (ae (dm PassesOwn.never rfl (fu (pv 0)) (aT (i:=3) cY.nd rfl (Or.inl rfl))
  (ae (bM (aG jR (ak aF (pv 3) (pv 2)) ah (aI _))
  (aj (ar (i:=1) cY.nd rfl (Or.inl rfl) (ak aZ (pv 1) ah)))
  aS)
  (aj (bM (aG o4 (pv 3) ah (aI _))
  (aj (ar (i:=2) cY.nd rfl (Or.inl rfl) (aJ n9 hr (aa (pv 3) af))))
  aS))))
  (aj (aC (pv 1)))))),?_⟩;walk_at "sf";refine⟨a,rfl,⟨_,aM.of ha⟩,?_⟩;refine rY (xs:=xs.map V.int) (fun i σ H'=>(∃r1,σ=[some (.ref a),some (.int ((cg 0 ((xs.take i).map sg):Nat):Int)),some (.int (i8 ((xs.take i).map sg))),r1])/\H'=H) ⟨⟨_,rfl⟩,rfl⟩ (fun i σ H' _ z=>by rw[z.2];exact aM.of ha) ?_ ?_
 ·rintro i x σ H' hx ⟨⟨r1,rfl⟩,rfl⟩;obtain⟨hi,rfl⟩:=qA hx;have V9:xs[i]?=some (co xs i):=by
   rw[List.getElem?_eq_getElem hi,bI hi]
  have et:(xs.take (i+1)).map sg=(xs.take i).map sg++[sg (co xs i)]:=by
   rw[List.take_add_one,V9,List.map_append];rfl
  have bl:Bd 2 (i8 ((xs.take i).map sg)):=EB _ fun y hy=>by
   obtain⟨z,_,rfl⟩:=List.mem_map.mp hy;exact yd _
  have ec:cg 0 ((xs.take (i+1)).map sg)=cg 0 ((xs.take i).map sg)+(if sg (co xs i)*i8 ((xs.take i).map sg)<0 then 1 else 0):=by rw[et];exact ug 0 _ _
  have el:i8 ((xs.take (i+1)).map sg)=if sg (co xs i)≠0 then sg (co xs i) else i8 ((xs.take i).map sg):=by rw[et];exact we _ _
  walk_at "sf";refine cB (bC (bx.co i) bl (by lia)) ?_;walk_at "sf";generalize i8 ((xs.take i).map sg)=lb at bl ec el ⊢;generalize cg 0 ((xs.take i).map sg)=cn at ec ⊢;refine eM (fun c1=>?_) (fun c1=>?_)
  case' refine_1=>
   have h1:co xs i*lb<0:=by simpa using c1
   rw[if_pos ((oa _ _).mp h1)] at ec
  case' refine_2=>
   have h1:¬co xs i*lb<0:=by simpa using c1
   rw[if_neg (fun z=>h1 ((oa _ _).mpr z))] at ec
  all_goals
   walk_at "sf";refine eM (fun c2=>?_) (fun c2=>?_)
   ·have h2:co xs i≠0:=by simpa using c2
    rw[if_pos (ye.mpr h2)] at el;walk_at "sf";refine⟨_,rfl,?_⟩;walk_at "sf";refine⟨⟨some (.int (co xs i)),?_⟩,rfl⟩;rw[ec,el];rfl
   ·have h2:¬co xs i≠0:=by simpa using c2
    rw[if_neg (fun z=>h2 (ye.mp z))] at el;walk_at "sf";refine⟨⟨some (.int (co xs i)),?_⟩,rfl⟩;rw[ec,el];rfl
 ·rintro σ H' ⟨⟨r1,rfl⟩,rfl⟩;have e:xs.take (xs.map V.int).length=xs:=by rw[List.length_map,List.take_length]
  rw[e];walk_at "sf";exact q
theorem oO(rj:cb P w K mg base 2 "changes_in" ["row"] yc)(zD:cb P w K mg base 2 "sign_at" ["poly","given"] Mg)(D:aN K mg "changes_at" g9 ["chain","given"]):cb P w K mg base 3 "changes_at" ["chain","given"] F7:=by
 refine D.ok oJ (fun vs H Q E h=>?_) (fun f cq A outer s H vs Q E hr h=>?_)
 ·obtain⟨c,g,as,ps,t,u,p,rfl,_⟩:=h;rfl
 obtain⟨c,g,as,ps,t,u,p,rfl,hc,hi,hg,⟨zC,hn,bt,bu,hp⟩,q⟩:=h;have lp:lP=60000000:=rfl;have V1:BM=56332746:=rfl;have hlen:=hi.len;refine⟨_,(aj (aC (aJ rj hr (aa (je rfl rfl (gL (own:=["poly"]) (fr:=[1]) (fs:=["given"]) (by with_unfolding_all rfl) rfl (by decide +kernel) (by decide +kernel) (by exact⟨rfl,trivial⟩) (by with_unfolding_all rfl) (by exact⟨⟨rfl,rfl,rfl,Or.inl rfl⟩,trivial⟩)) (fu (pv 0)) (fun _ _ _ _ _=>(aT (i:=0) (show List.Nodup (["poly","given"]:List Str) by decide +kernel) rfl (Or.inl rfl) (Or.inr rfl))) (fun _ _ _ _ _=>(aJ zD hr (aa (pv 0) (aa (pv 1) af))))) af)))),?_⟩;walk_at "sf";refine gR (H1:=H) (rJ K c) (fun R hR=>?_) (n_ (xs:=as.map V.ref) (aM.of hc) (fun ys=>ys=(dZ t u (ps.take ys.length)).map V.int) (cD (by rw[List.length_map];lia)) rfl ?_ ?_)
 ·walk_at "sf";exact⟨c,rfl,⟨_,aM.of hc⟩,hR⟩
 ·intro i x r ys H2 hx z0 uP C8 d_ Z hZ;rw[List.getElem?_map] at hx;cases ea:as[i]? with
  |none=>rw[ea] at hx;cases hx
  |some a=>
   rw[ea] at hx;have Qs:V.ref a=x:=by simpa using hx
   subst Qs;obtain⟨xs,SH,Pn⟩:=(hi.map fun a p z=>d_ _ _ z).get i ea;obtain⟨f1,f2⟩:=zC xs (List.mem_of_getElem? SH);obtain⟨x0,rfl⟩:=sL z0;walk_at "sf";refine⟨a,g,xs,t,u,_,p,rfl,Pn,d_ _ _ hg,⟨by lia,f2,bt,bu,by lia⟩,?_⟩;walk_at "sf";refine hZ _ _ _ (av.refl _) ?_ ⟨[_],rfl,rfl⟩;have el:(ys++[V.int (sg (hv t u xs))]).length=ys.length+1:=by simp
   unfold dZ at C8 ⊢;rw[el,List.take_add_one,uP,SH,List.map_append,List.map_append,<-uP,<-C8];rfl
 intro D2 H2 ys Nx s2 Qt NA C8;have hE:ys=(dZ t u ps).map V.int:=by
  rw[C8,NA,List.length_map,hlen,List.take_length]
 walk_at "sf";have Yi:(dZ t u ps).length=ps.length:=List.length_map _;refine⟨D2,dZ t u ps,2,rfl,by show H2 D2=_;rw[Qt,hE],⟨?_,by lia,by lia⟩,?_⟩
 ·intro y hy;obtain⟨z,_,rfl⟩:=List.mem_map.mp hy;exact yd _
 have e2:(dZ t u ps).map sg=dZ t u ps:=by
  unfold dZ;rw[List.map_map];exact List.map_congr_left fun z _=>Mn _
 rw[e2];walk_at "sf";exact q H2 s2
end
end eQ
namespace eQ
open PySem PyProof.Rows L2 SF SF.Po
noncomputable def uh:Sp:=fun vs H Q _=>∃a b:Int,vs=[.int a,.int b]/\Bd 8000 a/\Bd 8000 b/\Q (.int ((Int.gcd a b:Nat):Int)) H
noncomputable def wg:Sp:=fun vs H Q _=>∃(a b:Int)(n:Nat),vs=[.int a,.int b]/\Bd n a/\Bd n b/\n<=8000/\0<b/\∀(p:Addr)(t u:Int),H p=none->Bd n t->Bd n u->0<u->Int.gcd t u=1->t*b=a*u->Q (.ref p) (upd H p (.tup [.int t,.int u]))
noncomputable def wj:Sp:=fun vs H Q _=>∃(g h:Addr)(t u t' u':Int),vs=[.ref g,.ref h]/\H g=some (.tup [.int t,.int u])/\H h=some (.tup [.int t',.int u'])/\(Bd 100000 t/\Bd 100000 u/\Bd 100000 t'/\Bd 100000 u')/\Q (.int (sg (t*u'-t'*u))) H
noncomputable def F8:Sp:=fun vs H Q _=>∃(a g:Addr)(xs:List Int)(t u:Int)(p:Nat),vs=[.ref a,.ref g]/\IL H a xs/\H g=some (.tup [.int t,.int u])/\(xs.length<=100/\Ab 100 xs/\Bd p t/\Bd p u/\p<=100000)/\Q (.int (sg (hv t u xs))) H
noncomputable def pW(K:PySem.W.Frag):Sp:=fun vs H Q _=>∃(a:Addr)(ns:List Int)(k:Int)(m:Nat),vs=[.ref a,.int k,.int (m:Int)]/\aM K H a (ns.map V.int)/\ns.length<=63/\0<=k/\1<=m/\m<=4/\
 ∀(c:Addr)(as:List Addr)(gs:List (List Int))(H':Hp),av H H'->H' c=some (.lst (as.map V.ref))->jK H' as gs->(∀g∈gs,kQ g/\Ab 8 g)->gs.Nodup->gs≠[]->gs.length<=4->Q (.ref c) H'
theorem mF{a g:Int}{n:Nat}(hd:g∣a)(hg:g≠0)(b:Bd n a):Bd n (a.fdiv g):=by
 have e:=fG hd;refine b.of_le ?_;have h1:a.natAbs=(a.fdiv g).natAbs*g.natAbs:=by rw[<-Int.natAbs_mul,e]
 rw[h1];exact Nat.le_mul_of_pos_right _ (Int.natAbs_pos.mpr hg)
theorem F9{L:List Int}{i:Int}(h0:0<=i)(h1:i<(L.length:Int)):∃n∈L,qk (L.map V.int) i=some (.int n):=by
 obtain⟨k,rfl⟩:=Int.eq_ofNat_of_zero_le h0;have hk:k<L.length:=by lia
 exact⟨co L k,by rw[bI hk];exact List.getElem_mem hk,iq hk⟩
theorem EC(z:Int):sg z=(if decide (0<z)=true then(1:Int) else 0)-(if decide (z<0)=true then 1 else 0):=by
 unfold sg;simp only[decide_eq_true_eq];split<;>split<;>first|lia|(split<;>lia)
theorem yf{t u x:Int}{k p:Nat}(bt:Bd p t)(bu:Bd p u)(bx:Bd 100 x):∀j:Nat,Bd (p*j+100) (ir t u x k j)
 |0=>by rw[pk,Nat.mul_zero,Nat.zero_add];exact bx
 |j+1=>by
  rw[pq];have ih:=yf (k:=k) bt bu bx j;have:Bd p (if k<=j then u else t):=by split<;>assumption
  exact(ih.mul this).mono (by rw[Nat.mul_succ];lia)
theorem F_{x y:V}{b:Bool}:qk [x,y] (if b=true then 1 else 0)=some (if b=true then y else x):=by
 cases b<;>rfl
theorem wk{gs:List (List Int)}{g:List Int}(h:gs.Nodup)(hg:g∉gs):(gs++[g]).Nodup:=by
 rw[List.nodup_append];refine⟨h,by simp,fun x hx y hy z=>?_⟩;rw[List.mem_singleton.mp hy] at z;exact hg (by rw[<-z];exact hx)
section
variable {P:Program} {w:World} {K:PySem.W.Frag} {mg:Str->Option Value} {base:Heap}
theorem oP(T:Nm mg)(D:aN K mg "_law_common" h_ ["_law_one","_law_other"]):cb P w K mg base 1 "_law_common" ["_law_one","_law_other"] uh:=by
 refine D.ok cZ (fun vs H Q E h=>?_) (fun f cq A outer s H vs Q E hr h=>?_)
 ·obtain⟨a,b,rfl,_⟩:=h;rfl
 obtain⟨a,b,rfl,ha,hb,q⟩:=h;refine⟨_,(ae (ar (i:=0) cZ.nd rfl (Or.inl rfl) (aw d9 rfl T.kl boot_abs (aa (pv 0) af)))
  (ae (ar (i:=1) cZ.nd rfl (Or.inl rfl) (aw d9 rfl T.kl boot_abs (aa (pv 1) af)))
  (ae (dj PassesOwn.never (aG o4 (pv 1) ah (aI _))
  (ae (ar (i:=2) cZ.nd rfl (Or.inl rfl) (ak bB (pv 0) (ak aF (ak dn (pv 0) (pv 1)) (pv 1))))
  (ae (ar (i:=0) cZ.nd rfl (Or.inl rfl) (pv 1))
  (aj (ar (i:=1) cZ.nd rfl (Or.inl rfl) (pv 2))))))
  (aj (aC (pv 0)))))),?_⟩;walk_at "sf";refine⟨_,rfl,?_⟩;walk_at "sf";refine⟨_,rfl,?_⟩;walk_at "sf";refine cW (fun m σ H'=>∃(g l:Int)(r:Option V),m=l.toNat/\σ=[some (.int g),some (.int l),r]/\H'=H/\0<=g/\0<=l/\Bd 8000 g/\Bd 8000 l/\Int.gcd g l=Int.gcd a b)
  ⟨_,_,_,_,rfl,rfl,rfl,by split<;>lia,by split<;>lia,ha.of_le (by split<;>lia),hb.of_le (by split<;>lia),xc⟩ ?_
 rintro m σ H' ⟨g,l,r,rfl,rfl,rfl,hg,hl,V_,hlz,e⟩;walk_at "sf";refine eM (fun c=>?_) (fun c=>?_)
 ·have vC:l≠0:=by simpa using c
  have hp:0<l:=by lia
  refine⟨_,fun bE H' h=>h,?_⟩;walk_at "sf";refine cB ⟨vC,hlz.log2 (by decide)⟩ ?_;walk_at "sf";have h1:=Int.emod_nonneg g vC;have h2:=Int.emod_lt_of_pos g hp;have ed:g.fdiv l=g/l:=iG hp;have V':Bd 8000 (g/l):=V_.of_le (by
   have h3:=Int.ediv_nonneg hg hl
   have h4:=Int.ediv_le_self l hg
   lia);rw[ed];refine cB (bC V' hlz (by decide)) ?_;walk_at "sf";have em:g-g/l*l=g%l:=by
   have:=Int.emod_add_mul_ediv g l;rw[Int.mul_comm] at this;lia
  rw[em];exact⟨_,by lia,_,_,_,rfl,rfl,rfl,hl,h1,hlz,hlz.of_le (by lia),by rw[sC hg hp,e]⟩
 ·have vC:l=0:=by simpa using c
  subst vC;walk_at "sf";have e':((Int.gcd a b:Nat):Int)=g:=by rw[<-e];exact xf hg
  rw[e'] at q;exact q
theorem rk(rm:cb P w K mg base 1 "_law_common" ["_law_one","_law_other"] uh)(D:aN K mg "_law_ratio" iY ["_law_top","_law_under"]):cb P w K mg base 2 "_law_ratio" ["_law_top","_law_under"] wg:=by
 refine D.ok ki (fun vs H Q E h=>?_) (fun f cq A outer s H vs Q E hr h=>?_)
 ·obtain⟨a,b,n,rfl,_⟩:=h;rfl
 obtain⟨a,b,n,rfl,ha,hb,hn,O_,q⟩:=h;have hg:0<Int.gcd a b:=Int.gcd_pos_of_ne_zero_right a (by lia);have Ck:((Int.gcd a b:Nat):Int)≠0:=by lia
 have bg:Bd n ((Int.gcd a b:Nat):Int):=hb.of_dvd (Int.gcd_dvd_right ..) (by lia);refine⟨_,(ae (ar (i:=2) ki.nd rfl (Or.inl rfl) (aJ rm hr (aa (pv 0) (aa (pv 1) af))))
  (aj (aC (iC (aa (ak dn (pv 0) (pv 2)) (aa (ak dn (pv 1) (pv 2)) af)))))),?_⟩;walk_at "sf";refine⟨_,_,rfl,ha.mono (by lia),hb.mono (by lia),?_⟩;walk_at "sf";refine cB ⟨Ck,(bg.mono (by lia:n<=9000)).log2 (by decide)⟩ ?_;walk_at "sf";refine cB ⟨Ck,(bg.mono (by lia:n<=9000)).log2 (by decide)⟩ ?_;walk_at "sf";intro p hp;have e1:=fG (Int.gcd_dvd_left (a:=a) (b:=b));have e2:=fG (Int.gcd_dvd_right (a:=a) (b:=b));refine q p _ _ hp (mF (Int.gcd_dvd_left ..) Ck ha) (mF (Int.gcd_dvd_right ..) Ck hb) ?_ ?_ ?_
 ·have zW:(0:Int)<((Int.gcd a b:Nat):Int):=by lia
  rcases Int.lt_or_le 0 (b.fdiv ((Int.gcd a b:Nat):Int)) with z|z
  ·exact z
  ·have:=Int.mul_nonpos_of_nonpos_of_nonneg z (Int.le_of_lt zW);lia
 ·have h3:Int.gcd (a.fdiv ((Int.gcd a b:Nat):Int)*((Int.gcd a b:Nat):Int)) (b.fdiv ((Int.gcd a b:Nat):Int)*((Int.gcd a b:Nat):Int))=Int.gcd (a.fdiv ((Int.gcd a b:Nat):Int)) (b.fdiv ((Int.gcd a b:Nat):Int))*(((Int.gcd a b:Nat):Int)).natAbs:=Int.gcd_mul_right ..;rw[e1,e2,Int.natAbs_natCast] at h3;have h4:1*Int.gcd a b=Int.gcd (a.fdiv ((Int.gcd a b:Nat):Int)) (b.fdiv ((Int.gcd a b:Nat):Int))*Int.gcd a b:=by lia
  exact(Nat.eq_of_mul_eq_mul_right hg h4).symm
 ·generalize a.fdiv ((Int.gcd a b:Nat):Int)=x at*;generalize b.fdiv ((Int.gcd a b:Nat):Int)=y at*;generalize ((Int.gcd a b:Nat):Int)=z at*;rw[<-e1,<-e2];grind
theorem rn(T:Nm mg)(D:aN K mg "_law_order" iZ ["_law_one","_law_other"]):cb P w K mg base 1 "_law_order" ["_law_one","_law_other"] wj:=by
 refine D.ok kj (fun vs H Q E h=>?_) (fun f cq A outer s H vs Q E hr h=>?_)
 ·obtain⟨g,h,t,u,t',u',rfl,_⟩:=h;rfl
 obtain⟨g,h,t,u,t',u',rfl,hg,hh,⟨b1,b2,b3,b4⟩,q⟩:=h;refine⟨_,(ae (ar (i:=2) kj.nd rfl (Or.inl rfl) (ak bB (ak aF (aL bq (pv 0) ah (fun _ _=>rfl)) (aL bq (pv 1) ah (fun _ _=>rfl))) (ak aF (aL bq (pv 1) ah (fun _ _=>rfl)) (aL bq (pv 0) ah (fun _ _=>rfl)))))
  (aj (aC (ak bB (dC fA rfl T.pT boot_int (aa (fv fb (pv 2) ah (aI _)) af)) (dC fA rfl T.pT boot_int (aa (fv jR (pv 2) ah (aI _)) af)))))),?_⟩;walk_at "sf";refine cu (cJ.of hg) rfl ?_;walk_at "sf";refine cu (cJ.of hh) rfl ?_;refine cB (bC b1 b4 (by lia)) ?_;walk_at "sf";refine cu (cJ.of hh) rfl ?_;walk_at "sf";refine cu (cJ.of hg) rfl ?_;refine cB (bC b3 b2 (by lia)) ?_;walk_at "sf";refine .inr ⟨_,rfl,?_⟩;walk_at "sf";refine .inr ⟨_,rfl,?_⟩;walk_at "sf";rw[EC] at q;exact q
theorem rp(T:Nm mg)(D:aN K mg "_law_value" i4 ["_law_poly","_law_given"]):cb P w K mg base 1 "_law_value" ["_law_poly","_law_given"] F8:=by
 refine D.ok cV (fun vs H Q E h=>?_) (fun f cq A outer s H vs Q E hr h=>?_)
 ·obtain⟨a,g,xs,t,u,p,rfl,_⟩:=h;rfl
 obtain⟨a,g,xs,t,u,p,rfl,ha,hg,⟨hx,bx,bt,bu,hp⟩,q⟩:=h;have lp:lP=60000000:=rfl;have ex:(xs.map V.int).length=xs.length:=List.length_map _;refine⟨_,(ae (ar (i:=2) cV.nd rfl (Or.inl rfl) ah)
  (ae (dm PassesOwn.never rfl (dB rfl T.eZ (aa (aw ay rfl T.cx boot_len (aa (pv 0) af)) af)) (aT (i:=3) cV.nd rfl (Or.inl rfl))
  (ae (ar (i:=4) cV.nd rfl (Or.inl rfl) (aL aP (pv 0) (pv 3) (fun _ _=>rfl)))
  (ae (dm PassesOwn.never rfl (dB rfl T.eZ (aa (ak bB (aw ay rfl T.cx boot_len (aa (pv 0) af)) ah) af)) (aT (i:=5) cV.nd rfl (Or.inl rfl))
  (aj (ar (i:=4) cV.nd rfl (Or.inl rfl) (ak aF (pv 4) (aL bq (pv 1) (dC fA rfl T.pT boot_int (aa (fv Al (pv 5) (pv 3) (aI _)) af)) (fun _ _=>rfl))))))
  (aj (ar (i:=2) cV.nd rfl (Or.inl rfl) (ak aZ (pv 2) (pv 4)))))))
  (aj (aC (ak bB (dC fA rfl T.pT boot_int (aa (fv fb (pv 2) ah (aI _)) af)) (dC fA rfl T.pT boot_int (aa (fv jR (pv 2) ah (aI _)) af))))))),?_⟩;walk_at "sf";refine⟨a,_,rfl,.inl (aM.of ha),?_⟩;walk_at "sf";rw[ex];refine⟨_,rfl,by lia,by lia,?_⟩;rw[Int.toNat_natCast];refine dU (fun i σ H'=>(∃r1 r2 r3,σ=[some (.ref a),some (.ref g),some (.int (AU t u xs i)),r1,r2,r3])/\H'=H) ⟨⟨_,_,_,rfl⟩,rfl⟩ ?_ ?_
 ·rintro i σ H' hi ⟨⟨r1,r2,r3,rfl⟩,rfl⟩;have e0:(0:Int)+(i:Int)=(i:Int):=by lia
  rw[e0];walk_at "sf";refine bP (aM.of ha) (iq hi) ?_;walk_at "sf";refine⟨a,_,rfl,.inl (aM.of ha),?_⟩;walk_at "sf";rw[ex];refine⟨_,rfl,by lia,by lia,?_⟩;have en:((xs.length:Int)-1).toNat=xs.length-1:=by lia
  rw[en];refine dU (fun j σ Qu=>(∃r3,σ=[some (.ref a),some (.ref g),some (.int (AU t u xs i)),some (.int (i:Int)),some (.int (ir t u (co xs i) i j)),r3])/\Qu=H') ⟨⟨_,by rw[pk];rfl⟩,rfl⟩ ?_ ?_
  ·rintro j σ Qu hj ⟨⟨r3,rfl⟩,rfl⟩;have e0:(0:Int)+(j:Int)=(j:Int):=by lia
   rw[e0];walk_at "sf";refine .inr ⟨_,rfl,?_⟩;refine cu (cJ.of hg) F_ ?_;have ev:(if decide ((i:Int)<=(j:Int))=true then V.int u else V.int t)=V.int (if i<=j then u else t):=by
    by_cases h:i<=j
    ·rw[if_pos h,if_pos (by simpa using h)]
    ·rw[if_neg h,if_neg (by simpa using h)]
   rw[ev];have b2:Bd p (if i<=j then u else t):=by split<;>assumption
   have Yj:p*j<=p*100:=Nat.mul_le_mul_left _ (by lia);refine cB (bC (yf (k:=i) bt bu (bx.co i) j) b2 (by lia)) ?_;walk_at "sf";exact⟨⟨_,by rw[pq];rfl⟩,rfl⟩
  ·rintro σ Qu ⟨⟨r3,rfl⟩,rfl⟩;walk_at "sf";rw[yR t u xs i hi];exact⟨⟨_,_,_,rfl⟩,rfl⟩
 ·rintro σ H' ⟨⟨r1,r2,r3,rfl⟩,rfl⟩;walk_at "sf";refine .inr ⟨_,rfl,?_⟩;walk_at "sf";refine .inr ⟨_,rfl,?_⟩;walk_at "sf";rw[vm];generalize hv t u xs=z at q;have e:sg z=(if decide (0<z)=true then(1:Int) else 0)-(if decide (z<0)=true then 1 else 0):=by
   unfold sg;simp only[decide_eq_true_eq];split<;>split<;>first|lia|(split<;>lia)
  rw[e] at q;exact q
end
end eQ
namespace eQ
open PySem PyProof.Rows L2 SF SF.Po
theorem Cm{a b:Int}{n:Nat}(h1:Bd n a)(h2:Bd n b):Ab n [a,b]:=fun x hx=>by
 rcases List.mem_cons.mp hx with rfl|hx
 ·exact h1
 rw[List.mem_singleton.mp hx];exact h2
theorem og{a b c:Int}{n:Nat}(h1:Bd n a)(h2:Bd n b)(h3:Bd n c):Ab n [a,b,c]:=fun x hx=>by
 rcases List.mem_cons.mp hx with rfl|hx
 ·exact h1
 exact Cm h2 h3 x hx
theorem ED{a b c d:Int}{n:Nat}(h1:Bd n a)(h2:Bd n b)(h3:Bd n c)(h4:Bd n d):Ab n [a,b,c,d]:=fun x hx=>by
 rcases List.mem_cons.mp hx with rfl|hx
 ·exact h1
 exact og h2 h3 h4 x hx
section
variable {P:Program} {w:World} {K:PySem.W.Frag} {mg:Str->Option Value} {base:Heap}
theorem oh(T:Nm mg)(ij:cb P w K mg base 3 "_law_cell" ["_law_script","_law_k"] (v3 K))(fX:cb P w K mg base 3 "_law_drawn" ["_law_cell_here","_law_k"] qW)(i9:cb P w K mg base 3 "_law_ratio" ["_law_top","_law_under"] wg)(D:aN K mg "_law_factors" gb ["_law_script","_law_k","_law_many_here"]):cb P w K mg base 4 "_law_factors" ["_law_script","_law_k","_law_many_here"] (pW K):=by
 refine D.ok aW (fun vs H Q E h=>?_) (fun f cq A outer s H vs Q E hr h=>?_)
 ·obtain⟨a,ns,k,m,rfl,_⟩:=h;rfl
 obtain⟨sa,ns,k,mm,rfl,hS,hl,hk,Nu,Yk,q⟩:=h;refine'⟨_,?term,?rest⟩
 case' term=>refine'(ae (ar (i:=3) aW.nd rfl (Or.inl rfl) (bS af))
  (ae (dm PassesOwn.never rfl (dB rfl T.eZ (aa (pv 2) af)) (aT (i:=4) aW.nd rfl (Or.inl rfl))
  (ae (ar (i:=5) aW.nd rfl (Or.inl rfl) (aJ fX hr (aa (aJ ij hr (aa (pv 0) (aa (ak aZ (pv 1) (pv 4)) af))) (aa (ak aZ (ak aZ (pv 1) (pv 4)) ah) af))))
  (ae (ar (i:=6) aW.nd rfl (Or.inl rfl) (ak bB (ak bL (ak dn (pv 5) ah) ah) ah))
  (ae (bM (aG jR (ak bL (pv 5) ah) ah (aI _))
  (ae (ar (i:=7) aW.nd rfl (Or.inl rfl) (aJ i9 hr (aa (ak bB (ak bL (ak dn (pv 5) ah) ah) ah) (aa (ak aZ ah (ak bL (ak dn (pv 5) ah) ah)) af))))
  (aj (ar (i:=8) aW.nd rfl (Or.inl rfl) (bS (aa (ak bB ah (aL bq (pv 7) ah (fun _ _=>rfl))) (aa (aL bq (pv 7) ah (fun _ _=>rfl)) af))))))
  ?e1)
  (aj (bM (aG (yV hr.units) (pv 8) (pv 3) rfl)
  (aj (fS (js PySem.F.plainAttrs_list PySem.F.slot_list_append PySem.F.type_list_append dD (pv 3) (aa (pv 8) af))))
  aS))))))
  (aj (aC (pv 3)))))
 case' e1=>refine'(aj (bM (aG jR (ak bL (pv 5) ah) ah (aI _))
  ?b9
  ?e2))
 case' b9=>refine'(ae ?s1 ?s2)
 case' s1=>with_reducible refine'(ar (i:=9) ?nd ?hi ?hl ?x1 ?hs ?hf)
 case nd=>exact aW.nd
 case hi=>rfl
 case hl=>exact Or.inl rfl
 case hs=>rfl
 case hf=>first|exact .inl rfl|exact .inr rfl
 case' x1=>with_reducible refine'(aL ?ix ?l ?k ?u)
 case' ix=>refine' aP
 case' l=>with_reducible refine'(bS ?li)
 case' li=>with_reducible refine'(mv ?ii)
 case' ii=>exact(.pos (.pos (.pos (.pos (.pos (.pos (.pos (.pos (.pos (.pos .nil))))))))))
 case' k=>exact(ak bL (ak dn (pv 5) ah) ah)
 case' u=>exact(fun _ _=>rfl)
 case' s2=>exact(aj (ar (i:=8) aW.nd rfl (Or.inl rfl) (bS (aa (ak bB (ak aF (pv 6) (pv 6)) (pv 9)) (aa (ak bB ah (ak aF ah (pv 6))) (aa ah af))))))
 case' e2=>refine'(aj (bM (aG jr (ak bL (pv 5) ah) ah (aI _))
  (aj (ar (i:=8) aW.nd rfl (Or.inl rfl) (bS (aa (ak aZ (ak aZ (ak aF (pv 6) (pv 6)) ah) (ak bL (ak dn (pv 5) ah) ah)) (aa (ak bB ah (ak aF ah (pv 6))) (aa ah af))))))
  ?b10))
 case' b10=>with_reducible refine'(aj ?s1z)
 case' s1z=>with_reducible refine'(ar (i:=8) ?ndz ?hiz ?hlz ?x1z ?hsz ?hfz)
 case ndz=>exact aW.nd
 case hiz=>rfl
 case hlz=>exact Or.inl rfl
 case hsz=>rfl
 case hfz=>first|exact .inl rfl|exact .inr rfl
 case' x1z=>with_reducible refine'(bS ?y1)
 case' y1=>with_reducible refine'(aa ?y2 ?y3 ?y4)
 case' y4=>rfl
 case' y3=>exact(aa ah (aa ah (aa ah af)))
 case' y2=>with_reducible refine'(ak ?op ?y5 ?y6)
 case' op=>exact bB
 case' y5=>exact ah
 case' y6=>with_reducible refine'(aL ?ixz ?lz ?kz ?uz)
 case' ixz=>refine' aP
 case' lz=>with_reducible refine'(bS ?liz)
 case' liz=>with_reducible refine'(mv ?iiz)
 case' iiz=>exact(.pos (.pos (.pos (.pos (.pos (.pos (.pos (.pos (.neg (.neg .nil))))))))))
 case' kz=>exact(ak bL (ak dn (pv 5) ah) ah)
 case' uz=>exact(fun _ _=>rfl)
 walk_at "sf";intro pm SI;walk_at "sf";refine⟨_,rfl,by lia,by lia,?_⟩;rw[Int.toNat_natCast];refine dU (fun j σ H'=>∃(as:List Addr)(gs:List (List Int))(r4 r5 r6 r7 r8 r9:Option V),σ=[some (.ref sa),some (.int k),some (.int (mm:Int)),some (.ref pm),r4,r5,r6,r7,r8,r9]/\av H H'/\H' pm=some (.lst (as.map V.ref))/\jK H' as gs/\
  (∀g∈gs,kQ g/\Ab 8 g)/\gs.Nodup/\gs.length<=j/\(1<=j->gs≠[]))
  ⟨[],[],_,_,_,_,_,_,rfl,av.new SI _,ai,trivial,(fun g hg=>nomatch hg),List.nodup_nil,Nat.le_refl _,fun h=>by lia⟩ ?_ ?_
 ·rintro j σ H0 hj ⟨as,gs,r4,r5,r6,r7,r8,r9,rfl,g0,pB,i0,jN,nd,len,ne⟩;have e0:(0:Int)+(j:Int)=(j:Int):=by lia
  rw[e0];walk_at "sf";refine⟨sa,ns,k+(j:Int),rfl,g0.seq hS,hl,by lia,fun c H1 s1=>?_⟩;walk_at "sf";refine⟨_,_,rfl,fun m m0 mz=>?_⟩;walk_at "sf";refine cB (JJ 8 (by decide) (by decide)) ?_;walk_at "sf";refine cB (by decide) ?_;obtain⟨a1,a2,a3⟩:=fm (x:=m.fdiv 8) (m:=9) (by decide);rw[a1];walk_at "sf";generalize Yl:m.fdiv 8%9-4=a;have Ym:-4<=a/\a<=4:=by lia
  have ba:Bd 4 a:=Bd.of_two (by lia) (by lia);have bound:a*a<=16/\0<=a*a:=by
   have h1:(4-a)*(4+a)=16-a*a:=by grind
   have h2:=Int.mul_nonneg (show 0<=4-a by lia) (show 0<=4+a by lia);have h3:0<=a*a:=by
    rcases Int.le_total 0 a with z|z
    ·exact Int.mul_nonneg z z
    ·exact Int.mul_nonneg_of_nonpos_of_nonpos z z
   lia
  have g1:=g0.trans s1;have lY:=s1 _ _ pB;have i1:jK H1 as gs:=i0.map fun a p z=>s1 _ _ z;clear s1 g0 pB i0;obtain⟨b1,b2,b3⟩:=fm (x:=m) (m:=8) (by decide);refine cB (by decide) ?_;rw[b1];walk_at "sf";refine eM (fun c=>?_) (fun c=>?_)
  case' refine_1=>
   walk_at "sf";refine cB (JJ 64 (by decide) (by decide)) ?_;walk_at "sf";refine cB (by decide) ?_;obtain⟨c1,c2,c3⟩:=fm (x:=m.fdiv 64) (m:=21) (by decide);rw[c1];walk_at "sf";refine cB (JJ 2048 (by decide) (by decide)) ?_;walk_at "sf";refine cB (by decide) ?_;obtain⟨d1,d2,d3⟩:=fm (x:=m.fdiv 2048) (m:=5) (by decide);rw[d1];walk_at "sf";refine⟨_,_,4,rfl,Bd.of_two (by lia) (by lia),Bd.of_two (by lia) (by lia),by decide,by lia,fun p t u hp bt bu hu hc _=>?_⟩;walk_at "sf";refine cu (cJ.of ai) rfl ?_;walk_at "sf";refine cu (cJ.of ai) rfl ?_;walk_at "sf";intro po ui;have hs:av H1 (upd H1 p (.tup [.int t,.int u])):=av.new hp _;have ir:kQ [0-t,u]:=.Lw t u hu hc;have f7:Ab 8 [0-t,u]:=Cm ((bt.mono (by decide:4<=8)).of_le (by lia)) (bu.mono (by decide));have ho:IL (upd (upd H1 p (.tup [.int t,.int u])) po (.lst [.int (0-t),.int (u)])) po [0-t,u]:=ai;have s2:av H1 (upd (upd H1 p (.tup [.int t,.int u])) po (.lst [.int (0-t),.int (u)])):=hs.trans (av.new ui _);have xk:po≠pm:=fun z=>by rw[z,hs _ _ lY] at ui;exact absurd ui (by simp)
   generalize upd (upd H1 p (.tup [.int t,.int u])) po (.lst [.int (0-t),.int (u)])=H2 at ho s2 ⊢;generalize [0-t,u]=g at ho ir f7
  case' refine_2=>
   walk_at "sf";refine cB (by decide) ?_;rw[b1];walk_at "sf";refine eM (fun c=>?_) (fun c=>?_)
   case' refine_1=>
    walk_at "sf";unfold AY;walk_at "sf";intro p hp;walk_at "sf";refine cB (JJ 64 (by decide) (by decide)) ?_;walk_at "sf";refine cB (by decide) ?_;obtain⟨c1,c2,c3⟩:=fm (x:=m.fdiv 64) (m:=10) (by decide);rw[c1];walk_at "sf";obtain⟨n,hn,en⟩:=F9 (L:=[2,3,5,6,7,8,10,12,50,99]) c2 c3;refine bP (aM.of ai) en ?_;walk_at "sf";refine cB (bC ba ba (by decide)) ?_;walk_at "sf";refine cB (bC (show Bd 4 2 from Bd.of_two (by decide) (by decide)) ba (by decide)) ?_;walk_at "sf";intro po ui;have hs:av H1 (upd H1 p (.lst ([2,3,5,6,7,8,10,12,50,99].map V.int))):=av.new hp _;have wN:Jz n:=by simpa[Jz] using hn
    have ir:kQ [a*a-n,0-2*a,1]:=.Bx a n wN;have f7:Ab 8 [a*a-n,0-2*a,1]:=og (Bd.of_two (by unfold Jz at wN;lia) (by unfold Jz at wN;lia)) (Bd.of_two (by lia) (by lia)) (Bd.of_two (by decide) (by decide));have ho:IL (upd (upd H1 p (.lst ([2,3,5,6,7,8,10,12,50,99].map V.int))) po (.lst [.int (a*a-n),.int (0-2*a),.int (1)])) po [a*a-n,0-2*a,1]:=ai;have s2:av H1 (upd (upd H1 p (.lst ([2,3,5,6,7,8,10,12,50,99].map V.int))) po (.lst [.int (a*a-n),.int (0-2*a),.int (1)])):=hs.trans (av.new ui _);have xk:po≠pm:=fun z=>by rw[z,hs _ _ lY] at ui;exact absurd ui (by simp)
    generalize upd (upd H1 p (.lst ([2,3,5,6,7,8,10,12,50,99].map V.int))) po (.lst [.int (a*a-n),.int (0-2*a),.int (1)])=H2 at ho s2 ⊢;generalize [a*a-n,0-2*a,1]=g at ho ir f7
   case' refine_2=>
    walk_at "sf";refine cB (by decide) ?_;rw[b1];walk_at "sf";refine eM (fun c=>?_) (fun c=>?_)
    case' refine_1=>
     walk_at "sf";refine cB (bC ba ba (by decide)) ?_;walk_at "sf";refine cB (JJ 64 (by decide) (by decide)) ?_;walk_at "sf";refine cB (by decide) ?_;obtain⟨c1,c2,c3⟩:=fm (x:=m.fdiv 64) (m:=9) (by decide);rw[c1];walk_at "sf";refine cB (bC (show Bd 4 2 from Bd.of_two (by decide) (by decide)) ba (by decide)) ?_;walk_at "sf";intro po ui;have hs:av H1 H1:=av.refl _;have ir:kQ [a*a+1+m.fdiv 64%9,0-2*a,1]:=by
      rw[Int.add_assoc];exact .Lx a _ (by lia)
     have f7:Ab 8 [a*a+1+m.fdiv 64%9,0-2*a,1]:=og (Bd.of_two (by lia) (by lia)) (Bd.of_two (by lia) (by lia)) (Bd.of_two (by decide) (by decide));have ho:IL (upd H1 po (.lst [.int (a*a+1+m.fdiv 64%9),.int (0-2*a),.int (1)])) po [a*a+1+m.fdiv 64%9,0-2*a,1]:=ai;have s2:av H1 (upd H1 po (.lst [.int (a*a+1+m.fdiv 64%9),.int (0-2*a),.int (1)])):=hs.trans (av.new ui _);have xk:po≠pm:=fun z=>by rw[z,hs _ _ lY] at ui;exact absurd ui (by simp)
     generalize upd H1 po (.lst [.int (a*a+1+m.fdiv 64%9),.int (0-2*a),.int (1)])=H2 at ho s2 ⊢;generalize [a*a+1+m.fdiv 64%9,0-2*a,1]=g at ho ir f7
    case' refine_2=>
     walk_at "sf";unfold AY;walk_at "sf";intro p hp;walk_at "sf";refine cB (JJ 64 (by decide) (by decide)) ?_;walk_at "sf";refine cB (by decide) ?_;obtain⟨c1,c2,c3⟩:=fm (x:=m.fdiv 64) (m:=10) (by decide);rw[c1];walk_at "sf";obtain⟨n,hn,en⟩:=F9 (L:=[2,3,4,5,6,7,9,10,-2,-5]) c2 c3;refine bP (aM.of ai) en ?_;walk_at "sf";intro po ui;have hs:av H1 (upd H1 p (.lst ([2,3,4,5,6,7,9,10,-2,-5].map V.int))):=av.new hp _;have wN:JA n:=by simpa[JA] using hn
     have ir:kQ [0-n,0,0,1]:=.Ly n wN;have f7:Ab 8 [0-n,0,0,1]:=ED (Bd.of_two (by unfold JA at wN;lia) (by unfold JA at wN;lia)) (Bd.of_two (by decide) (by decide)) (Bd.of_two (by decide) (by decide)) (Bd.of_two (by decide) (by decide));have ho:IL (upd (upd H1 p (.lst ([2,3,4,5,6,7,9,10,-2,-5].map V.int))) po (.lst [.int (0-n),.int (0),.int (0),.int (1)])) po [0-n,0,0,1]:=ai;have s2:av H1 (upd (upd H1 p (.lst ([2,3,4,5,6,7,9,10,-2,-5].map V.int))) po (.lst [.int (0-n),.int (0),.int (0),.int (1)])):=hs.trans (av.new ui _);have xk:po≠pm:=fun z=>by rw[z,hs _ _ lY] at ui;exact absurd ui (by simp)
     generalize upd (upd H1 p (.lst ([2,3,4,5,6,7,9,10,-2,-5].map V.int))) po (.lst [.int (0-n),.int (0),.int (0),.int (1)])=H2 at ho s2 ⊢;generalize [0-n,0,0,1]=g at ho ir f7
  all_goals
   walk_at "sf";have nk:=s2 _ _ lY;have i2:jK H2 as gs:=i1.map fun a p z=>s2 _ _ z;refine⟨po,pm,g,as,gs,rfl,rfl,aM.of ho,aM.of nk,i2.len,fun i b l e1 e2=>?_,?_⟩
   ·obtain⟨l',e3,e4⟩:=jK.get i i2 e1;rw[e2] at e3;injection e3 with e3;subst e3;exact aM.of e4
   walk_at "sf";refine eM (fun c=>?_) (fun c=>?_)
   ·have Qv:g∉gs:=by simpa using c
    have la:as.length<=j:=by rw[i2.len];exact len
    walk_at "sf";refine⟨_,rfl,.inl ⟨rfl,_,aM.of nk⟩,?_⟩;walk_at "sf";refine⟨pm,_,_,rfl,rfl,nk,?_,?_⟩
    ·rw[List.length_map];exact Nat.lt_of_lt_of_le (by lia:as.length<1000) (cD (Nat.le_refl _))
    walk_at "sf";refine⟨as++[po],gs++[g],_,_,_,_,_,_,rfl,?_,?_,?_,?_,wk nd Qv,?_,fun _=>by simp⟩
    ·intro b o z;rw[aq (aH z SI)];exact s2 _ _ (g1 _ _ z)
    ·rw[ai];simp
    ·have Qw:IL (upd H2 pm (.lst (as.map V.ref++[V.ref po]))) po g:=by
      show upd H2 pm _ po=_;rw[aq xk];exact ho
     refine jK.snoc Qw ?_;by_cases SJ:as=[]
     ·subst SJ;have:=i2.len;have Ck:gs=[]:=List.length_eq_zero_iff.mp this.symm;subst Ck;trivial
     ·refine i2.map fun b l z=>?_;show upd H2 pm _ b=_;rw[aq (x9 nk SJ z)];exact z
    ·intro x hx;rcases List.mem_append.mp hx with hx|hx
     ·exact jN x hx
     ·rw[List.mem_singleton.mp hx];exact⟨ir,f7⟩
    ·rw[List.length_append];simp;lia
   ·have Qv:g∈gs:=by simpa using c
    walk_at "sf";exact⟨as,gs,_,_,_,_,_,_,rfl,g1.trans s2,nk,i2,jN,nd,by lia,fun _=>List.ne_nil_of_mem Qv⟩
 ·rintro σ H' ⟨as,gs,r4,r5,r6,r7,r8,r9,rfl,g0,pB,i0,jN,nd,len,ne⟩;walk_at "sf";exact q pm as gs H' g0 pB i0 jN nd (ne (by lia)) (by lia)
end
end eQ
namespace eQ
open PySem PyProof.Rows L2 SF SF.Po
theorem kq{xs ys:List Int}(hx:xs≠[])(hy:ys≠[]):(mulL xs ys).length=xs.length+ys.length-1:=by
 unfold mulL;rw[if_neg (by intro z;rcases z with z|z;exact hx z;exact hy z),aA]
theorem yg{xs ys:List Int}(hx:xs≠[])(hy:ys≠[]):mulL xs ys≠[]:=by
 have h1:=List.length_pos_iff.mpr hx;have h2:=List.length_pos_iff.mpr hy;exact List.length_pos_iff.mp (by rw[kq hx hy];lia)
theorem Cn{n:Nat}{f:Nat->Int}{k:Nat}(h:∀i,i<k->Bd n (f i)):Ab n (dX f k):=fun x hx=>by
 obtain⟨i,hi,e⟩:=List.getElem_of_mem hx;have Ju:i<k:=by rw[aA] at hi;exact hi
 rw[<-e,<-bI,gP,if_pos Ju];exact h i Ju
theorem yh{n:Nat}{f:Nat->Int}:∀{k:Nat},(∀i,i<k->Bd n (f i))->Bd (n+k) (ax f k)
 |0,_=>by
  show(0:Int).natAbs<2^(n+0);exact Nat.two_pow_pos _
 |k+1,h=>by
  have ih:=yh (k:=k) fun i hi=>h i (by lia);exact((ih.add ((h k (by lia)).mono (by lia)))).mono (by lia)
theorem yi{m n:Nat}{xs ys:List Int}(bx:Ab m xs)(b:Ab n ys)(hl:xs.length<=40):Ab (m+n+xs.length) (mulL xs ys):=by
 unfold mulL;split
 ·exact fun x hx=>nomatch hx
 ·refine Cn fun i _=>?_;rw[<-xj];unfold cv;refine(yh (n:=m+n) fun j _=>?_).mono (by lia);split
  ·exact(bx.co _).mul (b.co _)
  ·show(0:Int).natAbs<2^(m+n);exact Nat.two_pow_pos _
noncomputable def gE:List (List Int)->List Int
 |[]=>[1]
 |g::r=>mulL g (gE r)
theorem ff:∀{gs:List (List Int)},(∀g∈gs,kQ g/\Ab 8 g)->Tr (gE gs)/\gE gs≠[]/\(gE gs).length<=1+3*gs.length/\Ab (1+12*gs.length) (gE gs)/\ao (gE gs)=aO (gs.map ao)
 |[],_=>⟨fy (xs:=[]) (by decide),by unfold gE;simp,Nat.le_refl _,fun x hx=>by
  rw[show x=1 from List.mem_singleton.mp hx];exact Bd.of_two (by decide) (by decide),by
  show ao [1]=1
  refine ext fun i=>?_
  rw[aX,<-bN]
  cases i<;>rfl⟩
 |g::r,h=>by
  obtain⟨a1,a2,a3,a4,a5⟩:=ff (gs:=r) fun x hx=>h x (List.mem_cons_of_mem _ hx);obtain⟨f,ab⟩:=h g List.mem_cons_self;obtain⟨t1,t2,t3,t4⟩:=f.tr;have e:gE (g::r)=mulL g (gE r):=rfl;rw[e];refine⟨xg t1 a1,yg t2 a2,by rw[kq t2 a2,List.length_cons];lia,?_,by rw[j3,a5];rfl⟩;have:=yi ab a4 (by lia);exact this.mono (by rw[List.length_cons];lia)
theorem oi(g:Po):∀l:List Po,aO (l++[g])=aO l*g
 |[]=>by show g*1=1*g;grind
 |x::r=>by
  show x*aO (r++[g])=x*aO r*g;rw[oi g r];grind
theorem pY{p g:Po}:∀{gs:List Po},g∈gs->Po.D p g->Po.D p (aO gs)
 |x::r,h,d=>by
  show Po.D p (x*aO r);rcases List.mem_cons.mp h with rfl|h
  ·exact d.mulR _
  ·exact(pY h d).mulL _
noncomputable def Co:Sp:=fun vs H Q _=>∃(a:Addr)(xs:List Int),vs=[.ref a]/\IL H a xs/\2<=xs.length/\Ab 8 xs/\∀H':Hp,av H H'->Q (.int (if xs.length=3 then(if co xs 1*co xs 1>4*co xs 0 then 2 else 0) else 1)) H'
noncomputable def Cp:Sp:=fun vs H Q _=>∃(c e:Addr)(as:List Addr)(gs:List (List Int))(es:List Int),vs=[.ref c,.ref e]/\H c=some (.lst (as.map V.ref))/\jK H as gs/\(∀g∈gs,kQ g/\Ab 8 g)/\gs.length<=4/\
 IL H e es/\es.length=gs.length/\(∀x∈es,x=1\/x=2)/\∀(p:Addr)(xs:List Int)(H':Hp),av H H'->IL H' p xs->Tr xs->xs≠[]->xs.length<=25->Ab 300 xs->(∀π,jy π->(Po.D π (ao xs)↔Po.D π (aO (gs.map ao))))->((∀x∈es,x=1)->ao xs=aO (gs.map ao))->Q (.ref p) H'
section
variable {P:Program} {w:World} {K:PySem.W.Frag} {mg:Str->Option Value} {base:Heap}
theorem uj(T:Nm mg)(D:aN K mg "_law_many" jJ ["_law_factor"]):cb P w K mg base 1 "_law_many" ["_law_factor"] Co:=by
 refine D.ok tU (fun vs H Q E h=>?_) (fun f cq A outer s H vs Q E hr h=>?_)
 ·obtain⟨a,xs,rfl,_⟩:=h;rfl
 obtain⟨a,xs,rfl,ha,hl,bx,q⟩:=h;have ex:(xs.map V.int).length=xs.length:=List.length_map _;refine⟨_,(ae (bM (aG jr (aw ay rfl T.cx boot_len (aa (pv 0) af)) ah (aI _))
  (aj (aC (aL aP (bS (aa ah (aa ah af))) (dC fA rfl T.pT boot_int (aa (fv fb (ak aF (aL aP (pv 0) ah (fun _ _=>rfl)) (aL aP (pv 0) ah (fun _ _=>rfl))) (ak aF ah (aL aP (pv 0) ah (fun _ _=>rfl))) (aI _)) af)) (fun _ _=>rfl))))
  aS)
  (aj (aC ah))),?_⟩;walk_at "sf";refine⟨a,_,rfl,.inl (aM.of ha),?_⟩;walk_at "sf";rw[ex];refine eM (fun c=>?_) (fun c=>?_)
 ·have h3:xs.length=3:=by
   have:(xs.length:Int)=3:=by simpa using c
   lia
  walk_at "sf";intro p hp;have s1:=av.new hp (.lst [V.int 0,V.int 2]);have h1:=s1 _ _ ha;walk_at "sf";refine bP (aM.of h1) (iq (n:=1) (by lia)) ?_;walk_at "sf";refine bP (aM.of h1) (iq (n:=1) (by lia)) ?_;refine cB (bC (bx.co 1) (bx.co 1) (by decide)) ?_;walk_at "sf";refine bP (aM.of h1) (iq (n:=0) (by lia)) ?_;refine cB (bC (show Bd 4 4 from Bd.of_two (by decide) (by decide)) (bx.co 0) (by decide)) ?_;walk_at "sf";refine .inr ⟨_,rfl,?_⟩;refine bP (aM.of ai) F_ ?_;walk_at "sf";rw[if_pos h3] at q;have:=q _ s1;by_cases hh:co xs 1*co xs 1>4*co xs 0
  ·rw[if_pos hh] at this;rw[if_pos (by simpa using hh)];exact this
  ·rw[if_neg hh] at this;rw[if_neg (by simpa using hh)];exact this
 ·have h3:¬xs.length=3:=fun z=>c (by rw[z];rfl);walk_at "sf";rw[if_neg h3] at q;exact q _ (av.refl _)
theorem wm(T:Nm mg)(oQ:cb P w K mg base 3 "_law_product" ["_law_one","_law_other"] (zv mulL (fun xs ys=>Sk xs ys/\xs≠[]/\ys≠[])))(D:aN K mg "_law_all" lj ["_law_factors_here","_law_powers"]):cb P w K mg base 4 "_law_all" ["_law_factors_here","_law_powers"] Cp:=by
 refine D.ok fR (fun vs H Q E h=>?_) (fun f cq A outer s H vs Q E hr h=>?_)
 ·obtain⟨c,e,as,gs,es,rfl,_⟩:=h;rfl
 obtain⟨c,e,as,gs,es,rfl,hc,hi,jN,len,he,Yn,Mo,q⟩:=h;have lp:lP=60000000:=rfl;have hlen:=hi.len;refine⟨_,(ae (ar (i:=2) fR.nd rfl (Or.inl rfl) (bS (aa ah af)))
  (ae (dm PassesOwn.never rfl (dB rfl T.eZ (aa (aw ay rfl T.cx boot_len (aa (pv 0) af)) af)) (aT (i:=3) fR.nd rfl (Or.inl rfl))
  (aj (dm PassesOwn.never rfl (dB rfl T.eZ (aa (aL aP (pv 1) (pv 3) (fun _ _=>rfl)) af)) (aT (i:=4) fR.nd rfl (Or.inl rfl))
  (aj (ar (i:=2) fR.nd rfl (Or.inl rfl) (aJ oQ hr (aa (pv 2) (aa (aL aP (pv 0) (pv 3) (fun _ _=>rfl)) af))))))))
  (aj (aC (pv 2))))),?_⟩;walk_at "sf";intro p0 pB;walk_at "sf";have s0:=av.new pB (.lst [V.int 1]);refine⟨c,_,rfl,.inl (aM.of (s0 _ _ hc)),?_⟩;walk_at "sf";refine⟨_,rfl,by lia,by rw[List.length_map];lia,?_⟩;rw[Int.toNat_natCast,List.length_map];refine dU (fun i σ H'=>∃(p:Addr)(xs:List Int)(r3 r4:Option V),σ=[some (.ref c),some (.ref e),some (.ref p),r3,r4]/\av H H'/\IL H' p xs/\Tr xs/\xs≠[]/\xs.length<=1+6*i/\Ab (1+66*i) xs/\
  (∀π,jy π->(Po.D π (ao xs)↔∃(k:Nat)(g:List Int),k<i/\gs[k]?=some g/\Po.D π (ao g)))/\((∀x∈es,x=1)->ao xs=aO ((gs.take i).map ao)))
  ⟨p0,[1],_,_,rfl,s0,ai,fy (xs:=[]) (by decide),by simp,Nat.le_refl _,fun x hx=>by rw[List.mem_singleton.mp hx];exact Bd.of_two (by decide) (by decide),fun π rN=>?_,fun _=>ext fun i=>by show co [1] i=(1:Po).c i;rw[m_];cases i<;>rfl⟩ ?_ ?_
 ·constructor
  ·intro d;have l1:Po.len (ao [1])=1:=aU (fy (xs:=[]) (by decide));have:=d.len (a_ (by lia));have:=rN.1;lia
  ·rintro⟨k,g,h,_⟩;lia
 ·rintro i σ H' Qx ⟨p,xs,r3,r4,rfl,s1,h1,t1,n1,l1,b1,d1,x1⟩;have e0:(0:Int)+(i:Int)=(i:Int):=by lia
  rw[e0];have Mp:i<es.length:=by lia
  have Yo:i<gs.length:=by lia
  obtain⟨g,eg,hg⟩:=(hi.map fun a p z=>s1 _ _ z).get i (List.getElem?_eq_getElem Qx);obtain⟨fg,ag⟩:=jN g (List.mem_of_getElem? eg);obtain⟨Wa,Qy,Yp,Yq⟩:=fg.tr;have Yr:co es i=1\/co es i=2:=Mo _ (by rw[bI Mp];exact List.getElem_mem Mp);walk_at "sf";refine bP (aM.of (s1 _ _ he)) (iq Mp) ?_;walk_at "sf";refine⟨_,rfl,by lia,by lia,?_⟩;refine dU (fun j σ H'=>∃(p:Addr)(xs:List Int)(r4:Option V),σ=[some (.ref c),some (.ref e),some (.ref p),some (.int (i:Int)),r4]/\av H H'/\IL H' p xs/\Tr xs/\xs≠[]/\xs.length<=1+6*i+3*j/\Ab (1+66*i+33*j) xs/\
   (∀π,jy π->(Po.D π (ao xs)↔(∃(k:Nat)(g:List Int),k<i/\gs[k]?=some g/\Po.D π (ao g))\/(1<=j/\Po.D π (ao g))))/\((∀x∈es,x=1)->ao xs=aO ((gs.take i).map ao)*(if j=0 then 1 else ao g)))
   ⟨p,xs,_,rfl,s1,h1,t1,n1,l1,b1,fun π rN=>by rw[d1 π rN];constructor;exact fun z=>.inl z;rintro(z|z);exact z;exact absurd z.1 (by lia),fun z=>by rw[x1 z,if_pos rfl];grind⟩ ?_ ?_
  ·rintro j σ H2 hj ⟨p,xs,r4,rfl,s2,h2,t2,n2,l2,b2,d2,x2⟩;have e0:(0:Int)+(j:Int)=(j:Int):=by lia
   rw[e0];have QC:j<2:=by lia
   have Wb:=(hi.map fun a p z=>s2 _ _ z);obtain⟨g',NC,Dw⟩:=Wb.get i (List.getElem?_eq_getElem Qx);rw[eg] at NC;injection NC with NC;subst NC;walk_at "sf";refine bP (aM.of (s2 _ _ hc)) (fw (v:=V.ref as[i]) (by rw[List.getElem?_map,List.getElem?_eq_getElem Qx]<;>rfl)) ?_;walk_at "sf";refine⟨p,as[i],xs,g,rfl,h2,Dw,⟨⟨⟨by lia,by lia⟩,b2.mono (by lia),ag.mono (by lia)⟩,n2,Qy⟩,fun p3 H3 s3 h3=>?_⟩;walk_at "sf";refine⟨p3,_,_,rfl,s2.trans s3,h3,xg t2 Wa,yg n2 Qy,by rw[kq n2 Qy];lia,(yi b2 ag (by lia)).mono (by lia),fun π rN=>?_,fun z=>by
    have h1:=z (co es i) (by rw[bI Mp];exact List.getElem_mem Mp)
    have j0:j=0:=by lia
    rw[j3,x2 z,if_pos j0,if_neg (by lia)];grind⟩;rw[j3];constructor
   ·intro z;rcases rN.prime z with z|z
    ·rcases(d2 π rN).mp z with z|z
     ·exact .inl z
     ·exact .inr ⟨by lia,z.2⟩
    ·exact .inr ⟨by lia,z⟩
   ·rintro(z|z)
    ·exact((d2 π rN).mpr (.inl z)).mulR _
    ·exact z.2.mulL _
  ·rintro σ H2 ⟨p,xs,r4,rfl,s2,h2,t2,n2,l2,b2,d2,x2⟩;have xw:1<=(co es i).toNat:=by lia
   have Pb:(co es i).toNat<=2:=by lia
   walk_at "sf";refine⟨p,xs,_,_,rfl,s2,h2,t2,n2,by lia,b2.mono (by lia),fun π rN=>?_,fun z=>by
    rw[x2 z,if_neg (by lia),List.take_add_one,eg,List.map_append]
    exact(oi _ _).symm⟩;rw[d2 π rN];constructor
   ·rintro(⟨k,g',z1,z2,z3⟩|z)
    ·exact⟨k,g',by lia,z2,z3⟩
    ·exact⟨i,g,by lia,eg,z.2⟩
   ·rintro⟨k,g',z1,z2,z3⟩;by_cases hk:k<i
    ·exact .inl ⟨k,g',hk,z2,z3⟩
    ·have:k=i:=by lia
     subst this;rw[eg] at z2;injection z2 with z2;subst z2;exact .inr ⟨xw,z3⟩
 ·rintro σ H' ⟨p,xs,r3,r4,rfl,s1,h1,t1,n1,l1,b1,d1,x1⟩;walk_at "sf";refine q p xs H' s1 h1 t1 n1 (by lia) (b1.mono (by lia)) (fun π rN=>?_) (fun z=>by
   have:=x1 z
   rw[hlen,List.take_length] at this
   exact this);rw[d1 π rN];constructor
  ·rintro⟨k,g,_,z2,z3⟩;exact pY (List.mem_map.mpr ⟨g,List.mem_of_getElem? z2,rfl⟩) z3
  ·intro z;obtain⟨y,hy,hd⟩:=kP rN _ z;obtain⟨g,hg,rfl⟩:=List.mem_map.mp hy;obtain⟨k,hk,ek⟩:=List.getElem_of_mem hg;exact⟨k,g,by lia,by rw[List.getElem?_eq_getElem hk,ek],hd⟩
end
end eQ
namespace eQ
open PySem PyProof.Rows L2 SF SF.Po
theorem uk{t u:Int}(hu:0<u)(xs:List Int):sg (hv t u xs)=bA (at' (Re.q ((t:Rat)/(u:Rat))) (ao xs)):=Ib hu xs
section
variable {P:Program} {w:World} {K:PySem.W.Frag} {mg:Str->Option Value} {base:Heap}
end
end eQ
namespace eQ
open PySem PyProof.Rows L2 SF SF.Po
theorem oj{xs:List Int}(tx:Tr xs)(h:DZ (ao xs) (ao xs))(x:Re):¬(at' x (ao xs)=0/\at' x (aR (ao xs))=0):=by
 have gc:=cT (xs:=xs) (ys:=bT xs) (.inl h.pr.ne);have o1:ao [1]=1:=Po.ext fun i=>by
  rw[aX,m_];cases i with
  |zero=>rfl
  |succ i=>rfl
 rw[vA tx h,o1] at gc;obtain⟨bu,bv,ba,pC,LC⟩:=gc.bz;have BG:bu*ao xs+bv*ao (bT xs)=Po.K ba:=by rw[LC];grind
 rw[<-eC];exact pN pC BG
theorem lr:∀{gs:List (List Int)},(∀g∈gs,Tr g)->gs.Nodup->(gs.map ao).Nodup
 |[],_,_=>List.nodup_nil
 |g::r,h,n=>by
  rw[List.nodup_cons] at n;rw[List.map_cons,List.nodup_cons];refine⟨fun z=>?_,lr (fun x hx=>h x (List.mem_cons_of_mem _ hx)) n.2⟩;obtain⟨y,hy,e⟩:=List.mem_map.mp z;have:=gT (h y (List.mem_cons_of_mem _ hy)) (h g List.mem_cons_self) e;rw[this] at hy;exact n.1 hy
structure Of(gs:List (List Int))(xs:List Int):Prop where
 jN:∀g∈gs,kQ g/\Ab 8 g
 nd:gs.Nodup
 zC:gs.length<=4
 tr:Tr xs
 ne:xs≠[]
 dv:∀π,jy π->(Po.D π (ao xs)↔Po.D π (aO (gs.map ao)))
theorem Of.fk{gs:List (List Int)}{xs:List Int}(h:Of gs xs):∀g∈gs.map ao,Fk g:=fun g hg=>by
 obtain⟨y,hy,rfl⟩:=List.mem_map.mp hg;exact(h.jN y hy).1.fk
theorem Of.sf{gs:List (List Int)}{xs:List Int}(h:Of gs xs):kN xs=gE gs:=by
 obtain⟨a1,a2,a3,a4,a5⟩:=ff h.jN;refine gT (HC _) a1 ?_;rw[a5];exact vJ h.tr h.ne h.fk (lr (fun g hg=>(h.jN g hg).1.tr.1) h.nd) h.dv
theorem Of.pre{gs:List (List Int)}{xs:List Int}(h:Of gs xs):wc (kN xs):=by
 obtain⟨a1,a2,a3,a4,a5⟩:=ff h.jN;have:=h.zC;rw[h.sf];refine⟨a1,a2,by lia,a4.mono (by lia),?_⟩;rw[a5];exact tJ h.fk (lr (fun g hg=>(h.jN g hg).1.tr.1) h.nd)
theorem fY{t u:Int}(hu:0<u)(ps:List (List Int)):d0 (Re.q ((t:Rat)/(u:Rat))) (ps.map ao)=dZ t u ps:=by
 unfold d0 dZ;rw[List.map_map];exact List.map_congr_left fun p _=>(uk hu p).symm
theorem Of.count{gs:List (List Int)}{xs:List Int}(h:Of gs xs){ps:List (List Int)}(hp:EA (kN xs) ps){t u t' u':Int}(hu:0<u)(fq:0<u')(hle:(t:Rat)/(u:Rat)<=(t':Rat)/(u':Rat)):
 ((cg 0 (dZ t u ps):Nat):Int)-((cg 0 (dZ t' u' ps):Nat):Int)=oG gs ((t':Rat)/(u':Rat))-oG gs ((t:Rat)/(u:Rat)):=by
 obtain⟨pt,pn,pl,pa,Iz⟩:=h.pre;have JN:=h.sf;obtain⟨a1,a2,a3,a4,a5⟩:=ff h.jN;by_cases h2:2<=(kN xs).length
 ·obtain⟨rest,er⟩:=hp.shape;have hc:=hp.HV h2;have em:ps.map ao=ao (kN xs)::aR (ao (kN xs))::rest.map ao:=by
   rw[er,List.map_cons,List.map_cons,eC]
  rw[em] at hc;have hz:=oj pt Iz;have e5:ao (kN xs)=aO (gs.map ao):=by rw[JN,a5]
  have hN:=pP gs (fun g hg=>(h.jN g hg).1) (fun x=>by rw[<-e5];exact hz x);have:=Lq (N:=oG gs) hc (fun x z w=>hz x ⟨z,w⟩) (fun x=>by rw[e5];exact hN x) hle;rw[<-em,fY hu,fY fq] at this;lia
 ·have l1:(kN xs).length=1:=by have:=List.length_pos_iff.mpr pn;lia
  have hg:gs=[]:=by
   cases gs with
   |nil=>rfl
   |cons g r=>
    exfalso;have f:=(h.jN g List.mem_cons_self).1.tr;obtain⟨b1,b2,b3,b4,b5⟩:=ff (gs:=r) fun x hx=>h.jN x (List.mem_cons_of_mem _ hx);rw[JN,show gE (g::r)=mulL g (gE r) from rfl,kq f.2.1 b2] at l1;have:=List.length_pos_iff.mpr b2;lia
  subst hg;have e1:kN xs=[1]:=JN;have e2:=hp.one l1;rw[e1] at e2;rw[e2];have e3:∀a b:Int,dZ a b [[1],[]]=[1,0]:=fun a b=>by
   have h1:hv a b [1]=1:=by simp[hv,ax,co]
   have h2:hv a b []=0:=by simp[hv,ax,co]
   show[sg (hv a b [1]),sg (hv a b [])]=_;rw[h1,h2];rfl
  rw[e3,e3];show _=(0:Int)-0;lia
theorem Wc{π f:Po}{a:Int}(ha:a≠0):Po.D π (Po.K a*f)↔Po.D π f:=⟨fun z=>z.xq ha,fun z=>z.mulL _⟩
end eQ
namespace eQ
open PySem PyProof.Rows L2 SF SF.Po
noncomputable def Rt(H:Hp)(g:Addr)(t u:Int):Prop:=H g=some (.tup [.int t,.int u])/\0<u/\Int.gcd t u=1
theorem Rt.same{H H':Hp}{g:Addr}{t u:Int}(h:Rt H g t u)(s:av H H'):Rt H' g t u:=⟨s _ _ h.1,h.2⟩
noncomputable def Cq:Sp:=fun vs H Q _=>∃(a b:Int)(n:Nat),vs=[.int a,.int b]/\Bd n a/\Bd n b/\n<=1000000/\0<b/\∀(p:Addr)(t u:Int),H p=none->Bd n t->Bd n u->0<u->Int.gcd t u=1->t*b=a*u->Q (.ref p) (upd H p (.tup [.int t,.int u]))
noncomputable def F':Sp:=fun vs H Q _=>∃(g h:Addr)(t u t' u':Int)(n:Nat),vs=[.ref g,.ref h]/\H g=some (.tup [.int t,.int u])/\H h=some (.tup [.int t',.int u'])/\(Bd n t/\Bd n u/\Bd n t'/\Bd n u')/\n<=100000/\0<u/\0<u'/\
 ∀(p:Addr)(c d:Int),H p=none->0<d->Int.gcd c d=1->c*(2*u*u')=(t*u'+t'*u)*d->Q (.ref p) (upd H p (.tup [.int c,.int d]))
noncomputable def Ga(xs:List Int)(r:Int):Prop:=∀k,k<xs.length-1->ab (co xs (xs.length-2-k))<=ab (co xs (xs.length-1))*r^(k+1)
noncomputable def IA(xs:List Int):Prop:=Tr xs/\xs≠[]/\xs.length<=13/\Ab 100 xs
noncomputable def uo:Sp:=fun vs H Q _=>∃(a:Addr)(xs:List Int)(r:Int),vs=[.ref a,.int r]/\IL H a xs/\IA xs/\Bd 110 r/\(Ga xs r->∀H',av H H'->Q (.bl true) H')/\(¬Ga xs r->∀H',av H H'->Q (.bl false) H')
noncomputable def yj:Sp:=fun vs H Q _=>∃(a:Addr)(xs:List Int),vs=[.ref a]/\IL H a xs/\IA xs/\∀(r:Int)(H':Hp),av H H'->0<r->r<=2^100->Ga xs r->(∃j:Nat,r=2^j/\∀i,i<j->¬Ga xs (2^i))->Q (.int (2*r)) H'
structure Ends(xs:List Int)(o b t u t' u':Int):Prop where
 odd:Int.gcd o 2=1
 three:3<=o
 nd:¬o∣co xs (xs.length-1)
 bo:Bd 102 o
 bb:0<b/\b<=2^102
 QD:∃r,0<r/\b=2*r+1/\Ga xs r/\∃j:Nat,r=2^j/\∀i,i<j->¬Ga xs (2^i)
 lo:t*o=(1-o*b)*u
 hi:t'*o=(1+o*b)*u'
 least:∀k,3<=k->k<o->Int.gcd k 2=1->k∣co xs (xs.length-1)
theorem yk{o:Int}(h:Int.gcd o 2=1):o%2=1:=by
 rcases Int.emod_two_eq o with z|z
 ·exfalso;have:=Int.dvd_coe_gcd (Int.dvd_of_emod_eq_zero z) (Int.dvd_refl 2);rw[h] at this;exact absurd this (by decide)
 ·exact z
theorem Ends.uniq{xs:List Int}{o b t u t' u' o2 b2 t2 u2 EE C9:Int}(h:Ends xs o b t u t' u')(k:Ends xs o2 b2 t2 u2 EE C9)(hu:0<u)(fq:0<u')(ku:0<u2)(Wd:0<C9)(g:Int.gcd t u=1)(g':Int.gcd t' u'=1)(g2:Int.gcd t2 u2=1)(We:Int.gcd EE C9=1):
 t=t2/\u=u2/\t'=EE/\u'=C9:=by
 have eo:o=o2:=by
  rcases Int.lt_trichotomy o o2 with z|z|z
  ·exact absurd (k.least o h.three z h.odd) h.nd
  ·exact z
  ·exact absurd (h.least o2 k.three z k.odd) k.nd
 subst eo;obtain⟨r,_,er,W,j,ej,nj⟩:=h.QD;obtain⟨r2,_,Wf,W2,j2,SK,Wg⟩:=k.QD;have Wh:j=j2:=by
  rcases Nat.lt_trichotomy j j2 with z|z|z
  ·exact absurd (by rw[ej] at W;exact W) (Wg j z)
  ·exact z
  ·exact absurd (by rw[SK] at W2;exact W2) (nj j2 z)
 have eb:b=b2:=by rw[er,Wf,ej,SK,Wh]
 subst eb;have ho:o≠0:=by have:=h.three;lia
 have a1:t*u2=t2*u:=Int.eq_of_mul_eq_mul_right ho (by
  have e1:t*u2*o=t*o*u2:=by grind
  have e2:t2*u*o=t2*o*u:=by grind
  rw[e1,e2,h.lo,k.lo];grind);have a2:t'*C9=EE*u':=Int.eq_of_mul_eq_mul_right ho (by
  have e1:t'*C9*o=t'*o*C9:=by grind
  have e2:EE*u'*o=EE*o*u':=by grind
  rw[e1,e2,h.hi,k.hi];grind);obtain⟨e1,e2⟩:=kd hu ku g g2 a1;obtain⟨e3,e4⟩:=kd fq Wd g' We a2;exact⟨e1,e2,e3,e4⟩
noncomputable def uq:Sp:=fun vs H Q _=>∃(a:Addr)(xs:List Int),vs=[.ref a]/\IL H a xs/\IA xs/\∀(p g h:Addr)(o b t u t' u':Int)(H':Hp),av H H'->H' p=some (.tup [.ref g,.ref h])->Rt H' g t u->Rt H' h t' u'->Ends xs o b t u t' u'->Q (.ref p) H'
noncomputable def Cr:Sp:=fun vs H Q _=>∃(c g:Addr)(as:List Addr)(ps:List (List Int))(t u:Int)(p:Nat),vs=[.ref c,.ref g]/\H c=some (.lst (as.map V.ref))/\jK H as ps/\H g=some (.tup [.int t,.int u])/\
 ((∀q∈ps,q.length<=13/\Ab BM q)/\ps.length<=60/\Bd p t/\Bd p u/\p<=30000)/\∀(m:Addr)(H':Hp),av H H'->H' m=some (.tup [.ref g,.int ((cg 0 (dZ t u ps):Nat):Int)])->Q (.ref m) H'
section
variable {P:Program} {w:World} {K:PySem.W.Frag} {mg:Str->Option Value} {base:Heap}
theorem Cs(hT:P.given.tree=none)(cO:cb P w K mg base 33 "common_divisor" ["one","other"] x5)(D:aN K mg "ratio" qS ["top","under"]):cb P w K mg base 34 "ratio" ["top","under"] Cq:=by
 refine D.ok nR (fun vs H Q E h=>?_) (fun f cq A outer s H vs Q E hr h=>?_)
 ·obtain⟨a,b,n,rfl,_⟩:=h;rfl
 obtain⟨a,b,n,rfl,ha,hb,hn,O_,q⟩:=h;have hg:0<Int.gcd a b:=Int.gcd_pos_of_ne_zero_right a (by lia);have Ck:((Int.gcd a b:Nat):Int)≠0:=by lia
 refine⟨_,(ae (bM (aG jr (pv 1) ah (aI _))
  (aj rS)
  aS)
  (ae (ar (i:=2) nR.nd rfl (Or.inl rfl) (aJ cO hr (aa (pv 0) (aa (pv 1) af))))
  (ae (bM (aG jR (pv 1) ah (aI _))
  (aj (ar (i:=2) nR.nd rfl (Or.inl rfl) (dH cC (pv 2))))
  aS)
  (aj (aC (iC (aa (ak (fK ⟨hT,⟨_,_,rfl,rfl,rfl,rfl,rfl⟩,hr.py⟩) (pv 0) (pv 2)) (aa (ak (fK ⟨hT,⟨_,_,rfl,rfl,rfl,rfl,rfl⟩,hr.py⟩) (pv 1) (pv 2)) af)))))))),?_⟩;walk_at "sf";rw[if_neg (by simp;lia)];walk_at "sf";refine⟨_,_,rfl,?_⟩;walk_at "sf";rw[if_neg (by simp;lia)];walk_at "sf";refine cB Ck ?_;walk_at "sf";refine cB Ck ?_;walk_at "sf";intro p hp;have e1:=fG (Int.gcd_dvd_left (a:=a) (b:=b));have e2:=fG (Int.gcd_dvd_right (a:=a) (b:=b));refine q p _ _ hp (mF (Int.gcd_dvd_left ..) Ck ha) (mF (Int.gcd_dvd_right ..) Ck hb) ?_ ?_ ?_
 ·have zW:(0:Int)<((Int.gcd a b:Nat):Int):=by lia
  rcases Int.lt_or_le 0 (b.fdiv ((Int.gcd a b:Nat):Int)) with z|z
  ·exact z
  ·have:=Int.mul_nonpos_of_nonpos_of_nonneg z (Int.le_of_lt zW);lia
 ·have h3:Int.gcd (a.fdiv ((Int.gcd a b:Nat):Int)*((Int.gcd a b:Nat):Int)) (b.fdiv ((Int.gcd a b:Nat):Int)*((Int.gcd a b:Nat):Int))=Int.gcd (a.fdiv ((Int.gcd a b:Nat):Int)) (b.fdiv ((Int.gcd a b:Nat):Int))*(((Int.gcd a b:Nat):Int)).natAbs:=Int.gcd_mul_right ..;rw[e1,e2,Int.natAbs_natCast] at h3;have h4:1*Int.gcd a b=Int.gcd (a.fdiv ((Int.gcd a b:Nat):Int)) (b.fdiv ((Int.gcd a b:Nat):Int))*Int.gcd a b:=by lia
  exact(Nat.eq_of_mul_eq_mul_right hg h4).symm
 ·generalize a.fdiv ((Int.gcd a b:Nat):Int)=x at*;generalize b.fdiv ((Int.gcd a b:Nat):Int)=y at*;generalize ((Int.gcd a b:Nat):Int)=z at*;rw[<-e1,<-e2];grind
theorem zE(mG:cb P w K mg base 34 "ratio" ["top","under"] Cq)(D:aN K mg "middle" nS ["one","other"]):cb P w K mg base 35 "middle" ["one","other"] F':=by
 refine D.ok zr (fun vs H Q E h=>?_) (fun f cq A outer s H vs Q E hr h=>?_)
 ·obtain⟨g,h,t,u,t',u',n,rfl,_⟩:=h;rfl
 obtain⟨g,h,t,u,t',u',n,rfl,hg,hh,⟨b1,b2,b3,b4⟩,hn,hu,fq,q⟩:=h;have lp:lP=60000000:=rfl;refine⟨_,(aj (aC (aJ mG hr (aa (ak aZ (ak aF (aL bq (pv 0) ah (fun _ _=>rfl)) (aL bq (pv 1) ah (fun _ _=>rfl))) (ak aF (aL bq (pv 1) ah (fun _ _=>rfl)) (aL bq (pv 0) ah (fun _ _=>rfl)))) (aa (ak aF (ak aF ah (aL bq (pv 0) ah (fun _ _=>rfl))) (aL bq (pv 1) ah (fun _ _=>rfl))) af))))),?_⟩;walk_at "sf";refine cu (cJ.of hg) rfl ?_;walk_at "sf";refine cu (cJ.of hh) rfl ?_;refine cB (bC b1 b4 (by lia)) ?_;walk_at "sf";refine cu (cJ.of hh) rfl ?_;walk_at "sf";refine cu (cJ.of hg) rfl ?_;refine cB (bC b3 b2 (by lia)) ?_;walk_at "sf";refine cu (cJ.of hg) rfl ?_;have b22:Bd 3 (2:Int):=Bd.of_two (by decide) (by decide);refine cB (bC b22 b2 (by lia)) ?_;walk_at "sf";refine cu (cJ.of hh) rfl ?_;refine cB (bC (b22.mul b2) b4 (by lia)) ?_;walk_at "sf";have p1:=Int.mul_pos (Int.mul_pos (show(0:Int)<2 by decide) hu) fq;refine⟨_,_,n+n+3,rfl,((b1.mul b4).add (b3.mul b2)).mono (by lia),((b22.mul b2).mul b4).mono (by lia),by lia,p1,fun p c d hp _ _ hd hc e=>?_⟩;walk_at "sf";exact q p c d hp hd hc e
theorem rq(T:Nm mg)(D:aN K mg "is_within" iU ["free","reach"]):cb P w K mg base 1 "is_within" ["free","reach"] uo:=by
 refine D.ok fz (fun vs H Q E h=>?_) (fun f cq A outer s H vs Q E hr h=>?_)
 ·obtain⟨a,xs,r,rfl,_⟩:=h;rfl
 obtain⟨a,xs,r,rfl,ha,⟨tx,d8,hx,bx⟩,br,qt,qf⟩:=h;have lp:lP=60000000:=rfl;have gz:=List.length_pos_iff.mpr d8;refine⟨_,(ae (ar (i:=2) fz.nd rfl (Or.inl rfl) (aw d9 rfl T.kl boot_abs (aa (aL aP (pv 0) (dH cC ah) (fun _ _=>rfl)) af)))
  (ae (dm PassesOwn.never rfl (vf rfl T.ie (aa (jS mi (pv 0) md (me (dH cC ah))) af)) (aT (i:=3) fz.nd rfl (Or.inl rfl))
  (ae (ar (i:=2) fz.nd rfl (Or.inl rfl) (ak aF (pv 2) (pv 1)))
  (aj (bM (aG fb (aw d9 rfl T.kl boot_abs (aa (pv 3) af)) (pv 2) (aI _))
  (aj (aC gj))
  aS))))
  (aj (aC gj)))),?_⟩;walk_at "sf";refine bP (aM.of ha) (fW d8) ?_;walk_at "sf";refine⟨_,rfl,?_⟩;walk_at "sf";refine⟨_,rfl,?_⟩;refine⟨a,_,rfl,aM.of ha,fun p5 Mh=>?_⟩;have e5:gp (xs.map V.int) none (some (-1))=xs.dropLast.map V.int:=tV xs;have s5:=av.new Mh (.lst (gp (xs.map V.int) none (some (-1))));have h5:IL (upd H p5 (.lst (gp (xs.map V.int) none (some (-1))))) p5 xs.dropLast:=by show upd _ p5 _ p5=_;rw[ai,e5]
 generalize upd H p5 (.lst (gp (xs.map V.int) none (some (-1))))=H5 at h5 s5 ⊢;walk_at "sf";refine⟨p5,_,rfl,aM.of h5,?_⟩;have Iw:(if co xs (xs.length-1)<0 then -co xs (xs.length-1) else co xs (xs.length-1))=ab (co xs (xs.length-1)):=by unfold ab;split<;>lia
 rw[Iw];have ld:xs.dropLast.length=xs.length-1:=List.length_dropLast;have cd:∀j,j<xs.length-1->co xs.dropLast j=co xs j:=fun j hj=>by rw[List.dropLast_eq_take,gO,if_pos hj]
 have bl:Bd 100 (ab (co xs (xs.length-1))):=by
  have:=bx.co (xs.length-1);unfold Bd at*;unfold ab;lia
 refine qu (xs:=xs.dropLast.map V.int) (fun i σ H'=>(∃z,σ=[some (.ref a),some (.int r),some (.int (ab (co xs (xs.length-1))*r^i)),z])/\H'=H5/\∀k,k<i->ab (co xs (xs.length-2-k))<=ab (co xs (xs.length-1))*r^(k+1))
  ⟨⟨_,by rw[Int.pow_zero,Int.mul_one];rfl⟩,rfl,fun k hk=>absurd hk (Nat.not_lt_zero _)⟩ (fun i σ H' _ z=>by rw[z.2.1];exact aM.of h5) ?_ ?_
 ·rintro i x σ H' hi C6 ⟨⟨z,rfl⟩,rfl,jU⟩;rw[List.length_map] at hi C6;obtain⟨FV,rfl⟩:=ll C6;have ei:xs.dropLast.length-1-i=xs.length-2-i:=by lia
  rw[ei,cd _ (by lia)];have JB:=Bd.pow br i;have Wi:110*i<=110*12:=Nat.mul_le_mul_left _ (by lia);walk_at "sf";refine cB (bC (bl.mul JB) br (by lia)) ?_;walk_at "sf";refine⟨_,rfl,?_⟩;walk_at "sf";have Wj:(if co xs (xs.length-2-i)<0 then -co xs (xs.length-2-i) else co xs (xs.length-2-i))=ab (co xs (xs.length-2-i)):=by unfold ab;split<;>lia
  rw[Wj];have ep:ab (co xs (xs.length-1))*r^i*r=ab (co xs (xs.length-1))*r^(i+1):=by rw[Int.mul_assoc,<-Int.pow_succ]
  rw[ep];refine eM (fun c=>?_) (fun c=>?_)
  ·have eL:ab (co xs (xs.length-1))*r^(i+1)<ab (co xs (xs.length-2-i)):=by simpa using c
   walk_at "sf";refine qf (fun W=>?_) H' s5;have:=W i (by lia);lia
  ·have hle:ab (co xs (xs.length-2-i))<=ab (co xs (xs.length-1))*r^(i+1):=by simpa using c
   walk_at "sf";refine⟨⟨_,rfl⟩,rfl,fun k hk=>?_⟩;by_cases Wk:k<i
   ·exact jU k Wk
   ·have:k=i:=by lia
    subst this;exact hle
 ·rintro σ H' ⟨⟨z,rfl⟩,rfl,jU⟩;walk_at "sf";refine qt (fun k hk=>jU k ?_) H' s5;rw[List.length_map,ld];exact hk
theorem IB{xs:List Int}(tx:Tr xs)(d8:xs≠[])(bx:Ab 100 xs):Ga xs (2^100):=fun k hk=>by
 have h1:=bx.co (xs.length-2-k);have h2:=iL (tx.last d8);have h3:(1:Int)<=(2^100)^k:=by
  rw[<-Int.pow_mul];exact Int.add_one_le_of_lt (Int.pow_pos (by decide))
 rw[Int.pow_succ];have h4:(2:Int)^100<=(2^100)^k*2^100:=by
  have:=Int.mul_le_mul_of_nonneg_right h3 (show(0:Int)<=2^100 by decide);lia
 have h5:(2^100)^k*2^100<=ab (co xs (xs.length-1))*((2^100)^k*2^100):=by
  have:=Int.mul_le_mul_of_nonneg_right (show(1:Int)<=ab (co xs (xs.length-1)) by lia) (show(0:Int)<=(2^100)^k*2^100 by lia);lia
 unfold Bd at h1;unfold ab at h5 ⊢;lia
theorem ur(uv:cb P w K mg base 1 "is_within" ["free","reach"] uo)(D:aN K mg "bound_of" jG ["free"]):cb P w K mg base 2 "bound_of" ["free"] yj:=by
 refine D.ok iV (fun vs H Q E h=>?_) (fun f cq A outer s H vs Q E hr h=>?_)
 ·obtain⟨a,xs,rfl,_⟩:=h;rfl
 obtain⟨a,xs,rfl,ha,hp,q⟩:=h;have lp:lP=60000000:=rfl;have b22:Bd 3 (2:Int):=Bd.of_two (by decide) (by decide);refine⟨_,(ae (ar (i:=1) iV.nd rfl (Or.inl rfl) ah)
  (ae (dj PassesOwn.never (iz (jx (aJ uv hr (aa (pv 0) (aa (pv 1) af)))))
  (aj (ar (i:=1) iV.nd rfl (Or.inl rfl) (ak aF ah (pv 1)))))
  (aj (aC (ak aF ah (pv 1)))))),?_⟩;walk_at "sf";refine cW (fun m σ H'=>∃j:Nat,m=100-j/\j<=100/\σ=[some (.ref a),some (.int ((2:Int)^j))]/\av H H'/\∀i,i<j->¬Ga xs (2^i)) ⟨_,0,rfl,by decide,rfl,av.refl _,fun i hi=>absurd hi (Nat.not_lt_zero i)⟩ ?_;rintro m σ H1 ⟨j,rfl,hj,rfl,s1,DU⟩;have bj:Bd (j+1) ((2:Int)^j):=by
  unfold Bd;rw[Int.natAbs_pow];exact Nat.pow_lt_pow_right (by decide) (by lia)
 walk_at "sf";refine⟨a,xs,_,rfl,s1 _ _ ha,hp,bj.mono (by lia),fun W H2 s2=>?_,fun W H2 s2=>?_⟩
 ·walk_at "sf";rw[if_neg (by decide)];walk_at "sf";refine cB (bC b22 bj (by lia)) ?_;walk_at "sf";refine q _ H2 (s1.trans s2) (Int.pow_pos (by decide)) ?_ W ⟨j,rfl,DU⟩;have e1:((2^j:Nat):Int)<=((2^100:Nat):Int):=Int.ofNat_le.mpr (Nat.pow_le_pow_right (by decide) hj);rw[Int.natCast_pow,Int.natCast_pow] at e1;exact e1
 ·have QC:j≠100:=fun z=>by
   subst z;exact W (IB hp.1 hp.2.1 hp.2.2.2)
  walk_at "sf";rw[if_pos (by decide)];refine⟨_,fun bE H' h=>h,?_⟩;walk_at "sf";refine cB (bC b22 bj (by lia)) ?_;walk_at "sf";exact⟨_,by lia,j+1,rfl,by lia,by rw[Int.pow_succ,Int.mul_comm];rfl,s1.trans s2,fun i hi=>by
   rcases Nat.lt_or_ge i j with z|z
   ·exact DU i z
   ·have e:i=j:=by lia
    rw[e];exact W⟩
theorem jL(T:Nm mg)(wo:cb P w K mg base 34 "bound_of" ["free"] yj)(mG:cb P w K mg base 34 "ratio" ["top","under"] Cq)(D:aN K mg "pair_around_all" eE ["free"]):cb P w K mg base 35 "pair_around_all" ["free"] uq:=by
 refine D.ok cU (fun vs H Q E h=>?_) (fun f cq A outer s H vs Q E hr h=>?_)
 ·obtain⟨a,xs,rfl,_⟩:=h;rfl
 obtain⟨a,xs,rfl,ha,hp,q⟩:=h;obtain⟨tx,d8,hx,bx⟩:=id hp;have lp:lP=60000000:=rfl;have vC:=tx.last d8;have bl:=bx.co (xs.length-1);generalize hle:co xs (xs.length-1)=l at vC bl;have b1:Bd 100 ((ab l:Int)):=by
  unfold Bd at*;unfold ab;lia
 refine⟨_,(ae (ar (i:=1) cU.nd rfl (Or.inl rfl) ah)
  (ae (dj PassesOwn.never (aG jr (ak bL (aL aP (pv 0) (dH cC ah) (fun _ _=>rfl)) (pv 1)) ah (aI _))
  (aj (ar (i:=1) cU.nd rfl (Or.inl rfl) (ak aZ (pv 1) ah))))
  (ae (ar (i:=2) cU.nd rfl (Or.inl rfl) (ak aZ (aJ wo hr (aa (pv 0) af)) ah))
  (aj (aC (iC (aa (aJ mG hr (aa (ak bB ah (ak aF (pv 1) (pv 2))) (aa (pv 1) af))) (aa (aJ mG hr (aa (ak aZ ah (ak aF (pv 1) (pv 2))) (aa (pv 1) af))) af)))))))),?_⟩;walk_at "sf";refine cW (fun m σ H'=>∃o:Int,m=(ab l+3-o).toNat/\Int.gcd o 2=1/\3<=o/\o<=ab l+2/\σ=[some (.ref a),some (.int o),none]/\H'=H/\∀k,3<=k->k<o->Int.gcd k 2=1->k∣l) ⟨_,3,rfl,by decide,by decide,?_,rfl,rfl,fun k h1 h2 _=>by lia⟩ ?_
 ·have:=iL vC;lia
 rintro m σ H' ⟨o,rfl,ho,h3,Ys,rfl,rfl,Mq⟩;have bo:Bd 102 o:=by
  unfold Bd at*;unfold ab at*;lia
 walk_at "sf";refine bP (aM.of ha) (fW d8) ?_;rw[hle];walk_at "sf";refine cB (by lia) ?_;walk_at "sf";have ef:l.fmod o=l%o:=dr (by lia);rw[ef];refine eM (fun c=>?_) (fun c=>?_)
 ·have hz:l%o=0:=by simpa using c
  have hd:o∣l:=Int.dvd_of_emod_eq_zero hz;have IC:o<=ab l:=by
   have:=Int.le_of_dvd (iL vC) (by unfold ab;exact Int.dvd_natAbs.mpr hd);exact this
  refine⟨_,fun bE H' h=>h,?_⟩;walk_at "sf";refine⟨_,?_,o+2,rfl,?_,by lia,by lia,rfl,rfl,fun k k1 k2 k3=>?_⟩
  ·lia
  ·rw[<-ho,Int.gcd_add_right_left_of_dvd o (Int.dvd_refl 2)]
  ·have m1:=yk ho;have m2:=yk k3;rcases Int.lt_trichotomy k o with z|z|z
   ·exact Mq k k1 z k3
   ·rw[z];exact hd
   ·lia
 ·have hz:¬l%o=0:=by simpa using c
  have Wl:¬o∣l:=fun z=>hz (Int.emod_eq_zero_of_dvd z);walk_at "sf";refine⟨a,xs,rfl,ha,hp,fun r H1 s1 FX Jv W hj=>?_⟩;walk_at "sf";have bb:Bd 103 (2*r+1):=by unfold Bd;lia
  generalize hb:2*r+1=b at bb;have Wm:0<b/\b<=2^102:=by lia
  refine cB (bC bo bb (by lia)) ?_;walk_at "sf";have SM:=bo.mul bb;have Mr:Bd (102+103) (1:Int):=Bd.mono (m:=1) (by show(1:Int).natAbs<2^1;decide) (by decide);refine⟨_,_,210,rfl,(Mr.sub SM).mono (by decide),bo.mono (by decide),by decide,by lia,fun p1 t u lY _ _ hu hg e1=>?_⟩;walk_at "sf";refine cB (bC bo bb (by lia)) ?_;walk_at "sf";have s2:=av.new lY (.tup [.int t,.int u]);have h1:upd H1 p1 (.tup [.int t,.int u]) p1=some (.tup [.int t,.int u]):=ai;generalize upd H1 p1 (.tup [.int t,.int u])=H2 at s2 h1 ⊢;refine⟨_,_,210,rfl,(Mr.add SM).mono (by decide),bo.mono (by decide),by decide,by lia,fun p2 t' u' nk _ _ fq Dw e2=>?_⟩;walk_at "sf";have s3:=av.new nk (.tup [.int t',.int u']);have h2:upd H2 p2 (.tup [.int t',.int u']) p2=some (.tup [.int t',.int u']):=ai;generalize upd H2 p2 (.tup [.int t',.int u'])=H3 at s3 h2 ⊢;intro p3 L6;have s4:=av.new L6 (.tup [.ref p1,.ref p2]);refine q p3 p1 p2 o b t u t' u' _ (s1.trans (s2.trans (s3.trans s4))) ai ⟨s4 _ _ (s3 _ _ h1),hu,hg⟩ ⟨s4 _ _ h2,fq,Dw⟩ ⟨ho,h3,by rw[hle];exact Wl,bo,Wm,⟨r,FX,hb.symm,W,hj⟩,e1,e2,by rw[hle];exact Mq⟩
theorem zF(rz:cb P w K mg base 3 "changes_at" ["chain","given"] F7)(D:aN K mg "marked" nW ["chain","given"]):cb P w K mg base 4 "marked" ["chain","given"] Cr:=by
 refine D.ok zu (fun vs H Q E h=>?_) (fun f cq A outer s H vs Q E hr h=>?_)
 ·obtain⟨c,g,as,ps,t,u,p,rfl,_⟩:=h;rfl
 obtain⟨c,g,as,ps,t,u,p,rfl,hc,hi,hg,hh,q⟩:=h;refine⟨_,(aj (aC (iC (aa (pv 1) (aa (aJ rz hr (aa (pv 0) (aa (pv 1) af))) af))))),?_⟩;walk_at "sf";refine⟨c,g,as,ps,t,u,p,rfl,hc,hi,hg,hh,fun H1 s1=>?_⟩;walk_at "sf";intro m hm;exact q m _ (s1.trans (av.new hm _)) ai
end
end eQ
namespace eQ
open PySem PyProof.Rows L2 SF SF.Po
theorem i_{a b c:Rat}(hc:0<c):a*c<=b*c↔a<=b:=by
 have:=Rat.mul_lt_mul_right (a:=b) (b:=a) hc;constructor
 ·intro h;by_cases z:a<=b
  ·exact z
  ·have z2:=this.mpr (by grind);grind
 ·intro h;by_cases z:a*c<=b*c
  ·exact z
  ·have z2:=this.mp (by grind);grind
theorem Ct{t u t' u':Int}(hu:0<u)(fq:0<u'):((t:Rat)/(u:Rat)<=(t':Rat)/(u':Rat))↔t*u'<=t'*u:=by
 have h1:(0:Rat)<(u:Rat):=Rat.intCast_pos.mpr hu;have h2:(0:Rat)<(u':Rat):=Rat.intCast_pos.mpr fq;rw[<-Rat.intCast_le_intCast,Rat.intCast_mul,Rat.intCast_mul];have e1:(t:Rat)/(u:Rat)*(u:Rat)=(t:Rat):=Rat.div_mul_cancel (by grind);have e2:(t':Rat)/(u':Rat)*(u':Rat)=(t':Rat):=Rat.div_mul_cancel (by grind);generalize (t:Rat)/(u:Rat)=x at*;generalize (t':Rat)/(u':Rat)=y at*;rw[<-e1,<-e2];have hp:=Rat.mul_pos h1 h2;have g1:x*(u:Rat)*(u':Rat)=x*((u:Rat)*(u':Rat)):=by grind
 have g2:y*(u':Rat)*(u:Rat)=y*((u:Rat)*(u':Rat)):=by grind
 rw[g1,g2];exact(i_ hp).symm
theorem EA.mono{xs:List Int}{ps:List (List Int)}(h:EA xs ps)(hp:wc xs){t u t' u':Int}(hu:0<u)(fq:0<u')(hle:(t:Rat)/(u:Rat)<=(t':Rat)/(u':Rat)):cg 0 (dZ t' u' ps)<=cg 0 (dZ t u ps):=by
 obtain⟨pt,pn,pl,pa,Iz⟩:=hp;by_cases h2:2<=xs.length
 ·obtain⟨rest,er⟩:=h.shape;have hc:=h.HV h2;have em:ps.map ao=ao xs::aR (ao xs)::rest.map ao:=by rw[er,List.map_cons,List.map_cons,eC]
  rw[em] at hc;have hz:=oj pt Iz;have:=BB hc (fun x z w=>hz x ⟨z,w⟩) hle;rw[<-em,fY hu,fY fq] at this;exact this
 ·have l1:xs.length=1:=by have:=List.length_pos_iff.mpr pn;lia
  have e2:=h.one l1
  match xs,l1 with
  |[c],_=>
   rw[e2];have e3:∀a b:Int,dZ a b [[c],[]]=[sg c,0]:=fun a b=>by
    have h1:hv a b [c]=c:=by simp[hv,ax,co]
    have h2:hv a b []=0:=by simp[hv,ax,co]
    show[sg (hv a b [c]),sg (hv a b [])]=_;rw[h1,h2];rfl
   rw[e3,e3];exact Nat.le_refl _
theorem EA.short{xs:List Int}{ps:List (List Int)}(h:EA xs ps)(hp:wc xs){o b:Int}{k:Nat}{m t u t' u':Int}(ho:0<o)(hb:0<b/\b<=2^102)(hu:0<u)(fq:0<u')(p1:Pt o k m t u)(p2:Pt o k (m+2*b) t' u')(m1:-(b*2^k)<=m)(m2:m+2*b<=b*2^k)(hk:5700<=k):
 cg 0 (dZ t u ps)<=cg 0 (dZ t' u' ps)+1:=by
 obtain⟨pt,pn,pl,pa,Iz⟩:=id hp;have v1:=p1.val ho hu;have v2:=p2.val ho fq;have hz:(0:Rat)<2^k:=Rat.pow_pos (by grind);have Aa:(0:Rat)<(o:Rat):=Rat.intCast_pos.mpr ho;have QE:(1:Rat)/(o:Rat)<=1/\0<(1:Rat)/(o:Rat):=by
  have:(1:Rat)<=(o:Rat):=Rat.intCast_le_intCast (a:=1).mpr (by lia);refine⟨?_,RR.vF (by grind) Aa⟩;have e:(1:Rat)/(o:Rat)*(o:Rat)=1:=Rat.div_mul_cancel (by grind);generalize (1:Rat)/(o:Rat)=z at*;by_cases c:z<=1
  ·exact c
  ·exfalso;have c2:0<(z-1)*(o:Rat):=Rat.mul_pos (by grind) Aa;grind
 have Wn:(0:Rat)<(b:Rat):=Rat.intCast_pos.mpr hb.1;have Fs:(b:Rat)<=2^102:=by
  have:(b:Rat)<=((2^102:Int):Rat):=Rat.intCast_le_intCast.mpr hb.2;rw[Rat.intCast_pow] at this;exact this
 have Lh:(((m+2*b:Int)):Rat)=(m:Rat)+2*(b:Rat):=by rw[Rat.intCast_add,Rat.intCast_mul];rfl
 rw[Lh] at v2;have Yt:-((b:Rat)*2^k)<=(m:Rat):=by
  have:=Rat.intCast_le_intCast.mpr m1;rw[Rat.intCast_neg,Rat.intCast_mul,Rat.intCast_pow] at this;exact this
 have Yu:(m:Rat)+2*(b:Rat)<=(b:Rat)*2^k:=by
  have:=Rat.intCast_le_intCast.mpr m2;rw[Rat.intCast_add,Rat.intCast_mul,Rat.intCast_mul,Rat.intCast_pow] at this;exact this
 have d1:(m:Rat)/2^k*2^k=(m:Rat):=Rat.div_mul_cancel (by grind);have d2:((m:Rat)+2*(b:Rat))/2^k*2^k=(m:Rat)+2*(b:Rat):=Rat.div_mul_cancel (by grind);have w1:(t':Rat)/(u':Rat)-(t:Rat)/(u:Rat)<=1/2^5500:=by
  rw[v1,v2];have d3:(1:Rat)/2^5500*2^5500=1:=Rat.div_mul_cancel (by have:(0:Rat)<2^5500:=Rat.pow_pos (by grind);grind);have ek:(2:Rat)^k=2^5500*2^(k-5500):=by
   rw[<-fO];congr 1;lia
  have g1:(2:Rat)^103<=2^(k-5500):=kT (by grind) (by lia);have g2:(2:Rat)^103=2^102*2:=Rat.pow_succ ..;have p5:(0:Rat)<2^5500:=Rat.pow_pos (by grind);generalize ((m:Rat)+2*(b:Rat))/2^k=y at*;generalize (m:Rat)/2^k=x at*;have key:(y-x)*2^k<=1/2^5500*2^k:=by
   rw[ek];have:(1:Rat)/2^5500*(2^5500*2^(k-5500))=2^(k-5500):=by rw[<-Rat.mul_assoc,d3];grind
   rw[this,<-ek];grind
  have:=(i_ hz).mp key;grind
 have hle:(t:Rat)/(u:Rat)<=(t':Rat)/(u':Rat):=by
  rw[v1,v2];generalize ((m:Rat)+2*(b:Rat))/2^k=y at*;generalize (m:Rat)/2^k=x at*;have key:x*2^k<=y*2^k:=by grind
  have:=(i_ hz).mp key;grind
 have r1:-(2^110)<=(t:Rat)/(u:Rat):=by
  rw[v1];have g:(2:Rat)^102<=2^110:=kT (by grind) (by decide);generalize (m:Rat)/2^k=x at*;have key:-(b:Rat)*2^k<=x*2^k:=by grind
  have:=(i_ hz).mp key;grind
 have r2:(t':Rat)/(u':Rat)<=2^110:=by
  rw[v2];have g:(2:Rat)^103<=2^110:=kT (by grind) (by decide);have g2:(2:Rat)^103=2^102*2:=Rat.pow_succ ..;have g3:(1:Rat)<=2^102:=cQ (by grind) _;generalize ((m:Rat)+2*(b:Rat))/2^k=y at*;have key:y*2^k<=(b:Rat)*2^k:=by grind
  have:=(i_ hz).mp key;grind
 by_cases h2:2<=xs.length
 ·obtain⟨rest,er⟩:=h.shape;have hc:=h.HV h2;have em:ps.map ao=ao xs::aR (ao xs)::rest.map ao:=by rw[er,List.map_cons,List.map_cons,eC]
  rw[em] at hc;have hz:=oj pt Iz;have:=D_ hc (fun x z w=>hz x ⟨z,w⟩) hle fun x y x1 x2 y1 y2 x0 y0=>by
   have q1:Re.q (-(2^110))<=Re.q ((t:Rat)/(u:Rat)):=Re.dI.mpr r1;have q2:Re.q ((t':Rat)/(u':Rat))<=Re.q (2^110):=Re.dI.mpr r2;have q3:Re.q ((t':Rat)/(u':Rat)-(t:Rat)/(u:Rat))<=Re.q (1/2^5500):=Re.dI.mpr w1;rw[Re.nB] at q1;have q4:Re.q ((t':Rat)/(u':Rat)-(t:Rat)/(u:Rat))=Re.q ((t':Rat)/(u':Rat))-Re.q ((t:Rat)/(u:Rat)):=by
    rw[Rat.sub_eq_add_neg,Re.j_,Re.nB];grind
   rw[q4] at q3;refine sep pt h2 pl pa Iz x0 y0 ?_ ?_ ?_
   ·rw[Re.gA];constructor<;>grind
   ·rw[Re.gA];constructor<;>grind
   ·rw[Re.gA];constructor<;>grind
  rw[<-em,fY hu,fY fq] at this;exact this
 ·have l1:xs.length=1:=by have:=List.length_pos_iff.mpr pn;lia
  have e2:=h.one l1
  match xs,l1 with
  |[c],_=>
   rw[e2];have e3:∀a b:Int,dZ a b [[c],[]]=[sg c,0]:=fun a b=>by
    have h1:hv a b [c]=c:=by simp[hv,ax,co]
    have h2:hv a b []=0:=by simp[hv,ax,co]
    show[sg (hv a b [c]),sg (hv a b [])]=_;rw[h1,h2];rfl
   rw[e3,e3];lia
theorem EA.signs{xs:List Int}{ps:List (List Int)}(h:EA xs ps)(hp:wc xs){t u t' u':Int}(hu:0<u)(fq:0<u')(hle:(t:Rat)/(u:Rat)<=(t':Rat)/(u':Rat))(n1:hv t u xs≠0)(n2:hv t' u' xs≠0)(one:cg 0 (dZ t u ps)=cg 0 (dZ t' u' ps)+1):sg (hv t u xs)*sg (hv t' u' xs)=-1:=by
 obtain⟨pt,pn,pl,pa,Iz⟩:=hp;by_cases h2:2<=xs.length
 ·obtain⟨rest,er⟩:=h.shape;have hc:=h.HV h2;have em:ps.map ao=ao xs::(ao (bT xs)::rest.map ao):=by rw[er,List.map_cons,List.map_cons]
  obtain⟨r,l,Wo⟩:∃r l,ao (bT xs)::rest.map ao=r++[l]:=⟨_,_,(List.dropLast_concat_getLast (List.cons_ne_nil _ _)).symm⟩;rw[Wo] at em;rw[em] at hc;have a1:at' (Re.q ((t:Rat)/(u:Rat))) (ao xs)≠0:=fun z=>n1 (by
   have:=uk (t:=t) hu xs
   rw[z,Re.cN] at this
   exact Classical.byContradiction fun w=>ye.mpr w this);have a2:at' (Re.q ((t':Rat)/(u':Rat))) (ao xs)≠0:=fun z=>n2 (by
   have:=uk (t:=t') fq xs
   rw[z,Re.cN] at this
   exact Classical.byContradiction fun w=>ye.mpr w this);have:=Ea hc hle a1 a2;rw[<-em,fY hu,fY fq,<-uk hu,<-uk fq,one,Int.pow_succ] at this;rw[this];have e:∀n:Nat,(-1:Int)^n*(-1)^n=1:=fun n=>by
   rw[<-Int.mul_pow];exact Int.one_pow
  have:=e (cg 0 (dZ t' u' ps));grind
 ·exfalso;have l1:xs.length=1:=by have:=List.length_pos_iff.mpr pn;lia
  have e2:=h.one l1
  match xs,l1 with
  |[c],_=>
   rw[e2] at one;have e3:∀a b:Int,dZ a b [[c],[]]=[sg c,0]:=fun a b=>by
    have h1:hv a b [c]=c:=by simp[hv,ax,co]
    have h2:hv a b []=0:=by simp[hv,ax,co]
    show[sg (hv a b [c]),sg (hv a b [])]=_;rw[h1,h2];rfl
   rw[e3,e3] at one;lia
end eQ
namespace eQ
open PySem PyProof.Rows L2 SF SF.Po
structure Sx where
 s:Addr
 ml:Addr
 mh:Addr
 gl:Addr
 gh:Addr
 k:Nat
 m:Int
 t:Int
 u:Int
 t':Int
 u':Int
structure Sx.Hx(H:Hp)(ps:List (List Int))(x:Sx):Prop where
 hs:H x.s=some (.tup [.ref x.ml,.ref x.mh])
 hl:H x.ml=some (.tup [.ref x.gl,.int ((cg 0 (dZ x.t x.u ps):Nat):Int)])
 hh:H x.mh=some (.tup [.ref x.gh,.int ((cg 0 (dZ x.t' x.u' ps):Nat):Int)])
 rl:Rt H x.gl x.t x.u
 rh:Rt H x.gh x.t' x.u'
structure Sx.Px(o b:Int)(x:Sx):Prop where
 pl:Pt o x.k x.m x.t x.u
 ph:Pt o x.k (x.m+2*b) x.t' x.u'
 lo:-(b*2^x.k)<=x.m
 hi:x.m+2*b<=b*2^x.k
 zC:x.k<=5700
structure Fx where
 p:Addr
 gl:Addr
 gh:Addr
 t:Int
 u:Int
 t':Int
 u':Int
structure Fx.Hx(H:Hp)(f:Fx):Prop where
 hp:H f.p=some (.tup [.ref f.gl,.ref f.gh])
 rl:Rt H f.gl f.t f.u
 rh:Rt H f.gh f.t' f.u'
structure Fx.Px(xs:List Int)(ps:List (List Int))(f:Fx):Prop where
 sgn:sg (hv f.t f.u xs)*sg (hv f.t' f.u' xs)=-1
 one:cg 0 (dZ f.t f.u ps)=cg 0 (dZ f.t' f.u' ps)+1
 bt:Bd 6000 f.t
 bu:Bd 6000 f.u
 Gb:Bd 6000 f.t'
 C7:Bd 6000 f.u'
noncomputable def Sx.iv(x:Sx):Rat×Rat:=((x.t:Rat)/(x.u:Rat),(x.t':Rat)/(x.u':Rat))
noncomputable def Fx.iv(x:Fx):Rat×Rat:=((x.t:Rat)/(x.u:Rat),(x.t':Rat)/(x.u':Rat))
noncomputable def Fx.nums(x:Fx):Q4:=(x.t,x.u,x.t',x.u')
noncomputable def Cu(ps:List (List Int))(t u t' u':Int):Int:=((cg 0 (dZ t u ps):Nat):Int)-((cg 0 (dZ t' u' ps):Nat):Int)
noncomputable def Sx.il(ps:List (List Int))(x:Sx):List Q4:=iw (Cu ps) (5701-x.k) x.t x.u x.t' x.u'
noncomputable def ND(l:List (Rat×Rat)):Prop:=l.Pairwise (fun p q=>p.2<=q.1)/\∀p∈l,p.1<p.2
noncomputable def wt(ws:List Sx):Nat:=(ws.map fun x=>2^(5701-x.k)-1).sum
noncomputable def Gd(ps:List (List Int))(ws:List Sx):Nat:=(ws.map fun x=>cg 0 (dZ x.t x.u ps)-cg 0 (dZ x.t' x.u' ps)).sum
structure uw(xs:List Int)(ps:List (List Int))(o b t u t' u':Int)(fs:List Fx):Prop where
 pre:wc xs
 pZ:EA xs ps
 ends:Ends xs o b t u t' u'
 hu:0<u
 fq:0<u'
 px:∀f∈fs,f.Px xs ps
 SN:ND (fs.map Fx.iv)
 cnt:fs.length+cg 0 (dZ t' u' ps)=cg 0 (dZ t u ps)
 low:Int.gcd t u=1/\Int.gcd t' u'=1
 iso:fs.map Fx.nums=iw (Cu ps) 5701 t u t' u'
theorem Sx.Px.lt{o b:Int}{x:Sx}(h:x.Px o b)(ho:0<o)(hb:0<b)(hu:0<x.u)(fq:0<x.u'):(x.t:Rat)/(x.u:Rat)<(x.t':Rat)/(x.u':Rat):=by
 rw[h.pl.val ho hu,h.ph.val ho fq];have hz:(0:Rat)<2^x.k:=Rat.pow_pos (by grind);have Wn:(0:Rat)<(b:Rat):=Rat.intCast_pos.mpr hb;have Lh:(((x.m+2*b:Int)):Rat)=(x.m:Rat)+2*(b:Rat):=by rw[Rat.intCast_add,Rat.intCast_mul];rfl
 rw[Lh];have d1:(x.m:Rat)/2^x.k*2^x.k=(x.m:Rat):=Rat.div_mul_cancel (by grind);have d2:((x.m:Rat)+2*(b:Rat))/2^x.k*2^x.k=(x.m:Rat)+2*(b:Rat):=Rat.div_mul_cancel (by grind);generalize ((x.m:Rat)+2*(b:Rat))/2^x.k=y2 at*;generalize (x.m:Rat)/2^x.k=y1 at*;have key:y1*2^x.k<y2*2^x.k:=by grind
 have:=(Rat.mul_lt_mul_right hz).mp key;grind
theorem Sx.Hx.upd{H:Hp}{ps:List (List Int)}{x:Sx}(h:x.Hx H ps){l:Addr}{ys:List V}(hl:H l=some (.lst ys))(o:HO):x.Hx (L2.upd H l o) ps:=by
 have key:∀(c:Addr)(vs:List V),H c=some (.tup vs)->L2.upd H l o c=some (.tup vs):=fun c vs z=>by
  rw[aq (fun w=>by rw[w,hl] at z;cases z)];exact z
 exact⟨key _ _ h.hs,key _ _ h.hl,key _ _ h.hh,⟨key _ _ h.rl.1,h.rl.2⟩,⟨key _ _ h.rh.1,h.rh.2⟩⟩
theorem Fx.Hx.upd{H:Hp}{x:Fx}(h:x.Hx H){l:Addr}{ys:List V}(hl:H l=some (.lst ys))(o:HO):x.Hx (L2.upd H l o):=by
 have key:∀(c:Addr)(vs:List V),H c=some (.tup vs)->L2.upd H l o c=some (.tup vs):=fun c vs z=>by
  rw[aq (fun w=>by rw[w,hl] at z;cases z)];exact z
 exact⟨key _ _ h.hp,⟨key _ _ h.rl.1,h.rl.2⟩,⟨key _ _ h.rh.1,h.rh.2⟩⟩
theorem Sx.Hx.same{H H':Hp}{ps:List (List Int)}{x:Sx}(h:x.Hx H ps)(s:av H H'):x.Hx H' ps:=⟨s _ _ h.hs,s _ _ h.hl,s _ _ h.hh,h.rl.same s,h.rh.same s⟩
theorem Fx.Hx.same{H H':Hp}{x:Fx}(h:x.Hx H)(s:av H H'):x.Hx H':=⟨s _ _ h.hp,h.rl.same s,h.rh.same s⟩
theorem Ge:∀(l:List Int)(b:Int),cg b l<=l.length
 |[],_=>Nat.le_refl _
 |x::r,b=>by
  have:=Ge r (if x≠0 then x else b);show(if x*b<0 then 1 else 0)+cg (if x≠0 then x else b) r<=r.length+1;split<;>lia
theorem Gf{n:Nat}(h:n<=10000):n<=sizeLine:=Nat.le_trans h (by unfold sizeLine;decide)
theorem i'{H3 H:Hp}{l:Addr}(s:av H3 H)(hl:H3 l=none)(o:HO):av H3 (L2.upd H l o):=fun c o' z=>by
 rw[aq (aH z hl)];exact s _ _ z
theorem rA(ws:List Sx)(x:Sx):wt (ws++[x])=wt ws+(2^(5701-x.k)-1):=by
 unfold wt;rw[List.map_append,List.sum_append];simp
theorem om(ps:List (List Int))(ws:List Sx)(x:Sx):Gd ps (ws++[x])=Gd ps ws+(cg 0 (dZ x.t x.u ps)-cg 0 (dZ x.t' x.u' ps)):=by
 unfold Gd;rw[List.map_append,List.sum_append];simp
noncomputable def Gg:Sp:=fun vs H Q _=>∃(a:Addr)(xs:List Int),vs=[.ref a]/\IL H a xs/\(Ey xs/\wc (kN xs)/\xs.length<=13)/\
 ∀(r:Addr)(fs:List Fx)(ps:List (List Int))(o b t u t' u':Int)(H':Hp),av H H'->H r=none->H' r=some (.lst (fs.map fun f=>V.ref f.p))->(∀f∈fs,f.Hx H')->uw (kN xs) ps o b t u t' u' fs->fs.length<=60->Q (.ref r) H'
noncomputable def Cv:Sp:=fun vs H Q _=>∃(a:Addr)(xs:List Int),vs=[.ref a]/\IL H a xs/\Q (.int ((xs.length:Int)-1)) H
section
variable {P:Program} {w:World} {K:PySem.W.Frag} {mg:Str->Option Value} {base:Heap}
theorem zG(T:Nm mg)(D:aN K mg "degree" nT ["poly"]):cb P w K mg base 1 "degree" ["poly"] Cv:=by
 refine D.ok zt (fun vs H Q E h=>?_) (fun f cq A outer s H vs Q E hr h=>?_)
 ·obtain⟨a,xs,rfl,_⟩:=h;rfl
 obtain⟨a,xs,rfl,ha,q⟩:=h;have ex:(xs.map V.int).length=xs.length:=List.length_map _;refine⟨_,(aj (aC (ak bB (aw ay rfl T.cx boot_len (aa (pv 0) af)) ah))),?_⟩;walk_at "sf";refine⟨a,_,rfl,.inl (aM.of ha),?_⟩;walk_at "sf";rw[ex];exact q
theorem ux(T:Nm mg){uG:Value}(ck:mg "GREATEST_DEGREE"=some uG/\RelV (.int 12) uG)(oo:cb P w K mg base 36 "degree" ["poly"] Cv)(oR:cb P w K mg base 36 "square_free" ["poly"] (C5 kN Ey))(wq:cb P w K mg base 36 "chain_of" ["free"] x_)(kr:cb P w K mg base 36 "pair_around_all" ["free"] uq)(oq:cb P w K mg base 36 "marked" ["chain","given"] Cr)(Cw:cb P w K mg base 36 "middle" ["one","other"] F')(D:aN K mg "isolated" g_ ["poly"]):cb P w K mg base 37 "isolated" ["poly"] Gg:=by
 refine D.ok bH (fun vs H Q E h=>?_) (fun f cq A outer s H vs Q E hr h=>?_)
 ·obtain⟨a,xs,rfl,_⟩:=h;rfl
 obtain⟨a,xs,rfl,ha,⟨Wq,EF,lx⟩,q⟩:=h;refine⟨_,(ae (bM (aG fb (aJ oo hr (aa (pv 0) af)) (qg rfl ck.1 ck.2) (aI _))
  (aj rS)
  aS)
  (ae (ar (i:=1) bH.nd rfl (Or.inl rfl) (aJ oR hr (aa (pv 0) af)))
  (ae (ar (i:=2) bH.nd rfl (Or.inl rfl) (aJ wq hr (aa (pv 1) af)))
  (ae (ar (i:=3) bH.nd rfl (Or.inl rfl) (aJ kr hr (aa (pv 1) af)))
  (ae (ar (i:=4) bH.nd rfl (Or.inl rfl) (bS (aa (iC (aa (aJ oq hr (aa (pv 2) (aa (aL bq (pv 3) ah (fun _ _=>rfl)) af))) (aa (aJ oq hr (aa (pv 2) (aa (aL bq (pv 3) ah (fun _ _=>rfl)) af))) af))) af)))
  (ae (ar (i:=5) bH.nd rfl (Or.inl rfl) (bS af))
  (ae (dj PassesOwn.never (fE (pv 4) (fun _=>rfl))
  (ae (ar (i:=6) bH.nd rfl (Or.inl rfl) (u9 PySem.F.plainAttrs_list PySem.F.slot_list_pop PySem.F.type_list_pop va (pv 4)))
  (ae (ar (i:=7) bH.nd rfl (Or.inl rfl) (aL bq (pv 6) ah (fun _ _=>rfl)))
  (ae (ar (i:=8) bH.nd rfl (Or.inl rfl) (aL bq (pv 6) ah (fun _ _=>rfl)))
  (ae (ar (i:=9) bH.nd rfl (Or.inl rfl) (ak bB (aL bq (pv 7) ah (fun _ _=>rfl)) (aL bq (pv 8) ah (fun _ _=>rfl))))
  (ae (bM (aG jr (pv 9) ah (aI _))
  (aj (fS (js PySem.F.plainAttrs_list PySem.F.slot_list_append PySem.F.type_list_append dD (pv 5) (aa (iC (aa (aL bq (pv 7) ah (fun _ _=>rfl)) (aa (aL bq (pv 8) ah (fun _ _=>rfl)) af))) af))))
  aS)
  (aj (bM (aG fb (pv 9) ah (aI _))
  (ae (ar (i:=10) bH.nd rfl (Or.inl rfl) (aJ oq hr (aa (pv 2) (aa (aJ Cw hr (aa (aL bq (pv 7) ah (fun _ _=>rfl)) (aa (aL bq (pv 8) ah (fun _ _=>rfl)) af))) af))))
  (ae (fS (js PySem.F.plainAttrs_list PySem.F.slot_list_append PySem.F.type_list_append dD (pv 4) (aa (iC (aa (pv 10) (aa (pv 8) af))) af)))
  (aj (fS (js PySem.F.plainAttrs_list PySem.F.slot_list_append PySem.F.type_list_append dD (pv 4) (aa (iC (aa (pv 7) (aa (pv 10) af))) af))))))
  aS))))))))
  (aj (aC (pv 5)))))))))),?_⟩;walk_at "sf";refine⟨a,xs,rfl,ha,?_⟩;walk_at "sf";rw[if_neg (by simp;lia)];walk_at "sf";refine⟨a,xs,rfl,ha,Wq,fun p1 H1 s1 h1=>?_⟩;walk_at "sf";refine⟨p1,_,rfl,h1,EF,fun c as ps H2 s2 hc hi pZ=>?_⟩;have d_:=s1.trans s2;walk_at "sf";generalize C8:kN xs=ys at*;obtain⟨yt,yn,yl,ya,Yv⟩:=id EF;refine⟨p1,ys,rfl,s2 _ _ h1,⟨yt,yn,yl,ya⟩,fun pp g1 g2 o b t u t' u' H3 s3 xk r1 r2 en=>?_⟩;have Gh:=d_.trans s3;have zY:=s3 _ _ hc;have QF:jK H3 as ps:=hi.map fun a p z=>s3 _ _ z;obtain⟨e1,e2,e3,bo,bb,Wr,Ws,Wt,_⟩:=id en;have JO:Pt o 0 (-b) t u:=by unfold Pt;rw[Int.pow_zero,Int.mul_one,Ws];grind
 have JP:Pt o 0 (-b+2*b) t' u':=by unfold Pt;rw[Int.pow_zero,Int.mul_one,Wt];grind
 obtain⟨bt,bu⟩:=JO.bits (by lia) r1.2.1 r1.2.2 bo bb (by rw[Int.pow_zero];lia) (by rw[Int.pow_zero];lia);obtain⟨Gb,C7⟩:=JP.bits (by lia) r2.2.1 r2.2.2 bo bb (by rw[Int.pow_zero];lia) (by rw[Int.pow_zero];lia);walk_at "sf";refine cu (cJ.of xk) rfl ?_;walk_at "sf";refine⟨c,g1,as,ps,t,u,210,rfl,zY,QF,r1.1,⟨pZ.zC,pZ.cnt,bt,bu,by decide⟩,fun m1 H4 s4 Nu=>?_⟩;walk_at "sf";refine cu (cJ.of (s4 _ _ xk)) rfl ?_;walk_at "sf";refine⟨c,g2,as,ps,t',u',210,rfl,s4 _ _ zY,QF.map fun a p z=>s4 _ _ z,(r2.same s4).1,⟨pZ.zC,pZ.cnt,Gb,C7,by decide⟩,fun m2 H5 s5 P5=>?_⟩;walk_at "sf";intro s0 Wu;have s6:=av.new Wu (.tup [.ref m1,.ref m2]);have SO:upd H5 s0 (.tup [.ref m1,.ref m2]) s0=some (.tup [.ref m1,.ref m2]):=ai;generalize upd H5 s0 (.tup [.ref m1,.ref m2])=H6 at s6 SO ⊢;walk_at "sf";intro pw JB;walk_at "sf";intro pf NF;have Ms:=s4.trans (s5.trans s6);have ID:H3 pw=none:=Ms.free JB;have s7:=av.new JB (.lst [.ref s0]);have QG:H6 pf=none:=s7.free NF;have Mt:H3 pf=none:=Ms.free QG;have Mu:pw≠pf:=fun z=>by
  rw[<-z,ai] at NF;cases NF
 have s8:=av.new NF (.lst []);let x0:Sx:=⟨s0,m1,m2,g1,g2,0,-b,t,u,t',u'⟩;have X0:Sx.Hx (upd (upd H6 pw (.lst [.ref s0])) pf (.lst [])) ps x0:=
  ⟨s8 _ _ (s7 _ _ SO),s8 _ _ (s7 _ _ (s6 _ _ (s5 _ _ Nu))),s8 _ _ (s7 _ _ (s6 _ _ P5)),r1.same (Ms.trans (s7.trans s8)),r2.same (Ms.trans (s7.trans s8))⟩
 have SQ:upd (upd H6 pw (.lst [.ref s0])) pf (.lst []) pw=some (.lst ([x0].map fun x=>V.ref x.s)):=by rw[aq Mu,ai];rfl
 have SR:upd (upd H6 pw (.lst [.ref s0])) pf (.lst []) pf=some (.lst (([]:List Fx).map fun x=>V.ref x.p)):=ai;have SS:=Ms.trans (s7.trans s8);generalize upd (upd H6 pw (.lst [.ref s0])) pf (.lst [])=H8 at X0 SQ SR SS ⊢;walk_at "sf";have Wv:∀k:Nat,b*2^(k+1)=2*(b*2^k):=fun k=>by rw[Int.pow_succ];grind
 refine cW (fun m σ H'=>∃(ws:List Sx)(fs:List Fx)(z6 z7 z8 z9 SU:Option V),m=wt ws/\σ=[some (.ref a),some (.ref p1),some (.ref c),some (.ref pp),some (.ref pw),some (.ref pf),z6,z7,z8,z9,SU]/\
  av H3 H'/\H' pw=some (.lst (ws.map fun x=>V.ref x.s))/\H' pf=some (.lst (fs.map fun x=>V.ref x.p))/\(∀x∈ws,x.Hx H' ps)/\(∀x∈ws,x.Px o b)/\(∀f∈fs,f.Hx H')/\(∀f∈fs,f.Px ys ps)/\
  (∀(i:Nat)(x:Sx),ws[i]?=some x->i<=x.k)/\fs.length+Gd ps ws+cg 0 (dZ t' u' ps)=cg 0 (dZ t u ps)/\ND (fs.map Fx.iv++ws.reverse.map Sx.iv)/\fs.map Fx.nums++ws.reverse.flatMap (Sx.il ps)=iw (Cu ps) 5701 t u t' u')
  ⟨_,[x0],[],_,_,_,_,_,rfl,rfl,SS,SQ,SR,?_,?_,fun f hf=>(nomatch hf),fun f hf=>(nomatch hf),?_,?_,?_,?_⟩ ?_
 ·intro x hx;rw[List.mem_singleton.mp hx];exact X0
 ·intro x hx;rw[List.mem_singleton.mp hx];exact⟨JO,JP,by show -(b*2^0)<=-b;rw[Int.pow_zero];lia,by show -b+2*b<=b*2^0;rw[Int.pow_zero];lia,by show 0<=5700;lia⟩
 ·intro i x FV;have:i=0:=by
   have:=(List.getElem?_eq_some_iff.mp FV).1;simp at this;exact this
  rw[this];exact Nat.zero_le _
 ·have QH:=Rat.le_of_lt (Sx.Px.lt (x:=x0) (o:=o) (b:=b) ⟨JO,JP,by show -(b*2^0)<=-b;rw[Int.pow_zero];lia,by show -b+2*b<=b*2^0;rw[Int.pow_zero];lia,by show 0<=5700;lia⟩ (by lia) bb.1 r1.2.1 r2.2.1);have M':cg 0 (dZ t' u' ps)<=cg 0 (dZ t u ps):=pZ.mono EF r1.2.1 r2.2.1 QH;show 0+((cg 0 (dZ t u ps)-cg 0 (dZ t' u' ps))+0)+cg 0 (dZ t' u' ps)=cg 0 (dZ t u ps);generalize cg 0 (dZ t u ps)=q1 at M' ⊢;generalize cg 0 (dZ t' u' ps)=q2 at M' ⊢;lia
 ·have QH:=(Sx.Px.lt (x:=x0) (o:=o) (b:=b) ⟨JO,JP,by show -(b*2^0)<=-b;rw[Int.pow_zero];lia,by show -b+2*b<=b*2^0;rw[Int.pow_zero];lia,by show 0<=5700;lia⟩ (by lia) bb.1 r1.2.1 r2.2.1);refine⟨List.pairwise_singleton _ _,fun p hp=>?_⟩;rw[List.mem_singleton.mp hp];exact QH
 ·rw[List.map_nil,List.nil_append,List.reverse_singleton,List.flatMap_cons,List.flatMap_nil,List.append_nil];rfl
 rintro m σ H' ⟨ws,fs,z6,z7,z8,z9,SU,rfl,rfl,sH,hw,hf,hX,pX,hF,pF,EG,QI,wu,JQ⟩;have Ng:cg 0 (dZ t u ps)<=60:=by
  have h1:=Ge (dZ t u ps) 0;have h2:(dZ t u ps).length=ps.length:=List.length_map _;have h3:=pZ.cnt;lia
 walk_at "sf";refine⟨_,.inl ⟨_,aM.of hw,rfl⟩,?_⟩;rcases List.eq_nil_or_concat ws with ew|⟨dO,x,ew⟩
 ·subst ew;walk_at "sf";rw[if_neg (by decide)];walk_at "sf";subst C8;refine q pf fs ps o b t u t' u' H' (Gh.trans sH) (Gh.free Mt) hf hF ⟨EF,pZ,en,r1.2.1,r2.2.1,pF,?_,?_,⟨r1.2.2,r2.2.2⟩,?_⟩ ?_
  ·have e:fs.map Fx.iv++([]:List Sx).reverse.map Sx.iv=fs.map Fx.iv:=by simp
   rw[e] at wu;exact wu
  ·have:Gd ps []=0:=rfl;lia
  ·rw[List.reverse_nil,List.flatMap_nil,List.append_nil] at JQ;exact JQ
  ·have:Gd ps []=0:=rfl;lia
 rw[List.concat_eq_append] at ew;subst ew;have SV:x∈dO++[x]:=List.mem_append_right _ List.mem_cons_self;have hx:=hX x SV;have px:=pX x SV;have Yw:dO.length<=x.k:=EG dO.length x (by rw[List.getElem?_append_right (Nat.le_refl _)];simp);rw[rA];rw[om] at QI;have SW:=px.lt (by lia) bb.1 hx.rl.2.1 hx.rh.2.1;have SX:=pZ.mono EF hx.rl.2.1 hx.rh.2.1 (Rat.le_of_lt SW);have Yx:=px.zC;have Ww:x.m<=b*2^x.k:=by have:=px.hi;lia
 have QJ:-(b*2^x.k)<=x.m+2*b:=by have:=px.lo;lia
 obtain⟨SY,S0⟩:=px.pl.bits (by lia) hx.rl.2.1 hx.rl.2.2 bo bb px.lo Ww;obtain⟨Mv,Mw⟩:=px.ph.bits (by lia) hx.rh.2.1 hx.rh.2.2 bo bb QJ px.hi;have Mx:1<=2^(5701-x.k)-1:=by
  have:2^1<=2^(5701-x.k):=Nat.pow_le_pow_right (by decide) (by lia);lia
 rw[if_pos (by simp)];refine⟨_,fun bE H' h=>h,?_⟩;walk_at "sf";have S1:(dO++[x]).map (fun x=>V.ref x.s)=dO.map (fun x=>V.ref x.s)++[V.ref x.s]:=by rw[List.map_append];rfl
 refine⟨_,rfl,.inl ⟨rfl,_,aM.of hw⟩,pw,_,V.ref x.s,rfl,rfl,hw,by rw[S1];simp,?_⟩;have Wx:((dO++[x]).map (fun x=>V.ref x.s)).dropLast=dO.map (fun x=>V.ref x.s):=by rw[S1];simp
 have n1:=i' sH ID (.lst ((dO++[x]).map (fun x=>V.ref x.s)).dropLast);have NG:upd H' pw (.lst ((dO++[x]).map (fun x=>V.ref x.s)).dropLast) pw=some (.lst (dO.map (fun x=>V.ref x.s))):=by rw[ai,Wx]
 have sW:upd H' pw (.lst ((dO++[x]).map (fun x=>V.ref x.s)).dropLast) pf=some (.lst (fs.map fun x=>V.ref x.p)):=by rw[aq (Ne.symm Mu)];exact hf
 have oH:=hx.upd hw (.lst ((dO++[x]).map (fun x=>V.ref x.s)).dropLast);have NH:∀y∈dO,y.Hx (upd H' pw (.lst ((dO++[x]).map (fun x=>V.ref x.s)).dropLast)) ps:=fun y hy=>(hX y (List.mem_append_left _ hy)).upd hw _;have NI:∀y∈fs,y.Hx (upd H' pw (.lst ((dO++[x]).map (fun x=>V.ref x.s)).dropLast)):=fun y hy=>(hF y hy).upd hw _;generalize upd H' pw (.lst ((dO++[x]).map (fun x=>V.ref x.s)).dropLast)=H9 at n1 NG sW oH NH NI ⊢;walk_at "sf";refine cu (cJ.of oH.hs) rfl ?_;walk_at "sf";refine cu (cJ.of oH.hs) rfl ?_;walk_at "sf";refine cu (cJ.of oH.hl) rfl ?_;walk_at "sf";refine cu (cJ.of oH.hh) rfl ?_;walk_at "sf";generalize Eh:cg 0 (dZ x.t x.u ps)=cl at*;generalize uT:cg 0 (dZ x.t' x.u' ps)=ch at*;have QK:(dO++[x]).reverse.map Sx.iv=x.iv::dO.reverse.map Sx.iv:=by rw[List.reverse_append];rfl
 rw[QK] at wu;have erw:(dO++[x]).reverse=x::dO.reverse:=by rw[List.reverse_append];rfl
 rw[erw,List.flatMap_cons] at JQ;obtain⟨kn,Wy⟩:∃kn,5701-x.k=kn+1:=⟨5700-x.k,by lia⟩;have QL:x.il ps=iw (Cu ps) (kn+1) x.t x.u x.t' x.u':=by unfold Sx.il;rw[Wy]
 have NJ:Cu ps x.t x.u x.t' x.u'=(cl:Int)-ch:=by unfold Cu;rw[Eh,uT]
 refine eM (fun c1=>?_) (fun c1=>?_)
 ·have h1:(cl:Int)-ch=1:=by simpa using c1
  walk_at "sf";refine⟨_,rfl,.inl ⟨rfl,_,aM.of sW⟩,?_⟩;walk_at "sf";refine cu (cJ.of oH.hl) rfl ?_;walk_at "sf";refine cu (cJ.of oH.hh) rfl ?_;walk_at "sf";intro pn JM;have sn:=av.new JM (.tup [.ref x.gl,.ref x.gh]);have xw:upd H9 pn (.tup [.ref x.gl,.ref x.gh]) pn=some (.tup [.ref x.gl,.ref x.gh]):=ai;have JR:=sn _ _ sW;generalize upd H9 pn (.tup [.ref x.gl,.ref x.gh])=vg at sn xw JR ⊢;walk_at "sf";have Wz:fs.length<=60:=by lia
  refine⟨pf,_,_,rfl,rfl,JR,by rw[List.length_map];exact cD (by lia),?_⟩;let f0:Fx:=⟨pn,x.gl,x.gh,x.t,x.u,x.t',x.u'⟩;have F0:Fx.Hx vg f0:=⟨xw,oH.rl.same sn,oH.rh.same sn⟩;have n2:=n1.trans sn;have NK:=sn _ _ NG;have WA:∀y∈fs++[f0],y.Hx vg:=fun y hy=>by
   rcases List.mem_append.mp hy with z|z
   ·exact(NI y z).same sn
   ·rw[List.mem_singleton.mp z];exact F0
  have emp:fs.map (fun x=>V.ref x.p)++[V.ref pn]=(fs++[f0]).map (fun x=>V.ref x.p):=by rw[List.map_append];rfl
  have n3:=i' n2 Mt (.lst (fs.map (fun x=>V.ref x.p)++[V.ref pn]));have EH:upd vg pf (.lst (fs.map (fun x=>V.ref x.p)++[V.ref pn])) pw=some (.lst (dO.map (fun x=>V.ref x.s))):=by rw[aq Mu];exact NK
  have S2:upd vg pf (.lst (fs.map (fun x=>V.ref x.p)++[V.ref pn])) pf=some (.lst ((fs++[f0]).map fun x=>V.ref x.p)):=by rw[ai,emp]
  have NL:∀y∈fs++[f0],y.Hx (upd vg pf (.lst (fs.map (fun x=>V.ref x.p)++[V.ref pn]))):=fun y hy=>(WA y hy).upd JR _;have S3:∀y∈dO,y.Hx (upd vg pf (.lst (fs.map (fun x=>V.ref x.p)++[V.ref pn]))) ps:=fun y hy=>((NH y hy).same sn).upd JR _;generalize upd vg pf (.lst (fs.map (fun x=>V.ref x.p)++[V.ref pn]))=IE at n3 EH S2 NL S3 ⊢;walk_at "sf";rw[if_neg (by simp;lia)];walk_at "sf";have one:cg 0 (dZ x.t x.u ps)=cg 0 (dZ x.t' x.u' ps)+1:=by rw[Eh,uT];lia
  have WB:hv x.t x.u ys≠0:=xV yn hx.rl.2.2 (px.pl.odd e1) e3;have WC:hv x.t' x.u' ys≠0:=xV yn hx.rh.2.2 (px.ph.odd e1) e3;have QM:=pZ.signs EF hx.rl.2.1 hx.rh.2.1 (Rat.le_of_lt SW) WB WC one;refine⟨_,Nat.lt_of_lt_of_le (Nat.lt_succ_self _) (Nat.add_le_add_left Mx _),dO,fs++[f0],_,_,_,_,_,rfl,rfl,n3,EH,S2,S3,fun y hy=>pX y (List.mem_append_left _ hy),NL,?_,?_,?_,?_,?_⟩
  ·intro y hy;rcases List.mem_append.mp hy with z|z
   ·exact pF y z
   ·rw[List.mem_singleton.mp z];exact⟨QM,one,SY.mono (by lia),S0.mono (by lia),Mv.mono (by lia),Mw.mono (by lia)⟩
  ·intro i y hy;exact EG i y (by rw[List.getElem?_append_left (List.getElem?_eq_some_iff.mp hy).1];exact hy)
  ·rw[List.length_append];show fs.length+1+Gd ps dO+_=_;lia
  ·have e:(fs++[f0]).map Fx.iv++dO.reverse.map Sx.iv=fs.map Fx.iv++x.iv::dO.reverse.map Sx.iv:=by rw[List.map_append,List.append_assoc];rfl
   rw[e];exact wu
  ·rw[<-JQ,QL,BO (by rw[NJ];exact h1),List.map_append,List.append_assoc];rfl
 ·have h1:¬(cl:Int)-ch=1:=by simpa using c1
  walk_at "sf";refine eM (fun c2=>?_) (fun c2=>?_)
  ·have h2:1<(cl:Int)-ch:=by simpa using c2
   have WD:x.k<5700:=by
    rcases Nat.lt_or_ge x.k 5700 with z|z
    ·exact z
    ·exfalso;have:=pZ.short EF (by lia) bb hx.rl.2.1 hx.rh.2.1 px.pl px.ph px.lo px.hi z;rw[Eh,uT] at this;lia
   walk_at "sf";refine cu (cJ.of oH.hl) rfl ?_;walk_at "sf";refine cu (cJ.of oH.hh) rfl ?_;walk_at "sf";refine⟨x.gl,x.gh,x.t,x.u,x.t',x.u',x.k+210,rfl,oH.rl.1,oH.rh.1,⟨SY,S0,Mv,Mw⟩,by lia,oH.rl.2.1,oH.rh.2.1,fun gm tm um WE IF Ny My=>?_⟩;have QN:=av.new WE (.tup [.int tm,.int um]);have IG:upd H9 gm (.tup [.int tm,.int um]) gm=some (.tup [.int tm,.int um]):=ai;generalize upd H9 gm (.tup [.int tm,.int um])=vg at QN IG ⊢;have n2:=n1.trans QN;have QO:Pt o (x.k+1) (x.m+(x.m+2*b)) tm um:=px.pl.mid px.ph hx.rl.2.1 hx.rh.2.1 My;have VI:=Wv x.k;have Yy:=px.lo;have Yz:=px.hi;obtain⟨WG,WH⟩:=QO.bits (by lia) IF Ny bo bb (by lia) (by lia);walk_at "sf";refine⟨c,gm,as,ps,tm,um,x.k+1+210,rfl,n2 _ _ zY,QF.map fun a p z=>n2 _ _ z,IG,⟨pZ.zC,pZ.cnt,WG,WH,by lia⟩,fun mm IE sm WI=>?_⟩;have WJ:Rt IE gm tm um:=⟨sm _ _ IG,IF,Ny⟩;have uy:=QN.trans sm;have n3:=n2.trans sm;have NK:=uy _ _ NG;have JR:=uy _ _ sW;have JK:=oH.same uy;have WK:∀y∈dO,y.Hx IE ps:=fun y hy=>(NH y hy).same uy;have NM:∀y∈fs,y.Hx IE:=fun y hy=>(NI y hy).same uy;walk_at "sf";refine⟨_,rfl,.inl ⟨rfl,_,aM.of NK⟩,?_⟩;walk_at "sf";intro sa WL;have sn:=av.new WL (.tup [.ref mm,.ref x.mh]);have xw:upd IE sa (.tup [.ref mm,.ref x.mh]) sa=some (.tup [.ref mm,.ref x.mh]):=ai;generalize upd IE sa (.tup [.ref mm,.ref x.mh])=C_ at sn xw ⊢;walk_at "sf";have YA:dO.length<=5700:=by lia
   have EH:=sn _ _ NK;refine⟨pw,_,_,rfl,rfl,EH,by rw[List.length_map];exact Gf (by lia),?_⟩;let xa:Sx:=⟨sa,mm,x.mh,gm,x.gh,x.k+1,x.m+(x.m+2*b),tm,um,x.t',x.u'⟩;have XA:xa.Hx C_ ps:=⟨xw,sn _ _ WI,sn _ _ JK.hh,WJ.same sn,JK.rh.same sn⟩;have WM:x.m+(x.m+2*b)+2*b=2*(x.m+2*b):=by lia
   have QP:2*x.m+2*b=x.m+(x.m+2*b):=by lia
   have PA:xa.Px o b:=⟨QO,by show Pt o (x.k+1) (x.m+(x.m+2*b)+2*b) x.t' x.u';rw[WM];exact px.ph.up,by show -(b*2^(x.k+1))<=x.m+(x.m+2*b);lia,by show x.m+(x.m+2*b)+2*b<=b*2^(x.k+1);lia,by show x.k+1<=5700;lia⟩;have n4:=n3.trans sn;have emp:dO.map (fun x=>V.ref x.s)++[V.ref sa]=(dO++[xa]).map (fun x=>V.ref x.s):=by rw[List.map_append];rfl
   have n5:=i' n4 ID (.lst (dO.map (fun x=>V.ref x.s)++[V.ref sa]));have QQ:upd C_ pw (.lst (dO.map (fun x=>V.ref x.s)++[V.ref sa])) pw=some (.lst ((dO++[xa]).map (fun x=>V.ref x.s))):=by rw[ai,emp]
   have S4:upd C_ pw (.lst (dO.map (fun x=>V.ref x.s)++[V.ref sa])) pf=some (.lst (fs.map fun x=>V.ref x.p)):=by rw[aq (Ne.symm Mu)];exact sn _ _ JR
   have S5:∀y∈fs,y.Hx (upd C_ pw (.lst (dO.map (fun x=>V.ref x.s)++[V.ref sa]))):=fun y hy=>((NM y hy).same sn).upd EH _;have S6:∀y∈dO++[xa],y.Hx (upd C_ pw (.lst (dO.map (fun x=>V.ref x.s)++[V.ref sa]))) ps:=fun y hy=>by
    rcases List.mem_append.mp hy with z|z
    ·exact((WK y z).same sn).upd EH _
    ·rw[List.mem_singleton.mp z];exact XA.upd EH _
   have QR:=(JK.same sn).upd EH (.lst (dO.map (fun x=>V.ref x.s)++[V.ref sa]));have QS:=XA.upd EH (.lst (dO.map (fun x=>V.ref x.s)++[V.ref sa]));generalize upd C_ pw (.lst (dO.map (fun x=>V.ref x.s)++[V.ref sa]))=NN at n5 QQ S4 S5 S6 QR QS ⊢;walk_at "sf";refine⟨_,rfl,.inl ⟨rfl,_,aM.of QQ⟩,?_⟩;walk_at "sf";intro sb Fh;have so:=av.new Fh (.tup [.ref x.ml,.ref mm]);have QE:upd NN sb (.tup [.ref x.ml,.ref mm]) sb=some (.tup [.ref x.ml,.ref mm]):=ai;generalize upd NN sb (.tup [.ref x.ml,.ref mm])=Gi at so QE ⊢;walk_at "sf";have NO:=so _ _ QQ;refine⟨pw,_,_,rfl,rfl,NO,by rw[List.length_map,List.length_append];exact Gf (by show dO.length+1+1<=10000;lia),?_⟩;let xb:Sx:=⟨sb,x.ml,mm,x.gl,gm,x.k+1,2*x.m,x.t,x.u,tm,um⟩;have XB:xb.Hx Gi ps:=⟨QE,so _ _ QR.hl,so _ _ QS.hl,QR.rl.same so,QS.rl.same so⟩;have PB:xb.Px o b:=⟨px.pl.up,by show Pt o (x.k+1) (2*x.m+2*b) tm um;rw[QP];exact QO,by show -(b*2^(x.k+1))<=2*x.m;lia,by show 2*x.m+2*b<=b*2^(x.k+1);lia,by show x.k+1<=5700;lia⟩;have QT:(dO++[xa]).map (fun x=>V.ref x.s)++[V.ref sb]=(dO++[xa]++[xb]).map (fun x=>V.ref x.s):=by rw[List.map_append (l₁:=dO++[xa])];rfl
   have n6:=i' (n5.trans so) ID (.lst ((dO++[xa]).map (fun x=>V.ref x.s)++[V.ref sb]));have Ml:upd Gi pw (.lst ((dO++[xa]).map (fun x=>V.ref x.s)++[V.ref sb])) pw=some (.lst ((dO++[xa]++[xb]).map (fun x=>V.ref x.s))):=by rw[ai,QT]
   have S7:upd Gi pw (.lst ((dO++[xa]).map (fun x=>V.ref x.s)++[V.ref sb])) pf=some (.lst (fs.map fun x=>V.ref x.p)):=by rw[aq (Ne.symm Mu)];exact so _ _ S4
   have S8:∀y∈fs,y.Hx (upd Gi pw (.lst ((dO++[xa]).map (fun x=>V.ref x.s)++[V.ref sb]))):=fun y hy=>((S5 y hy).same so).upd NO _;have S9:∀y∈dO++[xa]++[xb],y.Hx (upd Gi pw (.lst ((dO++[xa]).map (fun x=>V.ref x.s)++[V.ref sb]))) ps:=fun y hy=>by
    rcases List.mem_append.mp hy with z|z
    ·exact((S6 y z).same so).upd NO _
    ·rw[List.mem_singleton.mp z];exact XB.upd NO _
   generalize upd Gi pw (.lst ((dO++[xa]).map (fun x=>V.ref x.s)++[V.ref sb]))=QU at n6 Ml S7 S8 S9 ⊢;walk_at "sf";have S_:=PB.lt (by lia) bb.1 hx.rl.2.1 IF;have Ta:=PA.lt (by lia) bb.1 IF hx.rh.2.1;have mb:cg 0 (dZ tm um ps)<=cg 0 (dZ x.t x.u ps):=pZ.mono EF hx.rl.2.1 IF (Rat.le_of_lt S_);have ma:cg 0 (dZ x.t' x.u' ps)<=cg 0 (dZ tm um ps):=pZ.mono EF IF hx.rh.2.1 (Rat.le_of_lt Ta);refine⟨_,?_,dO++[xa]++[xb],fs,_,_,_,_,_,rfl,rfl,n6,Ml,S7,S9,?_,S8,pF,?_,?_,?_,?_⟩
   ·rw[rA,rA];show wt dO+(2^(5701-(x.k+1))-1)+(2^(5701-(x.k+1))-1)<wt dO+(2^(5701-x.k)-1);obtain⟨j,hj⟩:∃j,5701-x.k=j+1:=⟨5700-x.k,by lia⟩;have QC:5701-(x.k+1)=j:=by lia
    rw[hj,QC,Nat.pow_succ];have:=Nat.two_pow_pos j;lia
   ·intro y hy;rcases List.mem_append.mp hy with z|z
    ·rcases List.mem_append.mp z with z|z
     ·exact pX y (List.mem_append_left _ z)
     ·rw[List.mem_singleton.mp z];exact PA
    ·rw[List.mem_singleton.mp z];exact PB
   ·intro i y hy;rcases Nat.lt_trichotomy i dO.length with z|z|z
    ·refine EG i y ?_;rw[List.append_assoc,List.getElem?_append_left z] at hy;rw[List.getElem?_append_left z];exact hy
    ·rw[List.append_assoc,List.getElem?_append_right (by lia)] at hy;have e0:i-dO.length=0:=by lia
     rw[e0] at hy;have:xa=y:=Option.some.inj hy;rw[<-this];show i<=x.k+1;lia
    ·rw[List.append_assoc,List.getElem?_append_right (by lia)] at hy;have uP:=(List.getElem?_eq_some_iff.mp hy).1;have e0:i-dO.length=1:=by
      simp at uP;lia
     rw[e0] at hy;have:xb=y:=Option.some.inj hy;rw[<-this];show i<=x.k+1;lia
   ·rw[om,om];show fs.length+(Gd ps dO+(cg 0 (dZ tm um ps)-cg 0 (dZ x.t' x.u' ps))+(cg 0 (dZ x.t x.u ps)-cg 0 (dZ tm um ps)))+_=_;rw[Eh] at mb ⊢;rw[uT] at ma ⊢;lia
   ·have QV:(dO++[xa]++[xb]).reverse.map Sx.iv=xb.iv::xa.iv::dO.reverse.map Sx.iv:=by rw[List.reverse_append,List.reverse_append];rfl
    rw[QV];obtain⟨Tb,Tc⟩:=wu;rw[List.pairwise_append,List.pairwise_cons] at Tb;obtain⟨WN,⟨Td,WO⟩,Te⟩:=Tb;have ia:xa.iv.2=x.iv.2:=rfl;have ib:xb.iv.1=x.iv.1:=rfl;have WQ:xb.iv.2=xa.iv.1:=rfl;have la:xa.iv.1<xa.iv.2:=Ta;have lb:xb.iv.1<xb.iv.2:=S_;refine⟨?_,fun p hp=>?_⟩
    ·rw[List.pairwise_append,List.pairwise_cons,List.pairwise_cons];refine⟨WN,⟨fun y hy=>?_,fun y hy=>?_,WO⟩,fun y hy z hz=>?_⟩
     ·rcases List.mem_cons.mp hy with e|e
      ·rw[e,WQ];grind
      ·have:=Td y e;grind
     ·rw[ia];exact Td y hy
     ·have WR:=Te y hy x.iv List.mem_cons_self;rcases List.mem_cons.mp hz with e|e
      ·rw[e,ib];exact WR
      ·rcases List.mem_cons.mp e with e|e
       ·rw[e];grind
       ·exact Te y hy z (List.mem_cons_of_mem _ e)
    ·rcases List.mem_append.mp hp with z|z
     ·exact Tc p (List.mem_append_left _ z)
     ·rcases List.mem_cons.mp z with e|e
      ·rw[e];exact lb
      ·rcases List.mem_cons.mp e with e|e
       ·rw[e];exact la
       ·exact Tc p (List.mem_append_right _ (List.mem_cons_of_mem _ e))
   ·obtain⟨WS,WT⟩:=BN hx.rl.2.1 hx.rh.2.1 IF Ny My;have QV:(dO++[xa]++[xb]).reverse=xb::xa::dO.reverse:=by rw[List.reverse_append,List.reverse_append];rfl
    have ek:5701-(x.k+1)=kn:=by lia
    have eb:xb.il ps=iw (Cu ps) kn x.t x.u tm um:=by
     show iw (Cu ps) (5701-(x.k+1)) x.t x.u tm um=_;rw[ek]
    have ea:xa.il ps=iw (Cu ps) kn tm um x.t' x.u':=by
     show iw (Cu ps) (5701-(x.k+1)) tm um x.t' x.u'=_;rw[ek]
    rw[<-JQ,QL,BP (by rw[NJ];exact h2),QV,List.flatMap_cons,List.flatMap_cons,eb,ea,<-WS,<-WT,List.append_assoc]
  ·have h2:¬1<(cl:Int)-ch:=by simpa using c2
   walk_at "sf";refine⟨_,Nat.lt_of_lt_of_le (Nat.lt_succ_self _) (Nat.add_le_add_left Mx _),dO,fs,_,_,_,_,_,rfl,rfl,n1,NG,sW,NH,fun y hy=>pX y (List.mem_append_left _ hy),NI,pF,?_,?_,?_,?_⟩
   ·intro i y hy;exact EG i y (by rw[List.getElem?_append_left (List.getElem?_eq_some_iff.mp hy).1];exact hy)
   ·lia
   ·refine⟨wu.1.sublist (List.Sublist.append_left (List.sublist_cons_self _ _) _),fun p hp=>wu.2 p ?_⟩;rcases List.mem_append.mp hp with z|z
    ·exact List.mem_append_left _ z
    ·exact List.mem_append_right _ (List.mem_cons_of_mem _ z)
   ·rw[<-JQ,QL,Eb (by rw[NJ];exact h1) (by rw[NJ];exact h2),List.nil_append]
end
end eQ
namespace eQ
open PySem PyProof.Rows L2 SF SF.Po
theorem Ends.Tf{xs:List Int}{o b t u t' u':Int}(h:Ends xs o b t u t' u')(hu:0<u)(fq:0<u'):(t:Rat)/(u:Rat)=1/(o:Rat)-(b:Rat)/\(t':Rat)/(u':Rat)=1/(o:Rat)+(b:Rat)/\0<1/(o:Rat)/\1/(o:Rat)<=1:=by
 have h3:=h.three;have JO:Pt o 0 (-b) t u:=by unfold Pt;rw[Int.pow_zero,Int.mul_one,h.lo];grind
 have JP:Pt o 0 b t' u':=by unfold Pt;rw[Int.pow_zero,Int.mul_one,h.hi]
 have v1:=JO.val (by lia) hu;have v2:=JP.val (by lia) fq;rw[Rat.pow_zero] at v1 v2;rw[Rat.intCast_neg] at v1;have ho:(1:Rat)<=(o:Rat):=by
  have:((1:Int):Rat)<=(o:Rat):=Rat.intCast_le_intCast.mpr (by lia);exact this
 have hp:(0:Rat)<1/(o:Rat):=RR.vF (by decide) (by grind);have e1:1/(o:Rat)*(o:Rat)=1:=Rat.div_mul_cancel (by grind);have hle:1/(o:Rat)<=1:=by
  have:=Rat.mul_le_mul_of_nonneg_left ho (Rat.le_of_lt hp);grind
 have one:∀z:Rat,z/1=z:=fun z=>by grind
 rw[one] at v1 v2;exact⟨by rw[v1];grind,v2,hp,hle⟩
theorem uw.lQ{xs:List Int}{ps:List (List Int)}{o b t u t' u':Int}{fs:List Fx}(r:uw xs ps o b t u t' u' fs){x:Re}(h:Re.q ((t':Rat)/(u':Rat))<=x\/x<=Re.q ((t:Rat)/(u:Rat))):at' x (ao xs)≠0:=by
 obtain⟨f1,f2,f3,f4⟩:=r.ends.Tf r.hu r.fq;obtain⟨rr,FX,hb,W,_⟩:=r.ends.QD;have eb:(b:Rat)=2*(rr:Rat)+1:=by rw[hb,Rat.intCast_add,Rat.intCast_mul];rfl
 have G8:(0:Rat)<(rr:Rat):=Rat.intCast_pos.mpr FX;refine Ig r.pre.2.1 FX (r.pre.1.last r.pre.2.1) W ?_;rcases h with h|h
 ·have h2:Re.q (2*(rr:Rat))<=Re.q ((t':Rat)/(u':Rat)):=Re.dI.mpr (by rw[f2,eb];grind);have h0:Re.q 0<=Re.q (2*(rr:Rat)):=Re.dI.mpr (by grind);rw[Re.f6] at h0;unfold Re.ab;split<;>grind
 ·have h2:Re.q ((t:Rat)/(u:Rat))<=Re.q (-(2*(rr:Rat))):=Re.dI.mpr (by rw[f1,eb];grind);rw[Re.nB] at h2;have h0:Re.q 0<=Re.q (2*(rr:Rat)):=Re.dI.mpr (by grind);rw[Re.f6] at h0;unfold Re.ab;split<;>grind
end eQ
namespace eQ
open PySem PyProof.Rows L2 SF SF.Po
theorem uw.len{gs:List (List Int)}{xs:List Int}{ps:List (List Int)}{o b t u t' u':Int}{fs:List Fx}(h:Of gs xs)(r:uw (kN xs) ps o b t u t' u' fs):(fs.length:Int)=(gs.map ft).sum:=by
 obtain⟨f1,f2,f3,f4⟩:=r.ends.Tf r.hu r.fq;have hb:(0:Rat)<(b:Rat):=Rat.intCast_pos.mpr r.ends.bb.1;have hc:=h.count r.pZ r.hu r.fq (by rw[f1,f2];grind);obtain⟨a1,a2,a3,a4,a5⟩:=ff h.jN;have e5:ao (kN xs)=aO (gs.map ao):=by rw[h.sf,a5]
 have jN:∀g∈gs,kQ g:=fun g hg=>(h.jN g hg).1;have e1:=BJ jN (h:=(t':Rat)/(u':Rat)) fun g hg x hx z=>r.lQ (.inl hx) (by rw[e5];exact jA (List.mem_map_of_mem hg) z);have e2:=BK jN (h:=(t:Rat)/(u:Rat)) fun g hg x hx z=>r.lQ (.inr hx) (by rw[e5];exact jA (List.mem_map_of_mem hg) z);rw[e1,e2] at hc;have:=r.cnt;lia
theorem uw.again{gs:List (List Int)}{xs:List Int}{ps Tg:List (List Int)}{o b t u t' u' o2 b2 t2 u2 EE C9:Int}{fs Mz:List Fx}(h:Of gs xs)(r:uw (kN xs) ps o b t u t' u' fs)(r2:uw (kN xs) Tg o2 b2 t2 u2 EE C9 Mz):fs.map Fx.nums=Mz.map Fx.nums:=by
 obtain⟨rfl,rfl,rfl,rfl⟩:=r.ends.uniq r2.ends r.hu r.fq r2.hu r2.fq r.low.1 r.low.2 r2.low.1 r2.low.2;rw[r.iso,r2.iso];refine jB (fun t u t' u' hu fq=>?_) 5701 r.hu r.fq;unfold Cu;by_cases hle:(t:Rat)/(u:Rat)<=(t':Rat)/(u':Rat)
 ·have a:=h.count r.pZ hu fq hle;have c:=h.count r2.pZ hu fq hle;lia
 ·have IC:(t':Rat)/(u':Rat)<=(t:Rat)/(u:Rat):=by grind
  have a:=h.count r.pZ fq hu IC;have c:=h.count r2.pZ fq hu IC;lia
end eQ
namespace eQ
open PySem PyProof.Rows L2 SF SF.Po
noncomputable def ym:Sp:=fun vs H Q _=>∃(p a g h:Addr)(t u t' u':Int)(xs:List Int),vs=[.ref p,.ref a]/\H p=some (.tup [.ref g,.ref h])/\Rt H g t u/\Rt H h t' u'/\(Bd 6000 t/\Bd 6000 u/\Bd 6000 t'/\Bd 6000 u')/\t*u'-t'*u<0/\
 IL H a xs/\(xs.length<=13/\Ab 100 xs)/\sg (hv t u xs)*sg (hv t' u' xs)=-1/\∀H',av H H'->Q (.bl true) H'
section
variable {P:Program} {w:World} {K:PySem.W.Frag} {mg:Str->Option Value} {base:Heap}
theorem kv(T:Nm mg)(i9:cb P w K mg base 36 "_law_ratio" ["_law_top","_law_under"] wg)(ja:cb P w K mg base 36 "_law_order" ["_law_one","_law_other"] wj)(jb:cb P w K mg base 36 "_law_value" ["_law_poly","_law_given"] F8)(D:aN K mg "_law_pair_right" eU ["_law_pair","_law_plain"]):cb P w K mg base 37 "_law_pair_right" ["_law_pair","_law_plain"] ym:=by
 refine D.ok de (fun vs H Q E h=>?_) (fun f cq A outer s H vs Q E hr h=>?_)
 ·obtain⟨p,a,g,h,t,u,t',u',xs,rfl,_⟩:=h;rfl
 obtain⟨p,a,g,h,t,u,t',u',xs,rfl,hp,rg,rh,⟨bt,bu,Gb,C7⟩,lt,ha,⟨lx,bx⟩,QM,q⟩:=h;refine⟨_,(ae (bM (PW.pt (oZ (iz (jx (aw lE rfl T.b0 boot_isinstance (aa (pv 0) (aa (Ax rfl T.Er boot_tuple) af))))) (mO (aG o4 (aw ay rfl T.cx boot_len (aa (pv 0) af)) ah (aI _)))))
  (aj (aC gj))
  aS)
  (ae (dm PassesOwn.never rfl (GB (pv 0)) (aT (i:=2) de.nd rfl (Or.inl rfl))
  (aj (bM (PW.pt (oZ (aG (Hi hr.u4) (aJ i9 hr (aa (aL bq (pv 2) ah (fun _ _=>rfl)) (aa (aL bq (pv 2) ah (fun _ _=>rfl)) af))) (pv 2) (aI _)) (mO (aG jR (aL bq (pv 2) ah (fun _ _=>rfl)) ah (aI _)))))
  (aj (aC gj))
  aS)))
  (ae (qi (pv 0) (qh rfl (e_ (aT (i:=3) de.nd rfl (Or.inl rfl)) (e_ (aT (i:=4) de.nd rfl (Or.inl rfl)) l_))))
  (ae (bM (aG (Hg hr.u4) (pv 3) (pv 4) (aI _))
  (aj (aC (fv jr (aJ jb hr (aa (pv 1) (aa (pv 3) af))) ah (aI _))))
  aS)
  (ae (bM (aG Al (aJ ja hr (aa (pv 3) (aa (pv 4) af))) ah (aI _))
  (aj (aC gj))
  aS)
  (aj (aC (fv jr (ak aF (aJ jb hr (aa (pv 1) (aa (pv 3) af))) (aJ jb hr (aa (pv 1) (aa (pv 4) af)))) (dH cC ah) (aI _))))))))),?_⟩;walk_at "sf";refine⟨_,"tuple",.type "tuple",true,rfl,.tup hp,sk _,?_⟩;walk_at "sf";refine iE ?_;walk_at "sf";refine⟨p,_,rfl,.inr (cJ.of hp),?_⟩;walk_at "sf";refine iE ?_;walk_at "sf";refine⟨_,rfl,p,rfl,⟨_,cJ.of hp⟩,?_⟩;refine Dk (xs:=[V.ref g,V.ref h]) (fun i σ H'=>(∃r2:Option V,σ=[some (.ref p),some (.ref a),r2,none,none])/\av H H') ⟨⟨_,rfl⟩,av.refl _⟩ (fun i σ H' _ z=>cJ.of (z.2 _ _ hp)) ?_ ?_
 ·rintro i x σ H1 hx ⟨⟨r2,rfl⟩,s1⟩;obtain⟨e,c,d,rfl,re,bc,bd⟩:∃(e:Addr)(c d:Int),x=.ref e/\Rt H1 e c d/\Bd 6000 c/\Bd 6000 d:=by
   match i,hx with
   |0,hx=>cases hx;exact⟨g,t,u,rfl,rg.same s1,bt,bu⟩
   |1,hx=>cases hx;exact⟨h,t',u',rfl,rh.same s1,Gb,C7⟩
  walk_at "sf";refine cu (cJ.of re.1) rfl ?_;walk_at "sf";refine cu (cJ.of re.1) rfl ?_;walk_at "sf";refine⟨c,d,6000,rfl,bc,bd,by decide,re.2.1,fun pn c' d' JM _ _ CV Dw e1=>?_⟩;obtain⟨rfl,rfl⟩:=kd CV re.2.1 Dw re.2.2 e1;have s2:=av.new JM (.tup [.int c',.int d']);have hn:upd H1 pn (.tup [.int c',.int d']) pn=some (.tup [.int c',.int d']):=ai;generalize upd H1 pn (.tup [.int c',.int d'])=H2 at s2 hn ⊢;walk_at "sf";refine⟨pn,e,c',d',c',d',rfl,rfl,cJ.of hn,cJ.of (s2 _ _ re.1),?_⟩;rw[beq_self_eq_true,beq_self_eq_true];walk_at "sf";refine iE ?_;walk_at "sf";refine cu (cJ.of (s2 _ _ re.1)) rfl ?_;walk_at "sf";rw[if_neg (by have:=re.2.1;simp;lia)];walk_at "sf";exact⟨⟨_,rfl⟩,s1.trans s2⟩
 rintro σ H1 ⟨⟨r2,rfl⟩,s1⟩;walk_at "sf";refine qm (cJ.of (s1 _ _ hp)) rfl ?_;walk_at "sf";have QW:=rg.same s1;have QX:=rh.same s1;refine⟨g,h,t,u,t',u',rfl,rfl,cJ.of QW.1,cJ.of QX.1,?_⟩;have ne:(t==t'&&u==u')=false:=by
  rw[Bool.and_eq_false_iff];by_cases z:t=t'
  ·right;rw[beq_eq_false_iff_ne];rintro rfl;subst z;lia
  ·left;rw[beq_eq_false_iff_ne];exact z
 rw[ne];walk_at "sf";refine iE ?_;walk_at "sf";refine⟨g,h,t,u,t',u',rfl,QW.1,QX.1,⟨bt.mono (by decide),bu.mono (by decide),Gb.mono (by decide),C7.mono (by decide)⟩,?_⟩;walk_at "sf";have sgn:sg (t*u'-t'*u)=-1:=by unfold sg;rw[if_pos lt]
 rw[sgn];refine iE ?_;walk_at "sf";refine⟨a,g,xs,t,u,6000,rfl,s1 _ _ ha,QW.1,⟨by lia,bx,bt,bu,by decide⟩,?_⟩;walk_at "sf";refine⟨a,h,xs,t',u',6000,rfl,s1 _ _ ha,QX.1,⟨by lia,bx,Gb,C7,by decide⟩,?_⟩;walk_at "sf";refine cB (bC (yd _) (yd _) (by decide)) ?_;rw[QM];walk_at "sf";exact q H1 s1
end
end eQ
namespace eQ
open PySem PyProof.Rows L2 SF PySem.W
noncomputable def Th:Nat->Str
 |0=>"NoRatio"
 |1=>"NoNumber"
 |2=>"TooGreat"
 |3=>"BadText"
 |_=>"BadRow"
theorem MA{i:Nat}(h:i<5):qk [V.str "NoRatio",V.str "NoNumber",V.str "TooGreat",V.str "BadText",V.str "BadRow"] (i:Int)=some (V.str (Th i)):=by
 match i,h with
 |0,_=>exact fw rfl
 |1,_=>exact fw rfl
 |2,_=>exact fw rfl
 |3,_=>exact fw rfl
 |4,_=>exact fw rfl
structure Ad where
 cf:Addr
 c0:Addr
 c1:Addr
 c2:Addr
 c3:Addr
 c4:Addr
noncomputable def Ad.l(a:Ad):List Addr:=[a.c0,a.c1,a.c2,a.c3,a.c4]
noncomputable def Ad.c(a:Ad)(i:Nat):Addr:=a.l.getD i 0
noncomputable def IH(K:Frag)(D:Addr):Bool:=(findIn K (.ref D) "__getattribute__"==some (some (.builtin "BaseException.__getattribute__")))&&(findIn K (.ref D) "__getattr__"==some none)&&(subIn K (.ref D) (.type "BaseException")==some true)
 &&(findIn K (.ref D) "__class__"==some (some (.builtin "object.__class__")))&&(specialIn K (.builtin "object.__class__") "__get__"==some (some (.builtin "getset_descriptor.__get__")))&&(takesIn K (.builtin "object.__class__")==some true)
 &&(mroIn K D (.type "object")==some true)&&hasDictIn K D&&(findIn K (.ref D) "__str__"==some (some (.builtin "BaseException.__str__")))
theorem II{K:Frag}{D:Addr}(h:IH K D=true):Ee K D:=by
 simp only[IH,Bool.and_eq_true,beq_iff_eq] at h;obtain⟨⟨⟨⟨⟨⟨⟨⟨a,b⟩,c⟩,d⟩,e⟩,f⟩,g⟩,i⟩,j⟩:=h;exact⟨a,b,c,d,e,f,g,i,j⟩
noncomputable def QY(K:Frag)(a:Ad):Bool:=((List.range 5).all fun i=>IH K (a.c i)&&keepIn K (.ref (a.c i))&&(kitOne K (.ref (a.c i)) (.ref a.cf)==some true)&&(kitOne K (.ref (a.c i)) (.type "ValueError")==some true)
 &&((List.range 5).all fun j=>kitOne K (.ref (a.c i)) (.ref (a.c j))==some (i==j))&&(i==3||excIn K (a.c i) Pp "ValueError.__new__"))
 &&(exmOne K (.ref a.c0) (.ref a.cf)==some true)&&(findIn K (.ref a.c3) "at"==some none)
structure Gj(K:Frag)(mg:Str->Option Value)(a:Ad):Prop where
 mf:mg "FootError"=some (.ref a.cf)
 m0:mg "NoRatio"=some (.ref a.c0)
 m1:mg "NoNumber"=some (.ref a.c1)
 m2:mg "TooGreat"=some (.ref a.c2)
 m3:mg "BadText"=some (.ref a.c3)
 m4:mg "BadRow"=some (.ref a.c4)
 ok:QY K a=true
section
variable {K:Frag} {mg:Str->Option Value} {a:Ad} {i j:Nat}
theorem Gj.all(C:Gj K mg a)(h:i<5):Ee K (a.c i)/\keepIn K (.ref (a.c i))=true/\kitOne K (.ref (a.c i)) (.ref a.cf)=some true/\kitOne K (.ref (a.c i)) (.type "ValueError")=some true/\
 (∀j,j<5->kitOne K (.ref (a.c i)) (.ref (a.c j))=some (i==j))/\(i≠3->BS K (a.c i)):=by
 have q:=C.ok;simp only[QY,Bool.and_eq_true] at q;have r:=(List.all_eq_true.mp q.1.1) i (List.mem_range.mpr h);simp only[Bool.and_eq_true,beq_iff_eq,Bool.or_eq_true] at r;obtain⟨⟨⟨⟨⟨r1,r2⟩,r3⟩,r4⟩,r5⟩,r6⟩:=r;refine⟨II r1,r2,r3,r4,fun j hj=>?_,fun n=>r6.resolve_left n⟩;have z:=(List.all_eq_true.mp r5) j (List.mem_range.mpr hj);exact beq_iff_eq.mp z
end
end eQ
namespace eQ
open PySem PyProof.Rows L2 SF PySem.W
section
variable {P:Program} {w:World} {K:Frag} {mg:Str->Option Value} {base:Heap} {a:Ad}
theorem l0:bootBuiltins "ValueError"=some (.type "ValueError"):=by kernel_rfl
theorem lA{X:Cx}{x:Str}{c:Addr}{pos:Pos}(hg:Gl X x)(hm:X.mg x=some (.ref c))(hd:(x==("__debug__":Str))=false:=by decide):PE X (.Name x pos) (tC (.ref c)):=qg (v:=.ref c) hg hm rfl hd
noncomputable def fl(i:Nat):List Bool:=[i==0,i==1,i==2,i==3,i==4]
theorem Cy(h:i<5):(fl i).countP (·==true)=1:=by
 match i,h with
 |0,_=>rfl
 |1,_=>rfl
 |2,_=>rfl
 |3,_=>rfl
 |4,_=>rfl
theorem Gk(h:i<5):(fl i).getD i (!true)=true/\∀j,j<i->(fl i).getD j (!true)=(!true):=by
 match i,h with
 |0,_=>exact⟨rfl,fun j hj=>by lia⟩
 |1,_=>exact⟨rfl,fun j hj=>by match j,hj with|0,_=>rfl⟩
 |2,_=>exact⟨rfl,fun j hj=>by match j,hj with|0,_=>rfl|1,_=>rfl⟩
 |3,_=>exact⟨rfl,fun j hj=>by match j,hj with|0,_=>rfl|1,_=>rfl|2,_=>rfl⟩
 |4,_=>exact⟨rfl,fun j hj=>by match j,hj with|0,_=>rfl|1,_=>rfl|2,_=>rfl|3,_=>rfl⟩
noncomputable def Cz(a:Ad):Sp:=fun vs H Q _=>∃x i t tb d,vs=[.ref x]/\i<5/\H x=some (dJ x (a.c i) t tb d)/\pS H d/\∀H',av H H'->Q (.str (Th i)) H'
theorem uA(T:Nm mg)(C:Gj K mg a)(D:aN K mg "_law_word" jI ["_law_e"]):nO P w K mg base vd false 1 "_law_word" ["_law_e"] (fun _=>Cz a):=by
 refine D.JG iX (fun s vs H Q E h=>?_) (fun f cq A outer s H vs Q E lT hr h=>?_)
 ·obtain⟨x,i,t,tb,d,rfl,_⟩:=h;rfl
 obtain⟨x,i,t,tb,d,rfl,hi,hx,hd,q⟩:=h;obtain⟨ask,_,kF,kV,kk,_⟩:=C.all hi;have MB:∀(H1:Hp)(Q:VK)(j:Nat),av H H1->j<5->Q (.bl (i==j)) H1->Ek K [.ref x,.ref (a.c j)] H1 Q:=fun H1 Q j s1 hj q=>⟨x,a.c i,t,tb,d,.ref (a.c j),i==j,rfl,s1 _ _ hx,hd.same s1,ask,nofun,kk j hj,q⟩;have WU:∀(H1:Hp)(Q:VK),av H H1->Q (.bl true) H1->Ek K [.ref x,.ref a.cf] H1 Q:=fun H1 Q s1 q=>⟨x,a.c i,t,tb,d,.ref a.cf,true,rfl,s1 _ _ hx,hd.same s1,ask,nofun,kF,q⟩;have WV:∀(H1:Hp)(Q:VK),av H H1->Q (.bl true) H1->Ek K [.ref x,.ty "ValueError"] H1 Q:=fun H1 Q s1 q=>⟨x,a.c i,t,tb,d,.ty "ValueError",true,rfl,s1 _ _ hx,hd.same s1,ask,nofun,kV,q⟩;refine⟨_,oA.Gz (ae (ar (i:=1) iX.nd rfl (Or.inl rfl) (bS (aa (aw fP rfl T.b0 boot_isinstance (aa (pv 0) (aa (lA rfl C.m0) af))) (aa (aw fP rfl T.b0 boot_isinstance (aa (pv 0) (aa (lA rfl C.m1) af)))
  (aa (aw fP rfl T.b0 boot_isinstance (aa (pv 0) (aa (lA rfl C.m2) af))) (aa (aw fP rfl T.b0 boot_isinstance (aa (pv 0) (aa (lA rfl C.m3) af))) af))))))
  (ae (ar (i:=1) iX.nd rfl (Or.inl rfl) (ak vb (pv 1) (bS (aa (aw fP rfl T.b0 boot_isinstance (aa (pv 0) (aa (lA rfl C.m4) af))) af))))
  (ae (bM (PW.pt (oZ (aG o4 (js PySem.F.plainAttrs_list PySem.F.slot_list_count PySem.F.type_list_count El (pv 1) (aa gj af)) ah (aI _))
   (oZ (iz (jx (aw fP rfl T.b0 boot_isinstance (aa (pv 0) (aa (lA rfl C.mf) af))))) (mO (iz (jx (aw fP rfl T.b0 boot_isinstance (aa (pv 0) (aa (Ax rfl T.qT l0) af)))))))))
   (aj (aC iy)) aS)
  (aj (aC (aL aP (bS (aa iy (aa iy (aa iy (aa iy (aa iy af)))))) (js PySem.F.plainAttrs_list PySem.F.slot_list_index PySem.F.type_list_index Em (pv 1) (aa gj af)) (fun _ _=>rfl))))))),?_⟩;walk_at "sf";refine MB _ _ 0 (av.refl _) (by decide) ?_;walk_at "sf";refine MB _ _ 1 (av.refl _) (by decide) ?_;walk_at "sf";refine MB _ _ 2 (av.refl _) (by decide) ?_;walk_at "sf";refine MB _ _ 3 (av.refl _) (by decide) ?_;walk_at "sf";intro p1 lY;have s1:=av.new lY (.lst [V.bl (i==0),V.bl (i==1),V.bl (i==2),V.bl (i==3)]);walk_at "sf";refine MB _ _ 4 s1 (by decide) ?_;walk_at "sf";intro p2 nk;have s2:=s1.trans (av.new nk (.lst [V.bl (i==4)]));have WW:p1≠p2:=fun z=>by subst z;rw[ai] at nk;cases nk
 refine⟨p1,p2,[V.bl (i==0),V.bl (i==1),V.bl (i==2),V.bl (i==3)],[V.bl (i==4)],rfl,rfl,by rw[aq WW,ai],by rw[ai],cD (show 5<=1000 by decide),fun p3 L6=>?_⟩;have s3:=s2.trans (av.new L6 (.lst ([V.bl (i==0),V.bl (i==1),V.bl (i==2),V.bl (i==3)]++[V.bl (i==4)])));generalize Ti:upd (upd (upd H p1 _) p2 _) p3 _=H3 at s3 ⊢;have h3:aM K H3 p3 ((fl i).map V.bl):=by subst Ti;exact aM.of ai
 clear Ti s1 s2;walk_at "sf";refine⟨_,rfl,⟨.inl ⟨rfl,_,h3⟩,?_⟩⟩;walk_at "sf";refine⟨p3,fl i,true,rfl,rfl,h3,?_⟩;rw[Cy hi];walk_at "sf";refine iE ?_;walk_at "sf";refine WU _ _ s3 ?_;walk_at "sf";refine iE ?_;walk_at "sf";refine WV _ _ s3 ?_;walk_at "sf";refine iE ?_;walk_at "sf";intro p4 QZ;have s4:=s3.trans (av.new QZ (.lst [V.str "NoRatio",V.str "NoNumber",V.str "TooGreat",V.str "BadText",V.str "BadRow"]));walk_at "sf";refine⟨_,rfl,⟨.inl ⟨rfl,_,(av.new QZ _).seq h3⟩,?_⟩⟩;walk_at "sf";refine⟨p3,fl i,true,i,rfl,rfl,(av.new QZ _).seq h3,hi,(Gk hi).1,(Gk hi).2,?_⟩;refine bP (aM.of ai) (MA hi) ?_;exact q _ s4
end
end eQ
namespace eQ
open PySem PyProof.Rows L2 SF PySem.W
section
variable {P:Program} {w:World} {K:Frag} {mg:Str->Option Value} {base:Heap} {a:Ad}
noncomputable def CA(c:Addr):Sp:=fun vs H Q E=>∃(l:Addr)(xs:List Int),vs=[.ref l]/\IL H l xs/\13<xs.length/\∀x tp m,H x=none->H tp=none->x≠tp->E (.ref c) none (upd (upd H tp (.tup [.str m])) x (dJ x c tp .none none))
theorem kx(C:Gj K mg a){uG:Value}(ck:mg "GREATEST_DEGREE"=some uG/\RelV (.int 12) uG)(oo:cb P w K mg base 5 "degree" ["poly"] Cv)(D:aN K mg "isolated" g_ ["poly"]):nO P w K mg base (C4 P w) true 6 "isolated" ["poly"] (fun _=>CA a.c2):=by
 refine D.JG bH (fun s vs H Q E h=>?_) (fun f cq A outer s H vs Q E lT hr h=>?_)
 ·obtain⟨l,xs,rfl,_⟩:=h;rfl
 obtain⟨l,xs,rfl,hl,len,q⟩:=h;have X2:BS K a.c2:=(C.all (i:=2) (by decide)).2.2.2.2.2 (by decide);refine⟨_,(ae (bM (aG fb (aJ oo hr.calm (aa (pv 0) af)) (qg rfl ck.1 ck.2) (aI _)) (aj (B0 (E:=E) vR rfl rfl C.m2 X2 (aa iy af))) aS) yz),?_⟩;walk_at "sf";refine⟨l,xs,rfl,hl,?_⟩;walk_at "sf";rw[if_pos (by simp;lia)];refine⟨by decide,fun x tp e1 e2 e3=>q x tp _ e1 e2 e3⟩
noncomputable def IJ:Expr:=match(dM ip).getLast? with
 |some (.Return (some (.Compare (.Call _ (l::_) _ _) _ _ _)) _)=>l
 |_=>.Constant .none 0 ⟨0,0,0,0⟩
noncomputable def IK:Arguments:=match IJ with
 |.Lambda x _ _ _=>x
 |_=>{posonlyargs:=[],args:=[],vararg:=none,kwonlyargs:=[],kw_defaults:=[],kwarg:=none,defaults:=[]}
noncomputable def IM:Expr:=match IJ with
 |.Lambda _ b _ _=>b
 |e=>e
noncomputable def wx:Scope:=match IJ with
 |.Lambda _ _ sc _=>sc
 |_=>{kind:=.function,names:=[],isGenerator:=false,isCoroutine:=false}
noncomputable abbrev zH:Str:=("law":Str)++".<locals>."++"<lambda>"
theorem IP:tR ["_law_great"] [] wx:=⟨rfl,rfl,rfl,by decide +kernel,by decide +kernel⟩
noncomputable def CB:Shared->Sp:=fun s vs H Q _=>∃(f c' cell:Addr)(u:Value)(l:Addr)(xs:List Int),vs=[.ref f]/\H f=some (B7 f "<lambda>" zH IK IM wx [("_law_great",cell)] c')/\H c'=some (LN c' zH)/\H cell=none/\s.heap.IsCell cell (some u)/\RelV (.ref l) u/\IL H l xs/\13<xs.length/\∀H',Q (.str "TooGreat") H'
theorem EI(C:Gj K mg a)(hx:exmOne K (.ref a.c2) (.ref a.cf)=some true)(IQ:nO P w K mg base vd false 8 "_law_word" ["_law_e"] (fun _=>Cz a))(MC:nO P w K mg base (C4 P w) true 6 "isolated" ["poly"] (fun _=>CA a.c2))(D:aN K mg "_law_told" eT ["_law_rule"]):
 nO P w K mg base vd true 9 "_law_told" ["_law_rule"] CB:=by
 refine D.JG lO (fun s vs H Q E h=>?_) (fun f0 cq A outer s H vs Q E lT hr h=>?_)
 ·obtain⟨f,c',cell,u,l,xs,rfl,_⟩:=h;rfl
 obtain⟨f,c',cell,u,l,xs,rfl,hf,hc,hn,wO,hu,hl,len,q⟩:=h;obtain⟨E1,MD⟩:∃E1:XK,E1=fun c d _=>c=.ref a.c2/\d=none:=⟨_,rfl⟩;obtain⟨R,hR⟩:∃R:Addr->Hp->VK->Prop,R=fun f1 H1 _=>f1=f/\H1 f=some (B7 f "<lambda>" zH IK IM wx [("_law_great",cell)] c')/\H1 c'=some (LN c' zH)/\IL H1 l xs:=⟨_,rfl⟩;have run:∀pins mK CY H1 s1 f1 Q1,Inv (tQ (Ip vd true P w K mg base ["_law_rule","_law_e"] "_law_told" (au eT) f0 cq A outer s H E) pins E1) mK CY H1 s1->R f1 H1 Q1->
  FnAt f1 s1.heap/\codeAny (model P w) (A.deeper (envOfC "_law_told" (au eT) s.heap.objs.size f0 cq)) (.call (.ref f1) ⟨[],[]⟩) (CR (C4 P w) (envOfC "_law_told" (au eT) s.heap.objs.size f0 cq::outer) P w H1 s1 Q1 E1) s1:=by
  intro pins mK CY H1 s1 f1 Q1 J r;rw[hR] at r;obtain⟨rfl,sW,Jx,Lf⟩:=r;obtain⟨pm,Eg,ho⟩:=(J.bO _ _ sW).1;obtain⟨oc,vs,tq,e1,e2,e3⟩:=(J.bO _ _ Jx).1;obtain⟨ob,LR,WX⟩:=wO;obtain⟨sl,Q0⟩:=J.base.any LR hn (fun z=>absurd (show cell∈([]:List Addr) from z) (by simp));have ME:H1 cell=none:=J.base.free cell ob LR hn (fun z=>absurd (show cell∈([]:List Addr) from z) (by simp));have Gm:s1.heap.IsCell cell (some u):=⟨_,Q0,WX⟩;have one:∀x c,([("_law_great",cell)]:List (Str×Addr)).lookup x=some c->x="_law_great"/\c=cell:=fun x c e=>by
   rw[List.lookup_cons] at e;by_cases z:x="_law_great"
   ·subst z;simp only[beq_self_eq_true] at e;exact⟨rfl,(Option.some.inj e).symm⟩
   ·rw[show(x==("_law_great":Str))=false from beq_eq_false_iff_ne.mpr z] at e;cases e
  refine⟨⟨_,_,_,_,ho⟩,Ej (CX:=C4 P w) (cm:=true) (k:=7) (N:=["_law_great"]) (ps:=[]) (us:=[]) IP ho ⟨c',oc,vs,tq,rfl,e1,e2,e3⟩ J.GL hr rfl (fun x c e=>?_) (fun x y c e1 e2=>(one x c e1).1.trans (one y c e2).1.symm) (fun x e=>?_) (σ:=[some (.ref l)]) rfl (fun i x v h1 h2=>?_) fun z0=>⟨_,B6 MC (z0.mono (by decide)) vS.passes (aa (pv 0) af),?_⟩⟩
  ·obtain⟨rfl,rfl⟩:=one x c e;exact⟨⟨_,Gm⟩,ME⟩
  ·have:x="_law_great":=(by decide +kernel:∀y∈wx.names,y.2=.free->y.1="_law_great") _ (PySem.mem_of_lookup e) rfl;subst this;exact⟨cell,rfl⟩
  ·match i,h1,h2 with
   |0,h1,h2=>
    cases h1;cases h2;exact .inr ⟨rfl,cell,u,rfl,Gm,hu⟩
   |i+1,h1,h2=>cases h1
  ·walk_at "sf";refine⟨l,xs,rfl,Lf,len,fun x tp m _ _ _=>?_⟩;rw[MD];exact⟨rfl,rfl⟩
 refine⟨_,aj (Io (E:=E1) (i:=1) (c:=a.cf) rfl rfl (fun pins=>aj (aC (Ir (CX:=C4 P w) (E:=E1) (i:=0) (R:=R) rfl (Or.inl rfl) vP.passes (run pins)))) (fun a'=>aj (aC (B6 IQ hr.mark Au (aa (pv 1) af)))) rfl C.mf (fun C1 d H1 e=>?_) lO.nd rfl rfl),?_⟩
 ·rw[MD] at e;cases e.1;exact hx
 ·refine⟨⟨f,rfl,by rw[hR];exact⟨rfl,hf,hc,hl⟩⟩,fun bE H' a1 C1 t tb d H1 rM hl ha LM _ hE=>?_⟩;rw[MD] at hE;obtain⟨e1,rfl⟩:=hE;cases e1;obtain⟨y0,y1,rfl⟩:∃y0 y1,bE=[y0,y1]:=by
   match bE,hl with
   |[y0,y1],_=>exact⟨y0,y1,rfl⟩
  walk_at "sf";exact⟨a1,2,t,tb,none,rfl,by decide,ha,.inl rfl,fun H2 _=>q H2⟩
end
end eQ
namespace eQ
open PySem PyProof.Rows L2 SF SF.Po
section
open PySem.W
noncomputable def CC(R:List V->Hp->L2.St->VK->Prop)(t:TA):TE:=fun σ H Q=>t σ H fun vs H1=>R vs H1 σ Q
theorem IS{X:Cx}{CX:ow}{cm:Bool}{k:Nat}{ps:List Str}{E:XK}{x:Str}{p pos:Pos}{e:Expr}{es:List Expr}{t:TA}{sp:Shared->Sp}{R:List V->Hp->L2.St->VK->Prop}(F:nO X.prog X.w X.K X.mg X.base CX cm k x ps sp)(hr:dG cm k X.A)(hx:Passes CX X E)(ha:PA X (e::es) t)(hR:∀pins σ H s vs Q,Inv X pins σ H s->R vs H σ Q->sp s vs H Q E)(hg:Gl X x:=by rfl)(u5:(x==("__debug__":Str))=false:=by decide)(he:starEach (e::es) X.env=(false,eval e X.env)::starEach es X.env:=by rfl)(r_:(backTo pos (starEach es X.env)).any (·.1)=false:=by rfl):PE X (.Call (.Name x p) (e::es) [] pos) (CC R t):=by
 obtain⟨f,fd,a,b,c,d⟩:=F.ex;intro pins s σ H Q I h;refine wpAny_Call_Name_kw (jd I hg b ?_ u5);refine callWith_K (h₀:=X.base) I.ok.mod.Gv c (c_ (ha pos pins s σ H _ I h) fun us s1⟨vs,H1,I1,r,q⟩=>⟨I1.ou,?_⟩) he r_;exact xZ a hr d hx I1 r (hR pins σ H1 s1 vs Q I1 q)
end
theorem Of.scale{gs:List (List Int)}{xs:List Int}(h:Of gs xs){c:Int}(hc:c≠0):Of gs (dX (fun i=>c*co xs i) xs.length):=by
 have ez:ao (dX (fun i=>c*co xs i) xs.length)=Po.K c*ao xs:=Po.ext fun i=>by
  rw[aX,aV,aX,mq (fun i hi=>by rw[cw hi];exact Int.mul_zero c)]
 have lz:=aA (fun i=>c*co xs i) xs.length;have hp:=List.length_pos_iff.mpr h.ne;refine⟨h.jN,h.nd,h.zC,Tr.gQ fun _=>?_,List.length_pos_iff.mp (by lia),fun π rN=>?_⟩
 ·rw[lz,gP,if_pos (by lia)];exact Int.mul_ne_zero hc (h.tr.last h.ne)
 ·rw[ez,Wc hc];exact h.dv π rN
theorem ky:Of [] [7]:=by
 have t5:Tr [7]:=fy (xs:=[]) (by decide);refine⟨(fun g hg=>nomatch hg),List.nodup_nil,by decide,t5,by simp,fun π rN=>⟨fun d=>?_,fun d=>?_⟩⟩
 ·exfalso;have l5:Po.len (ao [7])=1:=aU t5;have:=d.len (a_ (by lia));have:=rN.1;lia
 ·exfalso;have l1:Po.len (1:Po)=1:=by rw[<-Po.bN];exact len_K (by decide)
  have e:aO (List.map ao [])=1:=rfl;rw[e] at d;have:=d.len (a_ (by lia));have:=rN.1;lia
theorem uB{own:List Str}{fr:List Nat}{g:TG}{te:TE}{σ:L2.St}{H1:Hp}{Q:VK}{lo:Int}{n:Nat}(Pv:List V->Prop)(hz:n<=sizeLine)(p0:Pv [])(hs:∀(i:Nat)(r:L2.St)(ys:List V)(H2:Hp),i<n->r.length=own.length->ys.length=i->Pv ys->av H1 H2->∀Z:V->L2.St->Hp->Prop,(∀y da H5,av H2 H5->Pv (ys++[y])->(∃r':L2.St,r'.length=own.length/\da=r'++rL fr σ)->Z y da H5)->g (.int (lo+i)) (r++rL fr σ) H2 fun da H4=>te da H4 fun y H5=>Z y da H5)(hq:∀D H2 ys,H1 D=none->av H1 H2->H2 D=some (.lst ys)->ys.length=n->Pv ys->Q (.ref D) H2):kJ (wQ lo n) own fr σ g te H1 Q:=vh Pv hz p0 hs hq
theorem MF{z:Int}(h:z<=0):¬0<sg z:=by
 unfold sg;split
 ·lia
 ·rw[if_neg (by lia)];lia
theorem EJ{σ:L2.St}{H:Hp}{Q:VK}{t:TA}{R:List V->Hp->L2.St->VK->Prop}(h:t σ H fun vs H1=>R vs H1 σ Q):CC R t σ H Q:=h
theorem EK{H:Hp}{Q:VK}{x:V}(hs:GI x x=true)(h:Q (.bl true) H):N8 x x H Q:=⟨hs,by rw[decide_eq_true rfl];exact h⟩
theorem WY(L fa c:Addr):closureFor wx (envOfC "law" (au ip) L fa (.ref c))=pure [(("_law_great":Str),L+1+1)]:=by first|(rfl;done)|kernel_rfl
noncomputable def yo(K:PySem.W.Frag)(Pt:Addr):Sp:=fun vs H Q _=>∃(sa:Addr)(ns:List Int),vs=[.ref sa]/\aM K H sa (ns.map V.int)/\ns.length<=63/\H Pt=some (.oX #[])/\∀H',Q (.bl true) H'
theorem ND.next{l:List (Rat×Rat)}(h:ND l){k:Nat}(h1:k<l.length)(h2:k-1<l.length)(hk:0<k):l[k-1].2<=l[k].1:=(List.pairwise_iff_getElem.mp h.1) (k-1) k h2 h1 (by lia)
section
variable {P:Program} {w:World} {K:PySem.W.Frag} {mg:Str->Option Value} {base:Heap}
theorem IT{fa c Pt:Addr}{IU:FuncData}(T:Nm mg)(ij:cb P w K mg base 37 "_law_cell" ["_law_script","_law_k"] (v3 K))(fX:cb P w K mg base 37 "_law_drawn" ["_law_cell_here","_law_k"] qW)(oS:cb P w K mg base 37 "_law_factors" ["_law_script","_law_k","_law_many_here"] (pW K))(p_:cb P w K mg base 37 "_law_all" ["_law_factors_here","_law_powers"] Cp)(ja:cb P w K mg base 37 "_law_order" ["_law_one","_law_other"] wj)(wy:cb P w K mg base 37 "_law_many" ["_law_factor"] Co)(lB:cb P w K mg base 37 "_law_pair_right" ["_law_pair","_law_plain"] ym)(jM:cb P w K mg base 37 "isolated" ["poly"] Gg)(IV:nO P w K mg base vd true 37 "_law_told" ["_law_rule"] CB)(F:Av K "law" "law" ip fa IU)(Jw:IU.code=.ref c)(hc:PySem.W.CodeHd base c Pt)(B:SF.BMain base mg):FR P w K mg base vd true 38 fa IU ["_law_script"] (fun _=>yo K Pt):=by
 refine F.JG gd (fun s vs H Q E h=>?_) (fun cq A outer s H vs Q E lT WZ FX h=>?_)
 ·obtain⟨sa,ns,rfl,_⟩:=h;rfl
 obtain⟨sa,ns,rfl,hS,hl,hP,q⟩:=h;obtain rfl:Value.ref c=cq:=Jw.symm.trans WZ;have hr:=FX.calm;obtain⟨cell,W0,Q2⟩:∃cell,(envOfC "law" (au ip) s.heap.objs.size fa (.ref c)).cells.lookup ("_law_great":Str)=some cell/\closureFor wx (envOfC "law" (au ip) s.heap.objs.size fa (.ref c))=pure [(("_law_great":Str),cell)]:=⟨_,rfl,WY _ _ _⟩;obtain⟨R,hR⟩:∃R:List V->Hp->L2.St->VK->Prop,R=fun vs H1 σ Q1=>∃(f c' l:Addr)(xs:List Int),vs=[.ref f]/\H1 f=some (B7 f "<lambda>" zH IK IM wx [("_law_great",cell)] c')/\H1 c'=some (LN c' zH)/\σ[8]?=some (some (.ref l))/\IL H1 l xs/\13<xs.length/\∀H',Q1 (.str "TooGreat") H':=⟨_,rfl⟩;refine⟨_,oA.Gz (ae (ar (i:=1) gd.nd rfl (Or.inl rfl) (aJ oS hr (aa (pv 0) (aa ah (aa (ak aZ ah (ak bL (aJ fX hr (aa (aJ ij hr (aa (pv 0) (aa ah af))) (aa ah af))) ah)) af)))))
  (ae (qp (i:=2) gd.nd rfl rfl rfl (gL (own:=["_law_k"]) (fr:=[0]) (fs:=["_law_script"]) (by with_unfolding_all rfl) rfl (by decide +kernel) (by decide +kernel) (by exact⟨rfl,trivial⟩) (by with_unfolding_all rfl) (by exact⟨⟨rfl,rfl,rfl,Or.inl rfl⟩,trivial⟩)) (dB rfl T.eZ (aa (aw ay rfl T.cx boot_len (aa (pv 1) af)) af)) (fun _ _ _ _ _=>(aT (i:=0) (show List.Nodup (["_law_k","_law_script"]:List Str) by decide +kernel) rfl (Or.inl rfl) (Or.inr rfl))) (fun _ _ _ _ _=>(ak aZ ah (ak bL (aJ fX hr (aa (aJ ij hr (aa (pv 1) (aa (pv 0) af))) (aa (ak aZ (pv 0) ah) af))) ah))) rfl)
  (ae (qp (i:=3) gd.nd rfl rfl rfl (gL (own:=["_law_one"]) (fr:=[0]) (fs:=["_law_script"]) (by with_unfolding_all rfl) rfl (by decide +kernel) (by decide +kernel) (by exact⟨rfl,trivial⟩) (by with_unfolding_all rfl) (by exact⟨⟨rfl,rfl,rfl,Or.inl rfl⟩,trivial⟩)) (fu (aJ p_ hr (aa (pv 1) (aa (pv 2) af)))) (fun _ _ _ _ _=>(aT (i:=0) (show List.Nodup (["_law_one","_law_script"]:List Str) by decide +kernel) rfl (Or.inl rfl) (Or.inr rfl))) (fun _ _ _ _ _=>(ak aF (ak aF (ak bB ah (ak aF ah (ak bL (aw (pA (K:=K) rfl) rfl T.cx boot_len (aa (pv 1) af)) ah))) (ak aZ ah (ak bL (aw (pA (K:=K) rfl) rfl T.cx boot_len (aa (pv 1) af)) ah))) (pv 0))) rfl)
  (ae (ar (i:=4) gd.nd rfl (Or.inl rfl) (aJ p_ hr (aa (pv 1) (aa (ak vc (bS (aa ah af)) (aw ay rfl T.cx boot_len (aa (pv 1) af))) af))))
  (ae (bM (aG fb (aw ay rfl T.cx boot_len (aa (pv 3) af)) ah (aI _))
  (aj (ar (i:=3) gd.nd rfl (Or.inl rfl) (pv 4)))
  aS)
  (ae (ar (i:=5) gd.nd rfl (Or.inl rfl) (aJ jM hr (aa (pv 3) af)))
  (ae (bM (PW.pt (oZ (iz (jx (aw lE rfl T.b0 boot_isinstance (aa (pv 5) (aa (Ax rfl T.nX boot_list) af))))) (mO (aG o4 (aw ay rfl T.cx boot_len (aa (pv 5) af)) (aw (yO rfl) rfl T.L3 boot_sum (aa (je rfl rfl (gL (own:=["_law_factor"]) (fr:=[]) (fs:=[]) (by with_unfolding_all rfl) rfl (by decide +kernel) (by decide +kernel) (by exact trivial) (by with_unfolding_all rfl) (by exact trivial)) (fu (pv 1)) (fun _ _ _ _ _=>(aT (i:=0) (show List.Nodup (["_law_factor"]:List Str) by decide +kernel) rfl (Or.inl rfl) (Or.inr rfl))) (fun _ _ _ _ _=>(aJ wy hr (aa (pv 0) af)))) af)) (aI _)))))
  (aj (aC gj))
  aS)
  (ae (dm PassesOwn.never rfl (dB rfl T.eZ (aa (aw ay rfl T.cx boot_len (aa (pv 5) af)) af)) (aT (i:=6) gd.nd rfl (Or.inl rfl))
  (ae (bM (iz (jx (aJ lB hr (aa (aL aP (pv 5) (pv 6) (fun _ _=>rfl)) (aa (pv 4) af)))))
  (aj (aC gj))
  aS)
  (ae (bM (PW.pt (mP (aG fb (pv 6) ah (aI _)) (jP (aG fb (aJ ja hr (aa (aL bq (aL aP (pv 5) (ak bB (pv 6) ah) (fun _ _=>rfl)) ah (fun _ _=>rfl)) (aa (aL bq (aL aP (pv 5) (pv 6) (fun _ _=>rfl)) ah (fun _ _=>rfl)) af))) ah (aI _)))))
  (aj (aC gj))
  aS)
  (aj (bM (PW.pt (mP (aG fb (pv 6) ah (aI _)) (jP (aG (Hk hr.units) (aL aP (pv 5) (ak bB (pv 6) ah) (fun _ _=>rfl)) (aL aP (pv 5) (pv 6) (fun _ _=>rfl)) (aI _)))))
  (aj (aC gj))
  aS)))))
  (ae (ar (i:=7) gd.nd rfl (Or.inl rfl) (dC gJ rfl T.nX boot_list (aa (pv 5) af)))
  (ae (fS (js PySem.F.plainAttrs_list PySem.F.slot_list_append PySem.F.type_list_append dD (pv 5) (aa ah af)))
  (ae (bM (PW.pt (oZ (aG (Hn hr.units) (aJ jM hr (aa (pv 3) af)) (pv 7) (aI _)) (mO (aG (G6 hr.units) (aJ jM hr (aa (bS (aa ah af)) af)) (bS af) (aI _)))))
  (aj (aC gj))
  aS)
  (ae (ar (i:=8) gd.nd rfl (Or.inr rfl) (ak vb (ak vb (bS (aa ah af)) (ak vc (bS (aa ah af)) (ak aZ ah (ak bL (aw ay rfl T.cx boot_len (aa (pv 0) af)) ah)))) (bS (aa ah af))))
  (aj (aC (fv jr (IS (R:=R) (E:=E0) IV (FP hr) Au (aa (Iq (P:=Pt) (cl:=[("_law_great",cell)]) rfl hc Q2 rfl B) af) ?hR) iy (aI _)))))))))))))))),?_⟩
 case hR=>
  intro pins CY H1 s1 vs Q1 J r;rw[hR] at r;obtain⟨f,c',l,xs,rfl,e1,e2,e3,e4,e5,q1⟩:=r;obtain⟨m,hn,RA⟩:=J.loc;obtain⟨u,ru,lk⟩:=RA 8 "_law_great" (.ref l) rfl e3 (Or.inr (Or.inl rfl));rcases lk with⟨k1,_⟩|⟨_,c1,k2,k3⟩
  ·cases k1
  ·have ec:c1=cell:=Option.some.inj (k2.symm.trans W0);subst ec;exact⟨f,c',c1,u,l,xs,rfl,e1,e2,J.fj _ _ k2,k3,ru,e4,e5,q1⟩
 walk_at "sf";refine⟨sa,ns,_,rfl,hS,hl,by decide,fun c H1 s1=>?_⟩;walk_at "sf";refine⟨_,_,rfl,fun m m0 mz=>?_⟩;walk_at "sf";refine cB (by decide) ?_;obtain⟨a1,a2,a3⟩:=fm (x:=m) (m:=4) (by decide);rw[a1];walk_at "sf";obtain⟨mn,W3⟩:=Int.eq_ofNat_of_zero_le (show 0<=1+m%4 by lia);rw[W3];refine⟨sa,ns,_,mn,rfl,s1.seq hS,hl,by decide,by lia,by lia,fun fc as gs H2 s2 LQ Q3 jN nd YB EL=>?_⟩;walk_at "sf";have hlen:=Q3.len;refine gR (H1:=H2) (wQ 0 as.length) (fun R hR=>?_) (uB (n:=as.length) (fun ys=>∃es:List Int,ys=es.map V.int/\∀x∈es,x=1\/x=2) (cD (by lia)) ⟨[],rfl,(fun x hx=>nomatch hx)⟩ ?_ ?_)
 ·walk_at "sf";refine⟨fc,_,rfl,.inl (aM.of LQ),?_⟩;walk_at "sf";rw[List.length_map];refine⟨_,rfl,by lia,by lia,?_⟩;exact hR
 ·rintro i r ys H3 hi z0 uP ⟨es,rfl,Mo⟩ Dx Z hZ;obtain⟨x0,rfl⟩:=sL z0;walk_at "sf";refine⟨sa,ns,_,rfl,(s1.trans (s2.trans Dx)).seq hS,hl,by lia,fun c' H4 x6=>?_⟩;walk_at "sf";refine⟨_,_,rfl,fun m' _ _=>?_⟩;walk_at "sf";refine cB (by decide) ?_;obtain⟨b1,b2,b3⟩:=fm (x:=m') (m:=2) (by decide);rw[b1];walk_at "sf";refine hZ _ _ _ x6 ⟨es++[1+m'%2],by rw[List.map_append];rfl,fun x hx=>?_⟩ ⟨[_],rfl,rfl⟩;rcases List.mem_append.mp hx with hx|hx
  ·exact Mo x hx
  ·rw[List.mem_singleton.mp hx];lia
 rintro D H3 ys hD Dx Tj W4 ⟨es,rfl,Mo⟩;rw[List.length_map] at W4;have s3:=s1.trans (s2.trans Dx);have IW:=Dx _ _ LQ;have IX:jK H3 as gs:=Q3.map fun a p z=>Dx _ _ z;clear s1 s2 Dx LQ Q3;walk_at "sf";refine x' (fun J H4=>∃(p:Addr)(xs:List Int),J=rJ K p/\av H3 H4/\IL H4 p xs/\xs.length<=25/\Ab 300 xs/\Of gs xs) (fun R hR=>?_) ?_
 ·walk_at "sf";refine⟨fc,D,as,gs,es,rfl,IW,IX,jN,EL,Tj,by lia,Mo,fun p xs H4 s4 h4 tx W5 lx bx dv _=>?_⟩;exact⟨p,rfl,⟨_,aM.of h4⟩,hR _ _ ⟨p,xs,rfl,s4,h4,lx,bx,jN,nd,EL,tx,W5,dv⟩⟩
 rintro J H4 ⟨pp,xs,rfl,x6,h4,lx,bx,Tn⟩;generalize Q5:(((ns.map V.int).length:Nat):Int)=ln;have YC:0<=ln:=by lia
 have ln2:=Int.emod_nonneg ln (show(2:Int)≠0 by decide);have W6:=Int.emod_lt_of_pos ln (show(0:Int)<2 by decide);have YD:=Int.emod_nonneg ln (show(3:Int)≠0 by decide);have W7:=Int.emod_lt_of_pos ln (show(0:Int)<3 by decide);refine fJ (xs:=xs) (aM.of h4) (fun i=>(1-2*(ln%2))*(1+ln%3)*co xs i) (by lia) ?_ ?_
 ·intro i r H5 hi z0 zB Z hZ;obtain⟨x0,rfl⟩:=sL z0;walk_at "sf";refine⟨sa,_,rfl,.inl ((s3.trans (x6.trans zB)).seq hS),?_⟩;rw[Q5];walk_at "sf";refine cB (by decide) ?_;rw[dr (by decide)];refine cB (bC (m:=4) (n:=4) (Bd.of_two (by decide) (by decide)) (Bd.of_two (by lia) (by lia)) (by decide)) ?_;walk_at "sf";refine⟨sa,_,rfl,.inl ((s3.trans (x6.trans zB)).seq hS),?_⟩;rw[Q5];walk_at "sf";refine cB (by decide) ?_;rw[dr (by decide)];walk_at "sf";have c1:Bd 4 (1-2*(ln%2)):=Bd.of_two (by lia) (by lia);have c2:Bd 4 (1+ln%3):=Bd.of_two (by lia) (by lia);refine cB (bC c1 c2 (by decide)) ?_;walk_at "sf";refine cB (bC (c1.mul c2) (bx.co i) (by decide)) ?_;exact hZ _ _ (av.refl _) ⟨[_],rfl,rfl⟩
 intro p1 H5 YE zB h5;have To:=Tn.scale (c:=(1-2*(ln%2))*(1+ln%3)) (Int.mul_ne_zero (by lia) (by lia));have bz:Ab 400 (dX (fun i=>(1-2*(ln%2))*(1+ln%3)*co xs i) xs.length):=Cn fun i _=>by
  have c1:Bd 4 (1-2*(ln%2)):=Bd.of_two (by lia) (by lia);have c2:Bd 4 (1+ln%3):=Bd.of_two (by lia) (by lia);exact((c1.mul c2).mul (bx.co i)).mono (by decide)
 have lz:(dX (fun i=>(1-2*(ln%2))*(1+ln%3)*co xs i) xs.length).length<=25:=by rw[aA];exact lx
 generalize dX (fun i=>(1-2*(ln%2))*(1+ln%3)*co xs i) xs.length=xz at h5 To bz lz;have s5:=s3.trans (x6.trans zB);have EM:=(x6.trans zB) _ _ IW;have IY:jK H5 as gs:=IX.map fun a p z=>(x6.trans zB) _ _ z;clear s3 x6 zB h4 IW IX lx bx Tn Tj;walk_at "sf";intro po ui;walk_at "sf";have so:=av.new ui (.lst [V.int 1]);refine⟨fc,_,rfl,.inl (aM.of (so _ _ EM)),?_⟩;walk_at "sf";rw[List.length_map];refine⟨po,_,_,rfl,rfl,ai,by lia,by lia,by show 1*((as.length:Int)).toNat<=sizeLine;exact cD (by lia),fun pr W8=>?_⟩;have er:(List.replicate ((as.length:Int)).toNat [V.int 1]).flatten=(List.replicate as.length (1:Int)).map V.int:=by
  rw[qU,km];rfl
 have sr:=so.trans (av.new W8 (.lst (List.replicate ((as.length:Int)).toNat [V.int 1]).flatten));have Jv:upd (upd H5 po (.lst [V.int 1])) pr (.lst (List.replicate ((as.length:Int)).toNat [V.int 1]).flatten) pr=some (.lst ((List.replicate as.length (1:Int)).map V.int)):=by rw[ai,er]
 generalize upd (upd H5 po (.lst [V.int 1])) pr (.lst (List.replicate ((as.length:Int)).toNat [V.int 1]).flatten)=YF at sr Jv ⊢;walk_at "sf";refine⟨fc,pr,as,gs,List.replicate as.length 1,rfl,sr _ _ EM,IY.map fun a p z=>sr _ _ z,jN,EL,Jv,by rw[List.length_replicate];lia,fun x hx=>.inl (List.eq_of_mem_replicate hx),fun p2 ys H6 s6 h6 ty W9 ly W_ _ CD=>?_⟩;have Q6:ys=gE gs:=by
  obtain⟨a1,a2,a3,a4,a5⟩:=ff jN;refine gT ty a1 ?_;rw[a5];exact CD fun x hx=>List.eq_of_mem_replicate hx
 walk_at "sf";refine⟨p1,_,rfl,.inl (aM.of ((sr.trans s6) _ _ h5)),?_⟩;walk_at "sf";refine Hj rfl rfl fun xv Tp=>?_;have MG:=sr.trans s6;have W':Of gs ys:=⟨jN,nd,EL,ty,W9,fun π rN=>by rw[CD fun x hx=>List.eq_of_mem_replicate hx]⟩;obtain⟨a1,a2,a3,a4,a5⟩:=ff jN;have Xa:ys.length<=13:=by rw[Q6];lia
 have Xb:Ab 100 ys:=by rw[Q6];exact a4.mono (by lia)
 obtain⟨pl,zs,rfl,Q7,IZ,Tq,Xc⟩:∃(pl:Addr)(zs:List Int),xv=.ref pl/\IL H6 pl zs/\Of gs zs/\zs.length<=13/\Ab 400 zs:=by
  rcases Tp with⟨c1,rfl⟩|⟨c1,rfl⟩
  ·exact⟨p2,ys,rfl,h6,W',by lia,W_.mono (by decide)⟩
  ·refine⟨p1,xz,rfl,MG _ _ h5,To,?_,bz⟩;rw[List.length_map] at c1;have:¬(13:Int)<(xz.length:Int):=by simpa using c1
   lia
 have Xd:kN zs=ys:=by rw[IZ.sf,Q6]
 have NP:=s5.trans MG;have MH:=MG _ _ EM;have MI:jK H6 as gs:=IY.map fun a p z=>MG _ _ z;clear Tp so sr MG s6 s5 Jv EM IY h5;walk_at "sf";have MJ:Ey zs:=⟨IZ.tr,IZ.ne,by lia,400,by decide,Xc⟩;refine⟨pl,zs,rfl,Q7,⟨MJ,IZ.pre,Tq⟩,fun r fs ps o b t u t' u' H7 s7 Xe EN hF iso Wz=>?_⟩;have Xf:=NP.trans s7;have Q8:=s7 _ _ Q7;have Ts:=s7 _ _ h6;have I0:=s7 _ _ MH;have MK:jK H7 as gs:=MI.map fun a p z=>s7 _ _ z;have qI:=iso.len IZ;clear h6 MH MI;walk_at "sf";refine⟨_,"list",.type "list",true,rfl,.lst EN,sk _,?_⟩;walk_at "sf";refine iE ?_;walk_at "sf";refine⟨r,_,rfl,.inl (aM.of EN),?_⟩;walk_at "sf";rw[List.length_map];refine gR (H1:=H7) (rJ K fc) (fun R hR=>?_) (n_ (xs:=as.map V.ref) (aM.of I0) (fun ys=>ys=((gs.take ys.length).map fun g=>V.int (ft g))) (cD (by rw[List.length_map];lia)) rfl ?_ ?_)
 ·walk_at "sf";exact⟨fc,rfl,⟨_,aM.of I0⟩,hR⟩
 ·intro i x r1 JS C_ hx z0 uP C8 d_ Z hZ;rw[List.getElem?_map] at hx;cases ea:as[i]? with
  |none=>rw[ea] at hx;cases hx
  |some a=>
   rw[ea] at hx;have Qs:V.ref a=x:=by simpa using hx
   subst Qs;obtain⟨g,eg,hg⟩:=(MK.map fun a p z=>d_ _ _ z).get i ea;obtain⟨fg,ag⟩:=jN g (List.mem_of_getElem? eg);obtain⟨x0,rfl⟩:=sL z0;walk_at "sf";refine⟨a,g,rfl,hg,fg.tr.2.2.1,ag,fun NN Gh=>?_⟩;walk_at "sf";refine hZ _ _ _ Gh ?_ ⟨[_],rfl,rfl⟩;have el:(JS++[V.int (ft g)]).length=JS.length+1:=by simp
   show JS++[V.int (ft g)]=List.map (fun g=>V.int (ft g)) (List.take (JS++[V.int (ft g)]).length gs);rw[el,List.take_add_one,uP,eg,List.map_append,<-uP,<-C8];rfl
 intro E1 H8 JS MD Q9 Q_ NA C8;rw[List.length_map] at NA;have Ra:JS=(gs.map ft).map V.int:=by
  rw[C8,NA,hlen,List.take_length,List.map_map];rfl
 rw[Ra] at Q_;walk_at "sf";refine⟨E1,_,rfl,aM.of Q_,?_⟩;rw[<-qI];walk_at "sf";refine Kx rfl ?_;walk_at "sf";refine⟨r,_,rfl,.inl (aM.of (Q9 _ _ EN)),?_⟩;walk_at "sf";rw[List.length_map];refine⟨_,rfl,by lia,by lia,?_⟩;rw[Int.toNat_natCast];have jZ:∀k(h:k<fs.length),fs[k]∈fs:=fun k h=>List.getElem_mem h;have JT:∀k(h:k<fs.length),qk (fs.map fun f=>V.ref f.p) (k:Int)=some (V.ref fs[k].p):=fun k h=>fw (by rw[List.getElem?_map,List.getElem?_eq_getElem h];rfl);have eL:∀k(h:k<fs.length),fs[k].t*fs[k].u'<fs[k].t'*fs[k].u:=fun k h=>by
  have h1:=iso.SN.2 _ (List.mem_map.mpr ⟨_,jZ k h,rfl⟩);have hx:=hF _ (jZ k h);have h2:¬fs[k].t'*fs[k].u<=fs[k].t*fs[k].u':=fun z=>by
   have:=(Ct hx.rh.2.1 hx.rl.2.1).mpr z;have Hl:(fs[k].t:Rat)/(fs[k].u:Rat)<(fs[k].t':Rat)/(fs[k].u':Rat):=h1;grind
  lia
 have Tt:∀k(h:k<fs.length)(h0:0<k),(fs[k-1]'(by lia)).t'*fs[k].u<=fs[k].t*(fs[k-1]'(by lia)).u':=fun k h h0=>by
  have h1:=iso.SN.next (k:=k) (by rw[List.length_map];exact h) (by rw[List.length_map];lia) h0
  rw[List.getElem_map,List.getElem_map] at h1;exact(Ct (hF _ (jZ (k-1) (by lia))).rh.2.1 (hF _ (jZ k h)).rl.2.1).mp h1
 refine dU (fun k σ H'=>∃(r6:Option V),σ=[some (.ref sa),some (.ref fc),some (.ref D),some (.ref pl),some (.ref p2),some (.ref r),r6,none,none]/\av H7 H') ⟨_,rfl,Q9⟩ ?_ ?_
 ·rintro k σ H9 hk ⟨r6,rfl,s9⟩;have e0:(0:Int)+(k:Int)=(k:Int):=by lia
  rw[e0];have CZ:k<fs.length:=by lia
  have Rb:=(hF _ (jZ k CZ)).same s9;have Gn:=iso.px _ (jZ k CZ);have Xg:=eL k CZ;rw[Xd] at Gn;walk_at "sf";refine bP (aM.of (s9 _ _ EN)) (JT k CZ) ?_;walk_at "sf";refine⟨_,p2,_,_,_,_,_,_,ys,rfl,Rb.hp,Rb.rl,Rb.rh,⟨Gn.bt,Gn.bu,Gn.Gb,Gn.C7⟩,by lia,s9 _ _ Ts,⟨Xa,Xb⟩,Gn.sgn,fun vg G5=>?_⟩;walk_at "sf";refine iE ?_;walk_at "sf";have CF:=s9.trans G5;have rB:=CF _ _ EN;have wz:=(hF _ (jZ k CZ)).same CF;by_cases k0:k=0
  ·subst k0;refine iE ?_;walk_at "sf";refine iE ?_;walk_at "sf";exact⟨_,rfl,CF⟩
  have ML:k-1<fs.length:=by lia
  have ek:(k:Int)-1=((k-1:Nat):Int):=by lia
  have I_:=(hF _ (jZ (k-1) ML)).same CF;have Tu:=iso.px _ (jZ (k-1) ML);have Tv:=eL (k-1) ML;have Rc:=Tt k CZ (by lia);have Tw:(decide ((k:Int)>0))=true:=decide_eq_true (by lia);rw[Tw];refine Kw ?_;walk_at "sf";rw[ek];refine bP (aM.of rB) (JT (k-1) ML) ?_;walk_at "sf";refine cu (cJ.of I_.hp) rfl ?_;walk_at "sf";refine bP (aM.of rB) (JT k CZ) ?_;walk_at "sf";refine cu (cJ.of wz.hp) rfl ?_;walk_at "sf";refine⟨_,_,_,_,_,_,rfl,I_.rh.1,wz.rl.1,⟨Tu.Gb.mono (by decide),Tu.C7.mono (by decide),Gn.bt.mono (by decide),Gn.bu.mono (by decide)⟩,?_⟩;walk_at "sf";rw[decide_eq_false (MF (by lia))];refine iE ?_;walk_at "sf";rw[Tw];refine Kw ?_;walk_at "sf";rw[ek];refine bP (aM.of rB) (JT (k-1) ML) ?_;walk_at "sf";refine bP (aM.of rB) (JT k CZ) ?_;generalize fs[k]=fk at*;generalize fs[k-1]=fp at*;walk_at "sf";have dA:¬(fp.t=fk.t/\fp.u=fk.u):=fun⟨e1,e2⟩=>by
   rw[e1,e2] at Tv;exact absurd Tv (Int.not_lt.mpr Rc)
  have Rf:¬(fp.t'=fk.t'/\fp.u'=fk.u'):=fun⟨e1,e2⟩=>by
   rw[e1,e2] at Rc;exact absurd Xg (Int.not_lt.mpr Rc)
  have n1:fp.gl≠fk.gl:=fun z=>dA (by
   have z1:=I_.rl.1
   rw[z,wz.rl.1] at z1
   have z2:fk.t=fp.t/\fk.u=fp.u:=by simpa using z1
   exact⟨z2.1.symm,z2.2.symm⟩);have n2:fp.gh≠fk.gh:=fun z=>Rf (by
   have z1:=I_.rh.1
   rw[z,wz.rh.1] at z1
   have z2:fk.t'=fp.t'/\fk.u'=fp.u':=by simpa using z1
   exact⟨z2.1.symm,z2.2.symm⟩);refine⟨_,_,_,_,_,_,_,_,_,_,_,_,_,_,rfl,rfl,⟨cJ.of I_.hp,cJ.of I_.rl.1,cJ.of I_.rh.1⟩,⟨cJ.of wz.hp,cJ.of wz.rl.1,cJ.of wz.rh.1⟩,n1,n2,?_⟩;have ne:(fp.t==fk.t&&fp.u==fk.u)=false:=by
   rw[Bool.and_eq_false_iff,beq_eq_false_iff_ne,beq_eq_false_iff_ne];by_cases z:fp.t=fk.t
   ·exact .inr fun z2=>dA ⟨z,z2⟩
   ·exact .inl z
  rw[ne,Bool.false_and];walk_at "sf";refine iE ?_;walk_at "sf";exact⟨_,rfl,CF⟩
 rintro σ H9 ⟨r6,rfl,s9⟩;clear JT eL Tt jZ qI Q_ MD Q9 MK I0 Ts;walk_at "sf";refine⟨r,_,rfl,.inl (aM.of (s9 _ _ EN)),fun kp NQ=>?_⟩;have sK:=av.new NQ (.lst (fs.map fun f=>V.ref f.p));have Ja:upd H9 kp (.lst (fs.map fun f=>V.ref f.p)) kp=some (.lst (fs.map fun f=>V.ref f.p)):=ai;have Xh:kp≠r:=fun z=>by
  rw[z,s9 _ _ EN] at NQ;cases NQ
 generalize upd H9 kp (.lst (fs.map fun f=>V.ref f.p))=vg at sK Ja ⊢;have G5:=s9.trans sK;have rB:=G5 _ _ EN;walk_at "sf";refine⟨_,rfl,.inl ⟨rfl,_,aM.of rB⟩,?_⟩;walk_at "sf";refine⟨r,_,_,rfl,rfl,rB,by rw[List.length_map];exact cD (by lia),?_⟩;have NR:av H6 (upd vg r (.lst ((fs.map fun f=>V.ref f.p)++[V.int 0]))):=i' (s7.trans G5) Xe _;have Jb:upd vg r (.lst ((fs.map fun f=>V.ref f.p)++[V.int 0])) kp=some (.lst (fs.map fun f=>V.ref f.p)):=by rw[aq Xh];exact Ja
 have Jc:∀f∈fs,f.Hx (upd vg r (.lst ((fs.map fun f=>V.ref f.p)++[V.int 0]))):=fun f hf=>((hF f hf).same G5).upd rB _;generalize upd vg r (.lst ((fs.map fun f=>V.ref f.p)++[V.int 0]))=IE at NR Jb Jc ⊢;clear s7 s9 G5 sK rB EN Ja NQ hF Q8 Xf;walk_at "sf";refine⟨pl,zs,rfl,NR _ _ Q7,⟨MJ,IZ.pre,Tq⟩,fun r2 Mz Tg o2 b2 t2 u2 EE C9 C_ d_ _ z0 NM MM Xi=>?_⟩;have again:=iso.again IZ MM;have MN:=NR.trans d_;walk_at "sf";refine⟨r2,kp,Mz.map Fx.p,fs.map Fx.p,rfl,rfl,aM.of (by rw[List.map_map];exact z0),aM.of (by rw[List.map_map];exact d_ _ _ Jb),?_,fun j p q hp hq=>?_,?_⟩
 ·have:=congrArg List.length again;rw[List.length_map,List.length_map] at this;rw[List.length_map,List.length_map,this]
 ·rw[List.getElem?_map] at hp hq;have ea:=congrArg (fun l=>l[j]?) again;simp only[List.getElem?_map] at ea;cases e1:Mz[j]? with
  |none=>rw[e1] at hp;cases hp
  |some f2=>
   cases e2:fs[j]? with
   |none=>rw[e2] at hq;cases hq
   |some f1=>
    rw[e1] at hp ea;rw[e2] at hq ea;cases hp;cases hq;have en:f1.nums=f2.nums:=Option.some.inj ea;unfold Fx.nums at en;have x1:=NM f2 (List.mem_of_getElem? e1);have x2:=(Jc f1 (List.mem_of_getElem? e2)).same d_;simp only[Prod.mk.injEq] at en;obtain⟨n1,n2,n3,n4⟩:=en;refine⟨f2.gl,f2.gh,f1.gl,f1.gh,f2.t,f2.u,f2.t',f2.u',⟨cJ.of x1.hp,cJ.of x1.rl.1,cJ.of x1.rh.1⟩,⟨cJ.of x2.hp,cJ.of ?_,cJ.of ?_⟩⟩
    ·rw[<-n1,<-n2];exact x2.rl.1
    ·rw[<-n3,<-n4];exact x2.rh.1
 walk_at "sf";refine iE ?_;walk_at "sf";intro p7 Tx;have Gh:=MN.trans (av.new Tx (.lst [V.int 7]));have h7:upd C_ p7 (.lst [V.int 7]) p7=some (.lst [V.int 7]):=ai;generalize upd C_ p7 (.lst [V.int 7])=NN at Gh h7 ⊢;walk_at "sf";refine⟨p7,[7],rfl,h7,⟨⟨ky.tr,ky.ne,by decide,4,by decide,fun x hx=>by rw[List.mem_singleton.mp hx];exact Bd.of_two (by decide) (by decide)⟩,ky.pre,by decide⟩,fun r3 Xj YG o3 b3 t3 u3 YH YI Gi P6 _ Tz NL MO Xk=>?_⟩;have l3:=MO.len ky;have Xl:Xj=[]:=List.eq_nil_of_length_eq_zero (by
  have:(([]:List (List Int)).map ft).sum=0:=rfl
  lia);subst Xl;have MP:=Gh.trans P6;walk_at "sf";intro p0 pB;have P_:=MP.trans (av.new pB (.lst []));walk_at "sf";refine⟨r3,p0,[],[],rfl,rfl,aM.of ((av.new pB (.lst [])) _ _ Tz),aM.of ai,?_⟩;walk_at "sf";refine iE ?_;generalize upd Gi p0 (.lst [])=QU at P_ ⊢;clear z0 Tz NM NL MM MO Jb Jc NR d_ MN Gh P6 MP h7 Tx pB;walk_at "sf";intro q1 Pd;have TC:=P_.trans (av.new Pd (.lst [V.int 1]));have TF:upd QU q1 (.lst [V.int 1]) q1=some (.lst [V.int 1]):=ai;generalize upd QU q1 (.lst [V.int 1])=TH at TC TF ⊢;walk_at "sf";intro q2 Xm;have sN:=av.new Xm (.lst [V.int 0]);have Rg:=TC.trans sN;have TJ:upd TH q2 (.lst [V.int 0]) q2=some (.lst [V.int 0]):=ai;have MQ:=sN _ _ TF;generalize upd TH q2 (.lst [V.int 0])=TK at Rg TJ MQ sN ⊢;walk_at "sf";refine⟨sa,_,rfl,.inl ((NP.trans Rg).seq hS),?_⟩;rw[Q5];walk_at "sf";refine cB (by decide) ?_;rw[dr (by decide)];walk_at "sf";obtain⟨n,en⟩:=Int.eq_ofNat_of_zero_le (show 0<=12+ln%3 by lia);rw[en];refine⟨q2,_,_,rfl,rfl,TJ,by lia,by lia,by show 1*((n:Int)).toNat<=sizeLine;exact cD (by lia),fun q3 Xn=>?_⟩;have Xo:(List.replicate ((n:Int)).toNat [V.int 0]).flatten=(List.replicate n (0:Int)).map V.int:=by
  rw[qU,km];rfl
 have TM:=av.new Xn (.lst (List.replicate ((n:Int)).toNat [V.int 0]).flatten);have TN:=Rg.trans TM;have TQ:upd TK q3 (.lst (List.replicate ((n:Int)).toNat [V.int 0]).flatten) q3=some (.lst ((List.replicate n (0:Int)).map V.int)):=by rw[ai,Xo]
 have MR:=TM _ _ MQ;generalize upd TK q3 (.lst (List.replicate ((n:Int)).toNat [V.int 0]).flatten)=TR at TN TQ MR ⊢;walk_at "sf";refine⟨q1,q3,_,_,rfl,rfl,MR,TQ,by rw[List.length_map,List.length_replicate];exact cD (by show 1+n<=1000;lia),fun q4 Xp=>?_⟩;have TU:=TN.trans (av.new Xp (.lst ([V.int 1]++(List.replicate n (0:Int)).map V.int)));have TV:upd TR q4 (.lst ([V.int 1]++(List.replicate n (0:Int)).map V.int)) q4=some (.lst ([V.int 1]++(List.replicate n (0:Int)).map V.int)):=ai;generalize upd TR q4 (.lst ([V.int 1]++(List.replicate n (0:Int)).map V.int))=TX at TU TV ⊢;walk_at "sf";intro q5 Xq;have TY:=av.new Xq (.lst [V.int 1]);have TZ:=TU.trans TY;have T4:upd TX q5 (.lst [V.int 1]) q5=some (.lst [V.int 1]):=ai;have MS:=TY _ _ TV;generalize upd TX q5 (.lst [V.int 1])=T5 at TZ T4 MS ⊢;walk_at "sf";refine⟨q4,q5,_,_,rfl,rfl,MS,T4,by rw[List.length_append,List.length_map,List.length_replicate];exact cD (by show 1+n+1<=1000;lia),fun q6 Xr=>?_⟩;have eg:([V.int 1]++(List.replicate n (0:Int)).map V.int)++[V.int 1]=((1::List.replicate n (0:Int))++[1]).map V.int:=by rw[List.map_append];rfl
 rw[eg];have NS:=TZ.trans (av.new Xr (.lst (((1::List.replicate n (0:Int))++[1]).map V.int)));have JU:IL (upd T5 q6 (.lst (((1::List.replicate n (0:Int))++[1]).map V.int))) q6 ((1::List.replicate n (0:Int))++[1]):=ai;have lg:13<((1::List.replicate n (0:Int))++[1]).length:=by
  rw[List.length_append,List.length_cons,List.length_replicate];show 13<n+1+1;lia
 generalize (1::List.replicate n (0:Int))++[1]=great at JU lg NS ⊢;generalize upd T5 q6 (.lst (great.map V.int))=YJ at NS JU ⊢;walk_at "sf";refine EJ ?_;walk_at "sf";refine⟨#[],(NP.trans NS) _ _ hP,trivial,rfl,fun f c' e1 e2 e3=>?_⟩;walk_at "sf";rw[hR];refine⟨f,c',q6,great,rfl,ai,(by rw[aq (Ne.symm e3),ai];rfl),rfl,?_,lg,fun H'=>?_⟩
 ·have Eo:=(NP.trans NS) _ _ hP;have x1:q6≠Pt:=fun z=>by rw[<-z,JU] at Eo;cases Eo
  have x2:q6≠f:=aH JU e1;have x3:q6≠c':=aH JU e2;show upd _ _ _ q6=_;rw[aq x2,aq x3,aq x1];exact JU
 ·walk_at "sf";exact EK rfl (q H')
end
end eQ
namespace eQ
open PySem PyProof.Rows L2 SF PySem.W
theorem uC{P:Program}{w:World}{K:Frag}{mg:Str->Option Value}{base:Heap}{CX:ow}{cm:Bool}{j k:Nat}{x:Str}{ps:List Str}{sp:Shared->Sp}(F:nO P w K mg base CX cm j x ps sp)(h:j<=k):nO P w K mg base CX cm k x ps sp:=
 let⟨f,fd,a,b,c,d⟩:=F.ex
 ⟨f,fd,⟨a.len,fun A outer s H args us vs Q E hr=>a.run A outer s H args us vs Q E (hr.mono h)⟩,b,c,d⟩
theorem EO{P:Program}{w:World}{K:Frag}{mg:Str->Option Value}{base:Heap}{a:Ad}{fa c Pt:Addr}{IU:FuncData}{uG:Value}(T:Nm mg)(hT:P.given.tree=none)(hG:mg "GREATEST_DEGREE"=some uG/\RelV (.int 12) uG)(C:Gj K mg a)(hx:exmOne K (.ref a.c2) (.ref a.cf)=some true)(F:Av K "law" "law" ip fa IU)(lC:aN K mg "common_divisor" eS ["one","other"])(Jd:aN K mg "sign" vU ["number"])(ER:aN K mg "power" qR ["number","many"])(ES:aN K mg "ratio" qS ["top","under"])(CG:aN K mg "middle" nS ["one","other"])(zI:aN K mg "trimmed" kW ["row"])(CH:aN K mg "degree" nT ["poly"])(rC:aN K mg "derivative" gY ["poly"])(zJ:aN K mg "content" kX ["poly"])(uD:aN K mg "primitive" iR ["poly"])(wA:aN K mg "value_at" jD ["poly","point"])(CI:aN K mg "spread" nU ["value","point"])(zK:aN K mg "divided" kY ["poly","divisor"])(zL:aN K mg "largest" kZ ["poly"])(rD:aN K mg "divisor_of" g7 ["one","other"])(wB:aN K mg "quotient" jE ["one","other"])(oU:aN K mg "square_free" f9 ["poly"])(uE:aN K mg "height_at" iS ["poly","top","under"])(zM:aN K mg "sign_at" k_ ["poly","given"])(rE:aN K mg "changes_in" g8 ["row"])(uF:aN K mg "remainder" iT ["one","other"])(wC:aN K mg "chain_of" jF ["free"])(rF:aN K mg "changes_at" g9 ["chain","given"])(uH:aN K mg "is_within" iU ["free","reach"])(wD:aN K mg "bound_of" jG ["free"])(kA:aN K mg "pair_around_all" eE ["free"])(CJ:aN K mg "marked" nW ["chain","given"])(ot:aN K mg "isolated" g_ ["poly"])(wF:aN K mg "_law_cell" jH ["_law_script","_law_k"])(uI:aN K mg "_law_drawn" iW ["_law_cell_here","_law_k"])(wG:aN K mg "_law_word" jI ["_law_e"])(wH:aN K mg "_law_told" eT ["_law_rule"])(rG:aN K mg "_law_common" h_ ["_law_one","_law_other"])(uJ:aN K mg "_law_ratio" iY ["_law_top","_law_under"])(uK:aN K mg "_law_order" iZ ["_law_one","_law_other"])(oV:aN K mg "_law_product" f_ ["_law_one","_law_other"])(uL:aN K mg "_law_value" i4 ["_law_poly","_law_given"])(oW:aN K mg "_law_factors" gb ["_law_script","_law_k","_law_many_here"])(wI:aN K mg "_law_many" jJ ["_law_factor"])(zN:aN K mg "_law_all" lj ["_law_factors_here","_law_powers"])(lD:aN K mg "_law_pair_right" eU ["_law_pair","_law_plain"])(Jw:IU.code=.ref c)(hc:CodeHd base c Pt)(B:SF.BMain base mg):FR P w K mg base vd true 38 fa IU ["_law_script"] (fun _=>yo K Pt):=by
 have CK:=ko (P:=P) (w:=w) (base:=base) T lC;have wJ:=Ez (P:=P) (w:=w) (base:=base) Jd;have zO:=v_ (P:=P) (w:=w) (base:=base) T zI;have uM:=zG (P:=P) (w:=w) (base:=base) T CH;have kB:=oK (P:=P) (w:=w) (base:=base) T rC;have zP:=vZ CK zJ;have lS:=qV hT (zP.mono (by decide)) uD;have ET:=tY (P:=P) (w:=w) (base:=base) T wA;have CL:=zy (P:=P) (w:=w) (base:=base) hT CI;have zQ:=v5 (P:=P) (w:=w) (base:=base) T zL;have qa:=v8 (P:=P) (w:=w) (base:=base) T hT zK;have zR:=oM T (CK.mono (by decide)) lS (ET.mono (by decide)) (CL.mono (by decide)) (zQ.mono (by decide)) (qa.mono (by decide)) rD;have wK:=ua lS (qa.mono (by decide)) wB;have Rh:=n8 wK zR (kB.mono (by decide)) oU;have CM:=q_ (P:=P) (w:=w) (base:=base) T uE;have zS:=wa wJ CM zM;have EU:=Ci (P:=P) (w:=w) (base:=base) T ER;have MT:=rd T wJ zO uF;have EV:=ue T hT (kB.mono (by decide)) (EU.mono (by decide)) (MT.mono (by decide)) wC;have EW:=oN wJ rE;have MU:=oO EW zS rF;have yp:=Cs hT (CK.mono (by decide)) ES;have CN:=zE yp CG;have CO:=rq (P:=P) (w:=w) (base:=base) T uH;have EX:=ur CO wD;have CP:=jL T (EX.mono (by decide)) yp kA;have CQ:=zF MU CJ;have MV:=ux T hG (uM.mono (by decide)) (Rh.mono (by decide)) (EV.mono (by decide)) (CP.mono (by decide)) (CQ.mono (by decide)) (CN.mono (by decide)) ot;have CT:=tW (P:=P) (w:=w) (base:=base) T wF;have yq:=qX (P:=P) (w:=w) (base:=base) uI;have zT:=nY (P:=P) (w:=w) (base:=base) T oV;have CU:=oP (P:=P) (w:=w) (base:=base) T rG;have uN:=rk CU uJ;have yr:=rn (P:=P) (w:=w) (base:=base) T uK;have Ri:=rp (P:=P) (w:=w) (base:=base) T uL;have zU:=oh T (CT.mono (by decide)) (yq.mono (by decide)) (uN.mono (by decide)) oW;have MW:=wm T (zT.mono (by decide)) zN;have Je:=uj (P:=P) (w:=w) (base:=base) T wI;have Jf:=kv T (uN.mono (by decide)) (yr.mono (by decide)) (Ri.mono (by decide)) lD;have gw:=uA (P:=P) (w:=w) (base:=base) T C wG;have gi:=kx (P:=P) (w:=w) (base:=base) C hG (uM.mono (by decide)) ot;have gt:=EI (P:=P) (w:=w) (base:=base) C hx (uC gw (by decide)) gi wH;exact IT T (CT.mono (by decide)) (yq.mono (by decide)) (zU.mono (by decide)) (MW.mono (by decide)) (yr.mono (by decide)) (Je.mono (by decide)) Jf MV (uC gt (by decide)) F Jw hc B
theorem Jg{K:Frag}{h:Heap}{mg:Str->Option Value}{cf c0 c1 c2 c3 c4:Addr}(X:K.In h)(G:h.Ns mainGlobals mg)(ef:nsIn K mainGlobals "FootError"=some (some (.ref cf)))(e0:nsIn K mainGlobals "NoRatio"=some (some (.ref c0)))(e1:nsIn K mainGlobals "NoNumber"=some (some (.ref c1)))(e2:nsIn K mainGlobals "TooGreat"=some (some (.ref c2)))(e3:nsIn K mainGlobals "BadText"=some (some (.ref c3)))(e4:nsIn K mainGlobals "BadRow"=some (some (.ref c4)))(ok:QY K ⟨cf,c0,c1,c2,c3,c4⟩=true):Gj K mg ⟨cf,c0,c1,c2,c3,c4⟩:=
 ⟨mg_of X G ef,mg_of X G e0,mg_of X G e1,mg_of X G e2,mg_of X G e3,mg_of X G e4,ok⟩
theorem Jh{K:Frag}{mg:Str->Option Value}{cf c0 c1 c2 c3 c4:Addr}(_C:Gj K mg ⟨cf,c0,c1,c2,c3,c4⟩)(h:exmOne K (.ref c2) (.ref cf)=some true):exmOne K (.ref (Ad.mk cf c0 c1 c2 c3 c4).c2) (.ref (Ad.mk cf c0 c1 c2 c3 c4).cf)=some true:=h
theorem walk{l:OpenLaw}{j:Nat}{q:Program}{loose:List Str}{XP:(Str->Option Value)->Heap->Prop}{YP:World->Heap->Prop}{d:DefRec}{K:Params->Frag}(hn:l.most=some 63)(Kv:d.params.defaults=[])(B8:(recsOf q)[j]?=some d)(hY:∀(w:World)(h:Heap),YP w h->(K w.params).In h)(LW:∀w:World,noTabs (K w.params)=true)(F:∀(w:World)(mg:Str->Option Value)(fa:Addr)(h:Heap),(K w.params).In h->h.Ns mainGlobals mg->mg d.name=some (.ref fa)->
 ∃fd:FuncData,(∃oc od sl,(K w.params).lookup fa=some ⟨oc,od,.func fd,sl⟩)/\(∀(s:Shared)(u:Value),BindsTo s fd ⟨[u],[]⟩ [("_law_script",u)])/\
  ∀(base:Heap)(c Pt:Addr),fd.code=.ref c->(K w.params).In base->base.Ns mainGlobals mg->SF.BMain base mg->CodeHd base c Pt->FR l.prog w (K w.params) mg base vd true 38 fa fd ["_law_script"] fun _=>yo (K w.params) Pt)(hi:importsNone q=true):
 WalkO q loose XP YP l.row.toRowW d [] (fun f vs=>PySem.call f vs):=
 SF.walk2 (n:=63) (k:=38) (x:="_law_script") (sp:=yo) hn (by decide) Kv ⟨rfl,by decide,by decide⟩ B8 hY LW F (fun _ _ _ a ns hl hS hP=>⟨a,ns,rfl,hS,hl,hP,fun _=>rfl⟩) hi
theorem Ji{K:Frag}{h:Heap}{mg:Str->Option Value}{fa f:Addr}{od an:Option Addr}{sl:Array (Option Value)}{oc kV doc pm cd ct:Value}(X:K.In h)(G:h.Ns mainGlobals mg)(Xs:mg "law"=some (.ref fa))(a:nsIn K mainGlobals "law"=some (some (.ref f)))(l:K.lookup f=some ⟨oc,od,.func (fnOf "law" "law" (gK ip) (dM ip) (au ip) .none kV doc pm an cd ct),sl⟩)(c:codeIn K cd "law"=true)(k:keepIn K (.ref f)=true):∃fd:FuncData,(∃oc od sl,K.lookup fa=some ⟨oc,od,.func fd,sl⟩)/\(∀(s:Shared)(v:Value),BindsTo s fd ⟨[v],[]⟩ [("_law_script",v)])/\Av K "law" "law" ip fa fd:=by
 have e:=Xs.symm.trans (mg_of X G a);cases e;exact⟨_,⟨_,_,_,l⟩,fun s v=>.of_eq rfl,Aw (st:=ip) l c k⟩
end eQ
def PySem.W.Fast.tw8730153404034404524:Unit:=()
def PySem.W.Fast.tw8700417144436397726:Unit:=()
def PySem.W.Fast.tw3941537367386779396:Unit:=()
def PySem.W.Fast.tw10432323157860080099:Unit:=()
def PySem.W.Fast.tw2892655555724561908:Unit:=()
def PySem.W.Fast.tw3382533822815354276:Unit:=()
def PySem.W.Fast.tw544099005299076051:Unit:=()
def PySem.W.Fast.tw14455831953108756997:Unit:=()
def PySem.W.Fast.tw825175460751231417:Unit:=()
def PySem.W.Fast.tw11796570412309547700:Unit:=()
def PySem.W.Fast.tw14009591793273876677:Unit:=()
def PySem.W.Fast.tw8857930995225903263:Unit:=()
def PySem.W.Fast.tw6010223819719853097:Unit:=()
def PySem.W.Fast.tw1974089165185707030:Unit:=()
open PySem PySem.W PyProof.Rows
set_option maxRecDepth 100000 in
set_option maxHeartbeats 0 in
theorem PySem.Challenge.cw_surefoot_k15_whole_no_root_is_missed_holds : PySem.Challenge.rw_surefoot_k15_whole_no_root_is_missed.Holds := by
 w_on;o_law;k_head;(case hw=>w_witness2)
 k_fill
 refine eQ.walk (l:=PySem.Challenge.rw_surefoot_k15_whole_no_root_is_missed) (j:=41) rfl rfl ?rcx (fun w h Y=>PySem.W.km_in_of Y) ?ntx ?F ?I
 case rcx=>kernel_rfl
 case ntx=>intro w;kernel_rfl
 case I=>decide +kernel
 case F=>
  intro w mg fa h KX G Jo;have T:eQ.Nm mg:=by
   refine'⟨PySem.W.mg_none_of KX G ?t1,PySem.W.mg_none_of KX G ?t2,PySem.W.mg_none_of KX G ?t3,PySem.W.mg_none_of KX G ?t4,PySem.W.mg_none_of KX G ?t5,PySem.W.mg_none_of KX G ?t6,PySem.W.mg_none_of KX G ?t7,PySem.W.mg_none_of KX G ?t8,PySem.W.mg_none_of KX G ?t9,PySem.W.mg_none_of KX G ?YK,PySem.W.mg_none_of KX G ?YL,PySem.W.mg_none_of KX G ?YM,PySem.W.mg_none_of KX G ?YN,PySem.W.mg_none_of KX G ?YO,PySem.W.mg_none_of KX G ?YQ⟩
   all_goals k_is
  have L:=by
   refine' eQ.Ji KX G Jo ?a ?l ?c ?k
   (case a=>k_is);(case l=>k_is);(case c=>k_is);(case k=>k_is)
  obtain⟨fd,lk,hb,F⟩:=L;have C:=by
   refine' eQ.Jg KX G ?ef ?e0 ?e1 ?e2 ?e3 ?e4 ?ok
   (case ef=>k_is);(case e0=>k_is);(case e1=>k_is);(case e2=>k_is);(case e3=>k_is);(case e4=>k_is)
   (case ok=>kernel_rfl)
  have X:=by
   refine' eQ.Jh C ?x
   (case x=>kernel_rfl)
  refine⟨fd,lk,hb,fun base c Pt Jw _ _ B hc=>?_⟩;refine' eQ.EO T (by rfl) ⟨PySem.W.mg_of KX G ?g1,?h1⟩ C X F (L2.aQ KX G ?a1 ?l1 ?c1 ?k1 ?b1) (L2.aQ KX G ?a2 ?l2 ?c2 ?k2 ?b2) (L2.aQ KX G ?a3 ?l3 ?c3 ?k3 ?b3) (L2.aQ KX G ?a4 ?l4 ?c4 ?k4 ?b4) (L2.aQ KX G ?a5 ?l5 ?c5 ?k5 ?b5) (L2.aQ KX G ?a6 ?l6 ?c6 ?k6 ?b6) (L2.aQ KX G ?a7 ?l7 ?c7 ?k7 ?b7) (L2.aQ KX G ?a8 ?l8 ?c8 ?k8 ?b8) (L2.aQ KX G ?a9 ?l9 ?c9 ?k9 ?b9) (L2.aQ KX G ?a10 ?l10 ?c10 ?k10 ?b10) (L2.aQ KX G ?a11 ?l11 ?c11 ?k11 ?b11) (L2.aQ KX G ?a12 ?l12 ?c12 ?k12 ?b12) (L2.aQ KX G ?a13 ?l13 ?c13 ?k13 ?b13) (L2.aQ KX G ?a14 ?l14 ?c14 ?k14 ?b14) (L2.aQ KX G ?a15 ?l15 ?c15 ?k15 ?b15) (L2.aQ KX G ?a16 ?l16 ?c16 ?k16 ?b16) (L2.aQ KX G ?a17 ?l17 ?c17 ?k17 ?b17) (L2.aQ KX G ?a18 ?l18 ?c18 ?k18 ?b18) (L2.aQ KX G ?a19 ?l19 ?c19 ?k19 ?b19) (L2.aQ KX G ?a20 ?l20 ?c20 ?k20 ?b20) (L2.aQ KX G ?a21 ?l21 ?c21 ?k21 ?b21) (L2.aQ KX G ?a22 ?l22 ?c22 ?k22 ?b22) (L2.aQ KX G ?a23 ?l23 ?c23 ?k23 ?b23) (L2.aQ KX G ?a24 ?l24 ?c24 ?k24 ?b24) (L2.aQ KX G ?a25 ?l25 ?c25 ?k25 ?b25) (L2.aQ KX G ?a26 ?l26 ?c26 ?k26 ?b26) (L2.aQ KX G ?a27 ?l27 ?c27 ?k27 ?b27) (L2.aQ KX G ?a28 ?l28 ?c28 ?k28 ?b28) (L2.aQ KX G ?a29 ?l29 ?c29 ?k29 ?b29) (L2.aQ KX G ?a30 ?l30 ?c30 ?k30 ?b30) (L2.aQ KX G ?a31 ?l31 ?c31 ?k31 ?b31) (L2.aQ KX G ?a32 ?l32 ?c32 ?k32 ?b32) (L2.aQ KX G ?a33 ?l33 ?c33 ?k33 ?b33) (L2.aQ KX G ?a34 ?l34 ?c34 ?k34 ?b34) (L2.aQ KX G ?a35 ?l35 ?c35 ?k35 ?b35) (L2.aQ KX G ?a36 ?l36 ?c36 ?k36 ?b36) (L2.aQ KX G ?a37 ?l37 ?c37 ?k37 ?b37) (L2.aQ KX G ?a38 ?l38 ?c38 ?k38 ?b38) (L2.aQ KX G ?a39 ?l39 ?c39 ?k39 ?b39) (L2.aQ KX G ?a40 ?l40 ?c40 ?k40 ?b40) (L2.aQ KX G ?a41 ?l41 ?c41 ?k41 ?b41) Jw hc B
  (case a1=>k_is);(case l1=>k_is);(case c1=>k_is);(case k1=>k_is);(case b1=>exact fun _ _ _ _ _ _ us hl=>match us,hl with|[_,_],_=>rfl)
  (case a2=>k_is);(case l2=>k_is);(case c2=>k_is);(case k2=>k_is);(case b2=>exact fun _ _ _ _ _ _ us hl=>match us,hl with|[_],_=>rfl)
  (case a3=>k_is);(case l3=>k_is);(case c3=>k_is);(case k3=>k_is);(case b3=>exact fun _ _ _ _ _ _ us hl=>match us,hl with|[_,_],_=>rfl)
  (case a4=>k_is);(case l4=>k_is);(case c4=>k_is);(case k4=>k_is);(case b4=>exact fun _ _ _ _ _ _ us hl=>match us,hl with|[_,_],_=>rfl)
  (case a5=>k_is);(case l5=>k_is);(case c5=>k_is);(case k5=>k_is);(case b5=>exact fun _ _ _ _ _ _ us hl=>match us,hl with|[_,_],_=>rfl)
  (case a6=>k_is);(case l6=>k_is);(case c6=>k_is);(case k6=>k_is);(case b6=>exact fun _ _ _ _ _ _ us hl=>match us,hl with|[_],_=>rfl)
  (case a7=>k_is);(case l7=>k_is);(case c7=>k_is);(case k7=>k_is);(case b7=>exact fun _ _ _ _ _ _ us hl=>match us,hl with|[_],_=>rfl)
  (case a8=>k_is);(case l8=>k_is);(case c8=>k_is);(case k8=>k_is);(case b8=>exact fun _ _ _ _ _ _ us hl=>match us,hl with|[_],_=>rfl)
  (case a9=>k_is);(case l9=>k_is);(case c9=>k_is);(case k9=>k_is);(case b9=>exact fun _ _ _ _ _ _ us hl=>match us,hl with|[_],_=>rfl)
  (case a10=>k_is);(case l10=>k_is);(case c10=>k_is);(case k10=>k_is);(case b10=>exact fun _ _ _ _ _ _ us hl=>match us,hl with|[_],_=>rfl)
  (case a11=>k_is);(case l11=>k_is);(case c11=>k_is);(case k11=>k_is);(case b11=>exact fun _ _ _ _ _ _ us hl=>match us,hl with|[_,_],_=>rfl)
  (case a12=>k_is);(case l12=>k_is);(case c12=>k_is);(case k12=>k_is);(case b12=>exact fun _ _ _ _ _ _ us hl=>match us,hl with|[_,_],_=>rfl)
  (case a13=>k_is);(case l13=>k_is);(case c13=>k_is);(case k13=>k_is);(case b13=>exact fun _ _ _ _ _ _ us hl=>match us,hl with|[_,_],_=>rfl)
  (case a14=>k_is);(case l14=>k_is);(case c14=>k_is);(case k14=>k_is);(case b14=>exact fun _ _ _ _ _ _ us hl=>match us,hl with|[_],_=>rfl)
  (case a15=>k_is);(case l15=>k_is);(case c15=>k_is);(case k15=>k_is);(case b15=>exact fun _ _ _ _ _ _ us hl=>match us,hl with|[_,_],_=>rfl)
  (case a16=>k_is);(case l16=>k_is);(case c16=>k_is);(case k16=>k_is);(case b16=>exact fun _ _ _ _ _ _ us hl=>match us,hl with|[_,_],_=>rfl)
  (case a17=>k_is);(case l17=>k_is);(case c17=>k_is);(case k17=>k_is);(case b17=>exact fun _ _ _ _ _ _ us hl=>match us,hl with|[_],_=>rfl)
  (case a18=>k_is);(case l18=>k_is);(case c18=>k_is);(case k18=>k_is);(case b18=>exact fun _ _ _ _ _ _ us hl=>match us,hl with|[_,_,_],_=>rfl)
  (case a19=>k_is);(case l19=>k_is);(case c19=>k_is);(case k19=>k_is);(case b19=>exact fun _ _ _ _ _ _ us hl=>match us,hl with|[_,_],_=>rfl)
  (case a20=>k_is);(case l20=>k_is);(case c20=>k_is);(case k20=>k_is);(case b20=>exact fun _ _ _ _ _ _ us hl=>match us,hl with|[_],_=>rfl)
  (case a21=>k_is);(case l21=>k_is);(case c21=>k_is);(case k21=>k_is);(case b21=>exact fun _ _ _ _ _ _ us hl=>match us,hl with|[_,_],_=>rfl)
  (case a22=>k_is);(case l22=>k_is);(case c22=>k_is);(case k22=>k_is);(case b22=>exact fun _ _ _ _ _ _ us hl=>match us,hl with|[_],_=>rfl)
  (case a23=>k_is);(case l23=>k_is);(case c23=>k_is);(case k23=>k_is);(case b23=>exact fun _ _ _ _ _ _ us hl=>match us,hl with|[_,_],_=>rfl)
  (case a24=>k_is);(case l24=>k_is);(case c24=>k_is);(case k24=>k_is);(case b24=>exact fun _ _ _ _ _ _ us hl=>match us,hl with|[_,_],_=>rfl)
  (case a25=>k_is);(case l25=>k_is);(case c25=>k_is);(case k25=>k_is);(case b25=>exact fun _ _ _ _ _ _ us hl=>match us,hl with|[_],_=>rfl)
  (case a26=>k_is);(case l26=>k_is);(case c26=>k_is);(case k26=>k_is);(case b26=>exact fun _ _ _ _ _ _ us hl=>match us,hl with|[_],_=>rfl)
  (case a27=>k_is);(case l27=>k_is);(case c27=>k_is);(case k27=>k_is);(case b27=>exact fun _ _ _ _ _ _ us hl=>match us,hl with|[_,_],_=>rfl)
  (case a28=>k_is);(case l28=>k_is);(case c28=>k_is);(case k28=>k_is);(case b28=>exact fun _ _ _ _ _ _ us hl=>match us,hl with|[_],_=>rfl)
  (case a29=>k_is);(case l29=>k_is);(case c29=>k_is);(case k29=>k_is);(case b29=>exact fun _ _ _ _ _ _ us hl=>match us,hl with|[_,_],_=>rfl)
  (case a30=>k_is);(case l30=>k_is);(case c30=>k_is);(case k30=>k_is);(case b30=>exact fun _ _ _ _ _ _ us hl=>match us,hl with|[_,_],_=>rfl)
  (case a31=>k_is);(case l31=>k_is);(case c31=>k_is);(case k31=>k_is);(case b31=>exact fun _ _ _ _ _ _ us hl=>match us,hl with|[_],_=>rfl)
  (case a32=>k_is);(case l32=>k_is);(case c32=>k_is);(case k32=>k_is);(case b32=>exact fun _ _ _ _ _ _ us hl=>match us,hl with|[_],_=>rfl)
  (case a33=>k_is);(case l33=>k_is);(case c33=>k_is);(case k33=>k_is);(case b33=>exact fun _ _ _ _ _ _ us hl=>match us,hl with|[_,_],_=>rfl)
  (case a34=>k_is);(case l34=>k_is);(case c34=>k_is);(case k34=>k_is);(case b34=>exact fun _ _ _ _ _ _ us hl=>match us,hl with|[_,_],_=>rfl)
  (case a35=>k_is);(case l35=>k_is);(case c35=>k_is);(case k35=>k_is);(case b35=>exact fun _ _ _ _ _ _ us hl=>match us,hl with|[_,_],_=>rfl)
  (case a36=>k_is);(case l36=>k_is);(case c36=>k_is);(case k36=>k_is);(case b36=>exact fun _ _ _ _ _ _ us hl=>match us,hl with|[_,_],_=>rfl)
  (case a37=>k_is);(case l37=>k_is);(case c37=>k_is);(case k37=>k_is);(case b37=>exact fun _ _ _ _ _ _ us hl=>match us,hl with|[_,_],_=>rfl)
  (case a38=>k_is);(case l38=>k_is);(case c38=>k_is);(case k38=>k_is);(case b38=>exact fun _ _ _ _ _ _ us hl=>match us,hl with|[_,_,_],_=>rfl)
  (case a39=>k_is);(case l39=>k_is);(case c39=>k_is);(case k39=>k_is);(case b39=>exact fun _ _ _ _ _ _ us hl=>match us,hl with|[_],_=>rfl)
  (case a40=>k_is);(case l40=>k_is);(case c40=>k_is);(case k40=>k_is);(case b40=>exact fun _ _ _ _ _ _ us hl=>match us,hl with|[_,_],_=>rfl)
  (case a41=>k_is);(case l41=>k_is);(case c41=>k_is);(case k41=>k_is);(case b41=>exact fun _ _ _ _ _ _ us hl=>match us,hl with|[_,_],_=>rfl)
  (case g1=>k_is)
  (case h1=>exact⟨_,rfl⟩)
#print axioms PySem.Challenge.cw_surefoot_k15_whole_no_root_is_missed_holds
