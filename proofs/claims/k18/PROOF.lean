import PyProof.Rows.All
import Wide.All
import OpenK.AllK
import Wide.FinOn
import Lean
import PyProof.EqAt
import PyProof.EqKinds
import PyProof.TupleCall
import PySem.Challenge.RW_surefoot_k18_whole_numbers_compared
set_option Elab.async false
set_option linter.all false
set_option maxRecDepth 100000
namespace L2
open PySem PySem.Spec PyProof.Rows
noncomputable abbrev Key:=Sum Int Str
noncomputable def Hi:Key->Value->Bool
 |.inl k,v=>Value.isInt k v
 |.inr x,v=>Value.isStrOf x v
noncomputable def Qv(w:World):Key->Int
 |.inl k=>hashInt k
 |.inr x=>hashStr w x
theorem cV:∀{k:Key}{v:Value},Hi k v=true->(∃i t,k=Sum.inl i/\v=Value.int i t)\/(∃x t,k=Sum.inr x/\v=Value.str x t)
 |.inl i,v,h=>by
  obtain⟨t,e⟩:=Value.isInt_shape (k:=i) (v:=v) h;exact .inl ⟨i,t,rfl,e⟩
 |.inr x,v,h=>by
  obtain⟨t,e⟩:=Value.isStrOf_shape (x:=x) (v:=v) h;exact .inr ⟨x,t,rfl,e⟩
theorem IX(a b:Int):decide ((Sum.inl a:Key)=Sum.inl b)=(a==b):=by
 by_cases e:a=b
 ·subst e;simp
 ·have h:¬(Sum.inl a:Key)=Sum.inl b:=fun q=>e (Sum.inl.inj q);rw[decide_eq_false h];exact(beq_eq_false_iff_ne.mpr e).symm
theorem IY(a b:Str):decide ((Sum.inr a:Key)=Sum.inr b)=decide (a=b):=by
 by_cases e:a=b
 ·subst e;simp
 ·have h:¬(Sum.inr a:Key)=Sum.inr b:=fun q=>e (Sum.inr.inj q);rw[decide_eq_false h,decide_eq_false e]
theorem IZ(a:Int)(b:Str):decide ((Sum.inl a:Key)=Sum.inr b)=false:=decide_eq_false (fun q=>nomatch q)
theorem I0(a:Str)(b:Int):decide ((Sum.inr a:Key)=Sum.inl b)=false:=decide_eq_false (fun q=>nomatch q)
noncomputable def rF(prog:Program)(w:World):PySem.KeyKind prog w Key where
 is:=Hi
 hash:=Qv w
 inj:=fun v a b ha hb=>by
  rcases cV ha with⟨i,t,rfl,rfl⟩|⟨x,t,rfl,rfl⟩
  ·rcases cV hb with⟨j,u,rfl,e⟩|⟨y,u,rfl,e⟩
   ·injection e with e1 _;rw[e1]
   ·exact nomatch e
  ·rcases cV hb with⟨j,u,rfl,e⟩|⟨y,u,rfl,e⟩
   ·exact nomatch e
   ·injection e with e1 _;rw[e1]
 byValue:=fun k v h=>by
  rcases cV h with⟨i,t,rfl,rfl⟩|⟨x,t,rfl,rfl⟩<;>rfl
 pyHash:=fun hv h=>by
  rcases cV hv with⟨i,t,rfl,rfl⟩|⟨x,t,rfl,rfl⟩
  ·exact wpAny_pyHash_int h
  ·exact wpAny_pyHash_str h
 eqBool:=fun hu hv h=>by
  rcases cV hu with⟨i,t,rfl,rfl⟩|⟨x,t,rfl,rfl⟩
  ·rcases cV hv with⟨j,u,rfl,rfl⟩|⟨y,u,rfl,rfl⟩
   ·rw[IX] at h;exact wpAny_eqBool_int h
   ·rw[IZ] at h;exact SeqAt.EqAt.int_str i t y u _ _ _ _ h
  ·rcases cV hv with⟨j,u,rfl,rfl⟩|⟨y,u,rfl,rfl⟩
   ·rw[I0] at h;exact SeqAt.EqAt.str_int x t j u _ _ _ _ h
   ·rw[IY] at h;exact wpAny_eqBool_str h
 «strs»:=fun k x t v h=>by
  rcases cV h with⟨i,u,rfl,e⟩|⟨y,u,rfl,e⟩
  ·exact nomatch e
  ·injection e with e1 _;subst e1;cases v<;>rfl
end L2
namespace L2
open PySem PySem.Spec PyProof.Rows
inductive V where
 |fB|bl (b:Bool)|int (i:Int)|str (x:Str)|yR (b:Array UInt8)|Hj (b:UInt64)|ref (a:Addr)|ty (n:String)
 deriving DecidableEq
noncomputable def RelV:V->Value->Prop
 |.fB,u=>u=Value.none
 |.bl b,u=>u=Value.bool b
 |.int i,u=>∃t,u=Value.int i t
 |.str x,u=>∃t,u=Value.str x t
 |.yR b,u=>∃t,u=Value.bytes b t
 |.Hj b,u=>∃t,u=Value.float b t
 |.ref a,u=>u=Value.ref a
 |.ty n,u=>u=Value.type n
noncomputable abbrev Vals:List V->List Value->Prop:=Paired RelV
theorem Vals.length{xs:List V}{us:List Value}(r:Vals xs us):xs.length=us.length:=Paired.length r
theorem Vals.get:∀{xs:List V}{us:List Value}{i:Nat}{x:V},Vals xs us->xs[i]?=some x->∃u,us[i]?=some u/\RelV x u
 |_,_,_,_,.nil,e=>by simp at e
 |_,_,0,_,.cons r _,e=>by simp at e;subst e;exact⟨_,rfl,r⟩
 |_,_,i+1,x,.cons _ t,e=>by
  obtain⟨u,h1,h2⟩:=Vals.get (i:=i) (x:=x) t (by simpa using e);exact⟨u,by simpa using h1,h2⟩
theorem Vals.set{x:V}{u:Value}(r:RelV x u):∀{xs:List V}{us:List Value}(i:Nat),Vals xs us->Vals (xs.set i x) (us.set i u)
 |_,_,_,.nil=>.nil
 |_,_,0,.cons _ t=>.cons r t
 |_,_,i+1,.cons q t=>.cons q (Vals.set r i t)
theorem Vals.append:∀{xs ys:List V}{us ws:List Value},Vals xs us->Vals ys ws->Vals (xs++ys) (us++ws)
 |_,_,_,_,.nil,s=>s
 |_,_,_,_,.cons r t,s=>.cons r (Vals.append t s)
theorem Vals.take:∀{xs:List V}{us:List Value}(n:Nat),Vals xs us->Vals (xs.take n) (us.take n)
 |_,_,0,_=>.nil
 |_,_,_+1,.nil=>.nil
 |_,_,n+1,.cons r t=>.cons r (Vals.take n t)
theorem Vals.drop:∀{xs:List V}{us:List Value}(n:Nat),Vals xs us->Vals (xs.drop n) (us.drop n)
 |_,_,0,r=>r
 |_,_,_+1,.nil=>.nil
 |_,_,n+1,.cons _ t=>Vals.drop n t
noncomputable def wq:Option V->Option Value->Prop
 |some v,some u=>RelV v u
 |none,none=>True
 |_,_=>False
noncomputable def KV{κ:Type}:List (κ×V)->List (κ×Value)->Prop:=Paired fun(p:κ×V)(q:κ×Value)=>p.1=q.1/\RelV p.2 q.2
noncomputable def kV:Key->V
 |.inl i=>.int i
 |.inr x=>.str x
inductive HO where
 |lst (xs:List V)
 |tup (xs:List V)
 |dK (jN:List (Key×V))|dT (jN:List (List Key×V))
 |set (S:Int->Bool) (n:Nat)
 |ins (C dx:Addr) (fs:List (Str×V))
 |own (x:Addr)
 |xd (fs:List (Str×V))
 |met (f x:Addr)
 |Qw (lo hi:Int)
 |BW (o:Obj) (u:HO)
 |I_ (ps:Array Value)
 |ext (φ:Heap->Prop)
noncomputable abbrev Hp:=Addr->Option HO
noncomputable def upd(H:Hp)(a:Addr)(o:HO):Hp:=fun b=>if b=a then some o else H b
theorem ak{H:Hp}{a:Addr}{o:HO}:upd H a o a=some o:=by unfold upd;rw[if_pos rfl]
theorem aI{H:Hp}{a b:Addr}{o:HO}(h:b≠a):upd H a o b=H b:=by unfold upd;rw[if_neg h]
theorem aN{H:Hp}{a b:Addr}{o:HO}(h:H a=some o)(h':H b=none):a≠b:=by
 intro e;subst e;rw[h] at h';cases h'
section
variable (P:Program) (w:World)
noncomputable def gk(H:Hp)(h:Heap)(a:Addr):HO->Prop
 |.lst xs=>xs.length<=sizeLine/\∃(aZ:List Value)(n:Nat),Vals xs aZ/\h.get? a=some {cls:=.type "list",data:=.seq aZ.toArray n}
 |.tup xs=>xs.length<=sizeLine/\∃aZ:List Value,Vals xs aZ/\IsTup h a aZ.toArray
 |.dK jN=>jN.length<=sizeLine/\(a==sysModules)=false/\∃vs,KV jN vs/\h.DictOf (rF P w) a vs
 |.dT jN=>jN.length<=sizeLine/\(a==sysModules)=false/\∃xs:List (List Key×Addr×Value),
  Paired (fun(p:List Key×V)(q:List Key×Addr×Value)=>p.1=q.1/\H q.2.1=some (.tup (p.1.map kV))/\RelV p.2 q.2.2) jN xs/\
  ∃o es ep,h.get? a=some o/\o.ExactDict/\o.data=.dict es ep/\es.toList=xs.map (entryOfKey (tupleKind (rF P w)))/\(xs.map (·.1)).Nodup
 |.set S n=>h.SetOf (intKind P w) a S n
 |.ins C dx fs=>H dx=some (.own a)/\fs.length<=1000/\dx≠a/\h.get? a=some (PySem.W.instObj C dx)/\
  ∃mA,h.Ns1 dx mA/\(∀f,wq (fs.lookup f) (mA f))/\PySem.Within mA (fs.map (·.1))
 |.own _=>∃o,h.get? a=some o
 |.xd fs=>∃mA,h.Ns1 a mA/\∀f,wq (fs.lookup f) (mA f)
 |.Qw lo hi=>∃t u v,h.get? a=some {cls:=.type "range",data:=.fields #[.int lo t,.int hi u,.int 1 v]}
 |.BW o u=>h.get? a=some o/\gk H h a u
 |.I_ ps=>h.get? a=some {cls:=.none,data:=.fields ps}
 |.met f x=>h.get? a=some (PySem.W.methodObj (.ref f) (.ref x))
 |.ext φ=>φ h/\(∃o,h.get? a=some o)/\∀h1 h2:Heap,φ h1->(∀o,h1.get? a=some o->h2.get? a=some o)->φ h2
noncomputable def nk(H:Hp)(h:Heap):Prop:=∀a o,H a=some o->gk P w H h a o
end
section
variable {P:Program} {w:World} {H H':Hp} {h h':Heap} {a:Addr} {o:HO}
theorem gk.lt(x:gk P w H h a o):a<h.objs.size:=by
 cases o with
 |lst xs=>obtain⟨_,_,_,_,e⟩:=x;exact Heap.lt_size e
 |tup xs=>obtain⟨_,_,_,p⟩:=x;exact p.lt
 |dK jN=>obtain⟨_,_,_,_,o,_,_,e,_⟩:=x;exact Heap.lt_size e
 |dT jN=>obtain⟨_,_,_,_,o,_,_,e,_⟩:=x;exact Heap.lt_size e
 |set S n=>obtain⟨o,_,_,_,e,_⟩:=x;exact Heap.lt_size e
 |ins C dx fs=>obtain⟨_,_,_,e,_⟩:=x;exact Heap.lt_size e
 |own y=>obtain⟨_,e⟩:=x;exact Heap.lt_size e
 |xd fs=>obtain⟨_,⟨_,_,_,e,_⟩,_⟩:=x;exact Heap.lt_size e
 |Qw lo hi=>obtain⟨_,_,_,e⟩:=x;exact Heap.lt_size e
 |BW ob u=>obtain⟨e,_⟩:=x;exact Heap.lt_size e
 |I_ ps=>exact Heap.lt_size (show h.get? a=some _ from x)
 |met f y=>exact Heap.lt_size (show h.get? a=some _ from x)
 |ext φ=>obtain⟨_,⟨_,e⟩,_⟩:=x;exact Heap.lt_size e
theorem Paired.LX{α β:Type}{F G:α->β->Prop}:∀{l₁:List α}{LY:List β},Paired F l₁ LY->(∀a b,F a b->G a b)->Paired G l₁ LY
 |_,_,.nil,_=>.nil
 |_,_,.cons r t,f=>.cons (f _ _ r) (Paired.LX t f)
theorem gk.Az(x:gk P w H h a o)(k:∀b u,(b=a\/H b=some (.own a))->h.get? b=some u->h'.get? b=some u)(ho:∀b,H b=some (.own a)->H' b=some (.own a))(ht:∀b xs,H b=some (.tup xs)->H' b=some (.tup xs)):gk P w H' h' a o:=by
 induction o with
 |lst xs=>obtain⟨z,aZ,n,r,e⟩:=x;exact⟨z,aZ,n,r,k _ _ (.inl rfl) e⟩
 |tup xs=>obtain⟨z,aZ,r,ob,e,c⟩:=x;exact⟨z,aZ,r,ob,k _ _ (.inl rfl) e,c⟩
 |dK jN=>obtain⟨z,y,vs,r,ob,es,ep,e,c⟩:=x;exact⟨z,y,vs,r,ob,es,ep,k _ _ (.inl rfl) e,c⟩
 |dT jN=>
  obtain⟨z,y,xs,r,ob,es,ep,e,c⟩:=x;exact⟨z,y,xs,Paired.LX r fun p q z=>⟨z.1,ht _ _ z.2.1,z.2.2⟩,ob,es,ep,k _ _ (.inl rfl) e,c⟩
 |set S n=>obtain⟨ob,es,ep,t,e,c⟩:=x;exact⟨ob,es,ep,t,k _ _ (.inl rfl) e,c⟩
 |ins C dx fs=>
  obtain⟨d,z,ne,e,mA,⟨od,es,ep,e2,c⟩,r⟩:=x;exact⟨ho _ d,z,ne,k _ _ (.inl rfl) e,mA,⟨od,es,ep,k _ _ (.inr d) e2,c⟩,r⟩
 |own y=>obtain⟨ob,e⟩:=x;exact⟨ob,k _ _ (.inl rfl) e⟩
 |xd fs=>obtain⟨mA,⟨od,es,ep,e,c⟩,r⟩:=x;exact⟨mA,⟨od,es,ep,k _ _ (.inl rfl) e,c⟩,r⟩
 |Qw lo hi=>obtain⟨t,u,v,e⟩:=x;exact⟨t,u,v,k _ _ (.inl rfl) e⟩
 |BW ob u ih=>obtain⟨e,q⟩:=x;exact⟨k _ _ (.inl rfl) e,ih q⟩
 |I_ ps=>
  have e:h.get? a=some {cls:=.none,data:=.fields ps}:=x;show h'.get? a=some {cls:=.none,data:=.fields ps};exact k a _ (.inl rfl) e
 |met f y=>
  have e:h.get? a=some (PySem.W.methodObj (.ref f) (.ref y)):=x;show h'.get? a=some (PySem.W.methodObj (.ref f) (.ref y));exact k a _ (.inl rfl) e
 |ext φ=>obtain⟨p,⟨o,e⟩,st⟩:=x;exact⟨st _ _ p fun o q=>k _ _ (.inl rfl) q,⟨o,k _ _ (.inl rfl) e⟩,st⟩
theorem nk.lt(x:nk P w H h)(e:H a=some o):a<h.objs.size:=(x a o e).lt
theorem nk.fresh(x:nk P w H h)(e:h.objs.size<=a):H a=none:=by
 cases q:H a with
 |none=>rfl
 |some u=>exact absurd (Nat.lt_of_lt_of_le (x.lt q) e) (Nat.lt_irrefl _)
theorem nk.kept(x:nk P w H h)(k:∀b u,h.get? b=some u->h'.get? b=some u):nk P w H h':=fun a o e=>
 (x a o e).Az (fun b u _ q=>k b u q) (fun _ q=>q) fun _ _ q=>q
theorem nk.laid(x:nk P w H h)(k:∀b u,h.get? b=some u->h'.get? b=some u)(hp:h.objs.size<=a)(new:gk P w (upd H a o) h' a o):nk P w (upd H a o) h':=fun b u e=>by
 have hn:=x.fresh hp;by_cases hb:b=a
 ·subst hb;rw[ak] at e;cases e;exact new
 ·rw[aI hb] at e;exact(x b u e).Az (fun c v _ q=>k c v q) (fun c q=>by rw[aI (aN q hn)];exact q) fun c xs q=>by rw[aI (aN q hn)];exact q
end
noncomputable def Rd(H:Hp)(a:Addr)(u:HO):Prop:=H a=some u\/∃o,H a=some (.BW o u)
theorem Rd.ok{P:Program}{w:World}{H:Hp}{h:Heap}{a:Addr}{u:HO}(r:Rd H a u)(x:nk P w H h):gk P w H h a u:=by
 rcases r with r|⟨o,r⟩
 ·exact x a u r
 ·obtain⟨_,q⟩:=x a _ r;exact q
noncomputable def Pa:Option HO->Prop
 |some (.lst _)=>True
 |some (.dK _)=>True
 |some (.dT _)=>True
 |some (.set _ _)=>True
 |some (.ins _ _ _)=>True
 |some (.ext _)=>True
 |_=>False
section
variable {P:Program} {w:World} {H:Hp} {h h':Heap} {x e:Addr} {o':HO}
theorem nk.write(ok:nk P w H h)(mu:Pa (H x))(he:e=x\/H e=some (.own x))(k:∀b u,b≠e->h.get? b=some u->h'.get? b=some u)(Lm:∃u,h'.get? e=some u)(new:gk P w (upd H x o') h' x o'):nk P w (upd H x o') h':=fun b u q=>by
 have LZ:∀c y,H c=some (.own y)->c≠x:=fun c y r z=>by subst z;rw[r] at mu;exact mu
 have Qx:∀c xs,H c=some (.tup xs)->c≠x:=fun c xs r z=>by subst z;rw[r] at mu;exact mu
 by_cases hb:b=x
 ·subst hb;rw[ak] at q;cases q;exact new
 ·rw[aI hb] at q;by_cases Ja:b=e
  ·have q':H b=some (.own x):=by
    rcases he with z|z
    ·exact absurd (Ja.trans z) hb
    ·rw[Ja];exact z
   rw[q] at q';cases q';obtain⟨v,hv⟩:=Lm;exact⟨v,by rw[Ja];exact hv⟩
  ·refine(ok b u q).Az (fun c v hc r=>k c v ?_ r) (fun c r=>by rw[aI (LZ c b r)];exact r) fun c xs r=>by rw[aI (Qx c xs r)];exact r
   rcases hc with rfl|hc
   ·exact Ja
   ·rintro rfl;rcases he with z|z
    ·exact LZ c b hc z
    ·rw[hc] at z;cases z;exact hb rfl
end
structure Un(fs ex:List Addr)(H H':Hp)(h h':Heap):Prop where
 keep:∀b o,h.get? b=some o->H b=none->b∉fs->b∉ex->h'.get? b=some o
 slot:∀b o,h.get? b=some o->H b=none->b∈fs->b∉ex->∃sl,h'.get? b=some {o with slots:=sl}
 free:∀b o,h.get? b=some o->H b=none->b∉ex->H' b=none
 there:∀b o,h.get? b=some o->b∉ex->∃o',h'.get? b=some o'
 uc:∀b xs,H b=some (.tup xs)->H' b=some (.tup xs)
 rG:∀b o u,H b=some (.BW o u)->H' b=some (.BW o u)
 ud:∀b ps,H b=some (.I_ ps)->∃more,H' b=some (.I_ (ps++more))
section
variable {fs Wd ex Zw:List Addr} {H H1 H2:Hp} {h h1 h2 h':Heap} {a x e:Addr} {o:HO}
theorem Un.any(u:Un fs ex H H1 h h1){b:Addr}{ob:Obj}(q:h.get? b=some ob)(n:H b=none)(hx:b∉ex):∃sl,h1.get? b=some {ob with slots:=sl}:=by
 by_cases hb:b∈fs
 ·exact u.slot b ob q n hb hx
 ·exact⟨ob.slots,u.keep b ob q n hb hx⟩
theorem Un.kept(k:∀b u,h.get? b=some u->h'.get? b=some u):Un fs ex H H h h':=
 ⟨fun b ob q _ _ _=>k b ob q,fun b ob q _ _ _=>⟨ob.slots,k b ob q⟩,fun _ _ _ n _=>n,fun b ob q _=>⟨ob,k b ob q⟩,fun _ _ q=>q,fun _ _ _ q=>q,fun _ ps q=>⟨#[],by rw[q];simp⟩⟩
theorem Un.refl:Un fs ex H H h h:=Un.kept fun _ _ q=>q
theorem Un.laid(k:∀b u,h.get? b=some u->h'.get? b=some u)(hp:h.objs.size<=a)(hn:H a=none):Un fs ex H (upd H a o) h h' where
 keep:=fun b u q _ _ _=>k b u q
 slot:=fun b u q _ _ _=>⟨u.slots,k b u q⟩
 free:=fun b u q n _=>by rw[aI (Nat.ne_of_lt (Nat.lt_of_lt_of_le (Heap.lt_size q) hp))];exact n
 there:=fun b u q _=>⟨u,k b u q⟩
 uc:=fun b xs q=>by rw[aI (aN q hn)];exact q
 rG:=fun b u xs q=>by rw[aI (aN q hn)];exact q
 ud:=fun b ps q=>⟨#[],by rw[aI (aN q hn),q];simp⟩
theorem Un.write(mu:Pa (H x))(he:e=x\/H e=some (.own x))(k:∀b u,b≠e->h.get? b=some u->h'.get? b=some u)(Lm:∃u,h'.get? e=some u):Un fs ex H (upd H x o) h h':=by
 have hx:∀b,H b=none->b≠x:=fun b n z=>by subst z;rw[n] at mu;exact mu
 have hb:∀b,H b=none->b≠e:=fun b n z=>by
  subst z;rcases he with r|r
  ·exact hx b n r
  ·rw[n] at r;cases r
 have hm:∀b u,H b=some u->¬Pa (some u)->b≠x:=fun b u q nm z=>by subst z;rw[q] at mu;exact nm mu
 refine⟨fun b u q n _ _=>k b u (hb b n) q,fun b u q n _ _=>⟨u.slots,k b u (hb b n) q⟩,fun b u q n _=>by rw[aI (hx b n)];exact n,fun b u q _=>?_,
  fun b xs q=>by rw[aI (hm b _ q fun z=>z)];exact q,fun b u xs q=>by rw[aI (hm b _ q fun z=>z)];exact q,fun b ps q=>⟨#[],by rw[aI (hm b _ q fun z=>z),q];simp⟩⟩;by_cases Ja:b=e
 ·subst Ja;exact Lm
 ·exact⟨u,k b u Ja q⟩
end
noncomputable def Pb(h:Heap)(H:Hp):List Addr:=(List.range h.objs.size).filter fun a=>(H a).isSome
noncomputable def rH(h:Heap)(H:Hp):Heap:=PySem.W.hideAll h (Pb h H)
theorem AA(h:Heap)(H:Hp):(rH h H).objs.size=h.objs.size:=PySem.W.hideAll_size _ _
theorem B5{h:Heap}{H:Hp}{b:Addr}{o:Obj}(e:h.get? b=some o)(n:H b=none):(rH h H).get? b=some o:=
 PySem.W.hideAll_get _ e fun hm=>by
  have q:(H b).isSome=true:=(List.mem_filter.mp hm).2;rw[n] at q;simp at q
theorem E_{h:Heap}{H:Hp}{b:Addr}{o:Obj}(e:(rH h H).get? b=some o):h.get? b=some o/\H b=none:=by
 have e':h.get? b=some o:=PySem.W.of_hideAll (Pb h H) e;refine⟨e',?_⟩;cases q:H b with
 |none=>rfl
 |some x=>
  have hm:b∈Pb h H:=List.mem_filter.mpr ⟨List.mem_range.mpr (Heap.lt_size e'),by simp[q]⟩;have z:(rH h H).get? b=none:=PySem.W.hideAll_none (Pb h H) hm;rw[z] at e;cases e
noncomputable def Fb(g h:Heap)(L:Addr):List (Addr×Obj):=(List.range h.objs.size).filterMap fun a=>if a=L\/(g.get? a).isSome=true then none else(h.get? a).map fun o=>(a,o)
noncomputable def rest(g h:Heap)(L d:Addr):List (Addr×Obj):=(Fb g h L).filter fun p=>decide (p.1≠d)
end L2
namespace L2
open PySem PySem.Spec PyProof.Rows
structure Mod(K:PySem.W.Frag)(mg:Str->Option Value)(base:Heap):Prop where
 Pc:K.In base
 glob:base.Ns mainGlobals mg
 blt:∃mb,base.Ns builtinsNs mb/\∀x:Str,x≠"__name__"->mb x=bootBuiltins x
 nolimit:base.NoLimit
 seer:base.NoSeer
structure Cx where
 prog:Program
 w:World
 K:PySem.W.Frag
 mg:Str->Option Value
 base:Heap
 A:Around
 N:List Str
 gn:Shared
 B6:Hp
 env:Env
 outer:List Env
 stack:List Env
 ex:List Addr
 fn:Str->Bool
 calm:Bool
 pn:List (Addr×Obj)
 xe:Value->Shared->Prop
noncomputable def AB(l:List Env):List Addr:=l.filterMap (·.frame)
noncomputable abbrev Cx.fs(X:Cx):List Addr:=AB X.outer
noncomputable def Qy(sc:Scope)(x:Str):Prop:=sc.names.lookup x=some .local\/sc.names.lookup x=some .cell\/sc.names.lookup x=some .free
noncomputable def Loc(sc:Scope)(x:Str):Prop:=sc.names.lookup x=some .local\/sc.names.lookup x=some .cell
noncomputable def Look(env:Env)(h:Heap)(m:Str->Option Value)(x:Str)(u:Value):Prop:=
 (env.kindOf x=some .local/\m x=some u)\/((env.kindOf x=some .cell\/env.kindOf x=some .free)/\∃c,env.cells.lookup x=some c/\h.IsCell c (some u))
structure Cx.Ok(X:Cx):Prop where
 mod:Mod X.K X.mg X.base
 kind:X.env.scope.kind=.function
 glob:X.env.globals=mainGlobals
 blt:X.env.builtins=builtinsNs
 above:X.gn.heap.objs.size<=X.env.locals
 inj:∀x y c,X.env.cells.lookup x=some c->X.env.cells.lookup y=some c->x=y
 has:∀x,(X.env.kindOf x=some .cell\/X.env.kindOf x=some .free)->∃c,X.env.cells.lookup x=some c
 L0:∀x c,X.fn x=true->X.env.cells.lookup x=some c->X.gn.heap.objs.size<=c
 hd:X.calm=true->X.A.handled=none
 frames:X.A.frames=some X.stack
 Pd:X.stack=X.outer\/(X.stack=X.env::X.outer/\X.env.frame=some X.env.locals)
 T7:∀b∈X.ex,b≠X.env.locals/\∀x c,X.env.cells.lookup x=some c->c≠b
 bs:∀b o,X.base.get? b=some o->X.gn.heap.get? b=some o/\X.B6 b=none
 Fc:X.base.objs.size<=X.gn.heap.objs.size
 B7:∀b o,X.base.get? b=some o->b∉X.ex
 Fd:∀b∈X.ex,b∉X.fs
 nq:X.gn.heap.FunFrames X.base X.outer
 Jb:∀b∈X.fs,X.B6 b=none
structure Inv(X:Cx)(pins:List (Addr×Obj))(σ:List (Option V))(H:Hp)(s:Shared):Prop where
 ok:X.Ok
 os:s.os=X.gn.os
 bare:AllBare s.gens
 base:Un X.fs X.ex X.B6 H X.gn.heap s.heap
 loc:∃m,s.heap.Ns X.env.locals m/\∀(i:Nat)(x:Str)(v:V),X.N[i]?=some x->σ[i]?=some (some v)->Qy X.env.scope x->∃u,RelV v u/\Look X.env s.heap m x u
 cell:∀x c,X.env.cells.lookup x=some c->∃v,s.heap.IsCell c v
 free:H X.env.locals=none
 j8:∀x c,X.env.cells.lookup x=some c->H c=none
 pin:∀p∈X.pn++pins,s.heap.get? p.1=some p.2/\H p.1=none/\p.1≠X.env.locals/\p.1∉X.fs/\∀v,p.2.data≠.cell v
 eV:nk X.prog X.w H s.heap
 len:σ.length=X.N.length
section
variable {X:Cx} {pins:List (Addr×Obj)} {σ:List (Option V)} {H H':Hp} {s:Shared} {h':Heap}
theorem Cx.Ok.QC(ok:X.Ok){b:Addr}{o:Obj}(e:X.base.get? b=some o):b∉X.fs:=fun hb=>by
 have:=(ok.nq.mem hb).1;rw[e] at this;cases this
theorem Inv.bs(I:Inv X pins σ H s):∀b o,X.base.get? b=some o->s.heap.get? b=some o/\H b=none:=fun b o e=>
 ⟨I.base.keep b o (I.ok.bs b o e).1 (I.ok.bs b o e).2 (I.ok.QC e) (I.ok.B7 b o e),I.base.free b o (I.ok.bs b o e).1 (I.ok.bs b o e).2 (I.ok.B7 b o e)⟩
theorem Inv.bk(I:Inv X pins σ H s):∀b o,X.base.get? b=some o->s.heap.get? b=some o:=fun b o e=>(I.bs b o e).1
theorem Inv.mod(I:Inv X pins σ H s):Mod X.K X.mg X.base:=I.ok.mod
theorem Inv.B8(I:Inv X pins σ H s):X.K.In s.heap:=I.ok.mod.Pc.keeps I.bk
theorem Inv.nolimit(I:Inv X pins σ H s):s.heap.NoLimit:=I.ok.mod.nolimit.keeps I.bk
theorem Inv.lt(I:Inv X pins σ H s):X.env.locals<s.heap.objs.size:=let⟨_,hn,_⟩:=I.loc;hn.lt
theorem Inv.sz(I:Inv X pins σ H s):X.gn.heap.objs.size<=s.heap.objs.size:=Nat.le_trans I.ok.above (Nat.le_of_lt I.lt)
theorem Inv.QD(I:Inv X pins σ H s){a:Addr}(h:s.heap.objs.size<=a):a∉X.fs:=fun hb=>by
 obtain⟨_,o,ho,_⟩:=I.ok.nq.mem hb;exact absurd (Nat.lt_of_lt_of_le (Heap.lt_size ho) (Nat.le_trans I.sz h)) (Nat.lt_irrefl _)
theorem Inv.Jc(I:Inv X pins σ H s):∀x c,X.env.cells.lookup x=some c->c≠X.env.locals:=fun x c e z=>by
 obtain⟨v,o,ho,hd⟩:=I.cell x c e;obtain⟨m,⟨o',es,ep,B9,ue,_⟩,_⟩:=I.loc;rw[z,B9] at ho;cases ho;rw[ue] at hd;cases hd
theorem Inv.nq(I:Inv X pins σ H s):s.heap.FunFrames X.base X.outer:=by
 have all:∀(l:List Env),(∀b∈AB l,b∈X.fs)->X.gn.heap.FunFrames X.base l->s.heap.FunFrames X.base l:=by
  intro l
  induction l with
  |nil=>intro _ _;trivial
  |cons env r ih=>
   intro hs hl;obtain⟨hk,⟨L,o,hf,hn,ho,hd⟩,hr⟩:=hl;have hL:L∈X.fs:=hs L (by unfold AB;rw[List.filterMap_cons,hf];exact List.mem_cons_self);obtain⟨sl,e⟩:=I.base.slot L o ho (I.ok.Jb L hL) hL fun z=>I.ok.Fd L z hL;exact⟨hk,⟨L,_,hf,hn,e,hd⟩,ih (fun b hb=>hs b (by unfold AB;rw[List.filterMap_cons,hf];exact List.mem_cons_of_mem _ hb)) hr⟩
 exact all X.outer (fun _ hb=>hb) I.ok.nq
theorem Inv.stack(I:Inv X pins σ H s):s.heap.FunFrames X.base X.stack:=by
 rcases I.ok.Pd with e|⟨e,hf⟩
 ·rw[e];exact I.nq
 ·rw[e];obtain⟨m,hn,_⟩:=I.loc;refine .cons (by rw[I.ok.kind];decide) hf hn ?_ I.nq;exact Heap.get?_none_of_le (Nat.le_trans I.ok.Fc I.ok.above)
theorem Inv.rJ(I:Inv X pins σ H s):∀b∈AB X.stack,b∈X.env.locals::X.fs:=fun b hb=>by
 rcases I.ok.Pd with e|⟨e,hf⟩
 ·rw[e] at hb;exact List.mem_cons_of_mem _ hb
 ·rw[e] at hb;unfold AB at hb;rw[List.filterMap_cons,hf] at hb;exact hb
theorem Inv.yS(I:Inv X pins σ H s):∀b∈AB X.stack,H b=none:=fun b hb=>by
 rcases List.mem_cons.mp (I.rJ b hb) with e|hb
 ·rw[e];exact I.free
 ·obtain⟨_,o,ho,_⟩:=I.ok.nq.mem hb;exact I.base.free b o ho (I.ok.Jb b hb) fun z=>I.ok.Fd b z hb
theorem Inv.step{g':Array GenState}{t':Nat}{d':Drawn}{ch:List Addr}(I:Inv X pins σ H s)(wu:∀b∈ch,(b∈X.ex\/X.gn.heap.objs.size<=b)/\b≠X.env.locals/\(∀x c,X.env.cells.lookup x=some c->c≠b)/\∀p∈X.pn++pins,p.1≠b)(keep:∀b o,b≠X.env.locals->b∉X.fs->b∉ch->s.heap.get? b=some o->H b=none->h'.get? b=some o)(slot:∀b o,b≠X.env.locals->b∈X.fs->b∉ch->s.heap.get? b=some o->H b=none->∃sl,h'.get? b=some {o with slots:=sl})(free:∀b o,b∉ch->s.heap.get? b=some o->H b=none->H' b=none)(there:∀b o,b∉ch->s.heap.get? b=some o->∃o',h'.get? b=some o')(uc:∀b xs,H b=some (.tup xs)->H' b=some (.tup xs))(rG:∀b o u,H b=some (.BW o u)->H' b=some (.BW o u))(ud:∀b ps,H b=some (.I_ ps)->∃more,H' b=some (.I_ (ps++more)))(ns:∀m,s.heap.Ns X.env.locals m->h'.Ns X.env.locals m)(eV:nk X.prog X.w H' h')(hg:AllBare g'):
 Inv X pins σ H' {s with heap:=h',gens:=g',drawn:=d',toks:=t'}:=by
 have T8:∀b o,X.gn.heap.get? b=some o->b≠X.env.locals:=fun b o e=>Nat.ne_of_lt (Nat.lt_of_lt_of_le (Heap.lt_size e) I.ok.above);have L1:∀b o,X.gn.heap.get? b=some o->b∉X.ex->b∉ch:=fun b o e hx hb=>by
  rcases(wu b hb).1 with z|z
  ·exact hx z
  ·exact absurd (Nat.lt_of_lt_of_le (Heap.lt_size e) z) (Nat.lt_irrefl _)
 have cellK:∀x c,X.env.cells.lookup x=some c->∀v,s.heap.IsCell c v->h'.IsCell c v:=fun x c e v⟨o,ho,hd⟩=>by
  have L3:c∉ch:=fun z=>(wu c z).2.2.1 x c e rfl;by_cases hc:c∈X.fs
  ·obtain⟨sl,q⟩:=slot c o (I.Jc x c e) hc L3 ho (I.j8 x c e);exact⟨_,q,hd⟩
  ·exact⟨o,keep c o (I.Jc x c e) hc L3 ho (I.j8 x c e),hd⟩
 refine⟨I.ok,I.os,hg,⟨fun b o e n hb hx=>?_,fun b o e n hb hx=>?_,fun b o e n hx=>?_,fun b o e hx=>?_,fun b xs e=>uc b xs (I.base.uc b xs e),fun b o xs e=>rG b o xs (I.base.rG b o xs e),fun b ps e=>?_⟩,?_,fun x c e=>?_,?_,fun x c e=>?_,fun p hp=>?_,eV,I.len⟩
 ·exact keep b o (T8 b o e) hb (L1 b o e hx) (I.base.keep b o e n hb hx) (I.base.free b o e n hx)
 ·obtain⟨sl,e1⟩:=I.base.slot b o e n hb hx;obtain⟨We,e2⟩:=slot b _ (T8 b o e) hb (L1 b o e hx) e1 (I.base.free b o e n hx);exact⟨We,e2⟩
 ·obtain⟨o',e1⟩:=I.base.there b o e hx;exact free b o' (L1 b o e hx) e1 (I.base.free b o e n hx)
 ·obtain⟨o',e1⟩:=I.base.there b o e hx;exact there b o' (L1 b o e hx) e1
 ·obtain⟨m1,e1⟩:=I.base.ud b ps e;obtain⟨m2,e2⟩:=ud b _ e1;exact⟨m1++m2,by rw[e2,Array.append_assoc]⟩
 ·obtain⟨m,hn,hl⟩:=I.loc;refine⟨m,ns m hn,fun i x v e1 e2 e3=>?_⟩;obtain⟨u,r,l⟩:=hl i x v e1 e2 e3;refine⟨u,r,?_⟩;rcases l with l|⟨k,c,e,z⟩
  ·exact .inl l
  ·exact .inr ⟨k,c,e,cellK x c e _ z⟩
 ·obtain⟨v,z⟩:=I.cell x c e;exact⟨v,cellK x c e v z⟩
 ·obtain⟨m,⟨o,_,_,ho,_⟩,_⟩:=I.loc;exact free _ o (fun z=>(wu _ z).2.1 rfl) ho I.free
 ·obtain⟨v,o,ho,hd⟩:=I.cell x c e;exact free c o (fun z=>(wu c z).2.2.1 x c e rfl) ho (I.j8 x c e)
 ·obtain⟨e,n,ne,nf,d⟩:=I.pin p hp;have L3:p.1∉ch:=fun z=>(wu p.1 z).2.2.2 p hp rfl;exact⟨keep p.1 p.2 ne nf L3 e n,free p.1 p.2 L3 e n,ne,nf,d⟩
theorem Inv.un{t':Nat}(I:Inv X pins σ H s)(u:Un X.fs [] H H' s.heap h')(eV:nk X.prog X.w H' h'):Inv X pins σ H' {s with heap:=h',toks:=t'}:=by
 obtain⟨m,⟨o,es,ep,ho,r⟩,_⟩:=id I.loc;obtain⟨sl,hL⟩:=u.any ho I.free (by simp);exact I.step (g':=s.gens) (d':=s.drawn) (ch:=[]) (fun _ z=>nomatch z) (fun b o _ hb _ e n=>u.keep b o e n hb (by simp)) (fun b o _ hb _ e n=>u.slot b o e n hb (by simp)) (fun b o _ e n=>u.free b o e n (by simp)) (fun b o _ e=>u.there b o e (by simp)) u.uc u.rG u.ud (fun m' hm=>by
  obtain⟨o',QE,QF,B9,r'⟩:=hm
  rw[ho] at B9;cases B9
  exact⟨_,QE,QF,hL,r'⟩) eV I.bare
theorem Inv.call{g':Array GenState}{t':Nat}{d':Drawn}{ch:List Addr}(I:Inv X pins σ H s)(u:Un (AB X.stack) ch H H' s.heap h')(eV:nk X.prog X.w H' h')(hg:AllBare g')(wu:∀b∈ch,(b∈X.ex\/X.gn.heap.objs.size<=b)/\b≠X.env.locals/\(∀x c,X.env.cells.lookup x=some c->c≠b)/\∀p∈X.pn++pins,p.1≠b):
 Inv X pins σ H' {s with heap:=h',gens:=g',drawn:=d',toks:=t'}:=by
 obtain⟨m,⟨o,es,ep,ho,r⟩,_⟩:=id I.loc;obtain⟨sl,hL⟩:=u.any ho I.free fun z=>(wu _ z).2.1 rfl;exact I.step (ch:=ch) wu (fun b o hL hb hc e n=>u.keep b o e n (fun z=>(List.mem_cons.mp (I.rJ b z)).elim hL hb) hc) (fun b o _ _ hc e n=>u.any e n hc) (fun b o hc e n=>u.free b o e n hc) (fun b o hc e=>u.there b o e hc) u.uc u.rG u.ud (fun m' hm=>by
  obtain⟨o',QE,QF,B9,r'⟩:=hm
  rw[ho] at B9;cases B9
  exact⟨_,QE,QF,hL,r'⟩) eV hg
theorem Inv.turned{t':Nat}{it:Addr}(I:Inv X pins σ H s)(k:∀b o,b≠it->s.heap.get? b=some o->h'.get? b=some o)(hn:H it=none)(hL:it≠X.env.locals)(h1:it∈X.ex\/X.gn.heap.objs.size<=it)(h2:∀x c,X.env.cells.lookup x=some c->c≠it)(h3:∀p∈X.pn++pins,p.1≠it):Inv X pins σ H {s with heap:=h',toks:=t'}:=by
 have T9:∀b u,H b=some u->b≠it:=fun b u e z=>by rw[z,hn] at e;cases e
 refine I.step (g':=s.gens) (d':=s.drawn) (ch:=[it]) (fun b hb=>?_) (fun b o _ _ hc e _=>k b o (fun z=>hc (by simp[z])) e) (fun b o _ _ hc e _=>⟨o.slots,k b o (fun z=>hc (by simp[z])) e⟩) (fun _ _ _ _ n=>n)
  (fun b o hc e=>⟨o,k b o (fun z=>hc (by simp[z])) e⟩) (fun _ _ e=>e) (fun _ _ _ e=>e) (fun b ps e=>⟨#[],by rw[e];simp⟩) (fun m hm=>?_) (fun b u e=>?_) I.bare
 ·have e:b=it:=by simpa using hb
  subst e;exact⟨h1,hL,h2,h3⟩
 ·obtain⟨o,es,ep,ho,r⟩:=hm;exact⟨o,es,ep,k _ o (Ne.symm hL) ho,r⟩
 ·refine(I.eV b u e).Az (fun c v hc q=>k c v ?_ q) (fun _ q=>q) fun _ _ q=>q;rcases hc with z|z
  ·rw[z];exact T9 b u e
  ·exact T9 c _ z
theorem Inv.tok(I:Inv X pins σ H s)(t:Nat):Inv X pins σ H {s with toks:=t}:=I.un (h':=s.heap) (t':=t) Un.refl I.eV
theorem Inv.kept{t':Nat}(I:Inv X pins σ H s)(k:∀b u,s.heap.get? b=some u->h'.get? b=some u):Inv X pins σ H {s with heap:=h',toks:=t'}:=I.un (Un.kept k) (I.eV.kept k)
theorem Inv.laid{a:Addr}{o:HO}{t':Nat}(I:Inv X pins σ H s)(k:∀b u,s.heap.get? b=some u->h'.get? b=some u)(hp:s.heap.objs.size<=a)(new:gk X.prog X.w (upd H a o) h' a o):
 Inv X pins σ (upd H a o) {s with heap:=h',toks:=t'}:=I.un (Un.laid k hp (I.eV.fresh hp)) (I.eV.laid k hp new)
theorem Inv.write{x e:Addr}{o:HO}{t':Nat}(I:Inv X pins σ H s)(mu:Pa (H x))(he:e=x\/H e=some (.own x))(k:∀b u,b≠e->s.heap.get? b=some u->h'.get? b=some u)(Lm:∃u,h'.get? e=some u)(new:gk X.prog X.w (upd H x o) h' x o):Inv X pins σ (upd H x o) {s with heap:=h',toks:=t'}:=I.un (Un.write mu he k Lm) (I.eV.write mu he k Lm new)
theorem Inv.yT{Hk:List (Addr×Obj)}(I:Inv X pins σ H s)(h:∀p∈Hk,s.heap.get? p.1=some p.2/\H p.1=none/\p.1≠X.env.locals/\p.1∉X.fs/\∀v,p.2.data≠.cell v):Inv X Hk σ H s:=
 ⟨I.ok,I.os,I.bare,I.base,I.loc,I.cell,I.free,I.j8,fun p hp=>(List.mem_append.mp hp).elim (fun z=>I.pin p (List.mem_append_left _ z)) (h p),I.eV,I.len⟩
theorem uf{N:List Str}(hN:N.Nodup){i j:Nat}{x:Str}(a:N[i]?=some x)(b:N[j]?=some x):i=j:=by
 obtain⟨h1,e1⟩:=List.getElem?_eq_some_iff.mp a;obtain⟨h2,e2⟩:=List.getElem?_eq_some_iff.mp b;exact(List.getElem_inj hN).mp (e1.trans e2.symm)
theorem qC{M:Model}{A:Around}{E:Value->Shared->Prop}{i:Nat}{x:Str}{v:V}{u:Value}{Q:Unit->Shared->Prop}(I:Inv X pins σ H s)(hN:X.N.Nodup)(hi:X.N[i]?=some x)(hx:Loc X.env.scope x)(r:RelV v u)(h:∀s',Inv X pins (σ.set i (some v)) H s'->(∃a,Heap.SameBut a s.heap s'.heap/\(a=X.env.locals\/X.env.cells.lookup x=some a))->Q () s')(hf:X.fn x=true\/X.env.scope.names.lookup x=some .local:=by first|exact .inl rfl|exact .inr rfl|assumption):wpAny M A (storeName X.env x u) Q E s:=by
 obtain⟨m,hn,hl⟩:=id I.loc;have QG:(X.env.scope.kind==.class||(X.env.scope.kind==.module&&X.env.locals !=X.env.globals))=false:=by rw[I.ok.kind];rfl
 have L4:i<σ.length:=by rw[I.len];exact(List.getElem?_eq_some_iff.mp hi).1
 have Jc:=I.Jc;have tracked:∀{a:Addr}{h':Heap},(∃o,s.heap.get? a=some o/\H a=none)->Heap.SameBut a s.heap h'->nk X.prog X.w H h':=fun{a h'} ha hs b ob e=>by
  obtain⟨_,_,Hl⟩:=ha;refine(I.eV b ob e).Az (fun c w' hc q=>(hs.2 c ?_).trans q) (fun _ q=>q) fun _ _ q=>q;rintro rfl;rcases hc with rfl|hc
  ·rw[Hl] at e;cases e
  ·rw[Hl] at hc;cases hc
 rcases hx with hk|hk
 ·refine wpAny_storeName_local hk hn (fun h' QH hs=>?_) QG;obtain⟨oL,_,_,Wf,_⟩:=id hn;refine h _ ⟨I.ok,I.os,I.bare,⟨fun b o e n hb hx=>?_,fun b o e n hb hx=>?_,I.base.free,fun b o e hx=>?_,I.base.uc,I.base.rG,I.base.ud⟩,⟨_,QH,fun j y v' e1 e2 e3=>?_⟩,fun y c e=>?_,I.free,I.j8,fun p hp=>?_,tracked ⟨oL,Wf,I.free⟩ hs,by simpa using I.len⟩ ⟨_,hs,.inl rfl⟩
  ·exact(hs.2 b (Nat.ne_of_lt (Nat.lt_of_lt_of_le (Heap.lt_size e) I.ok.above))).trans (I.base.keep b o e n hb hx)
  ·obtain⟨sl,e1⟩:=I.base.slot b o e n hb hx;exact⟨sl,(hs.2 b (Nat.ne_of_lt (Nat.lt_of_lt_of_le (Heap.lt_size e) I.ok.above))).trans e1⟩
  ·obtain⟨o',e1⟩:=I.base.there b o e hx;exact⟨o',(hs.2 b (Nat.ne_of_lt (Nat.lt_of_lt_of_le (Heap.lt_size e) I.ok.above))).trans e1⟩
  ·by_cases hj:j=i
   ·subst hj;rw[hi] at e1;cases e1;rw[List.getElem?_set_self L4] at e2;cases e2;exact⟨u,r,.inl ⟨hk,by simp⟩⟩
   ·rw[List.getElem?_set_ne (Ne.symm hj)] at e2;obtain⟨u',r',q⟩:=hl j y v' e1 e2 e3;refine⟨u',r',?_⟩;rcases q with⟨k,e⟩|⟨k,c,e,z⟩
    ·refine .inl ⟨k,?_⟩;have:y≠x:=fun e=>hj (uf hN e1 (e▸hi));simp[this,e]
    ·exact .inr ⟨k,c,e,z.sameBut hs (Jc y c e)⟩
  ·obtain⟨w',z⟩:=I.cell y c e;exact⟨w',z.sameBut hs (Jc y c e)⟩
  ·obtain⟨e,n,ne,nf,d⟩:=I.pin p hp;exact⟨(hs.2 p.1 ne).trans e,n,ne,nf,d⟩
 ·have Ln:X.fn x=true:=by
   rcases hf with z|z
   ·exact z
   ·rw[z] at hk;cases hk
  obtain⟨c,hc⟩:=I.ok.has x (.inl hk);obtain⟨w',z⟩:=I.cell x c hc;refine wpAny_storeName_cell I.ok.kind hk hc z (fun h' Jd hs=>?_);obtain⟨oc,T_,QI⟩:=id z;refine h {s with heap:=h'} ⟨I.ok,I.os,I.bare,⟨fun b o e n hb hx=>?_,fun b o e n hb hx=>?_,I.base.free,fun b o e hx=>?_,I.base.uc,I.base.rG,I.base.ud⟩,⟨m,hn.sameBut hs (Ne.symm (Jc x c hc)),fun j y v' e1 e2 e3=>?_⟩,fun y c' e=>?_,I.free,I.j8,fun p hp=>?_,tracked ⟨oc,T_,I.j8 x c hc⟩ hs,by simpa using I.len⟩ ⟨c,hs,.inr hc⟩
  ·exact(hs.2 b (Nat.ne_of_lt (Nat.lt_of_lt_of_le (Heap.lt_size e) (I.ok.L0 x c Ln hc)))).trans (I.base.keep b o e n hb hx)
  ·obtain⟨sl,e1⟩:=I.base.slot b o e n hb hx;exact⟨sl,(hs.2 b (Nat.ne_of_lt (Nat.lt_of_lt_of_le (Heap.lt_size e) (I.ok.L0 x c Ln hc)))).trans e1⟩
  ·obtain⟨o',e1⟩:=I.base.there b o e hx;exact⟨o',(hs.2 b (Nat.ne_of_lt (Nat.lt_of_lt_of_le (Heap.lt_size e) (I.ok.L0 x c Ln hc)))).trans e1⟩
  ·by_cases hj:j=i
   ·subst hj;rw[hi] at e1;cases e1;rw[List.getElem?_set_self L4] at e2;cases e2;exact⟨u,r,.inr ⟨.inl hk,c,hc,Jd⟩⟩
   ·rw[List.getElem?_set_ne (Ne.symm hj)] at e2;obtain⟨u',r',q⟩:=hl j y v' e1 e2 e3;refine⟨u',r',?_⟩;rcases q with q|⟨k,c',e,z'⟩
    ·exact .inl q
    ·refine .inr ⟨k,c',e,z'.sameBut hs ?_⟩;rintro rfl;exact hj (uf hN e1 (I.ok.inj _ _ _ e hc▸hi))
  ·by_cases QJ:c'=c
   ·subst QJ;exact⟨_,Jd⟩
   ·obtain⟨w2,z2⟩:=I.cell y c' e;exact⟨w2,z2.sameBut hs QJ⟩
  ·obtain⟨e,n,ne,nf,d⟩:=I.pin p hp;refine⟨(hs.2 p.1 ?_).trans e,n,ne,nf,d⟩;intro q;rw[q,T_] at e;have q':oc=p.2:=Option.some.inj e;exact d w' (by rw[<-q'];exact QI)
theorem uh{M:Model}{A:Around}{E:Value->Shared->Prop}{i:Nat}{x:Str}{v:V}{u:Value}{Q:Unit->Shared->Prop}(I:Inv X pins σ H s)(hN:X.N.Nodup)(hi:X.N[i]?=some x)(hx:Loc X.env.scope x)(r:RelV v u)(h:∀s',Inv X pins (σ.set i (some v)) H s'->Q () s')(hf:X.fn x=true\/X.env.scope.names.lookup x=some .local:=by first|exact .inl rfl|exact .inr rfl|assumption):wpAny M A (storeName X.env x u) Q E s:=
 qC I hN hi hx r (fun s' I' _=>h s' I') hf
theorem Inv.L5{s':Shared}{ch:List Addr}(I:Inv X pins σ H s)(ho:s'.os=s.os)(u:Un (AB X.stack) ch H H' s.heap s'.heap)(eV:nk X.prog X.w H' s'.heap)(hg:AllBare s'.gens)(wu:∀b∈ch,(b∈X.ex\/X.gn.heap.objs.size<=b)/\b≠X.env.locals/\(∀x c,X.env.cells.lookup x=some c->c≠b)/\∀p∈X.pn++pins,p.1≠b):Inv X pins σ H' s':=by
 obtain⟨h',g',d',t',o'⟩:=s';have e:o'=s.os:=ho;subst e;exact I.call (g':=g') (t':=t') (d':=d') u eV hg wu
end
noncomputable abbrev XK:=Value->Option Addr->Hp->Prop
noncomputable abbrev St:=List (Option V)
noncomputable abbrev VK:=V->Hp->Prop
noncomputable abbrev TE:=St->Hp->VK->Prop
noncomputable abbrev TT:=St->Hp->(Bool->Hp->Prop)->Prop
noncomputable abbrev TA:=St->Hp->(List V->Hp->Prop)->Prop
structure Ends where
 nx:St->Hp->Prop
 rt:VK
 bk:St->Hp->Prop:=fun _ _=>False
 ct:St->Hp->Prop:=fun _ _=>False
noncomputable abbrev TS:=Ends->St->Hp->Prop
noncomputable def EP(X:Cx)(pins:List (Addr×Obj))(σ:St)(Q:VK)(u:Value)(s':Shared):Prop:=∃v H',Inv X pins σ H' s'/\RelV v u/\Q v H'
noncomputable def TP(X:Cx)(pins:List (Addr×Obj))(σ:St)(Q:Bool->Hp->Prop)(b:Bool)(s':Shared):Prop:=∃H',Inv X pins σ H' s'/\Q b H'
noncomputable def AP(X:Cx)(pins:List (Addr×Obj))(σ:St)(Q:List V->Hp->Prop)(us:List Value)(s':Shared):Prop:=∃vs H',Inv X pins σ H' s'/\Vals vs us/\Q vs H'
noncomputable def SP(X:Cx)(pins:List (Addr×Obj))(D:Ends)(f:Flow)(s':Shared):Prop:=
 match f with
 |.next=>∃bN H',Inv X pins bN H' s'/\D.nx bN H'
 |.brk=>∃bN H',Inv X pins bN H' s'/\D.bk bN H'
 |.cont=>∃bN H',Inv X pins bN H' s'/\D.ct bN H'
 |.ret u=>∃v bN H',Inv X pins bN H' s'/\RelV v u/\D.rt v H'
noncomputable def PE(X:Cx)(e:Expr)(t:TE):Prop:=
 ∀(pins:List (Addr×Obj))(s:Shared)(σ:St)(H:Hp)(Q:VK),Inv X pins σ H s->t σ H Q->wpAny (model X.prog X.w) X.A (eval e X.env) (EP X pins σ Q) X.xe s
noncomputable def PT(X:Cx)(e:Expr)(t:TT):Prop:=
 ∀(pins:List (Addr×Obj))(s:Shared)(σ:St)(H:Hp)(Q:Bool->Hp->Prop),Inv X pins σ H s->t σ H Q->wpAny (model X.prog X.w) X.A (isTrue e X.env (eval e X.env)) (TP X pins σ Q) X.xe s
noncomputable def PW(X:Cx)(e:Expr)(t:TT):Prop:=
 ∀(whole:Sem Value)(pins:List (Addr×Obj))(s:Shared)(σ:St)(H:Hp)(Q:Bool->Hp->Prop),Inv X pins σ H s->t σ H Q->wpAny (model X.prog X.w) X.A (isTrue e X.env whole) (TP X pins σ Q) X.xe s
theorem PW.pt{X:Cx}{e:Expr}{t:TT}(h:PW X e t):PT X e t:=h _
noncomputable def PA(X:Cx)(es:List Expr)(t:TA):Prop:=
 ∀(pos:Pos)(pins:List (Addr×Obj))(s:Shared)(σ:St)(H:Hp)(Q:List V->Hp->Prop),Inv X pins σ H s->t σ H Q->wpAny (model X.prog X.w) X.A (spliced (backTo pos (starEach es X.env))) (AP X pins σ Q) X.xe s
noncomputable def PS(X:Cx)(st:Stmt)(t:TS):Prop:=
 ∀(pins:List (Addr×Obj))(s:Shared)(σ:St)(H:Hp)(D:Ends),Inv X pins σ H s->t D σ H->wpAny (model X.prog X.w) X.A (exec st X.env) (SP X pins D) X.xe s
noncomputable def wz(X:Cx)(st:List Stmt)(t:TS):Prop:=
 ∀(pins:List (Addr×Obj))(s:Shared)(σ:St)(H:Hp)(D:Ends),Inv X pins σ H s->t D σ H->wpAny (model X.prog X.w) X.A (execs st X.env) (SP X pins D) X.xe s
theorem dR{α:Type}{t:Sem α}{Q Q':α->Shared->Prop}{M:Model}{A:Around}{E:Value->Shared->Prop}{s:Shared}(h:wpAny M A t Q E s)(hQ:∀a s,Q a s->Q' a s):wpAny M A t Q' E s:=wpAny_mono h hQ fun _ _ x=>x
end L2
namespace L2
open PySem PySem.Spec PyProof.Rows
section
variable {X:Cx}
noncomputable def Fe(i:Nat):TE:=fun σ H Q=>∃v,σ[i]?=some (some v)/\Q v H
noncomputable def tC(v:V):TE:=fun _ H Q=>Q v H
theorem Je{i:Nat}{x:Str}{pos:Pos}(hN:X.N[i]?=some x)(hv:Qy X.env.scope x)(hd:(x==("__debug__":Str))=false:=by decide)(wA:(x==("__classdict__":Str))=false:=by decide):PE X (.Name x pos) (Fe i):=by
 intro pins s σ H Q I h;obtain⟨v,e,h⟩:=h;obtain⟨m,hn,hl⟩:=I.loc;obtain⟨u,r,l⟩:=hl i x v hN e hv;have fin:EP X pins σ Q u s:=⟨v,H,I,r,h⟩;rcases l with⟨hk,hm⟩|⟨hk,c,hc,Hm⟩
 ·exact wpAny_Name (wpAny_loadName_local I.ok.kind hk hn hm fin) hd
 ·rcases hk with hk|hk
  ·exact wpAny_Name (wpAny_loadName_cell I.ok.kind hk hc Hm fin) hd
  ·exact wpAny_Name (wpAny_loadName_free I.ok.kind hk hc Hm fin wA) hd
theorem af{i j pos}:PE X (.Constant (.int i) j pos) (tC (.int i)):=fun _ _ _ H _ I h=>wpAny_Constant_int ⟨.int i,H,I.tok _,⟨_,rfl⟩,h⟩
theorem j9{b j pos}:PE X (.Constant (.bool b) j pos) (tC (.bl b)):=fun _ _ _ H _ I h=>Constant_bool ⟨.bl b,H,I,rfl,h⟩
theorem gp{j pos}:PE X (.Constant .none j pos) (tC .fB):=fun _ _ _ H _ I h=>Constant_none ⟨.fB,H,I,rfl,h⟩
noncomputable def Gl(X:Cx)(x:Str):Prop:=X.env.kindOf x=some .globalImplicit
theorem rK{E:Value->Shared->Prop}{pins:List (Addr×Obj)}{s:Shared}{σ:St}{H:Hp}{x:Str}{u:Value}{pos:Pos}{Q:Value->Shared->Prop}(I:Inv X pins σ H s)(hg:Gl X x)(hm:X.mg x=some u)(h:Q u s)(hd:(x==("__debug__":Str))=false:=by decide):wpAny (model X.prog X.w) X.A (eval (.Name x pos) X.env) Q E s:=
 Calls.Name_function_global I.ok.kind hg (Calls.loadGlobal_global (by rw[I.ok.glob];exact I.mod.glob.keeps I.bk) hm h) hd
theorem jk{E:Value->Shared->Prop}{pins:List (Addr×Obj)}{s:Shared}{σ:St}{H:Hp}{x:Str}{u:Value}{pos:Pos}{Q:Value->Shared->Prop}(I:Inv X pins σ H s)(hg:Gl X x)(hm:X.mg x=none)(hv:bootBuiltins x=some u)(h:Q u s)(hn:x≠"__name__":=by decide)(hd:(x==("__debug__":Str))=false:=by decide):wpAny (model X.prog X.w) X.A (eval (.Name x pos) X.env) Q E s:=by
 obtain⟨mb,h1,h2⟩:=I.mod.blt;exact Calls.Name_function_global I.ok.kind hg (Calls.loadGlobal_builtin (by rw[I.ok.glob];exact I.mod.glob.keeps I.bk) hm (by rw[I.ok.blt];exact h1.keeps I.bk) ((h2 x hn).trans hv) h) hd
theorem Ff{x:Str}{v:V}{u:Value}{pos:Pos}(hg:Gl X x)(hm:X.mg x=some u)(r:RelV v u)(hd:(x==("__debug__":Str))=false:=by decide):PE X (.Name x pos) (tC v):=
 fun _ _ _ H _ I h=>rK I hg hm ⟨v,H,I,r,h⟩ hd
variable {a b:Expr} {ta tb:TE} {pos:Pos}
noncomputable def tB(t:TE):TT:=fun σ H Q=>t σ H fun x H1=>∃c,x=.bl c/\Q c H1
theorem rL{e:Expr}{t:TE}(h:PE X e t)(he:∀whole,isTrue e X.env whole=(do let v<-whole;standAt e.pos;holding [v] (truthy v)):=by intro _;rfl):PT X e (tB t):=by
 intro pins s σ H Q I hw;refine isTrue_plain (dR (h pins s σ H _ I hw) fun v s1⟨x,H1,I1,r1,q1⟩=>?_) (he _);obtain⟨d,rfl,q⟩:=q1;cases r1;exact wpAny_truthy_bool ⟨H1,I1,q⟩
variable {tA Pe:TT} {rest:List Expr}
noncomputable def L6(t u:TT):TT:=fun σ H Q=>t σ H fun c H1=>if c=true then u σ H1 Q else Q false H1
noncomputable def T'(t u:TT):TT:=fun σ H Q=>t σ H fun c H1=>if c=true then Q true H1 else u σ H1 Q
noncomputable def L7(t:TT):TT:=fun σ H Q=>t σ H fun c H1=>Q (!c) H1
theorem jO(ha:PT X a tA):PW X (.BoolOp .And [a] pos) tA:=by
 intro wh pins s σ H Q I h;refine isTrue_and (dR (ha pins s σ H Q I h) fun c s1 e=>?_);cases c with
 |true=>exact isTrue_and_nil e
 |false=>exact e
theorem wB(ha:PT X a tA):PW X (.BoolOp .Or [a] pos) tA:=by
 intro wh pins s σ H Q I h;refine isTrue_or (dR (ha pins s σ H Q I h) fun c s1 e=>?_);cases c with
 |false=>exact isTrue_or_nil e
 |true=>exact e
theorem lW(ha:PT X a tA)(hb:PW X (.BoolOp .And (b::rest) pos) Pe):PW X (.BoolOp .And (a::b::rest) pos) (L6 tA Pe):=by
 intro wh pins s σ H Q I h;refine isTrue_and (dR (ha pins s σ H _ I h) fun c s1⟨H1,I1,q1⟩=>?_);cases c with
 |true=>exact hb wh pins s1 σ H1 Q I1 q1
 |false=>exact⟨H1,I1,q1⟩
theorem qD(ha:PT X a tA)(hb:PW X (.BoolOp .Or (b::rest) pos) Pe):PW X (.BoolOp .Or (a::b::rest) pos) (T' tA Pe):=by
 intro wh pins s σ H Q I h;refine isTrue_or (dR (ha pins s σ H _ I h) fun c s1⟨H1,I1,q1⟩=>?_);cases c with
 |true=>exact⟨H1,I1,q1⟩
 |false=>exact hb wh pins s1 σ H1 Q I1 q1
theorem rM(ha:PT X a tA):PT X (.UnaryOp .Not a pos) (L7 tA):=by
 intro pins s σ H Q I h;exact isTrue_not (ha pins s σ H (fun c H1=>Q (!c) H1) I h)
noncomputable def L8(ta tb:TE):TE:=fun σ H Q=>ta σ H fun x H1=>∃c,x=.bl c/\if c=true then tb σ H1 Q else Q (.bl false) H1
noncomputable def QK(ta tb:TE):TE:=fun σ H Q=>ta σ H fun x H1=>∃c,x=.bl c/\if c=true then Q (.bl true) H1 else tb σ H1 Q
noncomputable def L9(ta:TE):TE:=fun σ H Q=>ta σ H fun x H1=>∃c,x=.bl c/\Q (.bl (!c)) H1
noncomputable def Ua(t:TT)(ta tb:TE):TE:=fun σ H Q=>t σ H fun c H1=>if c=true then ta σ H1 Q else tb σ H1 Q
theorem eI{c:Expr}(hc:PT X c tA)(ha:PE X a ta)(hb:PE X b tb):PE X (.IfExp c a b pos) (Ua tA ta tb):=by
 intro pins s σ H Q I h;refine wpAny_IfExp (dR (hc pins s σ H _ I h) fun d s1⟨H1,I1,q1⟩=>?_);cases d with
 |true=>exact ha pins s1 σ H1 Q I1 q1
 |false=>exact hb pins s1 σ H1 Q I1 q1
end
end L2
namespace L2
open PySem PySem.Spec PyProof.Rows
noncomputable def a_(K:PySem.W.Frag)(H:Hp)(a:Addr)(xs:List V):Prop:=
 Rd H a (.lst xs)\/
  ∃(o:Obj)(aZ:Array Value)(n:Nat),K.lookup a=some o/\o.cls=.type "list"/\o.dict=none/\o.data=.seq aZ n/\aZ.size<=sizeLine/\Vals xs aZ.toList
noncomputable def cj(K:PySem.W.Frag)(H:Hp)(a:Addr)(xs:List V):Prop:=
 Rd H a (.tup xs)\/
  ∃(o:Obj)(aZ:Array Value)(n:Nat),K.lookup a=some o/\o.cls=.type "tuple"/\o.data=.seq aZ n/\aZ.size<=sizeLine/\Vals xs aZ.toList
noncomputable def QL:Value->Option V
 |.none=>some .fB
 |.bool b=>some (.bl b)
 |.int i _=>some (.int i)
 |.str x _=>some (.str x)
 |.bytes b _=>some (.yR b)
 |.float b _=>some (.Hj b)
 |.ref a=>some (.ref a)
 |.type n=>some (.ty n)
 |_=>none
theorem RelV.abs{x:V}{u:Value}(r:RelV x u):QL u=some x:=by
 cases x with
 |fB=>cases r;rfl
 |bl _=>cases r;rfl
 |int _=>obtain⟨t,rfl⟩:=r;rfl
 |str _=>obtain⟨t,rfl⟩:=r;rfl
 |yR _=>obtain⟨t,rfl⟩:=r;rfl
 |Hj _=>obtain⟨t,rfl⟩:=r;rfl
 |ref _=>cases r;rfl
 |ty _=>cases r;rfl
theorem RelV.inj{x y:V}{u:Value}(r:RelV x u)(q:RelV y u):x=y:=Option.some.inj (r.abs.symm.trans q.abs)
theorem Vals.inj:∀{xs ys:List V}{us:List Value},Vals xs us->Vals ys us->xs=ys
 |_,_,_,.nil,.nil=>rfl
 |_,_,_,.cons r t,.cons r' t'=>by rw[r.inj r',Vals.inj t t']
section
variable {X:Cx} {pins:List (Addr×Obj)} {σ:St} {H:Hp} {s:Shared} {a:Addr} {xs ys:List V}
theorem a_.of{K:PySem.W.Frag}(h:H a=some (.lst xs)):a_ K H a xs:=.inl (.inl h)
theorem cj.of{K:PySem.W.Frag}(h:H a=some (.tup xs)):cj K H a xs:=.inl (.inl h)
theorem Inv.list(I:Inv X pins σ H s)(h:a_ X.K H a xs):∃aZ:List Value,Vals xs aZ/\PlainL s.heap a aZ.toArray/\xs.length<=sizeLine:=by
 rcases h with h|⟨o,aZ,n,hk,hc,hd,hs,hz,r⟩
 ·obtain⟨z,aZ,n,r,e⟩:=h.ok I.eV;exact⟨aZ,r,⟨_,n,e,rfl,rfl,rfl⟩,z⟩
 ·refine⟨aZ.toList,r,⟨o,n,I.B8 a o hk,hc,hd,by simpa using hs⟩,?_⟩;have e:=r.length;simp only[Array.length_toList] at e;lia
theorem Inv.tuple(I:Inv X pins σ H s)(h:cj X.K H a xs):∃aZ:List Value,Vals xs aZ/\IsTup s.heap a aZ.toArray/\xs.length<=sizeLine:=by
 rcases h with h|⟨o,aZ,n,hk,hc,hs,hz,r⟩
 ·obtain⟨z,aZ,r,p⟩:=h.ok I.eV;exact⟨aZ,r,p,z⟩
 ·refine⟨aZ.toList,r,⟨o,I.B8 a o hk,hc,n,by simpa using hs⟩,?_⟩;have e:=r.length;simp only[Array.length_toList] at e;lia
theorem Inv.nV(I:Inv X pins σ H s)(h:a_ X.K H a xs)(h':a_ X.K H a ys):xs=ys:=by
 obtain⟨aZ,r,⟨o,n,e,_,_,d⟩,_⟩:=I.list h;obtain⟨its',r',⟨o',n',e',_,_,d'⟩,_⟩:=I.list h';rw[e] at e';cases e';rw[d] at d';injection d' with d1 _;have:aZ=its':=by simpa using congrArg Array.toList d1
 subst this;exact r.inj r'
end
noncomputable abbrev Cx.qb(X:Cx)(E:Value->Shared->Prop):Cx:={X with xe:=E}
noncomputable abbrev Cx.Lo(X:Cx):Cx:=X.qb fun _ _=>False
theorem Cx.Ok.qb{X:Cx}(ok:X.Ok)(E:Value->Shared->Prop):(X.qb E).Ok:=
 ⟨ok.mod,ok.kind,ok.glob,ok.blt,ok.above,ok.inj,ok.has,ok.L0,ok.hd,ok.frames,ok.Pd,ok.T7,ok.bs,ok.Fc,ok.B7,ok.Fd,ok.nq,ok.Jb⟩
theorem Cx.Ok.jl{X:Cx}{E:Value->Shared->Prop}(ok:(X.qb E).Ok):X.Ok:=
 ⟨ok.mod,ok.kind,ok.glob,ok.blt,ok.above,ok.inj,ok.has,ok.L0,ok.hd,ok.frames,ok.Pd,ok.T7,ok.bs,ok.Fc,ok.B7,ok.Fd,ok.nq,ok.Jb⟩
section
variable {X:Cx} {pins:List (Addr×Obj)} {σ:St} {H:Hp} {s:Shared} {E:Value->Shared->Prop}
theorem Inv.qb(I:Inv X pins σ H s)(E:Value->Shared->Prop):Inv (X.qb E) pins σ H s:=⟨I.ok.qb E,I.os,I.bare,I.base,I.loc,I.cell,I.free,I.j8,I.pin,I.eV,I.len⟩
theorem Inv.jl(I:Inv (X.qb E) pins σ H s):Inv X pins σ H s:=⟨I.ok.jl,I.os,I.bare,I.base,I.loc,I.cell,I.free,I.j8,I.pin,I.eV,I.len⟩
theorem SP.jl{D:Ends}{f:Flow}{s':Shared}(h:SP (X.qb E) pins D f s'):SP X pins D f s':=by
 cases f with
 |next=>obtain⟨bN,H',I,q⟩:=h;exact⟨bN,H',I.jl,q⟩
 |brk=>obtain⟨bN,H',I,q⟩:=h;exact⟨bN,H',I.jl,q⟩
 |cont=>obtain⟨bN,H',I,q⟩:=h;exact⟨bN,H',I.jl,q⟩
 |ret u=>obtain⟨v,bN,H',I,r,q⟩:=h;exact⟨v,bN,H',I.jl,r,q⟩
theorem wz.Lo{st:List Stmt}{t:TS}(h:wz X.Lo st t):wz X st t:=fun pins s σ H D I hw=>
 wpAny_mono (h pins s σ H D (I.qb _) hw) (fun _ _ q=>q.jl) fun _ _ z=>False.elim z
end
section
variable {X:Cx} {st:Stmt} {rest:List Stmt} {t u:TS} {e:Expr} {te:TE} {pos:Pos}
noncomputable def Hn:TS:=fun D σ H=>D.nx σ H
noncomputable def Jf(t u:TS):TS:=fun D σ H=>t {D with nx:=u D} σ H
theorem aX:wz X [] Hn:=fun _ _ σ H _ I h=>wpAny_execs_nil ⟨σ,H,I,h⟩
theorem ae(h1:PS X st t)(h2:wz X rest u):wz X (st::rest) (Jf t u):=by
 intro pins s σ H D I h;refine wpAny_execs_cons (dR (h1 pins s σ H {D with nx:=u D} I h) fun f s1 q=>?_);cases f with
 |next=>
  obtain⟨bN,H',I',q⟩:=q;exact h2 pins s1 bN H' D I' q
 |ret v=>exact q
 |brk=>exact q
 |cont=>exact q
theorem ah(h1:PS X st t):wz X [st] t:=by
 intro pins s σ H D I h;refine wpAny_execs_cons (dR (h1 pins s σ H D I h) fun f s1 q=>?_);cases f with
 |next=>exact wpAny_execs_nil q
 |ret v=>exact q
 |brk=>exact q
 |cont=>exact q
theorem Inv.quiet{pins:List (Addr×Obj)}{σ:St}{H:Hp}{s:Shared}(I:Inv X pins σ H s):interactive X.env=false:=by simp[interactive,I.ok.kind]
noncomputable def Ho(te:TE):TS:=fun D σ H=>te σ H fun _ H1=>D.nx σ H1
theorem iM(he:PE X e te)(hs:swapsWith e none pos.line X.env=pure false:=by rfl):PS X (.Expr e pos) (Ho te):=by
 intro pins s σ H D I h;exact wpAny_Expr_any (dR (he pins s σ H _ I h) fun v s1⟨x,H1,I1,r1,q1⟩=>⟨σ,H1,I1,q1⟩) I.quiet hs
noncomputable def L_(te:TE):TS:=fun D σ H=>te σ H D.rt
theorem aE(he:PE X e te):PS X (.Return (some e) pos) (L_ te):=by
 intro pins s σ H D I h;exact wpAny_Return_some (dR (he pins s σ H _ I h) fun v s1⟨x,H1,I1,r1,q1⟩=>⟨x,σ,H1,I1,r1,q1⟩)
noncomputable def L'(c:TT)(t u:TS):TS:=fun D σ H=>c σ H fun b H1=>if b=true then t D σ H1 else u D σ H1
theorem ck{c:Expr}{a b:List Stmt}{tc:TT}(hc:PT X c tc)(ha:wz X a t)(hb:wz X b u):PS X (.If c a b pos) (L' tc t u):=by
 intro pins s σ H D I h;refine wpAny_If (dR (hc pins s σ H _ I h) fun d s1⟨H1,I1,q1⟩=>?_);cases d with
 |true=>exact ha pins s1 σ H1 D I1 q1
 |false=>exact hb pins s1 σ H1 D I1 q1
noncomputable def Jg:TS:=fun _ _ _=>False
theorem ui:PS X st Jg:=fun _ _ _ _ _ _ h=>h.elim
end
noncomputable abbrev TG:=V->St->Hp->(St->Hp->Prop)->Prop
noncomputable abbrev EU:=List V->St->Hp->(St->Hp->Prop)->Prop
noncomputable def PG(X:Cx)(target:Expr)(t:TG):Prop:=
 ∀(pins:List (Addr×Obj))(s:Shared)(σ:St)(H:Hp)(v:V)(u:Value)(Q:St->Hp->Prop),Inv X pins σ H s->RelV v u->t v σ H Q->
  wpAny (model X.prog X.w) X.A (assign target X.env u) (fun _ s'=>∃bN H',Inv X pins bN H' s'/\Q bN H') X.xe s
noncomputable def Ma(X:Cx)(ts:List Expr)(t:EU):Prop:=
 ∀(pins:List (Addr×Obj))(s:Shared)(σ:St)(H:Hp)(vs:List V)(us:List Value)(Q:St->Hp->Prop),Inv X pins σ H s->Vals vs us->t vs σ H Q->
  wpAny (model X.prog X.w) X.A (assignInOrder ((assignEach ts X.env).map (·.2)) us) (fun _ s'=>∃bN H',Inv X pins bN H' s'/\Q bN H') X.xe s
noncomputable abbrev Fg:=V->V->V->Hp->(Hp->Prop)->Prop
noncomputable def Mb(X:Cx)(t:Fg):Prop:=
 ∀(pins:List (Addr×Obj))(s:Shared)(σ:St)(H:Hp)(o i v:V)(ov iv u:Value)(Q:Hp->Prop),Inv X pins σ H s->RelV o ov->RelV i iv->RelV v u->t o i v H Q->
  wpAny (model X.prog X.w) X.A (setItem ov iv u) (fun _ s'=>∃H',Inv X pins σ H' s'/\Q H') X.xe s
section
variable {X:Cx} {pos:Pos}
noncomputable def qE(i:Nat):TG:=fun v σ H Q=>Q (σ.set i (some v)) H
theorem aU{i:Nat}{x:Str}(hN:X.N.Nodup)(hi:X.N[i]?=some x)(hx:Loc X.env.scope x)(hf:X.fn x=true\/X.env.scope.names.lookup x=some .local:=by first|exact .inl rfl|exact .inr rfl|assumption):PG X (.Name x pos) (qE i):=by
 intro pins s σ H v u Q I r h;exact wpAny_assign_Name (uh I hN hi hx r (fun s' I'=>⟨_,H,I',h⟩) hf)
noncomputable def Mc:EU:=fun vs σ H Q=>vs=[]/\Q σ H
noncomputable def Hq(t:TG)(u:EU):EU:=fun vs σ H Q=>∃v r,vs=v::r/\t v σ H fun bN H'=>u r bN H' Q
theorem iN:Ma X [] Mc:=by
 intro pins s σ H vs us Q I r h;obtain⟨e,h⟩:=h;subst e;cases r;exact assignInOrder_nil ⟨σ,H,I,h⟩
theorem bO{e:Expr}{es:List Expr}{t:TG}{u:EU}(h1:PG X e t)(h2:Ma X es u)(hs:(assignEach (e::es) X.env).map (·.2)=assign e X.env::(assignEach es X.env).map (·.2):=by rfl):Ma X (e::es) (Hq t u):=by
 intro pins s σ H vs us Q I r h;obtain⟨v,vr,e1,h⟩:=h;subst e1;cases r with
 |cons r rr=>
  rw[hs];refine assignInOrder_cons (dR (h1 pins s σ H _ _ _ I r h) fun _ s1 ⟨Lp,H1,I1,q1⟩=>?_);exact h2 pins s1 Lp H1 _ _ Q I1 rr q1
noncomputable def Jh(K:PySem.W.Frag)(n:Nat)(t:EU):TG:=fun v σ H Q=>∃a xs,v=.ref a/\cj K H a xs/\xs.length=n/\t xs σ H Q
theorem kh{es:List Expr}{k:Nat}{t:EU}{n:Nat}(hc:X.calm=true)(h:Ma X es t)(hn:(assignEach es X.env).length=n:=by rfl)(Hr:(assignEach es X.env).findIdx? (·.1)=none:=by rfl):PG X (.Tuple es k pos) (Jh X.K n t):=by
 intro pins s σ H v u Q I r hw;obtain⟨a,xs,e1,hq,hl,hw⟩:=hw;subst e1;cases r;obtain⟨aZ,rv,ht,hz⟩:=I.tuple hq;refine assign_Tuple_tuple (I.ok.hd hc) ht (by simp[hn,<-hl,rv.length]) Hr fun h' hx=>?_;have I1:Inv X pins σ H {s with heap:=h'}:=I.kept (t':=s.toks) fun b o e=>hx b o (Nat.ne_of_lt (Heap.lt_size e)) e;exact h pins _ σ H xs _ Q I1 (by simpa using rv) hw
noncomputable def Md(to ti:TE)(t:Fg):TG:=fun v σ H Q=>to σ H fun o H1=>ti σ H1 fun i H2=>t o i v H2 fun H3=>Q σ H3
theorem wC{o i:Expr}{to ti:TE}{t:Fg}(ho:PE X o to)(hi:PE X i ti)(hs:Mb X t)(ha:∀v,assign (.Subscript o i pos) X.env v=(do
 let ov<-holding [v] (eval o X.env)
 let iv<-holding [v,ov] (eval i X.env)
 standAt pos
 holding [v,ov,iv] (setItem ov iv v)
 release [v,ov,iv] []):=by intro _;rfl):PG X (.Subscript o i pos) (Md to ti t):=by
 intro pins s σ H v u Q I r h;rw[ha];refine wpAny_bind (wpAny_holding (dR (ho pins s σ H _ I h) fun ov s1⟨x,H1,I1,r1,q1⟩=>?_));refine wpAny_bind (wpAny_holding (dR (hi pins s1 σ H1 _ I1 q1) fun iv s2⟨y,H2,I2,r2,q2⟩=>?_));refine wpAny_bind (wpAny_standAt (wpAny_bind (wpAny_holding (dR (hs pins s2 σ H2 x y v ov iv u _ I2 r1 r2 r q2) fun _ s3 ⟨H3,I3,q3⟩=>?_))));exact wpAny_release ⟨σ,H3,I3,q3⟩
noncomputable def B_(te:TE)(g:TG):TS:=fun D σ H=>te σ H fun x H1=>g x σ H1 D.nx
theorem lX{tg e:Expr}{te:TE}{g:TG}(he:PE X e te)(hg:PG X tg g)(hs:swapsWithSole [tg] e pos.line X.env=pure false:=by rfl)(hw:swappedStores [tg] e X.env=pure none:=by rfl)(h1:(assignEach [tg] X.env).map (·.2)=[assign tg X.env]:=by rfl):PS X (.Assign [tg] e pos) (B_ te g):=by
 intro pins s σ H D I h;refine wpAny_Assign_stores (dR (he pins s σ H _ I h) fun v s1⟨x,H1,I1,r1,q1⟩=>?_) hs hw;rw[h1];exact dR (hg pins s1 σ H1 x v _ I1 r1 q1) fun _ s2 q=>q
theorem aj{i:Nat}{x:Str}{e:Expr}{te:TE}{pos':Pos}(hN:X.N.Nodup)(hi:X.N[i]?=some x)(hx:Loc X.env.scope x)(he:PE X e te)(hs:swapsWith e (some (.Name x pos')) pos.line X.env=pure false:=by rfl)(hf:X.fn x=true\/X.env.scope.names.lookup x=some .local:=by first|exact .inl rfl|exact .inr rfl|assumption):
 PS X (.Assign [.Name x pos'] e pos) (B_ te (qE i)):=by
 intro pins s σ H D I h;refine wpAny_Assign_Name (dR (he pins s σ H _ I h) fun v s1⟨y,H1,I1,r1,q1⟩=>?_) hs;exact uh I1 hN hi hx r1 (fun s2 I2=>⟨_,H1,I2,q1⟩) hf
end
section
variable {X:Cx} {pos:Pos}
noncomputable def Ca(c:TT)(tb:TS):TS:=fun D σ H=>∃W:Nat->St->Hp->Prop,(∃m,W m σ H)/\∀m σ H,W m σ H->
 c σ H fun b H1=>if b=true then ∃N:St->Hp->Prop,(∀bN H',N bN H'->∃m',m'<m/\W m' bN H')/\tb {D with nx:=N,ct:=N,bk:=D.nx} σ H1 else D.nx σ H1
theorem dj{c:Expr}{body:List Stmt}{tc:TT}{tb:TS}(hp:PassesOwn (model X.prog X.w) X.A X.env X.xe)(hc:PT X c tc)(hb:wz X body tb):PS X (.While c body [] pos) (Ca tc tb):=by
 intro pins s σ H D I h;obtain⟨W,⟨m0,w0⟩,turn⟩:=h;refine wpAny_While (codeAny_whileLoop (fun n s'=>∃bN H',Inv X pins bN H' s'/\W n bN H') ?_ m0 ⟨σ,H,I,w0⟩);rintro n s1 ⟨Lp,H1,I1,w1⟩;refine wpAny_passesOwn hp (dR (hc pins s1 Lp H1 _ I1 (turn n Lp H1 w1)) fun b s2⟨H2,I2,q2⟩=>?_);cases b with
 |true=>
  obtain⟨N,hN,q2⟩:=q2;rw[if_pos rfl];refine wpAny_passesOwn hp (dR (hb pins s2 Lp H2 _ I2 q2) fun f s3 q3=>?_);cases f with
  |next=>
   obtain⟨Cb,H3,I3,n3⟩:=q3;obtain⟨m',hm,w3⟩:=hN Cb H3 n3;exact⟨m',hm,Cb,H3,I3,w3⟩
  |cont=>
   obtain⟨Cb,H3,I3,n3⟩:=q3;obtain⟨m',hm,w3⟩:=hN Cb H3 n3;exact⟨m',hm,Cb,H3,I3,w3⟩
  |brk=>exact q3
  |ret v=>exact q3
 |false=>
  rw[if_neg Bool.false_ne_true];exact wpAny_execs_nil ⟨Lp,H2,I2,q2⟩
end
structure It where
 go:Nat->Hp->Prop
 wa:Nat->Hp->V->Hp->Prop
 stop:Nat->Hp->Prop
noncomputable def lY(X:Cx)(pins:List (Addr×Obj))(H:Hp)(b:Addr):Prop:=
 H b=none/\b≠X.env.locals/\b∉X.fs/\(b∈X.ex\/X.gn.heap.objs.size<=b)/\(∀x c,X.env.cells.lookup x=some c->c≠b)/\∀p∈X.pn++pins,p.1≠b
theorem Inv.wD{X:Cx}{pins:List (Addr×Obj)}{σ:St}{H H':Hp}{s:Shared}{b:Addr}(I:Inv X pins σ H s)(hb:s.heap.objs.size<=b)(hn:H' b=none):lY X pins H' b:=by
 refine⟨hn,Nat.ne_of_gt (Nat.lt_of_lt_of_le I.lt hb),I.QD hb,.inr (Nat.le_trans I.sz hb),fun x c e z=>?_,fun p hp z=>?_⟩
 ·obtain⟨v,q⟩:=I.cell x c e;exact absurd (Nat.lt_of_lt_of_le q.lt (by rw[z];exact hb)) (Nat.lt_irrefl _)
 ·exact absurd (Nat.lt_of_lt_of_le (Heap.lt_size (I.pin p hp).1) (by rw[z];exact hb)) (Nat.lt_irrefl _)
structure Turn(P:Program)(w:World)(K:PySem.W.Frag)(tg:Expr)(J:It)(fp:List Addr)(it:Addr)(tn:Nat->Heap->Prop):Prop where
 mem:it∈fp
 obj:∀i h,tn i h->∀b∈fp,∃o,h.get? b=some o/\∀v,o.data≠.cell v
 keep:∀i h h',tn i h->(∀b∈fp,∀o,h.get? b=some o->h'.get? b=some o)->tn i h'
 item:∀(X:Cx),X.prog=P->X.w=w->X.K=K->X.calm=true->∀(i:Nat)(pins:List (Addr×Obj))(s:Shared)(σ:St)(H:Hp)(E:Value->Shared->Prop),Inv X pins σ H s->(∀b∈fp,lY X pins H b)->tn i s.heap->J.go i H->
  wpAny (model P w) X.A (pyNext (.ref it)) (fun r s1=>∃u,r=some u/\
   wpAny (model P w) X.A (letOwnedTupleGo tg (.ref it) u) (fun _ s2=>∃x H',Inv X pins σ H' s2/\RelV x u/\J.wa i H x H'/\tn (i+1) s2.heap/\∀b∈fp,H' b=none) E s1) E s
 done:∀(X:Cx),X.prog=P->X.w=w->X.K=K->X.calm=true->∀(i:Nat)(pins:List (Addr×Obj))(s:Shared)(σ:St)(H:Hp)(E:Value->Shared->Prop),Inv X pins σ H s->(∀b∈fp,lY X pins H b)->tn i s.heap->J.stop i H->
  wpAny (model P w) X.A (pyNext (.ref it)) (fun r s1=>r=none/\Inv X pins σ H s1) E s
 self:∀(A:Around)(i:Nat)(s:Shared)(Q:Value->Shared->Prop)(E:Value->Shared->Prop),tn i s.heap->Q (.ref it) s->wpAny (model P w) A (pyIter (.ref it)) Q E s
noncomputable abbrev TI:=St->Hp->(It->Hp->Prop)->Prop
noncomputable def Ub(X:Cx)(pins:List (Addr×Obj))(σ:St)(tg:Expr)(R:It->Hp->Prop)(Pf:Value)(s2:Shared):Prop:=
 ∃(it:Addr)(fp:List Addr)(tn:Nat->Heap->Prop)(J:It)(H':Hp),Pf=.ref it/\Inv X pins σ H' s2/\Turn X.prog X.w X.K tg J fp it tn/\tn 0 s2.heap/\(∀b∈fp,lY X pins H' b)/\R J H'
noncomputable def PI(X:Cx)(tg iter:Expr)(wi:TI):Prop:=
 ∀(pins:List (Addr×Obj))(s:Shared)(σ:St)(H:Hp)(R:It->Hp->Prop),Inv X pins σ H s->wi σ H R->
  wpAny (model X.prog X.w) X.A (eval iter X.env) (fun v s1=>wpAny (model X.prog X.w) X.A (pyIter v) (Ub X pins σ tg R) X.xe s1) X.xe s
theorem yU{M:Model}{A:Around}{E:Value->Shared->Prop}{s:Shared}{tg:Expr}{it:Addr}{u:Value}{o:Obj}{n:String}{vs:Array Value}{Q:Unit->Shared->Prop}(ho:s.heap.get? it=some o)(hc:o.cls=.type n)(hd:o.data=.fields vs)(hn:["enumerate","zip","dict_itemiterator","dict_reverseitemiterator","odict_iterator","itertools.zip_longest","itertools.pairwise"].contains n=false)(hQ:Q () s):wpAny M A (letOwnedTupleGo tg (.ref it) u) Q E s:=by
 unfold letOwnedTupleGo;cases tg<;>first
  |exact wpAny_pure hQ
  |(cases u<;>first
     |exact wpAny_pure hQ
     |(refine wpAny_bind (wpAny_load ho ?_)
       rw[hc,hd]
       show wpAny M A (if(["enumerate","zip","dict_itemiterator","dict_reverseitemiterator","odict_iterator","itertools.zip_longest","itertools.pairwise"].contains n&&vs[0]?==some (rawInt _))=true then _ else _) Q E s
       rw[if_neg (by intro h;rw[hn,Bool.false_and] at h;cases h)]
       exact wpAny_pure hQ))
noncomputable def qF(K:PySem.W.Frag)(a:Addr):It:=
 ⟨fun i H=>∃xs x,a_ K H a xs/\xs[i]?=some x,fun i H x H'=>H'=H/\∀xs,a_ K H a xs->xs[i]?=some x,fun i H=>∃xs,a_ K H a xs/\xs.length<=i⟩
noncomputable def yV(lo:Int)(n:Nat):It:=⟨fun i _=>i<n,fun i H x H'=>H'=H/\x=.int (lo+i),fun i _=>n<=i⟩
theorem AD{P:Program}{w:World}{K:PySem.W.Frag}{tg:Expr}(a it:Addr):Turn P w K tg (qF K a) [it] it (fun i h=>h.IsListIter it a i) where
 mem:=by simp
 obj:=fun i h st b hb=>by
  have e:b=it:=by simpa using hb
  subst e;obtain⟨o,e,c,d⟩:=st;exact⟨o,e,fun v z=>by rw[d] at z;cases z⟩
 keep:=fun i h h' st k=>st.at fun o e=>k it (by simp) o e
 item:=by
  intro X hP hw hK hc i pins s σ H E I hf st hg;subst hP hw hK;obtain⟨xs,x,hq,hx⟩:=hg;obtain⟨aZ,rv,p,hz⟩:=I.list hq;obtain⟨u,hu,ru⟩:=rv.get hx;obtain⟨f0,f1,f2,f3,f4,f5⟩:=hf it (by simp);refine wpAny_pyNext_list_item st p.isList (x:=u) (by simpa using hu) fun h' Me sb=>?_;have I1:Inv X pins σ H {s with heap:=h'}:=I.turned (t':=s.toks) (fun b o hb e=>(sb.2 b hb).trans e) f0 f1 f3 f4 f5;obtain⟨o,e,c,d⟩:=id Me;exact⟨u,rfl,yU (s:={s with heap:=h'}) e c d (by decide) ⟨x,H,I1,ru,⟨rfl,fun ys hy=>by rw[I.nV hy hq];exact hx⟩,Me,fun b hb=>(hf b hb).1⟩⟩
 done:=by
  intro X hP hw hK hc i pins s σ H E I hf st hg;subst hP hw hK;obtain⟨xs,hq,hx⟩:=hg;obtain⟨aZ,rv,p,hz⟩:=I.list hq;obtain⟨f0,f1,f2,f3,f4,f5⟩:=hf it (by simp);have hl:=rv.length;exact wpAny_pyNext_list_end (I.ok.hd hc) st p.isList (by simp;lia) fun h' eb=>⟨rfl,I.turned (t':=s.toks) (fun b o hb e=>eb b o hb e) f0 f1 f3 f4 f5⟩
 self:=fun _ _ _ _ _ st h=>wpAny_pyIter_listiter st h
theorem wF{P:Program}{w:World}{K:PySem.W.Frag}{tg:Expr}(it:Addr)(lo:Int)(n:Nat):Turn P w K tg (yV lo n) [it] it (fun i h=>IsRangeIter h it (lo+(i:Nat)*1) ((n:Int)-(i:Nat)) 1) where
 mem:=by simp
 obj:=fun i h st b hb=>by
  have e:b=it:=by simpa using hb
  subst e;exact⟨_,st,fun v z=>by
   have z':Data.fields _=Data.cell v:=z
   cases z'⟩
 keep:=fun i h h' st k=>k it (by simp) _ st
 item:=by
  intro X hP hw hK hc i pins s σ H E I hf st hg;subst hP hw hK;obtain⟨f0,f1,f2,f3,f4,f5⟩:=hf it (by simp);have W:=Walks.range (prog:=X.prog) (w:=X.w) (I.ok.hd hc) it lo 1 n;refine W.item i s _ _ hg st fun v h' tk hv Me kk=>?_;obtain⟨t,rfl⟩:=hv;have I1:Inv X pins σ H {s with heap:=h',toks:=tk}:=I.turned (fun b o hb e=>kk b o (by simpa using hb) e) f0 f1 f3 f4 f5;refine⟨_,rfl,yU (s:={s with heap:=h',toks:=tk}) (n:="range_iterator") Me rfl rfl (by decide) ⟨.int (lo+i),H,I1,⟨t,?_⟩,⟨rfl,rfl⟩,Me,fun b hb=>(hf b hb).1⟩⟩;rw[Int.mul_one]
 done:=by
  intro X hP hw hK hc i pins s σ H E I hf st hg;subst hP hw hK;obtain⟨f0,f1,f2,f3,f4,f5⟩:=hf it (by simp);exact wpAny_pyNext_range_end (I.ok.hd hc) st (by have:n<=i:=hg;lia) fun h' eb=>⟨rfl,I.turned (t':=s.toks) (fun b o hb e=>eb b o hb e) f0 f1 f3 f4 f5⟩
 self:=fun _ _ _ _ _ st h=>wpAny_pyIter_rangeiter st h
end L2
namespace L2
open PySem PySem.Spec PyProof.Rows
section
variable {X:Cx} {tg:Expr}
noncomputable def Hs(K:PySem.W.Frag)(tl:TE):TI:=fun σ H R=>tl σ H fun x H1=>∃a,x=.ref a/\(∃xs,a_ K H1 a xs)/\R (qF K a) H1
theorem eZ{l:Expr}{tl:TE}(hl:PE X l tl):PI X tg l (Hs X.K tl):=by
 intro pins s σ H R I h;refine dR (hl pins s σ H _ I h) fun v s1⟨x,H1,I1,r1,q1⟩=>?_;obtain⟨a,e,⟨xs,hq⟩,q⟩:=q1;subst e;cases r1;obtain⟨aZ,rv,p,hz⟩:=I1.list hq;refine wpAny_pyIter_list p.isList ?_;refine⟨s1.heap.objs.size,[s1.heap.objs.size],_,_,H1,rfl,I1.kept (t':=s1.toks) fun b o e=>Heap.get?_push_of_some _ e,AD a _,⟨_,Heap.get?_push_size _ rfl,rfl,rfl⟩,fun b hb=>?_,q⟩;have e:b=s1.heap.objs.size:=by simpa using hb
 subst e;exact I1.wD (Nat.le_refl _) (I1.eV.fresh (Nat.le_refl _))
theorem Cc{pins:List (Addr×Obj)}{σ:St}{H:Hp}{s:Shared}{R:It->Hp->Prop}{E:Value->Shared->Prop}{lo hi:Int}{t u v:Tok}{tk:Nat}(I:Inv X pins σ H s)(h1:-(2^62)<=lo)(h2:lo<2^62)(h3:-(2^62)<=hi)(h4:hi<2^62)(q:R (yV lo (hi-lo).toNat) H):wpAny (model X.prog X.w) X.A (pyIter (.ref s.heap.objs.size)) (Ub X pins σ tg R) E {s with heap:=s.heap.push {cls:=.type "range",data:=.fields #[.int lo t,.int hi u,.int 1 v]},toks:=tk}:=by
 refine wpAny_pyIter_range (IsRange.new ..) (small_one h1 h2 h3 h4) ?_;have I1:Inv X pins σ H {s with heap:=s.heap.push {cls:=.type "range",data:=.fields #[.int lo t,.int hi u,.int 1 v]},toks:=tk}:=I.kept fun b o e=>Heap.get?_push_of_some _ e;refine⟨(s.heap.push {cls:=.type "range",data:=.fields #[.int lo t,.int hi u,.int 1 v]}).objs.size,[(s.heap.push {cls:=.type "range",data:=.fields #[.int lo t,.int hi u,.int 1 v]}).objs.size],_,_,H,rfl,
  I1.kept (t':=tk) fun b o e=>Heap.get?_push_of_some _ e,wF _ lo (hi-lo).toNat,?_,fun b hb=>?_,q⟩
 ·have e1:lo+((0:Nat):Int)*1=lo:=by simp
  have e2:(((hi-lo).toNat:Nat):Int)-((0:Nat):Int)=Builtin.Range.rangeSize lo hi 1:=by rw[rangeSize_one];split<;>lia
  show IsRangeIter _ _ (lo+((0:Nat):Int)*1) ((((hi-lo).toNat:Nat):Int)-((0:Nat):Int)) 1;rw[e1,e2];exact Heap.get?_push_size _ rfl
 ·have e:b=(s.heap.push {cls:=.type "range",data:=.fields #[.int lo t,.int hi u,.int 1 v]}).objs.size:=by simpa using hb
  subst e;exact I1.wD (Nat.le_refl _) (I1.eV.fresh (Nat.le_refl _))
noncomputable def Ht(ta:TA):TI:=fun σ H R=>ta σ H fun vs H1=>∃j:Int,vs=[.int j]/\-(2^62)<=j/\j<2^62/\R (yV 0 j.toNat) H1
noncomputable def Mf(ta:TA):TI:=fun σ H R=>ta σ H fun vs H1=>∃i j:Int,vs=[.int i,.int j]/\(-(2^62)<=i/\i<2^62/\-(2^62)<=j/\j<2^62)/\R (yV i (j-i).toNat) H1
theorem lZ{a:Expr}{ta:TA}{p pos:Pos}(hg:Gl X "range")(hm:X.mg "range"=none)(ha:PA X [a] ta)(hs:starEach [a] X.env=[(false,eval a X.env)]:=by rfl):PI X tg (.Call (.Name "range" p) [a] [] pos) (Ht ta):=by
 intro pins s σ H R I h;refine Call_ (jk I hg hm boot_range (PyProof.Rows.callWith_type1 (dR (ha pos pins s σ H _ I h) fun us s1⟨vs,H1,I1,r1,q1⟩=>?_) hs rfl));obtain⟨j,e,q1,q2,q⟩:=q1;subst e;cases r1 with
 |cons r rr=>
  cases rr;obtain⟨t,rfl⟩:=r;exact call_range_1 (Cc I1 (by lia) (by lia) q1 q2 (by simpa using q))
noncomputable def Mg(wi:TI)(g:TG)(tb:TS):TS:=fun D σ H=>wi σ H fun J H1=>∃W:Nat->Nat->St->Hp->Prop,(∃m,W 0 m σ H1)/\∀i m σ H,W i m σ H->
 (J.stop i H/\D.nx σ H)\/(J.go i H/\∃N:St->Hp->Prop,(∀bN H',N bN H'->∃m',m'<m/\W (i+1) m' bN H')/\∀x H',J.wa i H x H'->g x σ H' fun fX H2=>tb {D with nx:=N,ct:=N,bk:=D.nx} fX H2)
noncomputable def rN(fp:List Addr)(h:Heap):List (Addr×Obj):=fp.filterMap fun b=>(h.get? b).map fun o=>(b,o)
theorem iO{fp:List Addr}{h:Heap}{b:Addr}{o:Obj}(hb:b∈fp)(e:h.get? b=some o):(b,o)∈rN fp h:=List.mem_filterMap.mpr ⟨b,hb,by rw[e];rfl⟩
theorem AE{fp:List Addr}{h:Heap}{p:Addr×Obj}(hp:p∈rN fp h):p.1∈fp/\h.get? p.1=some p.2:=by
 obtain⟨b,hb,e⟩:=List.mem_filterMap.mp hp;cases q:h.get? b with
 |none=>rw[q] at e;cases e
 |some o=>
  rw[q] at e;have e':(b,o)=p:=Option.some.inj e;subst e';exact⟨hb,q⟩
theorem Inv.pinned{pins:List (Addr×Obj)}{σ:St}{H:Hp}{s:Shared}{fp:List Addr}(I:Inv X pins σ H s)(hf:∀b∈fp,lY X pins H b)(ho:∀b∈fp,∃o,s.heap.get? b=some o/\∀v,o.data≠.cell v):Inv X (pins++rN fp s.heap) σ H s:=
 I.yT fun p hp=>(List.mem_append.mp hp).elim (fun z=>I.pin p (List.mem_append_right _ z)) fun z=>by
  obtain⟨hb,e⟩:=AE z;obtain⟨f0,f1,f2,_⟩:=hf p.1 hb;obtain⟨o,e',d⟩:=ho p.1 hb;rw[e] at e';cases e';exact⟨e,f0,f1,f2,d⟩
theorem Inv.kO{pins pl:List (Addr×Obj)}{σ:St}{H:Hp}{s:Shared}(I:Inv X (pins++pl) σ H s):Inv X pins σ H s:=I.yT fun p hp=>I.pin p (List.mem_append_right _ (List.mem_append_left _ hp))
theorem fV{iter:Expr}{body:List Stmt}{wi:TI}{g:TG}{tb:TS}{pos:Pos}(hp:PassesOwn (model X.prog X.w) X.A X.env X.xe)(hc:X.calm=true)(hi:PI X tg iter wi)(hg:PG X tg g)(hb:wz X body tb)(hs:∀x,foldedSetIterable iter X.env x=pure x:=by intro _;rfl):PS X (.For tg iter body [] pos) (Mg wi g tb):=by
 intro pins s σ H D I h;refine wpAny_For (dR (hi pins s σ H _ I h) fun v s1 h1=>dR h1 fun Pf s2 h2=>?_) hs;obtain⟨it,fp,tn,J,H2,e,I2,T,Ji,f2,W,⟨m0,w0⟩,turn⟩:=h2;subst e;have wG:∀{H':Hp},(∀b∈fp,H' b=none)->∀b∈fp,lY X pins H' b:=fun hn b hb=>⟨hn b hb,(f2 b hb).2⟩;refine codeAny_forLoop_any (fun n s'=>∃i bN H',Inv X pins bN H' s'/\tn i s'.heap/\(∀b∈fp,H' b=none)/\W i n bN H') ?_ m0 ⟨0,σ,H2,I2,Ji,fun b hb=>(f2 b hb).1,w0⟩;rintro n s3 ⟨i,Cb,H3,I3,Lq,Uc,w3⟩;rcases turn i n Cb H3 w3 with⟨stop,qn⟩|⟨go,N,hN,step⟩
 ·refine wpAny_passesOwn hp (dR (T.done X rfl rfl rfl hc i pins s3 Cb H3 X.xe I3 (wG Uc) Lq stop) fun r s4⟨hr,I4⟩=>?_);subst hr;exact wpAny_execs_nil ⟨Cb,H3,I4,qn⟩
 ·refine wpAny_passesOwn hp (dR (T.item X rfl rfl rfl hc i pins s3 Cb H3 X.xe I3 (wG Uc) Lq go) fun r s4⟨u,hr,h4⟩=>?_);subst hr;refine wpAny_passesOwn hp (dR h4 fun _ s5 ⟨x,H5,I5,r5,y5,Lr,Pg⟩=>?_);have Wg:=I5.pinned (wG Pg) (T.obj _ _ Lr);refine wpAny_passesOwn hp (dR (hg _ s5 Cb H5 x u _ Wg r5 (step x H5 y5)) fun _ s6 ⟨Wh,H6,I6,q6⟩=>?_);refine wpAny_passesOwn hp (dR (hb _ s6 Wh H6 _ I6 q6) fun f s7 q7=>?_);have again:∀{Cd:St}{H7:Hp},Inv X (pins++rN fp s5.heap) Cd H7 s7->N Cd H7->∃m,m<n/\∃i bN H',Inv X pins bN H' s7/\tn i s7.heap/\(∀b∈fp,H' b=none)/\W i m bN H':=fun{Cd H7} I7 n7=>by
   obtain⟨m',hm,w7⟩:=hN Cd H7 n7;refine⟨m',hm,i+1,Cd,H7,I7.kO,T.keep _ _ _ Lr fun b hb o e=>(I7.pin (b,o) (List.mem_append_right _ (List.mem_append_right _ (iO hb e)))).1,fun b hb=>?_,w7⟩;obtain⟨o,e,d⟩:=T.obj _ _ Lr b hb;exact(I7.pin (b,o) (List.mem_append_right _ (List.mem_append_right _ (iO hb e)))).2.1
  cases f with
  |next=>obtain⟨Cd,H7,I7,n7⟩:=q7;exact again I7 n7
  |cont=>obtain⟨Cd,H7,I7,n7⟩:=q7;exact again I7 n7
  |brk=>obtain⟨Cd,H7,I7,q7⟩:=q7;exact⟨Cd,H7,I7.kO,q7⟩
  |ret v=>obtain⟨x7,Cd,H7,I7,r7,q7⟩:=q7;exact⟨x7,Cd,H7,I7.kO,r7,q7⟩
end
theorem nW{K:PySem.W.Frag}{a:Addr}{xs:List V}{g:TG}{tb:TS}{D:Ends}{σ:St}{H:Hp}(Pv:Nat->St->Hp->Prop)(h0:Pv 0 σ H)(hl:∀i σ H,i<=xs.length->Pv i σ H->a_ K H a xs)(hs:∀i x σ H,xs[i]?=some x->Pv i σ H->g x σ H fun fX H2=>tb {D with nx:=Pv (i+1),ct:=Pv (i+1),bk:=D.nx} fX H2)(hd:∀σ H,Pv xs.length σ H->D.nx σ H):
 ∃W:Nat->Nat->St->Hp->Prop,(∃m,W 0 m σ H)/\∀i m σ H,W i m σ H->
  ((qF K a).stop i H/\D.nx σ H)\/((qF K a).go i H/\∃N:St->Hp->Prop,(∀bN H',N bN H'->∃m',m'<m/\W (i+1) m' bN H')/\∀x H',(qF K a).wa i H x H'->g x σ H' fun fX H2=>tb {D with nx:=N,ct:=N,bk:=D.nx} fX H2):=by
 refine⟨fun i m σ H=>m=xs.length-i/\i<=xs.length/\Pv i σ H,⟨xs.length,by simp,Nat.zero_le _,h0⟩,?_⟩;rintro i m σ H ⟨rfl,hi,p⟩;have q:=hl i σ H hi p;by_cases gb:i<xs.length
 ·refine .inr ⟨⟨xs,xs[i],q,by simp[gb]⟩,Pv (i+1),fun bN H' p'=>⟨xs.length-(i+1),by lia,rfl,gb,p'⟩,fun x H' y=>?_⟩;obtain⟨e,y⟩:=y;subst e;exact hs i x σ _ (y xs q) p
 ·have e:i=xs.length:=by lia
  subst e;exact .inl ⟨⟨xs,q,Nat.le_refl _⟩,hd σ H p⟩
theorem qG{lo:Int}{n:Nat}{g:TG}{tb:TS}{D:Ends}{σ:St}{H:Hp}(Pv:Nat->St->Hp->Prop)(h0:Pv 0 σ H)(hs:∀i σ H,i<n->Pv i σ H->g (.int (lo+i)) σ H fun fX H2=>tb {D with nx:=Pv (i+1),ct:=Pv (i+1),bk:=D.nx} fX H2)(hd:∀σ H,Pv n σ H->D.nx σ H):
 ∃W:Nat->Nat->St->Hp->Prop,(∃m,W 0 m σ H)/\∀i m σ H,W i m σ H->
  ((yV lo n).stop i H/\D.nx σ H)\/((yV lo n).go i H/\∃N:St->Hp->Prop,(∀bN H',N bN H'->∃m',m'<m/\W (i+1) m' bN H')/\∀x H',(yV lo n).wa i H x H'->g x σ H' fun fX H2=>tb {D with nx:=N,ct:=N,bk:=D.nx} fX H2):=by
 refine⟨fun i m σ H=>m=n-i/\i<=n/\Pv i σ H,⟨n,by simp,Nat.zero_le _,h0⟩,?_⟩;rintro i m σ H ⟨rfl,hi,p⟩;by_cases gb:i<n
 ·refine .inr ⟨gb,Pv (i+1),fun bN H' p'=>⟨n-(i+1),by lia,rfl,gb,p'⟩,fun x H' y=>?_⟩;obtain⟨e,y⟩:=y;subst e y;exact hs i σ _ gb p
 ·have e:i=n:=by lia
  subst e;exact .inl ⟨Nat.le_refl _,hd σ H p⟩
end L2
namespace L2
open PySem PySem.Spec PyProof.Rows
noncomputable abbrev R2:=V->V->Hp->VK->Prop
noncomputable def nX(X:Cx)(f:Value->Value->Sem Value)(r:R2):Prop:=
 ∀(pins:List (Addr×Obj))(s:Shared)(σ:St)(H:Hp)(x y:V)(v u:Value)(Q:VK),Inv X pins σ H s->RelV x v->RelV y u->r x y H Q->
  wpAny (model X.prog X.w) X.A (f v u) (EP X pins σ Q) X.xe s
noncomputable def QM(X:Cx)(f:Value->Sem Value)(r:V->Hp->VK->Prop):Prop:=
 ∀(pins:List (Addr×Obj))(s:Shared)(σ:St)(H:Hp)(x:V)(v:Value)(Q:VK),Inv X pins σ H s->RelV x v->r x H Q->
  wpAny (model X.prog X.w) X.A (f v) (EP X pins σ Q) X.xe s
noncomputable def jm(X:Cx)(f:Value)(r:List V->Hp->VK->Prop):Prop:=
 ∀(pins:List (Addr×Obj))(s:Shared)(σ:St)(H:Hp)(xs:List V)(us:List Value)(Q:VK),Inv X pins σ H s->Vals xs us->r xs H Q->
  wpAny (model X.prog X.w) X.A (call f us) (EP X pins σ Q) X.xe s
noncomputable def QN(X:Cx)(r:V->Hp->(Bool->Hp->Prop)->Prop):Prop:=
 ∀(pins:List (Addr×Obj))(s:Shared)(σ:St)(H:Hp)(x:V)(v:Value)(Q:Bool->Hp->Prop),Inv X pins σ H s->RelV x v->r x H Q->
  wpAny (model X.prog X.w) X.A (truthy v) (TP X pins σ Q) X.xe s
noncomputable def Mh(r:R2)(ta tb:TE):TE:=fun σ H Q=>ta σ H fun x H1=>tb σ H1 fun y H2=>r x y H2 Q
noncomputable def Ud(r:V->Hp->VK->Prop)(ta:TE):TE:=fun σ H Q=>ta σ H fun x H1=>r x H1 Q
noncomputable def rI(C:Int->Int->Prop)(g:Int->Int->V):R2:=fun x y H Q=>∃i j,x=.int i/\y=.int j/\C i j/\Q (g i j) H
noncomputable def Hu(g:Int->Int->V):R2:=fun x y H Q=>∃i j,x=.int i/\y=.int j/\Q (g i j) H
noncomputable def rU(g:Int->V):V->Hp->VK->Prop:=fun x H Q=>∃i,x=.int i/\Q (g i) H
section
variable {X:Cx} {a b c:Expr} {ta tb tc:TE} {pos:Pos}
theorem Jj(ha:PE X a ta)(hb:PE X b tb){pins:List (Addr×Obj)}{s:Shared}{σ:St}{H:Hp}{R:V->V->Hp->Prop}(I:Inv X pins σ H s)(h:ta σ H fun x H1=>tb σ H1 fun y H2=>R x y H2){Q:Value->Shared->Prop}{f:Value->Value->Sem Value}(hf:∀v u s2 x y H2,Inv X pins σ H2 s2->RelV x v->RelV y u->R x y H2->wpAny (model X.prog X.w) X.A (f v u) Q X.xe s2):
 wpAny (model X.prog X.w) X.A (eval a X.env) (fun v cN=>wpAny (model X.prog X.w) X.A (eval b X.env) (fun u uj=>wpAny (model X.prog X.w) X.A (f v u) Q X.xe uj) X.xe cN) X.xe s:=by
 refine dR (ha pins s σ H _ I h) fun v s1⟨x,H1,I1,r1,q1⟩=>?_;refine dR (hb pins s1 σ H1 _ I1 q1) fun u s2⟨y,H2,I2,r2,q2⟩=>?_;exact hf v u s2 x y H2 I2 r1 r2 q2
theorem ai{op:Operator}{r:R2}(ho:nX X (binaryOp op) r)(ha:PE X a ta)(hb:PE X b tb):PE X (.BinOp a op b pos) (Mh r ta tb):=by
 intro pins s σ H Q I h;exact wpAny_BinOp (Jj ha hb I h fun v u s2 x y H2 I2 rx ry q=>ho pins s2 σ H2 x y v u Q I2 rx ry q)
theorem cW{op:UnaryOp}{r:V->Hp->VK->Prop}(ho:QM X (unaryOp op) r)(ha:PE X a ta):PE X (.UnaryOp op a pos) (Ud r ta):=by
 intro pins s σ H Q I h;exact UnaryOp_ (dR (ha pins s σ H _ I h) fun v s1⟨x,H1,I1,r1,q1⟩=>ho pins s1 σ H1 x v Q I1 r1 q1)
theorem Ph{f:Value->Value->Sem Value}{C:Int->Int->Prop}{g:Int->Int->Int}(rule:∀(i j:Int)(t u:Tok)(s:Shared)(Q:Value->Shared->Prop)(E:Value->Shared->Prop),C i j->Q (.int (g i j) s.toks) {s with toks:=s.toks+1}->wpAny (model X.prog X.w) X.A (f (.int i t) (.int j u)) Q E s):
 nX X f (rI C fun i j=>.int (g i j)):=by
 intro pins s σ H x y v u Q I rx ry h;obtain⟨i,j,rfl,rfl,hc,q⟩:=h;obtain⟨t,rfl⟩:=rx;obtain⟨t',rfl⟩:=ry;exact rule i j t t' s _ _ hc ⟨.int (g i j),H,I.tok _,⟨_,rfl⟩,q⟩
theorem Mi{f:Value->Value->Sem Value}{g:Int->Int->Int}(rule:∀(i j:Int)(t u:Tok)(s:Shared)(Q:Value->Shared->Prop)(E:Value->Shared->Prop),Q (.int (g i j) s.toks) {s with toks:=s.toks+1}->wpAny (model X.prog X.w) X.A (f (.int i t) (.int j u)) Q E s):
 nX X f (Hu fun i j=>.int (g i j)):=by
 intro pins s σ H x y v u Q I rx ry h;obtain⟨i,j,rfl,rfl,q⟩:=h;obtain⟨t,rfl⟩:=rx;obtain⟨t',rfl⟩:=ry;exact rule i j t t' s _ _ ⟨.int (g i j),H,I.tok _,⟨_,rfl⟩,q⟩
theorem Jk{f:Value->Value->Sem Value}{g:Int->Int->Bool}(rule:∀(i j:Int)(t u:Tok)(s:Shared)(Q:Value->Shared->Prop)(E:Value->Shared->Prop),Q (.bool (g i j)) s->wpAny (model X.prog X.w) X.A (f (.int i t) (.int j u)) Q E s):
 nX X f (Hu fun i j=>.bl (g i j)):=by
 intro pins s σ H x y v u Q I rx ry h;obtain⟨i,j,rfl,rfl,q⟩:=h;obtain⟨t,rfl⟩:=rx;obtain⟨t',rfl⟩:=ry;exact rule i j t t' s _ _ ⟨.bl (g i j),H,I,rfl,q⟩
noncomputable def QO(i j:Int):Prop:=0<=j/\j<=1000000/\i.natAbs<2^64
theorem bL:nX X (binaryOp .Add) (Hu fun i j=>.int (i+j)):=Mi fun _ _ _ _ _ _ _ q=>add_int q
theorem bM:nX X (binaryOp .Sub) (Hu fun i j=>.int (i-j)):=Mi fun _ _ _ _ _ _ _ q=>sub_int q
theorem de:nX X (binaryOp .Mod) (rI (fun _ j=>j≠0) fun i j=>.int (i.fmod j)):=Ph fun _ _ _ _ _ _ _ hc q=>mod_int' hc q
theorem Jl:nX X (binaryOp .Pow) (rI QO fun i j=>.int (i^j.toNat)):=Ph fun _ _ _ _ _ _ _ hc q=>pow_int_small hc.1 hc.2.1 hc.2.2 q
theorem Wi{f:Value->Sem Value}{g:Int->Int}(rule:∀(i:Int)(t:Tok)(s:Shared)(Q:Value->Shared->Prop)(E:Value->Shared->Prop),Q (.int (g i) s.toks) {s with toks:=s.toks+1}->wpAny (model X.prog X.w) X.A (f (.int i t)) Q E s):
 QM X f (rU fun i=>.int (g i)):=by
 intro pins s σ H x v Q I rx h;obtain⟨i,rfl,q⟩:=h;obtain⟨t,rfl⟩:=rx;exact rule i t s _ _ ⟨.int (g i),H,I.tok _,⟨_,rfl⟩,q⟩
theorem bZ:QM X (unaryOp .USub) (rU fun i=>.int (-i)):=Wi fun _ _ _ _ _ q=>neg_int q
end
noncomputable def Mj:V->V->Bool
 |.fB,.fB=>true|.fB,.int _=>true|.int _,.fB=>true|.fB,.bl _=>true|.bl _,.fB=>true|.fB,.str _=>true|.str _,.fB=>true
 |.int _,.int _=>true|.bl _,.bl _=>true|.str _,.str _=>true|.yR _,.yR _=>true
 |.int _,.str _=>true|.str _,.int _=>true|.bl _,.str _=>true|.str _,.bl _=>true
 |_,_=>false
noncomputable def Ue:R2:=fun x y H Q=>Mj x y=true/\Q (.bl (decide (x=y))) H
noncomputable def Ug:R2:=fun x y H Q=>Mj x y=true/\Q (.bl (!decide (x=y))) H
theorem yW{i j:Int}:decide (V.int i=V.int j)=(i==j):=by
 rw[Bool.eq_iff_iff];simp
theorem Ce{i j:Bool}:decide (V.bl i=V.bl j)=(i==j):=by
 rw[Bool.eq_iff_iff];simp
theorem yX{i j:Str}:decide (V.str i=V.str j)=(i==j):=by
 rw[Bool.eq_iff_iff];simp
theorem yY{i j:Array UInt8}:decide (V.yR i=V.yR j)=(i.toList==j.toList):=by
 rw[Bool.eq_iff_iff];cases i;cases j;simp
section
variable {X:Cx} {a b c:Expr} {ta tb tc:TE} {pos:Pos}
theorem bR{pins:List (Addr×Obj)}{σ:St}{H:Hp}{s:Shared}{Q:VK}{k k':Bool}(I:Inv X pins σ H s)(q:Q (.bl k) H)(e:k=k'):EP X pins σ Q (.bool k') s:=by
 subst e;exact⟨.bl k,H,I,rfl,q⟩
theorem d_:nX X (compareOp .Eq) Ue:=by
 intro pins s σ H x y v u Q I rx ry h;obtain⟨hs,q⟩:=h;cases x with
 |fB=>
  cases rx
  cases y with
  |fB=>cases ry;exact PySem.EqNone.eq_none_none (bR I q (by simp))
  |bl j=>cases ry;exact PySem.EqNone.eq_none_bool (bR I q (by simp))
  |int j=>obtain⟨t',rfl⟩:=ry;exact PySem.EqNone.eq_none_int (bR I q (by simp))
  |str j=>obtain⟨t',rfl⟩:=ry;exact PySem.EqNone.eq_none_str (bR I q (by simp))
  |_=>exact absurd (show false=true from hs) Bool.false_ne_true
 |bl i=>
  cases rx
  cases y with
  |fB=>cases ry;exact PySem.EqNone.eq_bool_none (bR I q (by simp))
  |bl j=>cases ry;exact eq_bool (bR I q Ce)
  |str j=>obtain⟨t',rfl⟩:=ry;exact PySem.EqMixed.eq_bool_str (bR I q (by simp))
  |_=>exact absurd (show false=true from hs) Bool.false_ne_true
 |int i=>
  obtain⟨t,rfl⟩:=rx;cases y with
  |fB=>cases ry;exact PySem.EqNone.eq_int_none (bR I q (by simp))
  |int j=>obtain⟨t',rfl⟩:=ry;exact eq_int (bR I q yW)
  |str j=>obtain⟨t',rfl⟩:=ry;exact PySem.EqMixed.eq_int_str (bR I q (by simp))
  |_=>exact absurd (show false=true from hs) Bool.false_ne_true
 |str i=>
  obtain⟨t,rfl⟩:=rx;cases y with
  |fB=>cases ry;exact PySem.EqNone.eq_str_none (bR I q (by simp))
  |bl j=>cases ry;exact PySem.EqMixed.eq_str_bool (bR I q (by simp))
  |int j=>obtain⟨t',rfl⟩:=ry;exact PySem.EqMixed.eq_str_int (bR I q (by simp))
  |str j=>obtain⟨t',rfl⟩:=ry;exact eq_str (bR I q yX)
  |_=>exact absurd (show false=true from hs) Bool.false_ne_true
 |yR i=>
  obtain⟨t,rfl⟩:=rx;cases y with
  |yR j=>obtain⟨t',rfl⟩:=ry;exact PySem.W.eq_bytes (bR I q yY)
  |_=>exact absurd (show false=true from hs) Bool.false_ne_true
 |_=>cases y<;>exact absurd (show false=true from hs) Bool.false_ne_true
theorem jn:nX X (compareOp .NotEq) Ug:=by
 intro pins s σ H x y v u Q I rx ry h;obtain⟨hs,q⟩:=h;cases x with
 |fB=>
  cases rx
  cases y with
  |fB=>cases ry;exact PySem.EqNone.ne_none_none (bR I q (by simp))
  |bl j=>cases ry;exact PySem.EqNone.ne_none_bool (bR I q (by simp))
  |int j=>obtain⟨t',rfl⟩:=ry;exact PySem.EqNone.ne_none_int (bR I q (by simp))
  |str j=>obtain⟨t',rfl⟩:=ry;exact PySem.EqNone.ne_none_str (bR I q (by simp))
  |_=>exact absurd (show false=true from hs) Bool.false_ne_true
 |bl i=>
  cases rx
  cases y with
  |fB=>cases ry;exact PySem.EqNone.ne_bool_none (bR I q (by simp))
  |bl j=>cases ry;exact ne_bool (bR I q (congrArg not Ce))
  |str j=>obtain⟨t',rfl⟩:=ry;exact PySem.EqMixed.ne_bool_str (bR I q (by simp))
  |_=>exact absurd (show false=true from hs) Bool.false_ne_true
 |int i=>
  obtain⟨t,rfl⟩:=rx;cases y with
  |fB=>cases ry;exact PySem.EqNone.ne_int_none (bR I q (by simp))
  |int j=>obtain⟨t',rfl⟩:=ry;exact ne_int (bR I q (congrArg not yW))
  |str j=>obtain⟨t',rfl⟩:=ry;exact PySem.EqMixed.ne_int_str (bR I q (by simp))
  |_=>exact absurd (show false=true from hs) Bool.false_ne_true
 |str i=>
  obtain⟨t,rfl⟩:=rx;cases y with
  |fB=>cases ry;exact PySem.EqNone.ne_str_none (bR I q (by simp))
  |bl j=>cases ry;exact PySem.EqMixed.ne_str_bool (bR I q (by simp))
  |int j=>obtain⟨t',rfl⟩:=ry;exact PySem.EqMixed.ne_str_int (bR I q (by simp))
  |str j=>obtain⟨t',rfl⟩:=ry;exact ne_str (bR I q (congrArg not yX))
  |_=>exact absurd (show false=true from hs) Bool.false_ne_true
 |yR i=>
  obtain⟨t,rfl⟩:=rx;cases y with
  |yR j=>obtain⟨t',rfl⟩:=ry;exact PySem.W.ne_bytes (bR I q (congrArg not yY))
  |_=>exact absurd (show false=true from hs) Bool.false_ne_true
 |_=>cases y<;>exact absurd (show false=true from hs) Bool.false_ne_true
theorem jo:nX X (compareOp .Lt) (Hu fun i j=>.bl (decide (i<j))):=Jk fun _ _ _ _ _ _ _ q=>lt_int q
theorem eP:nX X (compareOp .Gt) (Hu fun i j=>.bl (decide (j<i))):=Jk fun _ _ _ _ _ _ _ q=>gt_int q
theorem yZ:nX X (compareOp .GtE) (Hu fun i j=>.bl (decide (j<=i))):=Jk fun _ _ _ _ _ _ _ q=>ge_int q
theorem wH:nX X (compareOp .Is) (fun x y H Q=>y=.fB/\Q (.bl (decide (x=.fB))) H):=by
 intro pins s σ H x y v u Q I rx ry h;obtain⟨rfl,q⟩:=h;cases ry;refine is_none_gen (bR I q ?_);cases x<;>first
  |(cases rx;rfl)
  |(obtain⟨t,rfl⟩:=rx;rfl)
theorem nE:nX X (compareOp .IsNot) (fun x y H Q=>y=.fB/\Q (.bl (!decide (x=.fB))) H):=by
 intro pins s σ H x y v u Q I rx ry h;obtain⟨rfl,q⟩:=h;cases ry;refine isnot_none_gen (bR I q ?_);cases x<;>first
  |(cases rx;rfl)
  |(obtain⟨t,rfl⟩:=rx;rfl)
theorem aD(b:Expr){op:CmpOp}(h:op≠.In:=by decide)(h2:op≠.NotIn:=by decide):behindInMarks op b=false:=by
 have e1:(op==CmpOp.In)=false:=by cases op<;>first|rfl|exact absurd rfl h
 have e2:(op==CmpOp.NotIn)=false:=by cases op<;>first|rfl|exact absurd rfl h2
 cases b<;>simp[behindInMarks,e1,e2]
theorem cP{op:CmpOp}{r:R2}(ho:nX X (compareOp op) r)(ha:PE X a ta)(hb:PE X b tb)(hm:behindInMarks op b=false):PE X (.Compare a [op] [b] pos) (Mh r ta tb):=by
 intro pins s σ H Q I h;exact wpAny_Compare1 (Jj ha hb I h fun v u s2 x y H2 I2 rx ry q=>ho pins s2 σ H2 x y v u Q I2 rx ry q) hm
noncomputable def Hv(t:TE):TT:=fun σ H Q=>t σ H fun x H'=>∃k,x=.bl k/\Q k H'
theorem aG{op:CmpOp}{r:R2}(ho:nX X (compareOp op) r)(ha:PE X a ta)(hb:PE X b tb)(hm:behindInMarks op b=false):PT X (.Compare a [op] [b] pos) (Hv (Mh r ta tb)):=by
 intro pins s σ H Q I h;refine wpAny_isTrue_Compare1 (dR (ha pins s σ H _ I h) fun v s1⟨x,H1,I1,r1,q1⟩=>dR (hb pins s1 σ H1 _ I1 q1) fun u s2⟨y,H2,I2,r2,q2⟩=>
  dR (ho pins s2 σ H2 x y v u _ I2 r1 r2 q2) fun c s3⟨z,H3,I3,r3,k,e,q3⟩=>?_) hm;subst e;cases r3;exact wpAny_truthy_bool ⟨H3,I3,q3⟩
noncomputable def Fh(K:PySem.W.Frag)(x:V)(H:Hp)(k:Bool):Prop:=
 match x with
 |.fB=>k=false
 |.bl b=>k=b
 |.int i=>k=(i !=0)
 |.str y=>y.length<=sizeLine/\k=((y.length:Int)!=0)
 |.yR y=>y.size<=sizeLine/\k=((y.size:Int)!=0)
 |.ref p=>(∃xs,a_ K H p xs/\k=!xs.isEmpty)\/(∃xs,cj K H p xs/\k=!xs.isEmpty)\/∃jN,H p=some (.dK jN)/\k=!jN.isEmpty
 |_=>False
theorem wI{κ:Type}{jN:List (κ×V)}{vs:List (κ×Value)}(r:KV jN vs):(!vs.isEmpty)=!jN.isEmpty:=by
 cases r<;>rfl
theorem nY{xs:List V}{aZ:List Value}(r:Vals xs aZ):(!aZ.toArray.isEmpty)=!xs.isEmpty:=by
 cases r<;>simp
theorem nZ:(sizeLine:Nat)<2^63:=by rw[sizeLine_eq];decide
theorem Jm:QN X (fun x H Q=>∃k,Fh X.K x H k/\Q k H):=by
 intro pins s σ H x v Q I rx h;obtain⟨k,e,q⟩:=h;have hl:=nZ;have hs:sizeLine=16777216:=sizeLine_eq;cases x with
 |fB=>
  cases rx;have e':k=false:=e;subst e';exact truthy_none ⟨H,I,q⟩
 |bl b=>
  cases rx;have e':k=b:=e;subst e';exact wpAny_truthy_bool ⟨H,I,q⟩
 |int i=>
  obtain⟨t,rfl⟩:=rx;have e':k=(i !=0):=e;subst e';exact PySem.P.truthy_int ⟨H,I,q⟩
 |str y=>
  obtain⟨t,rfl⟩:=rx;obtain⟨hy,e'⟩:y.length<=sizeLine/\k=((y.length:Int)!=0):=e;subst e';exact PySem.P.truthy_str (by lia) ⟨H,I.tok _,q⟩
 |yR y=>
  obtain⟨t,rfl⟩:=rx;obtain⟨hy,e'⟩:y.size<=sizeLine/\k=((y.size:Int)!=0):=e;subst e';exact PySem.W.truthy_bytes (by lia) ⟨H,I.tok _,q⟩
 |ref p=>
  cases rx;have e':(∃xs,a_ X.K H p xs/\k=!xs.isEmpty)\/(∃xs,cj X.K H p xs/\k=!xs.isEmpty)\/∃jN,H p=some (.dK jN)/\k=!jN.isEmpty:=e;rcases e' with⟨xs,hx,e'⟩|⟨xs,hx,e'⟩|⟨jN,hx,e'⟩
  ·subst e';obtain⟨aZ,r,pl,hz⟩:=I.list hx;have hlen:=r.length;exact wpAny_truthy_list pl.isList (by simp only[List.size_toArray];lia) ⟨H,I.tok _,by rw[nY r];exact q⟩
  ·subst e';obtain⟨aZ,r,pl,hz⟩:=I.tuple hx;have hlen:=r.length;exact truthy_tuple pl (by simp only[List.size_toArray];lia) ⟨H,I.tok _,by rw[nY r];exact q⟩
  ·subst e';obtain⟨hz,hS,vs,r,m⟩:jN.length<=sizeLine/\(p==sysModules)=false/\∃vs,KV jN vs/\s.heap.DictOf (rF X.prog X.w) p vs:=I.eV p _ hx;have hlen:jN.length=vs.length:=Paired.length r;exact wpAny_truthy_dict hS m (by lia) ⟨H,I.tok _,by rw[wI r];exact q⟩
 |_=>exact(show False from e).elim
theorem fN(ha:PE X a ta)(he:∀whole,isTrue a X.env whole=(do let v<-whole;standAt a.pos;holding [v] (truthy v))):
 PT X a (fun σ H Q=>ta σ H fun x H'=>∃k,Fh X.K x H' k/\Q k H'):=by
 intro pins s σ H Q I h;exact isTrue_plain (dR (ha pins s σ H _ I h) fun v s1⟨x,H1,I1,r1,q1⟩=>Jm pins s1 σ H1 x v Q I1 r1 q1) (he _)
theorem vals1{x:V}{us:List Value}(r:Vals [x] us):∃u,us=[u]/\RelV x u:=by
 cases r with
 |cons r1 r2=>cases r2;exact⟨_,rfl,r1⟩
theorem vals2{x y:V}{us:List Value}(r:Vals [x,y] us):∃u w',us=[u,w']/\RelV x u/\RelV y w':=by
 cases r with
 |cons r1 r2=>
  cases r2 with
  |cons r3 r4=>cases r4;exact⟨_,_,rfl,r1,r3⟩
theorem cm:jm X (.builtin "abs") (fun xs H Q=>∃i,xs=[.int i]/\Q (.int (if i<0 then -i else i)) H):=by
 intro pins s σ H xs us Q I r h;obtain⟨i,rfl,q⟩:=h;obtain⟨u,rfl,t,rfl⟩:=vals1 r;exact call_abs_int fun u tk=>⟨.int (if i<0 then -i else i),H,I.tok _,⟨_,rfl⟩,q⟩
theorem AF(hc:X.calm=true):jm X (.builtin "max") (fun xs H Q=>∃i j,xs=[.int i,.int j]/\Q (.int (if j>i then j else i)) H):=by
 intro pins s σ H xs us Q I r h;obtain⟨i,j,rfl,q⟩:=h;obtain⟨u,w',rfl,⟨t,rfl⟩,⟨t',rfl⟩⟩:=vals2 r;refine max_two_ints (I.ok.hd hc) fun h' tk k=>⟨_,H,I.kept k,?_,q⟩;by_cases hj:j>i
 ·rw[if_pos hj,if_pos hj];exact⟨_,rfl⟩
 ·rw[if_neg hj,if_neg hj];exact⟨_,rfl⟩
theorem l0(hc:X.calm=true):jm X (.builtin "min") (fun xs H Q=>∃i j,xs=[.int i,.int j]/\Q (.int (if j<i then j else i)) H):=by
 intro pins s σ H xs us Q I r h;obtain⟨i,j,rfl,q⟩:=h;obtain⟨u,w',rfl,⟨t,rfl⟩,⟨t',rfl⟩⟩:=vals2 r;refine min_two_ints (I.ok.hd hc) fun h' tk k=>⟨_,H,I.kept k,?_,q⟩;by_cases hj:j<i
 ·rw[if_pos hj,if_pos hj];exact⟨_,rfl⟩
 ·rw[if_neg hj,if_neg hj];exact⟨_,rfl⟩
theorem cC:jm X (.type "int") (fun xs H Q=>(∃i,xs=[.int i]/\Q (.int i) H)\/∃k,xs=[.bl k]/\Q (.int (if k then 1 else 0)) H):=by
 intro pins s σ H xs us Q I r h;rcases h with⟨i,rfl,q⟩|⟨k,rfl,q⟩
 ·obtain⟨u,rfl,t,rfl⟩:=vals1 r;exact call_int_int ⟨.int i,H,I,⟨_,rfl⟩,q⟩
 ·obtain⟨u,rfl,r1⟩:=vals1 r;cases r1;exact call_int_bool ⟨.int (if k then 1 else 0),H,I.tok _,⟨_,rfl⟩,q⟩
end
end L2
namespace L2
open PySem PySem.Spec PyProof.Rows
structure AG(h:Heap)(x dx C:Addr)(mA:Str->Option Value):Prop where
 obj:h.get? x=some (PySem.W.instObj C dx)
 ns:h.Ns1 dx mA
 ne:dx≠x
theorem AH{h:Heap}{dx:Addr}{mA:Str->Option Value}(n:h.Ns1 dx mA):∃od,h.get? dx=some od/\∀name,PySem.W.lookIn name od=some (mA name):=by
 obtain⟨o,es,ep,ho,hd,hk,_,hm⟩:=n;refine⟨o,ho,fun name=>?_⟩;have e:=hm name;unfold nsFind findBy at e;rw[<-Array.find?_toList] at e;unfold PySem.W.lookIn;rw[hd]
 dsimp only
 split
 ·rename_i y q;rw[q] at e;exact congrArg some e
 ·rename_i q;rw[q] at e;have a:es.toList.any (·.refKey)=false:=by
   rw[List.any_eq_false];intro y hy;obtain⟨z,t,QP⟩:=hk y (Array.mem_toList_iff.mp hy);simp[DictEntry.refKey,QP]
  have a':¬es.toList.any (·.refKey)=true:=by rw[a];exact Bool.false_ne_true
  rw[if_neg a'];exact congrArg some e
theorem AG.look{h:Heap}{x dx C:Addr}{mA:Str->Option Value}(I:AG h x dx C mA):∃od,PySem.W.InstAt h x (PySem.W.instObj C dx) C (some od)/\∀name,PySem.W.lookIn name od=some (mA name):=
 let⟨od,ho,hl⟩:=AH I.ns
 ⟨od,⟨I.obj,rfl,rfl,ho⟩,hl⟩
section
variable {prog:Program} {w:World} {A:Around} {E:Value->Shared->Prop} {s:Shared} {K:PySem.W.Frag} {x dx C f:Addr} {mA:Str->Option Value} {name:Str} {v:Value}
theorem get_map{expr:Bool}{Q:Value->Shared->Prop}(X:K.In s.heap)(I:AG s.heap x dx C mA)(hg:PySem.W.plainGet K C name=true)(hh:PySem.W.hasDictIn K C=true)(ha:PySem.W.findIn K (.ref C) name=some none)(hv:mA name=some v)(ik:PySem.W.handedIn v=true)(h:Q v {s with toks:=s.toks+1}):
 wpAny (model prog w) A (getAttr (.ref x) name expr) Q E s:=by
 obtain⟨od,J,hl⟩:=I.look;exact PySem.W.get_value X J (PySem.W.plainGet_of hg).1 (PySem.W.findObj_own hh ha rfl (by rw[hl,hv])) ik h
theorem Fi{ns:List Str}{Q:Unit->Shared->Prop}(X:K.In s.heap)(I:AG s.heap x dx C mA)(hs:PySem.W.findIn K (.ref C) "__setattr__"=some (some (.builtin "object.__setattr__")))(hp:PySem.W.plainOver K C=true)(ht:PySem.W.takerIn K C name=some none)(hh:PySem.W.hasDictIn K C=true)(hw:PySem.Within mA ns)(wJ:ns.length<=sizeLine)(h:∀h',AG h' x dx C (fun y=>if y=name then some v else mA y)->Heap.SameBut dx s.heap h'->Q () {s with heap:=h',toks:=s.toks+2}):
 wpAny (model prog w) A (setAttr (.ref x) name v) Q E s:=by
 obtain⟨od,J,hl⟩:=I.look;refine PySem.W.set_plain X J hs (PySem.W.osa_open (s:={s with toks:=s.toks+1}) (r:=none) X J hp ht fun b=>?_);obtain⟨cd,hc,ue⟩:=PySem.W.any_some hh;have hx:s.heap.get? x=some ⟨.ref C,some dx,.plain,#[]⟩:=I.obj;refine wpAny_bind (wpAny_pure (wpAny_bind (wpAny_bind (wpAny_loadPart hx (wpAny_bind (PySem.W.Looks.here (s:={s with toks:=s.toks+1}) (PySem.W.looks_clsIn X hc) ?_))))));rw[ue];refine wpAny_pure (a:=some dx) (wpAny_bind (wpAny_pure (wpAny_bind ?_)));refine wpAny_nsSet1 (s:={s with toks:=s.toks+1}) I.ns fun h' Jn Jo=>?_;obtain⟨oD,Zx,Zy,Wj,Wk,Wl⟩:=Jn.count (PySem.Within.cons name v hw);refine wpAny_bind (wpAny_lookBehind Wj (by rw[Wk];exact pastItsLine_dict (Nat.le_trans Wl (by rw[List.length_cons];lia))) ?_);exact wpAny_pure (h _ ⟨(Jo.2 _ (Ne.symm I.ne)).trans I.obj,Jn,I.ne⟩ Jo)
theorem Cf{R:Result->Shared->Prop}{vs:List Value}{kw:List (Str×Value)}(X:K.In s.heap)(hm:PySem.W.makesIn K C=true)(hi:PySem.W.findIn K (.ref C) "__init__"=some (some (.ref f)))(hf:PySem.W.typeIn K (.ref f)=some (.type "function"))(h:codeAny (model prog w) (A.under (.builtin "type.__call__" ⟨.ref C::vs,kw⟩)) (.call (.ref f) ⟨.ref (s.heap.objs.size+1)::vs,kw⟩) (PySem.W.InitBack (s.heap.objs.size+1) R)
 {s with heap:=(s.heap.push PySem.W.emptyDict).push (PySem.W.instObj C s.heap.objs.size)}):
 codeAny (model prog w) A (.call (.ref C) ⟨vs,kw⟩) R s:=by
 obtain⟨hh,g,d,t,os⟩:=s;exact PySem.W.make_core (PySem.W.makes_of X hm) (PySem.W.looks_findIn X hi) (fun self=>PySem.W.bind_fn X self hf) (.inl rfl) h
end
noncomputable def j6(f:Str)(v:V):List (Str×V)->List (Str×V)
 |[]=>[(f,v)]
 |(g,x)::r=>if g=f then(g,v)::r else(g,x)::j6 f v r
theorem mT(f g:Str)(v:V):∀fs:List (Str×V),(j6 f v fs).lookup g=if g=f then some v else fs.lookup g
 |[]=>by
  show List.lookup g [(f,v)]=_;by_cases h:g=f
  ·have hb:(g==f)=true:=beq_iff_eq.mpr h;simp only[List.lookup,hb,if_pos h]
  ·have hb:(g==f)=false:=beq_eq_false_iff_ne.mpr h;simp only[List.lookup,hb,if_neg h]
 |(k,x)::r=>by
  have ih:=mT f g v r;rw[show j6 f v ((k,x)::r)=(if k=f then(k,v)::r else(k,x)::j6 f v r) from rfl];by_cases hk:k=f
  ·rw[if_pos hk];by_cases h:g=k
   ·have hb:(g==k)=true:=beq_iff_eq.mpr h;simp only[List.lookup,hb,if_pos (h.trans hk)]
   ·have hb:(g==k)=false:=beq_eq_false_iff_ne.mpr h;simp only[List.lookup,hb,if_neg (fun e:g=f=>h (e.trans hk.symm))]
  ·rw[if_neg hk];by_cases h:g=k
   ·have hb:(g==k)=true:=beq_iff_eq.mpr h;simp only[List.lookup,hb,if_neg (fun e:g=f=>hk (h.symm.trans e))]
   ·have hb:(g==k)=false:=beq_eq_false_iff_ne.mpr h;simp only[List.lookup,hb];exact ih
theorem l_(f:Str)(v:V):∀fs:List (Str×V),f∈(j6 f v fs).map (·.1)/\∀g,g∈fs.map (·.1)->g∈(j6 f v fs).map (·.1)
 |[]=>⟨by simp[j6],fun g h=>by simp at h⟩
 |(k,x)::r=>by
  obtain⟨i1,i2⟩:=l_ f v r;rw[show j6 f v ((k,x)::r)=(if k=f then(k,v)::r else(k,x)::j6 f v r) from rfl];by_cases hk:k=f
  ·rw[if_pos hk];subst hk;exact⟨by simp,fun g h=>by simpa using h⟩
  ·rw[if_neg hk];refine⟨?_,fun g h=>?_⟩
   ·rw[List.map_cons];exact List.mem_cons_of_mem _ i1
   ·rw[List.map_cons] at h ⊢;rcases List.mem_cons.mp h with e|e
    ·exact List.mem_cons.mpr (.inl e)
    ·exact List.mem_cons_of_mem _ (i2 g e)
theorem fO(f:Str)(v:V):∀fs:List (Str×V),(j6 f v fs).length<=fs.length+1
 |[]=>by simp[j6]
 |(k,x)::r=>by
  have ih:=fO f v r;rw[show j6 f v ((k,x)::r)=(if k=f then(k,v)::r else(k,x)::j6 f v r) from rfl];by_cases hk:k=f
  ·rw[if_pos hk,List.length_cons,List.length_cons];lia
  ·rw[if_neg hk,List.length_cons,List.length_cons];lia
theorem wq.some_of{v:V}{o:Option Value}(r:wq (some v) o):∃u,o=some u/\RelV v u:=by
 cases o with
 |none=>exact(show False from r).elim
 |some u=>exact⟨u,rfl,r⟩
theorem AI{v:V}{u:Value}(r:RelV v u):PySem.W.handedIn u=true:=by
 cases v with
 |fB=>cases (show u=Value.none from r);rfl
 |bl b=>cases (show u=Value.bool b from r);rfl
 |int i=>obtain⟨t,e⟩:=(show ∃t,u=Value.int i t from r);cases e;rfl
 |str x=>obtain⟨t,e⟩:=(show ∃t,u=Value.str x t from r);cases e;rfl
 |yR b=>obtain⟨t,e⟩:=(show ∃t,u=Value.bytes b t from r);cases e;rfl
 |Hj b=>obtain⟨t,e⟩:=(show ∃t,u=Value.float b t from r);cases e;rfl
 |ref a=>cases (show u=Value.ref a from r);rfl
 |ty n=>cases (show u=Value.type n from r);rfl
section
variable {P:Program} {w:World} {H H':Hp} {h h':Heap} {a C dx:Addr} {fs Wd:List (Str×V)}
theorem y4(eV:nk P w H h)(e:H a=some (.ins C dx fs)):∃mA,AG h a dx C mA/\(∀f,wq (fs.lookup f) (mA f))/\PySem.Within mA (fs.map (·.1))/\fs.length<=1000/\H dx=some (.own a):=by
 obtain⟨d,z,ne,ob,mA,n,r,q⟩:=(show gk P w H h a (.ins C dx fs) from eV a _ e);exact⟨mA,⟨ob,n,ne⟩,r,q,z,d⟩
end
structure Fj(K:PySem.W.Frag)(C:Addr):Prop where
 pg:PySem.W.plainGet K C Str.empty=true
 hd:PySem.W.hasDictIn K C=true
 po:PySem.W.plainOver K C=true
 sa:PySem.W.findIn K (.ref C) "__setattr__"=some (some (.builtin "object.__setattr__"))
theorem Fj.get{K:PySem.W.Frag}{C:Addr}(c:Fj K C)(f:Str):PySem.W.plainGet K C f=true:=c.pg
noncomputable def iP(K:PySem.W.Frag)(C:Addr)(f:Str):Prop:=PySem.W.findIn K (.ref C) f=some none
theorem iP.Ml{K:PySem.W.Frag}{C:Addr}{f:Str}(n:iP K C f):PySem.W.takerIn K C f=some none:=by
 unfold PySem.W.takerIn;rw[show PySem.W.findIn K (.ref C) f=some none from n];rfl
structure Zz(K:PySem.W.Frag)(C:Addr)(f:Str)(v:V)(u:Value):Prop where
 at_:PySem.W.findIn K (.ref C) f=some (some u)
 rel:RelV v u
 get:PySem.W.specialIn K u "__get__"=some none
 cp:PySem.W.copiedNames.contains f=false
structure Meth(K:PySem.W.Frag)(C:Addr)(m:Str)(f:Addr):Prop where
 at_:PySem.W.findIn K (.ref C) m=some (some (.ref f))
 fn:PySem.W.isFn K (.ref f)=true
 kp:PySem.W.keepIn K (.ref f)=true
section
variable {X:Cx} {pins:List (Addr×Obj)} {σ:St} {H:Hp} {s:Shared} {a C dx:Addr} {fs:List (Str×V)} {f:Str} {v:V} {A:Around} {E:Value->Shared->Prop}
theorem wK{b:Bool}{Q:Value->Shared->Prop}(I:Inv X pins σ H s)(e:H a=some (.ins C dx fs))(c:Fj X.K C)(n:iP X.K C f)(l:fs.lookup f=some v)(h:∀u s',Inv X pins σ H s'->RelV v u->Q u s'):wpAny (model X.prog X.w) A (getAttr (.ref a) f b) Q E s:=by
 obtain⟨mA,O,r,_,_,_⟩:=y4 I.eV e;obtain⟨u,hu,ru⟩:=wq.some_of (v:=v) (o:=mA f) (by rw[<-l];exact r f);exact get_map I.B8 O (c.get f) c.hd n hu (AI ru) (h u _ (I.tok _) ru)
theorem wL{y:V}{u:Value}{Q:Unit->Shared->Prop}(I:Inv X pins σ H s)(e:H a=some (.ins C dx fs))(c:Fj X.K C)(n:iP X.K C f)(hl:fs.length<1000)(ry:RelV y u)(h:∀s',Inv X pins σ (upd H a (.ins C dx (j6 f y fs))) s'->Q () s'):wpAny (model X.prog X.w) A (setAttr (.ref a) f u) Q E s:=by
 obtain⟨mA,O,r,wi,_,ho⟩:=y4 I.eV e;have hz:(fs.map (·.1)).length<=sizeLine:=by rw[List.length_map,sizeLine_eq];lia
 refine Fi I.B8 O c.sa c.po n.Ml c.hd wi hz fun h' O' sb=>h _ ?_;have hd:∃o,h'.get? dx=some o:=let⟨o,_,_,e',_⟩:=O'.ns;⟨o,e'⟩;refine I.write (x:=a) (e:=dx) (by rw[e];exact True.intro) (.inr ho) (fun b q hb z=>(sb.2 b hb).trans z) hd ?_;refine⟨by rw[aI O.ne];exact ho,?_,O.ne,O'.obj,_,O'.ns,fun g=>?_,fun g hg=>?_⟩
 ·have:=fO f y fs;lia
 ·show wq ((j6 f y fs).lookup g) (if g=f then some u else mA g);rw[mT];by_cases q:g=f
  ·rw[if_pos q,if_pos q];exact ry
  ·rw[if_neg q,if_neg q];exact r g
 ·by_cases q:g=f
  ·rw[q];exact(l_ f y fs).1
  ·refine(l_ f y fs).2 g (wi g fun z=>hg ?_);show(if g=f then some u else mA g)=none;rw[if_neg q];exact z
theorem Inv.made(I:Inv X pins σ H s):Inv X pins σ (upd (upd H s.heap.objs.size (.own (s.heap.objs.size+1))) (s.heap.objs.size+1) (.ins C s.heap.objs.size []))
 {s with heap:=(s.heap.push PySem.W.emptyDict).push (PySem.W.instObj C s.heap.objs.size)}:=by
 have e1:(s.heap.push PySem.W.emptyDict).get? s.heap.objs.size=some PySem.W.emptyDict:=Heap.get?_push_size s.heap rfl;have e2:((s.heap.push PySem.W.emptyDict).push (PySem.W.instObj C s.heap.objs.size)).get? (s.heap.objs.size+1)=some (PySem.W.instObj C s.heap.objs.size):=by
  have:=Heap.get?_push_size (s.heap.push PySem.W.emptyDict) (o:=PySem.W.instObj C s.heap.objs.size) rfl
  rwa [Heap.size_push] at this
 have e3:(s.heap.push PySem.W.emptyDict).Ns s.heap.objs.size (fun _=>none):=⟨PySem.W.emptyDict,#[],_,e1,rfl,(fun e he=>absurd he (by simp)),fun _=>rfl⟩;have I1:=I.laid (a:=s.heap.objs.size) (o:=.own (s.heap.objs.size+1)) (h':=s.heap.push PySem.W.emptyDict) (t':=s.toks) (fun b u q=>Heap.get?_push_of_some _ q) (Nat.le_refl _) ⟨_,e1⟩;refine I1.laid (a:=s.heap.objs.size+1) (o:=.ins C s.heap.objs.size []) (t':=s.toks) (fun b u q=>Heap.get?_push_of_some _ q) (Nat.le_of_eq (Heap.size_push _ _)) ?_;have ne:s.heap.objs.size≠s.heap.objs.size+1:=Nat.ne_of_lt (Nat.lt_succ_self _);refine⟨by rw[aI ne,ak],Nat.zero_le _,ne,e2,fun _=>none,(Heap.Ns1.of_empty e3).at fun o q=>Heap.get?_push_of_some _ q,fun _=>True.intro,fun y hy=>absurd rfl hy⟩
theorem Fl{prog:Program}{w:World}{env:Env}{e:Expr}{f:Str}{pos:Pos}{s:Shared}{Q:Value->Shared->Prop}(hb:attributeBase e f env (eval e env)=eval e env)(h:wpAny (model prog w) A (eval e env) (fun o cN=>wpAny (model prog w) A (getAttr o f true) Q E cN) E s):wpAny (model prog w) A (eval (.Attribute e f pos) env) Q E s:=
 Attribute_any_ h (by rw[arm_eval_Attribute,hb])
end
noncomputable def Mm(K:PySem.W.Frag)(ta:TE)(f:Str):TE:=fun σ H Q=>ta σ H fun x H1=>∃a C dx fs v,x=.ref a/\H1 a=some (.ins C dx fs)/\Fj K C/\iP K C f/\fs.lookup f=some v/\Q v H1
noncomputable def QQ(K:PySem.W.Frag)(ta tv:TE)(f:Str):TS:=fun D σ H=>tv σ H fun y H1=>ta σ H1 fun x H2=>∃a C dx fs,x=.ref a/\H2 a=some (.ins C dx fs)/\Fj K C/\iP K C f/\fs.length<1000/\
 D.nx σ (upd H2 a (.ins C dx (j6 f y fs)))
section
variable {X:Cx} {o e value:Expr} {f:Str} {pos pos' Wm:Pos} {ta tv:TE}
theorem dD(he:PE X e ta)(hb:attributeBase e f X.env (eval e X.env)=eval e X.env):PE X (.Attribute e f pos) (Mm X.K ta f):=by
 intro pins s σ H Q I h;refine Fl hb (dR (he pins s σ H _ I h) fun u s1⟨x,H1,I1,rx,a,C,dx,fs,v,ex,ea,c,n,l,q⟩=>?_);subst ex;obtain rfl:u=Value.ref a:=rx;exact wK I1 ea c n l fun u' s2 I2 ru=>⟨v,H1,I2,ru,q⟩
theorem wM(ha:PE X o ta)(hv:PE X value tv)(hs:swapsWith value (some (.Attribute o f pos')) pos.line X.env=pure false):PS X (.Assign [.Attribute o f pos'] value pos) (QQ X.K ta tv f):=by
 intro pins s σ H D I h;refine plainObj_wpAny_Assign_Attribute (dR (hv pins s σ H _ I h) fun u s1⟨y,H1,I1,ry,q⟩=>dR (ha pins s1 σ H1 _ I1 q) fun ov s2⟨x,H2,I2,rx,a,C,dx,fs,ex,ea,c,n,l,q2⟩=>?_) hs;subst ex;obtain rfl:ov=Value.ref a:=rx;exact wL I2 ea c n l ry fun s3 I3=>⟨σ,_,I3,q2⟩
end
section
variable {X:Cx} {pins:List (Addr×Obj)} {σ:St} {H:Hp} {s:Shared} {A:Around} {E:Value->Shared->Prop} {Q:Value->Shared->Prop} {c:Value} {b:Bool}
inductive n8(K:PySem.W.Frag)(H:Hp):V->Value->Prop where
 |fB:n8 K H .fB (.type "NoneType")
 |bl (x:Bool):n8 K H (.bl x) (.type "bool")
 |int (i:Int):n8 K H (.int i) (.type "int")
 |str (x:Str):n8 K H (.str x) (.type "str")
 |Hj (x:UInt64):n8 K H (.Hj x) (.type "float")
 |lst {a:Addr} {xs:List V} (e:H a=some (.lst xs)):n8 K H (.ref a) (.type "list")
 |BW {a:Addr} {o:Obj} {xs:List V} (e:H a=some (.BW o (.lst xs))):n8 K H (.ref a) (.type "list")
 |tup {a:Addr} {xs:List V} (e:H a=some (.tup xs)):n8 K H (.ref a) (.type "tuple")
 |dK {a:Addr} {jN:List (Key×V)} (e:H a=some (.dK jN)):n8 K H (.ref a) (.type "dict")
 |dT {a:Addr} {jN:List (List Key×V)} (e:H a=some (.dT jN)):n8 K H (.ref a) (.type "dict")
 |ins {a C dx:Addr} {fs:List (Str×V)} (e:H a=some (.ins C dx fs)) (cl:Fj K C) (ha:PySem.W.findIn K (.ref C) "__class__"=some (some (.builtin "object.__class__")))
  (hn:PySem.W.specialIn K (.builtin "object.__class__") "__get__"=some (some (.builtin "getset_descriptor.__get__"))) (ZA:PySem.W.takesIn K (.builtin "object.__class__")=some true)
  (hm:PySem.W.mroIn K C (.type "object")=some true):n8 K H (.ref a) (.ref C)
end
end L2
namespace L2
open PySem PySem.Spec PyProof.Rows
structure fP(k:Nat)(A:Around):Prop where
 hd:A.handled=none
 dp:A.depth+3*k+5<recursionLimit
 un:A.units+16*k+200<cLine
theorem fP.mono{j k:Nat}{A:Around}(r:fP k A)(h:j<=k):fP j A:=⟨r.hd,by have:=r.dp;lia,by have:=r.un;lia⟩
theorem fP.deeper{k:Nat}{A:Around}(r:fP (k+1) A)(env:Env):fP k (A.deeper env):=
 ⟨r.hd,by have:=r.dp;show A.depth+1+3*k+5<_;lia,by have:=r.un;show A.units+3+16*k+200<_;lia⟩
theorem wN{A:Around}{C:Addr}{us:List Value}{kw:List (Str×Value)}:(A.under (.builtin "type.__call__" ⟨.ref C::us,kw⟩)).depth=A.depth+1:=by
 first|rfl|simp[Around.under,Code.weight,Code.isCreation,Code.isGuard,Code.isCaller,Code.frames,Code.isFrame,guardIds]
theorem wO{A:Around}{C:Addr}{us:List Value}{kw:List (Str×Value)}:(A.under (.builtin "type.__call__" ⟨.ref C::us,kw⟩)).units=A.units+1:=by
 first|rfl|simp[Around.under,Code.cUnits,Code.frames,Code.isFrame]
theorem fP.make{k:Nat}{A:Around}(r:fP (k+1) A)(C:Addr)(us:List Value)(kw:List (Str×Value)):fP k (A.under (.builtin "type.__call__" ⟨.ref C::us,kw⟩)):=
 ⟨r.hd,by have:=r.dp;rw[wN];lia,by have:=r.un;rw[wO];lia⟩
theorem fP.depth{k:Nat}{A:Around}(r:fP k A):A.depth<recursionLimit:=by have:=r.dp;lia
theorem fP.wQ{k:Nat}{A:Around}(r:fP k A):A.units<cLine:=by have:=r.un;lia
noncomputable def Mn:TA:=fun _ H Q=>Q [] H
noncomputable def Hw(ta:TE)(tr:TA):TA:=fun σ H Q=>ta σ H fun x H1=>tr σ H1 fun xs H2=>Q (x::xs) H2
section
variable {X:Cx} {e:Expr} {es:List Expr} {te:TE} {t:TA} {pos:Pos}
theorem ag:PA X [] Mn:=fun _ _ _ _ H Q I h=>Calls.spliced_nil ⟨[],H,I,.nil,h⟩
theorem aa(ha:PE X e te)(hr:PA X es t)(hs:starEach (e::es) X.env=(false,eval e X.env)::starEach es X.env:=by rfl):PA X (e::es) (Hw te t):=by
 intro pos pins s σ H Q I h;rw[hs];show wpAny _ _ (spliced ((false,eval e X.env)::backTo pos (starEach es X.env))) _ _ s;refine Calls.spliced_cons (dR (ha pins s σ H _ I h) fun u s1⟨x,H1,I1,r1,q1⟩=>?_);exact dR (hr pos pins s1 σ H1 _ I1 q1) fun us s2⟨xs,H2,I2,r2,q2⟩=>⟨x::xs,H2,I2,.cons r1 r2,q2⟩
noncomputable def Mo(t:TA):TE:=fun σ H Q=>t σ H fun xs H1=>xs.length<=sizeLine/\∀p,H1 p=none->Q (.ref p) (upd H1 p (.tup xs))
noncomputable def Mp(t:TA):TE:=fun σ H Q=>t σ H fun xs H1=>xs.length<=sizeLine/\∀p,H1 p=none->Q (.ref p) (upd H1 p (.lst xs))
theorem dm{x1}(h:PA X es t):PE X (.Tuple es x1 pos) (Mo t):=by
 intro pins s σ H Q I hq;refine wpAny_Tuple_spliced (dR (h pos pins s σ H _ I hq) fun us s1⟨xs,H1,I1,r,z,q⟩=>⟨by rw[<-r.length];exact z,?_⟩);have hf:H1 s1.heap.objs.size=none:=I1.eV.fresh (Nat.le_refl _);refine⟨.ref s1.heap.objs.size,upd H1 s1.heap.objs.size (.tup xs),I1.laid (t':=s1.toks) (fun b u e=>Heap.get?_push_of_some _ e) (Nat.le_refl _) ?_,rfl,q _ hf⟩;exact⟨z,us,r,⟨_,Heap.get?_push_size _ rfl,rfl,_,rfl⟩⟩
theorem dr(h:PA X es t):PE X (.List es pos) (Mp t):=by
 intro pins s σ H Q I hq;refine wpAny_List_spliced (dR (h pos pins s σ H _ I hq) fun us s1⟨xs,H1,I1,r,z,q⟩=>⟨by rw[<-r.length];exact z,?_⟩);have hf:H1 s1.heap.objs.size=none:=I1.eV.fresh (Nat.le_refl _);refine⟨.ref s1.heap.objs.size,upd H1 s1.heap.objs.size (.lst xs),I1.laid (t':=s1.toks) (fun b u e=>Heap.get?_push_of_some _ e) (Nat.le_refl _) ?_,rfl,q _ hf⟩;exact⟨z,us,0,r,Heap.get?_push_size _ rfl⟩
end
noncomputable abbrev Sp:=List V->Hp->VK->XK->Prop
noncomputable abbrev AJ:=List Env->Hp->Shared->XK->Value->Shared->Prop
structure wR(P:Program)(w:World)(K:PySem.W.Frag)(mg:Str->Option Value)(base:Heap)(A:Around)(outer:List Env)(s:Shared)(H:Hp):Prop where
 frames:A.frames=some outer
 mod:Mod K mg base
 bs:∀b o,base.get? b=some o->s.heap.get? b=some o/\H b=none
 Fc:base.objs.size<=s.heap.objs.size
 nq:s.heap.FunFrames base outer
 Jb:∀b∈AB outer,H b=none
 eV:nk P w H s.heap
 bare:AllBare s.gens
noncomputable def CE(outer:List Env)(P:Program)(w:World)(H:Hp)(s:Shared)(Q:VK)(u:Value)(s':Shared):Prop:=
 ∃v H',s'.os=s.os/\AllBare s'.gens/\Un (AB outer) [] H H' s.heap s'.heap/\nk P w H' s'.heap/\RelV v u/\Q v H'
noncomputable def CR(CX:AJ)(outer:List Env)(P:Program)(w:World)(H:Hp)(s:Shared)(Q:VK)(E:XK)(r:Result)(s':Shared):Prop:=
 match r with
 |.ok (.ret u)=>CE outer P w H s Q u s'
 |.ok _=>False
 |.error e=>CX outer H s E e s'
structure g7(P:Program)(w:World)(K:PySem.W.Frag)(mg:Str->Option Value)(base:Heap)(CX:AJ)(k:Nat)(f:Addr)(fd:FuncData)(ps:List Str)(sp:Sp):Prop where
 len:∀vs H Q E,sp vs H Q E->vs.length=ps.length
 run:∀(A:Around)(outer:List Env)(s:Shared)(H:Hp)(args:Args)(us:List Value)(vs:List V)(Q:VK)(E:XK),fP k A->wR P w K mg base A outer s H->BindsTo s fd args (ps.zip us)->Vals vs us->sp vs H Q E->
  codeAny (model P w) A (.call (.ref f) args) (CR CX outer P w H s Q E) s
theorem g7.mono{P:Program}{w:World}{K:PySem.W.Frag}{mg:Str->Option Value}{base:Heap}{CX:AJ}{j k:Nat}{f:Addr}{fd:FuncData}{ps:List Str}{sp:Sp}(F:g7 P w K mg base CX j f fd ps sp)(h:j<=k):
 g7 P w K mg base CX k f fd ps sp:=⟨F.len,fun A outer s H args us vs Q E hr=>F.run A outer s H args us vs Q E (hr.mono h)⟩
theorem g7.imp{P:Program}{w:World}{K:PySem.W.Frag}{mg:Str->Option Value}{base:Heap}{CX:AJ}{k:Nat}{f:Addr}{fd:FuncData}{ps:List Str}{sp Mr:Sp}(F:g7 P w K mg base CX k f fd ps sp)(h:∀vs H Q E,Mr vs H Q E->sp vs H Q E):g7 P w K mg base CX k f fd ps Mr:=
 ⟨fun vs H Q E q=>F.len vs H Q E (h _ _ _ _ q),fun A outer s H args us vs Q E hr he hb hv hs=>F.run A outer s H args us vs Q E hr he hb hv (h _ _ _ _ hs)⟩
theorem wR.make{P:Program}{w:World}{K:PySem.W.Frag}{mg:Str->Option Value}{base:Heap}{A:Around}{outer:List Env}{s:Shared}{H:Hp}(e:wR P w K mg base A outer s H)(C:Addr)(us:List Value)(kw:List (Str×Value)):
 wR P w K mg base (A.under (.builtin "type.__call__" ⟨.ref C::us,kw⟩)) outer s H:=⟨by first|exact e.frames|(simpa[Around.under,Code.envs,Code.isFrame,pushEnvs] using e.frames),e.mod,e.bs,e.Fc,e.nq,e.Jb,e.eV,e.bare⟩
section
variable {X:Cx} {pins:List (Addr×Obj)} {σ:St} {H:Hp} {s s':Shared}
theorem Inv.Ms(I:Inv X pins σ H s):wR X.prog X.w X.K X.mg X.base X.A X.stack s H:=
 ⟨I.ok.frames,I.ok.mod,I.bs,Nat.le_trans I.ok.Fc I.sz,I.stack,I.yS,I.eV,I.bare⟩
theorem Inv.after{Q:VK}{u:Value}(I:Inv X pins σ H s)(h:CE X.stack X.prog X.w H s Q u s'):EP X pins σ Q u s':=by
 obtain⟨v,H',os,bare,un,eV,r,q⟩:=h;obtain⟨hh,g,d,t,Wn⟩:=s';obtain rfl:Wn=s.os:=os;exact⟨v,H',I.call (h':=hh) (g':=g) (d':=d) (t':=t) (ch:=[]) un eV bare (fun b z=>absurd z (by simp)),r,q⟩
end
noncomputable def Cg(sp:Sp)(dvs:List V)(E:XK)(t:TA):TE:=fun σ H Q=>t σ H fun vs H1=>sp (vs++dvs) H1 Q E
noncomputable def Hy(C:Addr)(sp:Sp)(dvs:List V)(E:XK)(t:TA):TE:=fun σ H Q=>t σ H fun vs H1=>∀x dx,H1 x=none->H1 dx=none->dx≠x->
 sp (.ref x::(vs++dvs)) (upd (upd H1 dx (.own x)) x (.ins C dx [])) (fun v H2=>v=.fB/\Q (.ref x) H2) E
noncomputable def Binds(K:PySem.W.Frag)(fd:FuncData)(ps:List Str)(ds:List Value):Prop:=
 ∀(s:Shared)(us:List Value),K.In s.heap->(us++ds).length=ps.length->BindsTo s fd ⟨us,[]⟩ (ps.zip (us++ds))
theorem Binds.all{K:PySem.W.Frag}{fd:FuncData}{ps:List Str}(h:∀us:List Value,us.length=ps.length->bindArgs fd ⟨us,[]⟩=pure (ps.zip us)):Binds K fd ps []:=fun s us _ hl=>by
 rw[List.append_nil] at hl ⊢;exact .of_eq (h us hl)
noncomputable def Passes(CX:AJ)(X:Cx)(E:XK):Prop:=∀(pins:List (Addr×Obj))(σ:St)(H:Hp)(s:Shared)(e:Value)(s':Shared),Inv X pins σ H s->CX X.stack H s E e s'->X.xe e s'
section
variable {X:Cx} {CX:AJ} {k:Nat} {f C:Addr} {fd:FuncData} {ps:List Str} {sp:Sp} {dvs:List V} {ds:List Value} {E:XK} {x m:Str} {p pos apos:Pos} {e o:Expr} {es:List Expr} {ta:TE} {t:TA}
theorem Jp{pins:List (Addr×Obj)}{σ:St}{H:Hp}{s:Shared}{Q:VK}{us:List Value}{vs:List V}(F:g7 X.prog X.w X.K X.mg X.base CX k f fd ps sp)(hr:fP k X.A)(hb:Binds X.K fd ps ds)(hd:Vals dvs ds)(hx:Passes CX X E)(I:Inv X pins σ H s)(r:Vals vs us)(h:sp (vs++dvs) H Q E):wpAny (model X.prog X.w) X.A (call (.ref f) us) (EP X pins σ Q) X.xe s:=by
 have r2:Vals (vs++dvs) (us++ds):=r.append hd;have hl:(us++ds).length=ps.length:=by rw[<-r2.length];exact F.len _ _ _ _ h
 refine wpAny_call (codeAny_mono (F.run X.A X.stack s H ⟨us,[]⟩ (us++ds) (vs++dvs) Q E hr I.Ms (hb s us I.B8 hl) r2 h) fun r s' hq=>?_);cases r with
 |error e=>exact hx pins σ H s e s' I hq
 |ok fl=>
  cases fl with
  |ret u=>exact I.after hq
  |next=>exact False.elim hq
  |brk=>exact False.elim hq
  |cont=>exact False.elim hq
theorem Fm(F:g7 X.prog X.w X.K X.mg X.base CX k f fd ps sp)(hr:fP k X.A)(hg:Gl X x)(hm:X.mg x=some (.ref f))(hk:PySem.W.keepIn X.K (.ref f)=true)(hb:Binds X.K fd ps ds)(hd:Vals dvs ds)(hx:Passes CX X E)(ha:PA X (e::es) t)(Fn:(x==("__debug__":Str))=false:=by decide)(he:starEach (e::es) X.env=(false,eval e X.env)::starEach es X.env:=by rfl)(uk:(backTo pos (starEach es X.env)).any (·.1)=false:=by rfl):
 PE X (.Call (.Name x p) (e::es) [] pos) (Cg sp dvs E t):=by
 intro pins s σ H Q I h;refine wpAny_Call_Name_kw (rK I hg hm ?_ Fn);refine PySem.W.callWith_K (h₀:=X.base) I.ok.mod.Pc hk (dR (ha pos pins s σ H _ I h) fun us s1⟨vs,H1,I1,r,q⟩=>⟨I1.B8,?_⟩) he uk;exact Jp F hr hb hd hx I1 r q
structure Mk(K:PySem.W.Frag)(C f:Addr):Prop where
 makes:PySem.W.makesIn K C=true
 init:PySem.W.findIn K (.ref C) "__init__"=some (some (.ref f))
 fn:PySem.W.isFn K (.ref f)=true
 kp:PySem.W.keepIn K (.ref C)=true
theorem Ci{pins:List (Addr×Obj)}{σ:St}{H:Hp}{s:Shared}{Q:VK}{us:List Value}{vs:List V}(M:Mk X.K C f)(F:g7 X.prog X.w X.K X.mg X.base CX k f fd ps sp)(hr:fP (k+1) X.A)(hb:Binds X.K fd ps ds)(hd:Vals dvs ds)(hx:Passes CX X E)(I:Inv X pins σ H s)(r:Vals vs us)(h:∀x dx,H x=none->H dx=none->dx≠x->sp (.ref x::(vs++dvs)) (upd (upd H dx (.own x)) x (.ins C dx [])) (fun v H2=>v=.fB/\Q (.ref x) H2) E):
 wpAny (model X.prog X.w) X.A (call (.ref C) us) (EP X pins σ Q) X.xe s:=by
 have hq:=h (s.heap.objs.size+1) s.heap.objs.size (I.eV.fresh (Nat.le_succ _)) (I.eV.fresh (Nat.le_refl _)) (Nat.ne_of_lt (Nat.lt_succ_self _));have I2:=Inv.made (C:=C) I;have r2:Vals (V.ref (s.heap.objs.size+1)::(vs++dvs)) (Value.ref (s.heap.objs.size+1)::(us++ds)):=.cons rfl (r.append hd);have hl:(Value.ref (s.heap.objs.size+1)::us++ds).length=ps.length:=by
  have e:=r2.length;rw[F.len _ _ _ _ hq] at e;exact e.symm
 refine wpAny_call (Cf (f:=f) I.B8 M.makes M.init (beq_iff_eq.mp M.fn) (codeAny_mono (F.run _ X.stack _ _ ⟨Value.ref (s.heap.objs.size+1)::us,[]⟩ (Value.ref (s.heap.objs.size+1)::(us++ds)) _ _ E (hr.make C us [])
  (I2.Ms.make C us []) (hb _ (Value.ref (s.heap.objs.size+1)::us) I2.B8 hl) r2 hq) fun r s' Mt=>?_));cases r with
 |error e=>exact hx pins σ _ _ e s' I2 Mt
 |ok fl=>
  cases fl with
  |ret u=>
   obtain⟨v,H',I3,rv,ev,q3⟩:=I2.after Mt;subst ev;exact⟨rv,⟨V.ref (s.heap.objs.size+1),H',I3,rfl,q3⟩⟩
  |next=>exact False.elim Mt
  |brk=>exact False.elim Mt
  |cont=>exact False.elim Mt
theorem y6(M:Mk X.K C f)(F:g7 X.prog X.w X.K X.mg X.base CX k f fd ps sp)(hr:fP (k+1) X.A)(hg:Gl X x)(hm:X.mg x=some (.ref C))(hb:Binds X.K fd ps ds)(hd:Vals dvs ds)(hx:Passes CX X E)(ha:PA X (e::es) t)(Fn:(x==("__debug__":Str))=false:=by decide)(he:starEach (e::es) X.env=(false,eval e X.env)::starEach es X.env:=by rfl)(uk:(backTo pos (starEach es X.env)).any (·.1)=false:=by rfl):
 PE X (.Call (.Name x p) (e::es) [] pos) (Hy C sp dvs E t):=by
 intro pins s σ H Q I h;refine wpAny_Call_Name_kw (rK I hg hm ?_ Fn);refine PySem.W.callWith_K (h₀:=X.base) I.ok.mod.Pc M.kp (dR (ha pos pins s σ H _ I h) fun us s1⟨vs,H1,I1,r,q⟩=>⟨I1.B8,?_⟩) he uk;exact Ci M F hr hb hd hx I1 r q
end
section
variable {X:Cx} {CX:AJ} {k:Nat} {f C:Addr} {fd:FuncData} {ps ks:List Str} {sp:Sp} {E:XK} {x m:Str} {p pos apos Wo:Pos} {e o:Expr} {es:List Expr} {ZC:List Keyword} {te ta:TE} {t tk:TA} {nm:Option Str}
structure QR(K:PySem.W.Frag)(fd:FuncData)(ps ks:List Str)(g:List Value->List Value->List Value)(gV:List V->List V->List V):Prop where
 to:∀(s:Shared)(us ws:List Value),K.In s.heap->(g us ws).length=ps.length->BindsTo s fd ⟨us,ks.zip ws⟩ (ps.zip (g us ws))
 rel:∀{vs:List V}{us:List Value}{zs:List V}{ws:List Value},Vals vs us->Vals zs ws->Vals (gV vs zs) (g us ws)
variable {g:List Value->List Value->List Value} {gV:List V->List V->List V}
end
structure aH(N P:List Str)(sc:Scope):Prop where
 kind:sc.kind=.function
 co:sc.isCoroutine=false
 gen:sc.isGenerator=false
 nd:N.Nodup
 pre:N.take P.length=P
 par:∀x∈P,sc.names.lookup x=some .local\/sc.names.lookup x=some .cell
 Jq:∀y∈sc.names,y.2≠.free
theorem qH{kindOf:Str->Option NameKind}{x:Str}:∀{binds:List (Str×Value)}{m:Str->Option Value},(∀v,(x,v)∉binds)->bindL kindOf binds m x=m x
 |[],_,_=>rfl
 |(n,v)::r,m,h=>by
  unfold bindL;rw[qH fun w hw=>h w (List.mem_cons_of_mem _ hw)];split
  ·have:x≠n:=by rintro rfl;exact h v List.mem_cons_self
   simp[this]
  ·rfl
theorem qI{kindOf:Str->Option NameKind}{x:Str}:∀{binds:List (Str×Value)}{m:Str->Option Value},(∀v,(x,v)∉binds)->bindC kindOf binds m x=m x
 |[],_,_=>rfl
 |(n,v)::r,m,h=>by
  unfold bindC;rw[qI fun w hw=>h w (List.mem_cons_of_mem _ hw)];split
  ·rfl
  ·have:x≠n:=by rintro rfl;exact h v List.mem_cons_self
   simp[this]
theorem qJ{kindOf:Str->Option NameKind}{x:Str}{v:Value}:∀{P:List Str}{vs:List Value}{i:Nat}{m:Str->Option Value},P.Nodup->P[i]?=some x->vs[i]?=some v->kindOf x=some .local->
 bindL kindOf (P.zip vs) m x=some v
 |[],_,_,_,_,h,_,_=>by simp at h
 |_::_,[],_,_,_,_,h,_=>by simp at h
 |p::P,w::vs,0,m,nd,h1,h2,hk=>by
  simp at h1 h2;subst h1;subst h2;show bindL kindOf ((p,w)::P.zip vs) m p=_;unfold bindL;rw[qH fun v hv=>(List.nodup_cons.mp nd).1 (List.of_mem_zip hv).1,if_pos hk];simp
 |p::P,w::vs,i+1,m,nd,h1,h2,hk=>by
  show bindL kindOf ((p,w)::P.zip vs) m x=_;unfold bindL;exact qJ (i:=i) (List.nodup_cons.mp nd).2 (by simpa using h1) (by simpa using h2) hk
theorem qK{kindOf:Str->Option NameKind}{x:Str}{v:Value}:∀{P:List Str}{vs:List Value}{i:Nat}{m:Str->Option Value},P.Nodup->P[i]?=some x->vs[i]?=some v->kindOf x≠some .local->
 bindC kindOf (P.zip vs) m x=some v
 |[],_,_,_,_,h,_,_=>by simp at h
 |_::_,[],_,_,_,_,h,_=>by simp at h
 |p::P,w::vs,0,m,nd,h1,h2,hk=>by
  simp at h1 h2;subst h1;subst h2;show bindC kindOf ((p,w)::P.zip vs) m p=_;unfold bindC;rw[qI fun v hv=>(List.nodup_cons.mp nd).1 (List.of_mem_zip hv).1,if_neg hk];simp
 |p::P,w::vs,i+1,m,nd,h1,h2,hk=>by
  show bindC kindOf ((p,w)::P.zip vs) m x=_;unfold bindC;exact qK (i:=i) (List.nodup_cons.mp nd).2 (by simpa using h1) (by simpa using h2) hk
noncomputable def start(N:List Str)(vs:List V):St:=vs.map some++List.replicate (N.length-vs.length) none
noncomputable def wU(CX:AJ)(P:Program)(w:World)(K:PySem.W.Frag)(mg:Str->Option Value)(base:Heap)(N:List Str)(qual:Str)(scope:Scope)(f:Addr)(cd:Value)(A:Around)(outer:List Env)(s:Shared)(H:Hp)(E:XK):Cx where
 prog:=P
 w:=w
 K:=K
 mg:=mg
 base:=base
 A:=A.deeper (envOfC qual scope s.heap.objs.size f cd)
 N:=N
 gn:=s
 B6:=H
 env:=envOfC qual scope s.heap.objs.size f cd
 outer:=outer
 stack:=envOfC qual scope s.heap.objs.size f cd::outer
 ex:=[]
 calm:=true
 fn:=fun _=>true
 pn:=[]
 xe:=fun e s'=>wpAny (model P w) (A.deeper (envOfC qual scope s.heap.objs.size f cd)) (leaving (envOfC qual scope s.heap.objs.size f cd) e) (fun _ QS=>CX outer H s E e QS) (fun e' QS=>CX outer H s E e' QS) s'
theorem uo{sc:Scope}{n:Nat}{x:Str}(h:sc.names.lookup x=some .cell):∃c,(cellsFrom n sc.names []).lookup x=some c:=by
 have q:=PySem.W.cellsFrom_some sc.names n [] (.inl h);exact Option.isSome_iff_exists.mp q
theorem AK{CX:AJ}{P:Program}{w:World}{K:PySem.W.Frag}{mg:Str->Option Value}{base:Heap}{N ps:List Str}{qual:Str}{scope:Scope}{f:Addr}{cd:Value}{A:Around}{outer:List Env}{s s1:Shared}{H:Hp}{E:XK}{us:List Value}{vs:List V}(S:aH N ps scope)(hd:A.handled=none)(e0:wR P w K mg base A outer s H)(hl:vs.length=ps.length)(r:Vals vs us)(x:InCallC s s.heap.objs.size (bindL (envOfC qual scope s.heap.objs.size f cd).kindOf (ps.zip us) fun _=>none) (cellsFrom (s.heap.objs.size+1) scope.names []) (bindC (envOfC qual scope s.heap.objs.size f cd).kindOf (ps.zip us) fun _=>none) s1):
 Inv (wU CX P w K mg base N qual scope f cd A outer s H E) [] (start N vs) H s1:=by
 have uk:ps.length<=N.length:=by have:=congrArg List.length S.pre;rw[List.length_take] at this;lia
 obtain⟨h1,tk,rfl,hk⟩:=x.done;have Mu:∀b:Addr,b∉(wU CX P w K mg base N qual scope f cd A outer s H E).ex:=fun b z=>absurd (show b∈([]:List Addr) from z) (by simp);refine⟨⟨e0.mod,S.kind,rfl,rfl,Nat.le_refl _,fun y z c h1 h2=>?_,fun y hy=>?_,fun y c _ h=>?_,fun _=>hd,Around.frames_deeper e0.frames,.inr ⟨rfl,rfl⟩,fun b z=>absurd z (Mu b),e0.bs,e0.Fc,fun b _ _=>Mu b,fun b z=>absurd z (Mu b),e0.nq,e0.Jb⟩,
  rfl,e0.bare,Un.kept hk,⟨_,x.toInCall.ns,fun i y v h1 h2 h3=>?_⟩,fun y c h=>⟨_,x.cell y c h⟩,e0.eV.fresh (Nat.le_refl _),fun y c h=>?_,fun p hp=>absurd (show p∈([]:List (Addr×Obj)) from hp) (by simp),e0.eV.kept hk,?_⟩
 ·exact name_of_addr x.apart (PySem.mem_of_lookup h1) (PySem.mem_of_lookup h2)
 ·have hy:scope.names.lookup y=some .cell\/scope.names.lookup y=some .free:=hy;rcases hy with hy|hy
  ·exact uo hy
  ·exact absurd rfl (S.Jq _ (PySem.mem_of_lookup hy))
 ·exact Nat.le_of_lt (x.above y c (PySem.mem_of_lookup h))
 ·have hi:i<vs.length:=by
   unfold start at h2;by_cases hi:i<vs.length
   ·exact hi
   ·rw[List.getElem?_append_right (by simpa using hi)] at h2;rw[List.getElem?_replicate] at h2;split at h2<;>cases h2
  have ha:vs[i]?=some v:=by
   unfold start at h2;rw[List.getElem?_append_left (by simpa using hi),List.getElem?_map] at h2;cases e:vs[i]? with
   |none=>rw[e] at h2;cases h2
   |some a=>rw[e] at h2;cases h2;rfl
  obtain⟨u,hu,rv⟩:=r.get ha;have hp:ps[i]?=some y:=by
   rw[<-S.pre,List.getElem?_take_of_lt (by lia)];exact h1
  have Uh:ps.Nodup:=by rw[<-S.pre];exact S.nd.sublist (List.take_sublist _ _)
  refine⟨u,rv,?_⟩;rcases S.par y (List.mem_of_getElem? hp) with k|k
  ·exact .inl ⟨k,qJ Uh hp hu k⟩
  ·obtain⟨c,e⟩:=uo (n:=s.heap.objs.size+1) k;refine .inr ⟨.inl k,c,e,?_⟩;have q:=x.cell y c e;rw[qK Uh hp hu (by show scope.names.lookup y≠_;rw[k];decide)] at q;exact q
 ·exact e0.eV.fresh (Nat.le_of_lt (x.above y c (PySem.mem_of_lookup h)))
 ·unfold start;show _=N.length;rw[List.length_append,List.length_map,List.length_replicate];lia
theorem Hz{CX:AJ}{P:Program}{w:World}{K:PySem.W.Frag}{mg:Str->Option Value}{base:Heap}{k:Nat}{f:Addr}{name qual:Str}{params:Arguments}{body:List Stmt}{scope:Scope}{dV kV doc pm cQ ct oc:Value}{an od:Option Addr}{y8:Array (Option Value)}{N ps:List Str}{sp:Sp}(lk:K.lookup f=some ⟨oc,od,.func (PySem.W.fnOf name qual params body scope dV kV doc pm an cQ ct),y8⟩)(wA:PySem.W.codeIn K cQ qual=true)(S:aH N ps scope)(len:∀vs H Q E,sp vs H Q E->vs.length=ps.length)(uq:∀(A:Around)(outer:List Env)(s:Shared)(H:Hp)(vs:List V)(Q:VK)(E:XK),fP k (A.deeper (envOfC qual scope s.heap.objs.size f cQ))->sp vs H Q E->
 ∃t,wz (wU CX P w K mg base N qual scope f cQ A outer s H E) body t/\t {nx:=fun _ H'=>Q .fB H',rt:=Q} (start N vs) H):
 g7 P w K mg base CX (k+1) f (PySem.W.fnOf name qual params body scope dV kV doc pm an cQ ct) ps sp:=by
 refine⟨len,fun A outer s H args us vs Q E hr e0 hb r y9=>?_⟩;have hl:=len _ _ _ _ y9;have KX:K.In s.heap:=e0.mod.Pc.keeps fun b o e=>(e0.bs b o e).1;have lim:s.heap.NoLimit:=e0.mod.nolimit.keeps fun b o e=>(e0.bs b o e).1;have Mv:∀y∈ps.zip us,scope.names.lookup y.1=some .local\/(scope.names.lookup y.1=some .cell/\((cellsFrom (s.heap.objs.size+1) scope.names []).lookup y.1).isSome=true):=fun⟨n,v⟩ hy=>by
  rcases S.par n (List.of_mem_zip hy).1 with q|q
  ·exact .inl q
  ·exact .inr ⟨q,PySem.W.cellsFrom_some _ _ _ (.inl q)⟩
 refine codeAny_call_function hr.depth (KX _ _ lk) rfl S.co S.gen rfl (PySem.W.codeRec_of KX wA) (hb _ _ _ _ ?_);refine wpAny_newFunctionEnv_cells S.kind Mv fun env he s1 x=>?_;subst he;refine⟨lim.keeps x.toInCall.keep,codeAny_func ?_⟩;obtain⟨t,ht,hq⟩:=uq A outer s H vs Q E (hr.deeper _) y9;have I:Inv (wU CX P w K mg base N qual scope f cQ A outer s H E) [] (start N vs) H s1:=AK S hr.hd e0 hl r x;refine wpAny_mono (ht [] s1 (start N vs) H _ I hq) (fun fl s' hs=>?_) fun e s' hs=>hs;have fin:∀{bN:St}{H':Hp}{v:V}{u:Value},Inv (wU CX P w K mg base N qual scope f cQ A outer s H E) [] bN H' s'->RelV v u->Q v H'->CE outer P w H s Q u s':=
  fun{bN H' v u} J rv q=>⟨v,H',J.os,J.bare,J.base,J.eV,rv,q⟩
 cases fl with
 |ret u=>
  obtain⟨v,bN,H',J,rv,q⟩:=hs;exact fin J rv q
 |next=>
  obtain⟨bN,H',J,q⟩:=hs;exact fin (v:=V.fB) (u:=Value.none) J rfl q
 |brk=>
  obtain⟨_,_,_,q⟩:=hs;exact False.elim q
 |cont=>
  obtain⟨_,_,_,q⟩:=hs;exact False.elim q
end L2
namespace L2
open PySem PySem.Spec PyProof.Rows
section
variable {X:Cx} {x:Str} {p pos:Pos} {e:Expr} {es:List Expr} {t:TA} {id T:String} {r:List V->Hp->VK->Prop}
noncomputable def QT(r:List V->Hp->VK->Prop)(t:TA):TE:=fun σ H Q=>t σ H fun vs H1=>r vs H1 Q
theorem aK(hc:jm X (.builtin id) r)(hg:Gl X x)(hm:X.mg x=none)(hv:bootBuiltins x=some (.builtin id))(ha:PA X (e::es) t)(hn:x≠"__name__":=by decide)(Fn:(x==("__debug__":Str))=false:=by decide)(he:starEach (e::es) X.env=(false,eval e X.env)::starEach es X.env:=by rfl)(uk:(backTo pos (starEach es X.env)).any (·.1)=false:=by rfl):PE X (.Call (.Name x p) (e::es) [] pos) (QT r t):=by
 intro pins s σ H Q I h;refine wpAny_Call_Name_kw (jk I hg hm hv ?_ hn Fn);exact PyProof.Rows.callWith_builtin1 (dR (ha pos pins s σ H _ I h) fun us s1⟨vs,H1,I1,r1,q1⟩=>hc pins s1 σ H1 vs us Q I1 r1 q1) he uk
theorem b_(hc:jm X (.type T) r)(hg:Gl X x)(hm:X.mg x=none)(hv:bootBuiltins x=some (.type T))(ha:PA X (e::es) t)(hn:x≠"__name__":=by decide)(Fn:(x==("__debug__":Str))=false:=by decide)(he:starEach (e::es) X.env=(false,eval e X.env)::starEach es X.env:=by rfl)(uk:(backTo pos (starEach es X.env)).any (·.1)=false:=by rfl):PE X (.Call (.Name x p) (e::es) [] pos) (QT r t):=by
 intro pins s σ H Q I h;refine wpAny_Call_Name_kw (jk I hg hm hv ?_ hn Fn);exact PyProof.Rows.callWith_type1 (dR (ha pos pins s σ H _ I h) fun us s1⟨vs,H1,I1,r1,q1⟩=>hc pins s1 σ H1 vs us Q I1 r1 q1) he uk
end
end L2
namespace HT
open PySem PyProof.Rows
section
open PySem.SeqAt
open PySem.AutoSeq1 (wpAny_loadPart')
open PySem.MeetsSeq PySem.MeetsSeq2 PySem.MeetsSeq3
end
section
variable {prog:Program} {w:World} {A:Around} {E:Value->Shared->Prop} {s:Shared}
noncomputable def ua(n d:Nat):Option Int->Nat
 |none=>d
 |some v=>if v<0 then(v+(n:Int)).toNat else min v.toNat n
theorem n9(n d:Nat):ua n d none=d:=rfl
theorem y_(n d k:Nat):ua n d (some (k:Int))=min k n:=by
 show(if(k:Int)<0 then((k:Int)+(n:Int)).toNat else min (k:Int).toNat n)=min k n;rw[if_neg (by lia),Int.toNat_natCast]
end
end HT
namespace L2
open PySem PySem.Spec PyProof.Rows
noncomputable abbrev TO:=St->Hp->(Option Int->Hp->Prop)->Prop
noncomputable def PO(X:Cx)(e:Option Expr)(t:TO):Prop:=
 ∀(pins:List (Addr×Obj))(s:Shared)(σ:St)(H:Hp)(Q:Option Int->Hp->Prop),Inv X pins σ H s->t σ H Q->
  wpAny (model X.prog X.w) X.A (evalPart e X.env) (fun u s'=>∃o H',Inv X pins σ H' s'/\IsPart u o/\Q o H') X.xe s
noncomputable def za:TO:=fun _ H Q=>Q none H
noncomputable def HA(t:TE):TO:=fun σ H Q=>t σ H fun x H1=>∃i,x=.int i/\Q (some i) H1
theorem intsAre_of{ns:List Int}:∀{us:List Value},Vals (ns.map V.int) us->IntsAre us ns:=by
 induction ns with
 |nil=>intro us r;rw[List.map_nil] at r;cases r;exact .nil
 |cons n ns ih=>
  intro us r;rw[List.map_cons] at r;cases r with
  |cons r1 r2=>
   obtain⟨t,e⟩:=r1;subst e;exact .cons n t (ih r2)
section
variable {X:Cx} {e:Expr} {te:TE} {lo hi:Option Expr} {tl th:TO} {pos p2:Pos}
theorem nF:PO X none za:=by
 intro pins s σ H Q I h;rw[evalPart_none];exact wpAny_pure ⟨none,H,I,.none,h⟩
theorem nG(h:PE X e te):PO X (some e) (HA te):=by
 intro pins s σ H Q I hw;rw[evalPart_some];refine dR (h pins s σ H _ I hw) fun u s1⟨x,H1,I1,r1,q1⟩=>?_;obtain⟨i,rfl,q⟩:=q1;obtain⟨t,rfl⟩:=r1;exact⟨some i,H1,I1,.int i t,q⟩
noncomputable def Ui(X:Cx)(r:V->Option Int->Option Int->Hp->VK->Prop):Prop:=
 ∀(pins:List (Addr×Obj))(s:Shared)(σ:St)(H:Hp)(x:V)(v vl vu:Value)(lo hi:Option Int)(sl:Addr)(Q:VK),Inv X pins σ H s->RelV x v->s.heap.IsSliceOf sl vl vu .none->IsPart vl lo->IsPart vu hi->r x lo hi H Q->
  ∃T id,typeLookup (.type T) "__getitem__"=pure (some (.builtin id))/\s.TypeIs v T/\wpAny (model X.prog X.w) X.A (getItem v (.ref sl)) (EP X pins σ Q) X.xe s
noncomputable def Uj(r:V->Option Int->Option Int->Hp->VK->Prop)(te:TE)(tl th:TO):TE:=fun σ H Q=>te σ H fun x H1=>tl σ H1 fun l H2=>th σ H2 fun u H3=>r x l u H3 Q
theorem kP{r:V->Option Int->Option Int->Hp->VK->Prop}(hr:Ui X r)(he:PE X e te)(hl:PO X lo tl)(hu:PO X hi th):PE X (.Subscript e (.Slice lo hi none p2) pos) (Uj r te tl th):=by
 intro pins s σ H Q I h;refine Subscript_ (dR (he pins s σ H _ I h) fun v s1⟨x,H1,I1,r1,q1⟩=>?_);refine wpAny_Slice (dR (hl pins s1 σ H1 _ I1 q1) fun vl s2⟨l,H2,I2,pl,q2⟩=>dR (hu pins s2 σ H2 _ I2 q2) fun vu s3⟨u,H3,I3,pu,q3⟩=>?_);rw[evalPart_none];refine wpAny_pure ?_;have I4:Inv X pins σ H3 {s3 with heap:=s3.heap.push {cls:=.type "slice",data:=.fields #[vl,vu,.none]}}:=I3.kept (t':=s3.toks) fun b ob q=>Heap.get?_push_of_some _ q;obtain⟨T,id,hT,ht,hg⟩:=hr pins {s3 with heap:=s3.heap.push {cls:=.type "slice",data:=.fields #[vl,vu,.none]}} σ H3 x v vl vu l u s3.heap.objs.size Q I4 r1 (Heap.IsSliceOf.new ..) pl pu q3;show wpAny (model X.prog X.w) X.A (subscriptTail e (.Slice lo hi none p2) v (.ref s3.heap.objs.size)) (EP X pins σ Q) X.xe {s3 with heap:=s3.heap.push {cls:=.type "slice",data:=.fields #[vl,vu,.none]}};exact tail_any (ops:=[.ref s3.heap.objs.size,v]) ht hT hg (by with_unfolding_all rfl)
noncomputable def ip(xs:List V)(lo hi:Option Int):List V:=(xs.drop (HT.ua xs.length 0 lo)).take (HT.ua xs.length xs.length hi-HT.ua xs.length 0 lo)
theorem ur(xs:List V)(lo hi:Option Int):(ip xs lo hi).length<=xs.length:=by
 unfold ip;rw[List.length_take,List.length_drop];lia
end
end L2
namespace L2
open PySem PySem.Spec PyProof.Rows
noncomputable def wV(n:Nat)(i:Int):Option Nat:=if 0<=i then(if i<n then some i.toNat else none) else if -(n:Int)<=i then some (i+n).toNat else none
noncomputable def mU{α:Type}(xs:List α)(i:Int):Option α:=(wV xs.length i).bind fun j=>xs[j]?
theorem zb{n:Nat}{i:Int}{j:Nat}(h:wV n i=some j):seqIndex? i n=some j/\j<n/\-(n:Int)<=i/\i<n:=by
 unfold wV at h;by_cases h0:0<=i
 ·rw[if_pos h0] at h;by_cases h1:i<n
  ·rw[if_pos h1] at h;have e:i.toNat=j:=Option.some.inj h;exact⟨by rw[seqIndex_of h0 h1,e],by lia,by lia,h1⟩
  ·rw[if_neg h1] at h;cases h
 ·rw[if_neg h0] at h;by_cases h1:-(n:Int)<=i
  ·rw[if_pos h1] at h;have e:(i+n).toNat=j:=Option.some.inj h;exact⟨by rw[seqIndex_neg (by lia) h1,e],by lia,h1,by lia⟩
  ·rw[if_neg h1] at h;cases h
theorem zc{α:Type}{xs:List α}{i:Int}{v:α}(h:mU xs i=some v):∃j,seqIndex? i xs.length=some j/\xs[j]?=some v/\j<xs.length/\-(xs.length:Int)<=i/\i<xs.length:=by
 unfold mU at h;cases e:wV xs.length i with
 |none=>rw[e] at h;cases h
 |some j=>
  rw[e] at h;obtain⟨h1,h2,h3,h4⟩:=zb e;exact⟨j,h1,h,h2,h3,h4⟩
theorem nH{α:Type}{xs:List α}{j:Nat}{v:α}(h:xs[j]?=some v):mU xs (j:Int)=some v:=by
 have hj:j<xs.length:=(List.getElem?_eq_some_iff.mp h).1;have e:wV xs.length (j:Int)=some j:=by
  unfold wV;rw[if_pos (by lia),if_pos (by lia)];simp
 unfold mU;rw[e];exact h
noncomputable def Fo(b:Expr):Prop:=∀o i,subscripted b false o i=operate [o,i] (getItem o i)
noncomputable def Pk(X:Cx)(r:R2):Prop:=
 ∀(value slice:Expr)(pins:List (Addr×Obj))(s:Shared)(σ:St)(H:Hp)(x y:V)(v u:Value)(Q:VK),Inv X pins σ H s->RelV x v->RelV y u->r x y H Q->
  subscripted slice false v u=operate [v,u] (getItem v u)->wpAny (model X.prog X.w) X.A (subscriptTail value slice v u) (EP X pins σ Q) X.xe s
noncomputable def Uk(X:Cx)(id:String)(r:V->List V->Hp->VK->Prop):Prop:=
 ∀(pins:List (Addr×Obj))(s:Shared)(σ:St)(H:Hp)(x:V)(xs:List V)(v:Value)(us:List Value)(Q:VK),Inv X pins σ H s->RelV x v->Vals xs us->r x xs H Q->
  wpAny (model X.prog X.w) X.A (call (.builtin id) (v::us)) (EP X pins σ Q) X.xe s
section
variable {X:Cx} {a b:Expr} {ta tb:TE} {pos:Pos}
theorem ax{r:R2}(hr:Pk X r)(ha:PE X a ta)(hb:PE X b tb)(hs:Fo b):PE X (.Subscript a b pos) (Mh r ta tb):=by
 intro pins s σ H Q I h;exact Subscript_ (Jj ha hb I h fun v u s2 x y H2 I2 rx ry q=>hr a b pins s2 σ H2 x y v u Q I2 rx ry q (hs _ _))
noncomputable def Jr(K:PySem.W.Frag):R2:=fun x y H Q=>∃p xs i v,x=.ref p/\y=.int i/\a_ K H p xs/\mU xs i=some v/\Q v H
noncomputable def Mw(K:PySem.W.Frag):R2:=fun x y H Q=>∃p xs i v,x=.ref p/\y=.int i/\cj K H p xs/\mU xs i=some v/\Q v H
theorem bB:Pk X (Jr X.K):=by
 intro value slice pins s σ H x y v u Q I rx ry h hs;obtain⟨p,xs,i,z,rfl,rfl,hq,he,q⟩:=h;cases rx;obtain⟨t,rfl⟩:=ry;obtain⟨aZ,r,pl,hz⟩:=I.list hq;obtain⟨j,h1,h2,h3,h4,h5⟩:=zc he;obtain⟨w,ew,QU⟩:=r.get h2;have hl:=r.length;have hn:=nZ;have fin:EP X pins σ Q w s:=⟨z,H,I,QU,q⟩;by_cases h0:0<=i
 ·have hj:i.toNat=j:=by
   rw[seqIndex_of h0 h5] at h1;exact Option.some.inj h1
  exact item_listR pl.isList h0 (by lia) (by rw[hj];simpa using ew) fin hs
 ·have hj:(i+(aZ.toArray.size:Int)).toNat=j:=by
   rw[seqIndex_neg (by lia) h4] at h1;rw[List.size_toArray,<-hl];exact Option.some.inj h1
  exact subscriptTail_builtinR (x:=w) pl.isList.typeIs slot_list_getitem.lookup
   (wpAny_getItem_list_neg (Q:=fun r s'=>r=w/\EP X pins σ Q r s') pl.isList (by lia) (by rw[List.size_toArray]<;>lia) (by lia) (by rw[hj];simpa using ew) ⟨rfl,fin⟩) hs
theorem ay:Pk X (Mw X.K):=by
 intro value slice pins s σ H x y v u Q I rx ry h hs;obtain⟨p,xs,i,z,rfl,rfl,hq,he,q⟩:=h;cases rx;obtain⟨t,rfl⟩:=ry;obtain⟨aZ,r,pl,hz⟩:=I.tuple hq;obtain⟨j,h1,h2,h3,h4,h5⟩:=zc he;obtain⟨w,ew,QU⟩:=r.get h2;have hl:=r.length;have hn:=nZ;have fin:EP X pins σ Q w s:=⟨z,H,I,QU,q⟩;exact subscriptTail_builtinR (x:=w) pl.typeIs slot_tuple_getitem.lookup
  (getItem_tuple (j:=j) (Q:=fun r s'=>r=w/\EP X pins σ Q r s') pl (by lia) (by lia) (by rw[List.size_toArray,<-hl];exact h1) (by simpa using ew) ⟨rfl,fin⟩) hs
theorem wW(aZ:List Value)(n j:Nat)(u:Value):Obj.mapSeq (·.setIfInBounds j u) {cls:=.type "list",data:=.seq aZ.toArray n}={cls:=.type "list",data:=.seq (aZ.set j u).toArray n}:=by
 simp[Obj.mapSeq]
theorem Inv.lst{pins:List (Addr×Obj)}{σ:St}{H:Hp}{s:Shared}{p:Addr}{xs:List V}(I:Inv X pins σ H s)(h:H p=some (.lst xs)):
 ∃(aZ:List Value)(n:Nat),Vals xs aZ/\s.heap.get? p=some {cls:=.type "list",data:=.seq aZ.toArray n}/\xs.length<=sizeLine:=by
 obtain⟨z,aZ,n,r,e⟩:=I.eV p _ h;exact⟨aZ,n,r,e,z⟩
theorem Inv.Js{pins:List (Addr×Obj)}{σ:St}{H:Hp}{s:Shared}{p:Addr}{xs ys:List V}{aZ its':List Value}{n n':Nat}{f:Obj->Obj}(I:Inv X pins σ H s)(h:H p=some (.lst xs))(ho:s.heap.get? p=some {cls:=.type "list",data:=.seq aZ.toArray n})(hf:f {cls:=.type "list",data:=.seq aZ.toArray n}={cls:=.type "list",data:=.seq its'.toArray n'})(r:Vals ys its')(hz:ys.length<=sizeLine)(t:Nat):
 Inv X pins σ (upd H p (.lst ys)) {s with heap:=s.heap.update p f,toks:=t}:=by
 have e:(s.heap.update p f).get? p=some {cls:=.type "list",data:=.seq its'.toArray n'}:=by
  rw[Heap.get?_update_self f ho (by rw[hf]<;>rfl),hf]
 refine I.write (x:=p) (e:=p) (by rw[h];trivial) (.inl rfl) (fun b u hb q=>(Heap.get?_update_other _ _ (Ne.symm hb)).trans q) ⟨_,e⟩ ?_;exact⟨hz,its',n',r,e⟩
noncomputable def Mx:V->V->V->Hp->(Hp->Prop)->Prop:=fun o i v H Q=>∃p xs k j,o=.ref p/\i=.int k/\H p=some (.lst xs)/\wV xs.length k=some j/\Q (upd H p (.lst (xs.set j v)))
theorem set_list:Mb X Mx:=by
 intro pins s σ H o i v ov iv u Q I ro ri rv h;obtain⟨p,xs,k,j,rfl,rfl,hp,hj,q⟩:=h;cases ro;obtain⟨t,rfl⟩:=ri;obtain⟨aZ,n,r,ho,hz⟩:=I.lst hp;obtain⟨h1,h2,h3,h4⟩:=zb hj;have hl:=r.length;have hn:=nZ;have I':Inv X pins σ (upd H p (.lst (xs.set j v))) {s with heap:=s.heap.update p (Obj.mapSeq (·.setIfInBounds j u))}:=
  I.Js hp ho (wW aZ n j u) (r.set rv j) (by rw[List.length_set];exact hz) s.toks
 by_cases h0:0<=k
 ·have hk:k.toNat=j:=by
   rw[seqIndex_of h0 h4] at h1;exact Option.some.inj h1
  exact PySem.W.ki_setAt ho h0 (by lia) (by rw[List.size_toArray,<-hl];exact h4) (by rw[hk];exact⟨_,I',q⟩)
 ·have hk:(k+(aZ.toArray.size:Int)).toNat=j:=by
   rw[seqIndex_neg (by lia) h3] at h1;rw[List.size_toArray,<-hl];exact Option.some.inj h1
  exact PySem.W.ki_setBack ho (by lia) (by rw[List.size_toArray,<-hl];exact h3) (by lia) (by rw[hk];exact⟨_,I',q⟩)
theorem rO(lo hi:Option Int)(n:Nat):(sliceBounds lo hi none n).1=((HT.ua n 0 lo:Nat):Int)/\(sliceBounds lo hi none n).2.1=((HT.ua n n hi:Nat):Int)/\(sliceBounds lo hi none n).2.2=1:=by
 refine⟨?_,?_,rfl⟩
 ·cases lo with
  |none=>simp[sliceBounds,HT.ua]
  |some i=>
   simp only[sliceBounds,HT.ua,Option.getD_none,show(1:Int)>0 by decide,if_true];by_cases h:i<0
   ·simp only[h,if_true]<;>lia
   ·simp only[h,if_false]<;>lia
 ·cases hi with
  |none=>simp[sliceBounds,HT.ua]
  |some i=>
   simp only[sliceBounds,HT.ua,Option.getD_none,show(1:Int)>0 by decide,if_true];by_cases h:i<0
   ·simp only[h,if_true]<;>lia
   ·simp only[h,if_false]<;>lia
theorem qc(aZ:List Value)(lo hi:Option Int):slicePick aZ.toArray lo hi none=((aZ.drop (HT.ua aZ.length 0 lo)).take (HT.ua aZ.length aZ.length hi-HT.ua aZ.length 0 lo)).toArray:=by
 obtain⟨h1,h2,h3⟩:=rO lo hi aZ.toArray.size;unfold slicePick;rw[h1,h2,h3];simp only[sliceRange_one,pick_run,List.size_toArray]<;>rfl
noncomputable def QV(K:PySem.W.Frag):V->Option Int->Option Int->Hp->VK->Prop:=fun x lo hi H Q=>∃a xs,x=.ref a/\a_ K H a xs/\∀p,H p=none->Q (.ref p) (upd H p (.lst (ip xs lo hi)))
theorem nI:Ui X (QV X.K):=by
 intro pins s σ H x v vl vu lo hi sl Q I rx hs pl pu h;obtain⟨a,xs,rfl,hx,q⟩:=h;cases rx;obtain⟨aZ,r,ht,hz⟩:=I.list hx;have hlen:=r.length;refine⟨"list",_,slot_list_getitem.lookup,ht.isList.typeIs,?_⟩;refine wpAny_getItem_list_slice ht.isList hs pl pu .none (by simp) ?_ (by rw[List.size_toArray]<;>lia);rw[qc,<-hlen];refine⟨.ref s.heap.objs.size,_,I.laid (t':=s.toks) (o:=.lst (ip xs lo hi)) (fun b ob q=>Heap.get?_push_of_some _ q) (Nat.le_refl _) ?_,rfl,q _ (I.eV.fresh (Nat.le_refl _))⟩;exact⟨Nat.le_trans (ur xs lo hi) hz,_,0,(r.drop (HT.ua xs.length 0 lo)).take (HT.ua xs.length xs.length hi-HT.ua xs.length 0 lo),Heap.get?_push_size _ rfl⟩
theorem aV:jm X (.builtin "len") (fun xs H Q=>∃p ys,xs=[.ref p]/\(a_ X.K H p ys\/cj X.K H p ys)/\Q (.int ys.length) H):=by
 intro pins s σ H xs us Q I r h;obtain⟨p,ys,rfl,hq,q⟩:=h;obtain⟨u,rfl,rx⟩:=vals1 r;cases rx
 have hn:=nZ;rcases hq with hq|hq
 ·obtain⟨aZ,r',pl,hz⟩:=I.list hq;have hlen:=r'.length;exact Calls.call_len_list pl.isList (by simp only[List.size_toArray]<;>lia) ⟨.int ys.length,H,I.tok _,⟨s.toks+1,by rw[List.size_toArray,hlen]⟩,q⟩
 ·obtain⟨aZ,r',pl,hz⟩:=I.tuple hq;have hlen:=r'.length;exact len_tuple pl (by simp only[List.size_toArray]<;>lia) ⟨.int ys.length,H,I.tok _,⟨s.toks+1,by rw[List.size_toArray,hlen]⟩,q⟩
theorem kQ:jm X (.type "list") (fun xs H Q=>∃p ys,xs=[.ref p]/\(a_ X.K H p ys\/cj X.K H p ys)/\∀l,H l=none->Q (.ref l) (upd H l (.lst ys))):=by
 intro pins s σ H xs us Q I r h;obtain⟨p,ys,rfl,hq,q⟩:=h;obtain⟨u,rfl,rx⟩:=vals1 r;cases rx;have fin:∀(aZ:List Value),Vals ys aZ->ys.length<=sizeLine->∀(h':Heap)(c':Nat),(∀b o',s.heap.get? b=some o'->h'.get? b=some o')->
  h'.get? s.heap.objs.size=some {cls:=.type "list",dict:=none,data:=.seq aZ.toArray c',slots:=#[]}->EP X pins σ Q (.ref s.heap.objs.size) {s with heap:=h'}:=fun aZ r' hz h' c' kp e=>
  ⟨.ref s.heap.objs.size,_,I.laid (t':=s.toks) kp (Nat.le_refl _) (show gk X.prog X.w _ h' _ (.lst ys) from⟨hz,aZ,c',r',e⟩),rfl,q _ (I.eV.fresh (Nat.le_refl _))⟩
 rcases hq with hq|hq
 ·obtain⟨aZ,r',pl,hz⟩:=I.list hq;have hlen:=r'.length;obtain⟨o,ho,hc,n,hd⟩:=pl.isList;exact call_list_seq p (.inl rfl) ho hc hd (fun h' c' kp e=>fin aZ r' hz h' c' kp e) (by simp only[List.size_toArray]<;>lia)
 ·obtain⟨aZ,r',pl,hz⟩:=I.tuple hq;have hlen:=r'.length;obtain⟨o,ho,hc,n,hd⟩:=pl;exact call_list_seq p (.inr rfl) ho hc hd (fun h' c' kp e=>fin aZ r' hz h' c' kp e) (by simp only[List.size_toArray]<;>lia)
noncomputable def QW(K:PySem.W.Frag)(T:String)(x:V)(H:Hp):Prop:=match x with
 |.str _=>T="str"
 |.int _=>T="int"
 |.ref p=>(T="list"/\∃xs,a_ K H p xs)\/(T="tuple"/\∃o,K.lookup p=some o/\o.cls=.type "tuple"/\o.dict=none)\/
  (T="dict"/\((∃jN,H p=some (.dK jN))\/∃jN,H p=some (.dT jN)))\/(T="set"/\∃S n,H p=some (.set S n))
 |_=>False
theorem Cj{pins:List (Addr×Obj)}{σ:St}{H:Hp}{s:Shared}{T:String}{x:V}{v:Value}(I:Inv X pins σ H s)(r:RelV x v)(ty:QW X.K T x H):
 s.TypeIs v T/\∀a,v=.ref a->∃ob,s.heap.get? a=some ob/\ob.dict=none:=by
 cases x with
 |str z=>
  obtain⟨t,rfl⟩:=r;cases (show T="str" from ty);exact⟨typeIs_str s z t,fun _ e=>nomatch e⟩
 |int i=>
  obtain⟨t,rfl⟩:=r;cases (show T="int" from ty);exact⟨typeIs_int s i t,fun _ e=>nomatch e⟩
 |ref p=>
  cases r
  rcases ty with⟨rfl,xs,hq⟩|⟨rfl,o,hk,hc,hd⟩|⟨rfl,hk⟩|⟨rfl,S,n,hk⟩
  ·obtain⟨aZ,_,pl,_⟩:=I.list hq;refine⟨pl.isList.typeIs,fun a e=>?_⟩;cases e;obtain⟨o,n,e,c,hd,_⟩:=pl;exact⟨o,e,hd⟩
  ·refine⟨⟨o,I.B8 p o hk,hc⟩,fun a e=>?_⟩;cases e;exact⟨o,I.B8 _ o hk,hd⟩
  ·have z:∃o,s.heap.get? p=some o/\o.ExactDict:=by
    rcases hk with⟨jN,hk⟩|⟨jN,hk⟩
    ·obtain⟨_,_,_,_,o,_,_,e,ex,_⟩:=I.eV p _ hk;exact⟨o,e,ex⟩
    ·obtain⟨_,_,_,_,o,_,_,e,ex,_⟩:=I.eV p _ hk;exact⟨o,e,ex⟩
   obtain⟨o,e,ex⟩:=z;refine⟨⟨o,e,ex.1⟩,fun a e2=>?_⟩;cases e2;exact⟨o,e,ex.2.1⟩
  ·obtain⟨o,_,_,_,e,ex,_⟩:=I.eV p _ hk;refine⟨⟨o,e,ex.1⟩,fun a e2=>?_⟩;cases e2;exact⟨o,e,ex.2.1⟩
 |_=>exact False.elim ty
noncomputable def QX(K:PySem.W.Frag)(T:String)(r:V->List V->Hp->VK->Prop)(to:TE):TE:=fun σ H Q=>to σ H fun x H1=>QW K T x H1/\r x [] H1 Q
noncomputable def Wq(K:PySem.W.Frag)(T:String)(r:V->List V->Hp->VK->Prop)(to:TE)(t:TA):TE:=fun σ H Q=>to σ H fun x H1=>QW K T x H1/\t σ H1 fun xs H2=>r x xs H2 Q
variable {o e:Expr} {es:List Expr} {to:TE} {t:TA} {name:Str} {apos rP:Pos} {T id:String} {r:V->List V->Hp->VK->Prop}
theorem wX(pa:PlainAttrs T)(slot:Slot T name id)(QY:typeOf (.builtin id)=pure (.type "method_descriptor"))(hm:Uk X id r)(ho:PE X o to)(Ck:attributeBase o name X.env (eval o X.env)=eval o X.env:=by rfl)(Cm:(apos.endLine==rP.line)=true:=by rfl):PE X (.Call (.Attribute o name apos) [] [] rP) (QX X.K T r to):=by
 intro pins s σ H Q I h;refine wpAny_Call_method0_late Ck Cm (dR (ho pins s σ H _ I h) fun v s1⟨x,H1,I1,r1,ty,q1⟩=>?_);obtain⟨h1,h2⟩:=Cj I1 r1 ty;exact⟨T,id,pa,slot,QY,h1,h2,Calls.callWith_builtin rfl (PySem.evalArgs_none (hm pins s1 σ H1 x [] v [] Q I1 r1 .nil q1))⟩
theorem kR(pa:PlainAttrs T)(slot:Slot T name id)(QY:typeOf (.builtin id)=pure (.type "method_descriptor"))(hm:Uk X id r)(ho:PE X o to)(ha:PA X (e::es) t)(Ck:attributeBase o name X.env (eval o X.env)=eval o X.env:=by rfl)(QZ:((backTo rP (starEach (e::es) X.env)).all (fun x=>!x.1)&&(backToKw rP (keywordEach [] X.env)).all (fun x=>x.1.isSome)
 &&decide ((e::es).length+([]:List Keyword).length+(if([]:List Keyword).isEmpty then 0 else 1)<30))=true:=by rfl)(Cm:(apos.endLine==rP.line)=true:=by rfl)(hs:starEach (e::es) X.env=(false,eval e X.env)::starEach es X.env:=by rfl)(Jt:(backTo rP (starEach es X.env)).any (·.1)=false:=by rfl):
 PE X (.Call (.Attribute o name apos) (e::es) [] rP) (Wq X.K T r to t):=by
 intro pins s σ H Q I h;refine wpAny_Call_method_late Ck QZ Cm rfl (dR (ho pins s σ H _ I h) fun v s1⟨x,H1,I1,r1,ty,q1⟩=>?_);obtain⟨h1,h2⟩:=Cj I1 r1 ty;refine⟨T,id,pa,slot,QY,h1,h2,?_⟩;have hA:=ha rP pins s1 σ H1 _ I1 q1;rw[hs] at hA ⊢;refine Calls.callWith_builtin (by show(false||(backTo rP (starEach es X.env)).any (·.1))=false;rw[Jt]<;>rfl) (Calls.evalArgs_plain ?_);exact dR hA fun us s2⟨vs,H2,I2,r2,q2⟩=>hm pins s2 σ H2 x vs v us Q I2 r1 r2 q2
end
end L2
namespace L2
open PySem PySem.Spec PyProof.Rows
noncomputable def Q0(X:Cx)(id:String)(r:V->List V->Hp->VK->Prop):Prop:=
 ∀(pins:List (Addr×Obj))(s:Shared)(σ:St)(H:Hp)(x:V)(xs:List V)(v:Value)(us:List Value)(Q:VK),Inv X pins σ H s->RelV x v->Vals xs us->r x xs H Q->
  wpAny (model X.prog X.w) X.A (call (.builtin id) (v::us)) (EP X pins σ Q) X.xe s
theorem Vals.one:∀{x:V}{us:List Value},Vals [x] us->∃u,us=[u]/\RelV x u
 |_,_,.cons r .nil=>⟨_,rfl,r⟩
theorem Vals.zero:∀{us:List Value},Vals [] us->us=[]
 |_,.nil=>rfl
theorem Vals.dropLast{xs:List V}{us:List Value}(h:Vals xs us):Vals xs.dropLast us.dropLast:=by
 induction h with
 |nil=>exact .nil
 |cons r t ih=>
  cases t with
  |nil=>exact .nil
  |cons q t'=>exact .cons r ih
theorem Vals.rep{xs:List V}{us:List Value}(h:Vals xs us):∀k:Nat,Vals (List.replicate k xs).flatten (List.replicate k us).flatten
 |0=>.nil
 |k+1=>by
  rw[List.replicate_succ,List.replicate_succ,List.flatten_cons,List.flatten_cons];exact Vals.append h (Vals.rep h k)
theorem wY{α:Type}(l:List α):l.eraseIdx (l.length-1)=l.dropLast:=by
 induction l with
 |nil=>rfl
 |cons a r ih=>
  cases r with
  |nil=>rfl
  |cons b r=>
   have e:(a::b::r).length-1=((b::r).length-1)+1:=by
    have h1:(a::b::r).length=r.length+2:=rfl;have h2:(b::r).length=r.length+1:=rfl;lia
   rw[e,List.eraseIdx_cons_succ,ih]
   all_goals rfl
theorem foldl_rep(aZ:List Value):∀(k:Nat)(acc:List Value),
 List.foldl (fun x1 x2=>x1++x2) acc.toArray (List.replicate k aZ.toArray)=(acc++(List.replicate k aZ).flatten).toArray
 |0,acc=>by simp
 |k+1,acc=>by
  have e:acc.toArray++aZ.toArray=(acc++aZ).toArray:=by simp
  have e2:(acc++aZ)++(List.replicate k aZ).flatten=acc++(List.replicate (k+1) aZ).flatten:=by
   rw[List.replicate_succ,List.flatten_cons,List.append_assoc]
  rw[<-e2,<-foldl_rep aZ k (acc++aZ),<-e,List.replicate_succ,List.foldl_cons]
section
variable {X:Cx} {pins:List (Addr×Obj)} {σ:St} {H:Hp} {s:Shared} {l b:Addr} {xs ys zs:List V}
theorem Inv.My{aZ its':List Value}{n:Nat}{f:Array Value->Array Value}{t':Nat}(I:Inv X pins σ H s)(hH:H l=some (.lst xs))(e:s.heap.get? l=some {cls:=.type "list",data:=.seq aZ.toArray n})(hf:f aZ.toArray=its'.toArray)(hv:Vals ys its')(hz:ys.length<=sizeLine):
 Inv X pins σ (upd H l (.lst ys)) {s with heap:=s.heap.update l (Obj.mapSeq f),toks:=t'}:=by
 have q:=PySem.IsL.update e f;rw[hf] at q;refine I.write (x:=l) (e:=l) (by rw[hH];exact trivial) (.inl rfl) (fun b' u hb hu=>(Heap.get?_update_other s.heap (Obj.mapSeq f) (Ne.symm hb)).trans hu) ⟨_,q⟩ ?_;exact⟨hz,its',_,hv,q⟩
theorem Inv.Ju{aZ:List Value}{t':Nat}(I:Inv X pins σ H s)(hv:Vals ys aZ)(hz:ys.length<=sizeLine):
 Inv X pins σ (upd H s.heap.objs.size (.lst ys)) {s with heap:=s.heap.push {cls:=.type "list",data:=.seq aZ.toArray},toks:=t'}:=
 I.laid (fun _ _ q=>Heap.get?_push_of_some _ q) (Nat.le_refl _) ⟨hz,aZ,0,hv,Heap.get?_push_size _ rfl⟩
theorem Inv.fresh(I:Inv X pins σ H s):H s.heap.objs.size=none:=I.eV.fresh (Nat.le_refl _)
theorem Inv.Jv(I:Inv X pins σ H s)(hH:H l=some (.lst xs)):xs.length<=sizeLine/\∃(aZ:List Value)(n:Nat),Vals xs aZ/\xs.length=aZ.length/\s.heap.get? l=some {cls:=.type "list",data:=.seq aZ.toArray n}:=by
 obtain⟨z,aZ,n,r,e⟩:=I.eV l _ hH;exact⟨z,aZ,n,r,r.length,e⟩
theorem Cn{n:Nat}(h:n<=sizeLine):Builtin.List.listTooLong n=false:=by
 unfold Builtin.List.listTooLong;exact decide_eq_false (by lia)
end
section
variable {X:Cx}
noncomputable def Fp:V->List V->Hp->VK->Prop:=fun x vs H Q=>∃l xs y,x=.ref l/\vs=[y]/\H l=some (.lst xs)/\xs.length<sizeLine/\Q .fB (upd H l (.lst (xs++[y])))
theorem eQ:Q0 X "list.append" Fp:=by
 intro pins s σ H x vs v us Q I rx rv h;obtain⟨l,xs,y,rfl,rfl,hH,hz,q⟩:=h;cases rx;obtain⟨u,rfl,ru⟩:=rv.one;obtain⟨z,aZ,n,r,hl,e⟩:=I.Jv hH;refine call_meets F.slot_list_append ⟨_,e,rfl⟩ F.entry_list_append (F.args_list_append_2 _ _) (PySem.list_append l aZ.toArray n u (by rw[List.size_toArray];lia)) ⟨e,?_⟩;refine⟨.fB,_,I.My (its':=aZ++[u]) hH e (by simp) (r.append (.cons ru .nil)) ?_,rfl,q⟩;rw[List.length_append,List.length_singleton];lia
noncomputable def Q1:V->List V->Hp->VK->Prop:=fun x vs H Q=>∃l xs y,x=.ref l/\vs=[]/\H l=some (.lst xs)/\xs[xs.length-1]?=some y/\Q y (upd H l (.lst xs.dropLast))
theorem wZ:Q0 X "list.pop" Q1:=by
 intro pins s σ H x vs v us Q I rx rv h;obtain⟨l,xs,y,rfl,rfl,hH,hy,q⟩:=h;cases rx;have Wr:=rv.zero;subst Wr;obtain⟨z,aZ,n,r,hl,e⟩:=I.Jv hH;obtain⟨u,hu,ru⟩:=r.get hy;have Ws:aZ.toArray[aZ.toArray.size-1]?=some u:=by
  show aZ.toArray[aZ.length-1]?=some u;rw[<-Array.getElem?_toList,<-hl];exact hu
 refine call_meets F.slot_list_pop ⟨_,e,rfl⟩ F.entry_list_pop (F.args_list_pop_1 _) (MeetsSeq.list_pop_last l aZ.toArray n u Ws (by rw[List.size_toArray];lia)) ⟨e,?_⟩;refine⟨y,_,I.My (its':=aZ.dropLast) hH e ?_ r.dropLast ?_,ru,q⟩
 ·show aZ.toArray.eraseIdxIfInBounds (aZ.toArray.size-1)=aZ.dropLast.toArray;rw[List.size_toArray,List.eraseIdxIfInBounds_toArray,wY]
 ·rw[List.length_dropLast];lia
noncomputable def Q2:R2:=fun x y H Q=>∃l k xs,x=.ref l/\y=.int k/\H l=some (.lst xs)/\-(2^63)<=k/\k<2^63/\xs.length*k.toNat<=sizeLine/\
 ∀p,H p=none->Q (.ref p) (upd H p (.lst (List.replicate k.toNat xs).flatten))
theorem len_rep{α:Type}(xs:List α)(k:Nat):(List.replicate k xs).flatten.length=k*xs.length:=by
 induction k with
 |zero=>simp
 |succ k ih=>rw[List.replicate_succ,List.flatten_cons,List.length_append,ih,Nat.succ_mul,Nat.add_comm]
theorem Jw:nX X (binaryOp .Mult) Q2:=by
 intro pins s σ H x y v u Q I rx ry h;obtain⟨l,k,xs,rfl,rfl,hH,h1,h2,hz,q⟩:=h;cases rx;obtain⟨t,rfl⟩:=ry;obtain⟨z,aZ,n,r,hl,e⟩:=I.Jv hH;have hlen:aZ.toArray.size*k.toNat<=sizeLine:=by rw[List.size_toArray,<-hl];exact hz
 have Q3:¬aZ.toArray.size*k.toNat>(2^63-1)/8:=by
  have:(sizeLine:Nat)<=(2^63-1)/8:=by decide
  lia
 have Q5:¬(!Builtin.List.listFitsIndex k)=true:=by
  rw[fitsIndex_both h1 h2];exact Bool.false_ne_true
 have Mz:¬Builtin.List.listTooLong (aZ.toArray.size*k.toNat)=true:=by
  rw[Cn hlen];exact Bool.false_ne_true
 have Q6:List.foldl (fun x1 x2=>x1++x2) #[] (List.replicate (if aZ.toArray.isEmpty=true then 0 else k.toNat) aZ.toArray)=(List.replicate k.toNat aZ).flatten.toArray:=by
  have f0:∀m:Nat,List.foldl (fun x1 x2=>x1++x2) #[] (List.replicate m aZ.toArray)=(List.replicate m aZ).flatten.toArray:=fun m=>by
   have:=foldl_rep aZ m [];rw[List.nil_append] at this;exact this
  rw[f0];cases aZ with
  |nil=>simp
  |cons a r'=>rw[if_neg (by simp)]
 refine wpAny_binaryOp_repeat_ref (T:="list") (U:="int") (by decide) ⟨_,e,rfl⟩ (fun s'=>typeIs_int s' k t) noFill_list_mul F.fills_int_mul F.slot_int_rmul repeat_list F.slot_int_index.lookup
  (call_meets F.slot_int_rmul (typeIs_int s k t) F.entry_int_rmul (F.args_int_rmul_2 _ _) (int___rmul___int_list k t l aZ.toArray n)
   ⟨e,rfl,⟨_,e,rfl⟩,call_meets F.slot_list_mul ⟨_,e,rfl⟩ F.entry_list_mul (F.args_list_mul_2 _ _) (AutoListH.list___mul___list_int_3 l aZ.toArray n k t Q5 Q3 Mz) ⟨e,?_⟩⟩)
 rw[Q6];exact⟨.ref _,_,I.Ju (t':=s.toks) (r.rep k.toNat) (by rw[len_rep,Nat.mul_comm];exact hz),rfl,q _ I.fresh⟩
end
section
variable {prog:Program} {w:World} {A:Around} {E:Value->Shared->Prop} {s:Shared}
end
section
variable {X:Cx}
end
end L2
namespace Ul
open PySem PySem.W PySem.Calls PyProof.Rows
theorem nt{P:Params}{h:Heap}:∀(ns:List Int)(vs:List Value),WellAll P h vs (ns.map WData.int)->IntsAre vs ns:=by
 intro ns
 induction ns with
 |nil=>
  intro vs w;rw[List.map_nil] at w;cases w;exact .nil
 |cons n ns ih=>
  intro vs w;rw[List.map_cons] at w;cases w with
  |cons a b=>
   cases a;exact .cons _ _ (ih _ b)
theorem AL{l:OpenLaw}{n:Nat}(hn:l.most=some n){P:Params}{h:Heap}{args:List WData}{vals:List Value}(AM:l.row.toRowW.claim.pre args=true)(Q7:WellAll P h vals args):
 ∃a vs ns,vals=[Value.ref a]/\args=[WData.list (ns.map WData.int)]/\h.get? a=some {cls:=.type "list",data:=.seq vs.toArray}/\IntsAre vs ns/\ns.length<=n:=by
 have Pl:WShape.hasAll [] args [.list .int]=true:=(pre_splitW AM).1;have hc:l.pre.holds [] {args:=args}=true:=(pre_splitW AM).2;obtain⟨d,r,rfl,h1,h2⟩:=hasAllW_cons Pl;obtain rfl:=hasAllW_nil h2;obtain⟨xs,rfl,h3⟩:=hasW_list h1;obtain⟨ns,rfl⟩:=items_int h3;have hlen:ns.length<=n:=by
  unfold OpenLaw.pre at hc;have h4:(WTm.not (.lt (.lit (.int (n:Int))) (.len (.arg 0)))).holds [] {args:=[.list (ns.map .int)]}=true:=by
   have h4:=(holds_andW hc).1;rw[hn] at h4;exact h4
  have h5:=condW_of h4 (w_not (w_lt w_lit (w_len_list (w_arg rfl))));rw[List.length_map] at h5;refine Nat.le_of_not_lt fun q=>?_;have q':(n:Int)<((ns.length:Nat):Int):=by lia
  first
   |(rw[decide_eq_true q'] at h5;exact absurd h5 (by decide))
   |(simp at h5;lia)
 cases Q7 with
 |cons w1 w2=>
  cases w2
  cases w1 with
  |list ho n_=>exact⟨_,_,ns,rfl,rfl,ho,nt ns _ n_,hlen⟩
theorem AN(l:OpenLaw)(args:List WData):l.row.toRowW.claim.post args (.bool true) args=true:=
 postW_of (r:=l.row.toRowW) (X:=(true==true))
  (show WShape.has [] (.bool true) .bool=true by first|rfl|decide|simp[WShape.has,WShape.arms,WShape.armsAll])
  (show(WTm.eq .res (.lit (.bool true))).value [] {args:=args,res:=some (.bool true),after:=args}=some (.bool (true==true)) from w_eq_bool (w_res rfl) w_lit) rfl
theorem uv{l:OpenLaw}{n:Nat}{q:Program}{loose:List Str}{XP:(Str->Option Value)->Heap->Prop}{YP:World->Heap->Prop}{d:DefRec}(hn:l.most=some n)(MA:d.params.defaults=[])(call:∀(w:World)(gn cN:Shared)(mg mb:Str->Option Value)(fa:Addr)(o:Obj)(pm cd doc:Value)(a:Addr)(vs:List Value)(ns:List Int),
 Ground q loose [] XP w gn mg mb cN.heap->YP w cN.heap->
 cN.heap.get? fa=some o->o.data=.func (docDef d.name d.params d.body d.scope pm cd doc)->cN.heap.CodeRec cd d.name->mg d.name=some (.ref fa)->
 cN.heap.get? a=some {cls:=.type "list",data:=.seq vs.toArray}->IntsAre vs ns->ns.length<=n->cN.gens=#[]->
 codeAny (model l.prog w) callerA (.call (.ref fa) ⟨[.ref a],[]⟩) (fun r s'=>r=.ok (.ret (.bool true))/\OldK cN.heap s'.heap/\s'.os=cN.os/\AllBare s'.gens) cN):
 WalkO q loose XP YP l.row.toRowW d [] (fun f vs=>PySem.call f vs):=by
 intro w gn cN mg mb G Y fa o pm cd doc dV kV ho hd wA hD MB hg args vals as AM Wt ZD Q7 Co;obtain rfl:dV=.none:=Dflts.none hD MA;obtain rfl:kV=.none:=Dflts.noKw hD;obtain⟨a,vs,ns,rfl,rfl,Jx,hints,hlen⟩:=AL hn AM Q7;refine enter_call (codeAny_mono (call w gn cN mg mb fa o pm cd doc a vs ns G Y ho (fd_plain hd) wA MB Jx hints hlen hg) fun r s' hq=>?_);obtain⟨rfl,h2,h3,h4⟩:=hq;exact⟨.inl ⟨.bool true,.bool true,[],rfl,fun _=>rfl,.bool true,AN l _,fun _=>⟨List.Pairwise.nil,fun _ hm=>(nomatch hm)⟩⟩,h2,h3,h4⟩
section
variable {prog:Program} {w:World} {A:Around} {E:Value->Shared->Prop} {s:Shared} {K:Frag}
end
end Ul
namespace L2
open PySem PySem.Spec PyProof.Rows
theorem qL:∀{vs:List Value}{ns:List Int},IntsAre vs ns->Vals (ns.map V.int) vs
 |_,_,.nil=>.nil
 |_,_,.cons n t h=>.cons ⟨t,rfl⟩ (qL h)
noncomputable def Jy(H:Hp):Prop:=∀b,H b=none\/∃o xs,H b=some (.BW o (.lst xs))
theorem Cp{P:Program}{w:World}{K:PySem.W.Frag}{mg mb:Str->Option Value}{CX:AJ}{k:Nat}{fa a:Addr}{fd:FuncData}{x:Str}{sp:Sp}{cN:Shared}{vs:List Value}{ns:List Int}(KX:K.In cN.heap)(EV:cN.heap.Ns mainGlobals mg)(hb:cN.heap.Ns builtinsNs mb)(Pm:∀x:Str,x≠"__name__"->mb x=bootBuiltins x)(Q8:cN.heap.NoLimit)(zd:cN.heap.NoSeer)(hg:cN.gens=#[])(ha:cN.heap.get? a=some {cls:=.type "list",data:=.seq vs.toArray})(hi:IntsAre vs ns)(hl:ns.length<=sizeLine)(hr:fP k callerA)(F:∀base:Heap,K.In base->base.Ns mainGlobals mg->g7 P w K mg base CX k fa fd [x] sp)(MC:∀(s:Shared)(u:Value),BindsTo s fd ⟨[u],[]⟩ [(x,u)])(y9:∀H:Hp,Jy H->a_ K H a (ns.map V.int)->sp [.ref a] H (fun v _=>v=.bl true) fun _ _ _=>False)(Q9:∀H e s',CX [] H cN (fun _ _ _=>False) e s'->False):
 codeAny (model P w) callerA (.call (.ref fa) ⟨[.ref a],[]⟩) (fun r s'=>r=.ok (.ret (.bool true))/\OldK cN.heap s'.heap/\s'.os=cN.os/\AllBare s'.gens) cN:=by
 have rv:=qL hi;have Q_:=hi.length;have core:∀H:Hp,Jy H->a_ K H a (ns.map V.int)->nk P w H cN.heap->(∀b,H b≠none->b=a)->(H a≠none->K.lookup a=none)->
  codeAny (model P w) callerA (.call (.ref fa) ⟨[.ref a],[]⟩) (fun r s'=>r=.ok (.ret (.bool true))/\OldK cN.heap s'.heap/\s'.os=cN.os/\AllBare s'.gens) cN:=by
  intro H hO hS eV hA hK;have rQ:∀{b:Addr}{o:Obj},cN.heap.get? b=some o->H b=none->(rH cN.heap H).get? b=some o:=fun e n=>B5 e n;have Mu:∀{b:Addr}{o:Obj}{es:Array DictEntry}{ep:Nat},cN.heap.get? b=some o->o.data=.dict es ep->H b=none:=fun{b o es ep} e d=>by
   cases q:H b with
   |none=>rfl
   |some u=>
    have e':b=a:=hA b (by rw[q];simp);subst e';rw[ha] at e;cases e;have d':Data.seq vs.toArray _=Data.dict es ep:=d;cases d'
  have HB:∀{b:Addr}{m:Str->Option Value},cN.heap.Ns b m->(rH cN.heap H).Ns b m:=fun{b m}⟨o,es,ep,e,d,r⟩=>⟨o,es,ep,rQ e (Mu e d),d,r⟩;have Um:K.In (rH cN.heap H):=fun b o e=>rQ (KX b o e) (by
   cases q:H b with
   |none=>rfl
   |some u=>
    have e':b=a:=hA b (by rw[q];simp)
    subst e'
    rw[hK (by rw[q];simp)] at e;cases e);have hM:Mod K mg (rH cN.heap H):=⟨Um,HB EV,⟨mb,HB hb,Pm⟩,(let⟨mc,h1,h2⟩:=Q8;⟨mc,HB h1,h2⟩),(let⟨mc,h1,h2⟩:=zd.statics;⟨mc,HB h1,h2⟩),(let⟨mc,h1,h2⟩:=zd.mods;⟨mc,HB h1,h2⟩),(let⟨mc,h1,h2⟩:=zd.imp;⟨mc,HB h1,h2⟩),
   (let⟨g,bm,ob,h1,h2,h3,h4,h5⟩:=zd.main;⟨g,bm,ob,HB h1,h2,rQ h3 (by
     cases q:H bm with
     |none=>rfl
     |some u=>
      have e':bm=a:=hA bm (by rw[q];simp)
      subst e'
      rw[ha] at h3;cases h3;exact absurd (Value.type.inj h4) (by decide)),h4,h5⟩)⟩;have e0:wR P w K mg (rH cN.heap H) callerA [] cN H:=⟨rfl,hM,fun b o e=>E_ e,Nat.le_of_eq (AA _ _),trivial,fun b hb=>absurd (show b∈([]:List Addr) from hb) (by simp),eV,.of_eq hg⟩;refine codeAny_mono ((F _ Um (HB EV)).run callerA [] cN H ⟨[.ref a],[]⟩ [.ref a] [.ref a] _ _ hr e0 (MC cN (.ref a)) (.cons rfl .nil) (y9 H hO hS)) fun r s' h=>?_;cases r with
  |error e=>exact(Q9 H e s' h).elim
  |ok fl=>
   cases fl with
   |next=>exact False.elim h
   |brk=>exact False.elim h
   |cont=>exact False.elim h
   |ret u=>
    obtain⟨v,H',os,bare,un,Ra,r',q⟩:=h;have q':v=.bl true:=q;subst q';obtain rfl:u=Value.bool true:=r';refine⟨rfl,OldK.of_keep fun b o e=>?_,os,bare⟩;cases q:H b with
    |none=>exact un.keep b o e q (by intro z;exact absurd (show b∈([]:List Addr) from z) (by simp)) (by simp)
    |some u=>
     rcases hO b with z|⟨ob,xs,z⟩
     ·rw[q] at z;cases z
     ·have z2:=un.rG b ob _ z;obtain⟨e1,_⟩:=eV b _ z;obtain⟨e2,_⟩:=Ra b _ z2;rw[e] at e1;cases e1;exact e2
 cases hk:K.lookup a with
 |some o=>
  have e:=KX a o hk;rw[ha] at e;cases e;refine core (fun _=>none) (fun _=>.inl rfl) (.inr ⟨_,vs.toArray,_,hk,rfl,rfl,rfl,by rw[List.size_toArray,Q_];exact hl,by simpa using rv⟩) (fun b u z=>by have z':(none:Option HO)=some u:=z;cases z') (fun b z=>absurd rfl z) fun z=>absurd rfl z
 |none=>
  refine core (fun b=>if b=a then some (.BW {cls:=.type "list",data:=.seq vs.toArray} (.lst (ns.map V.int))) else none) (fun b=>?_) (.inl (.inr ⟨{cls:=.type "list",data:=.seq vs.toArray},if_pos rfl⟩)) (fun b u z=>?_) (fun b z=>?_) fun _=>hk
  ·by_cases hb:b=a
   ·exact .inr ⟨_,_,if_pos hb⟩
   ·exact .inl (if_neg hb)
  ·by_cases hb:b=a
   ·have z':=(if_pos hb).symm.trans z;cases z';subst hb;exact⟨ha,by rw[List.length_map];exact hl,vs,_,rv,ha⟩
   ·have z':=(if_neg hb).symm.trans z;cases z'
  ·by_cases hb:b=a
   ·exact hb
   ·exact absurd (if_neg hb) z
end L2
namespace L2
open PySem PySem.Spec PyProof.Rows
noncomputable abbrev ZE{K:PySem.W.Frag}{h:Heap}(_:K.In h):PySem.W.Frag:=K
theorem Fq{l:PySem.W.OpenLaw}{n k:Nat}{q:Program}{loose:List Str}{XP:(Str->Option Value)->Heap->Prop}{YP:World->Heap->Prop}{d:DefRec}{K:Params->PySem.W.Frag}{CX:World->AJ}{sp:World->Sp}{x:Str}(hn:l.most=some n)(Jn:n<=sizeLine)(MA:d.params.defaults=[])(hr:fP k callerA)(hY:∀(w:World)(h:Heap),YP w h->(K w.params).In h)(F:∀(w:World)(mg:Str->Option Value)(fa:Addr)(h:Heap),(K w.params).In h->h.Ns mainGlobals mg->mg d.name=some (.ref fa)->
 ∃fd:FuncData,(∀(s:Shared)(u:Value),BindsTo s fd ⟨[u],[]⟩ [(x,u)])/\
  ∀base:Heap,(K w.params).In base->base.Ns mainGlobals mg->g7 l.prog w (K w.params) mg base (CX w) k fa fd [x] (sp w))(y9:∀(w:World)(H:Hp)(a:Addr)(ns:List Int),ns.length<=n->Jy H->a_ (K w.params) H a (ns.map V.int)->sp w [.ref a] H (fun v _=>v=.bl true) fun _ _ _=>False)(Q9:∀(w:World)(H:Hp)(s:Shared)(e:Value)(s':Shared),CX w [] H s (fun _ _ _=>False) e s'->False)(hi:importsNone q=true):
 PySem.W.WalkO q loose XP YP l.row.toRowW d [] (fun f vs=>PySem.call f vs):=by
 refine Ul.uv hn MA fun w gn cN mg mb fa o pm cd doc a vs ns G Y ho hd wA MB Jx hints hlen hg=>?_;have KX:=hY w _ Y;obtain⟨fd,hb,hF⟩:=F w mg fa _ KX G.T.g MB;exact Cp KX G.T.g G.T.b G.T.builtins G.T.nolimit (G.T.seer hi) hg Jx hints (Nat.le_trans hlen Jn) hr hF hb (fun H hO hS=>y9 w H a ns hlen hO hS) fun H e s'=>Q9 w H cN e s'
end L2
namespace L2
open PySem PySem.Spec PyProof.Rows
noncomputable def inClass(s:Stmt)(j:Nat):Stmt:=match s with
 |.ClassDef _ _ _ body _ _ _ _ _ _ _=>body.getD j (.Pass ⟨0,0,0,0⟩)
 |_=>.Pass ⟨0,0,0,0⟩
noncomputable def fY(s:Stmt):Arguments:=match s with
 |.FunctionDef _ a _ _ _ _ _ _ _ _=>a
 |_=>{posonlyargs:=[],args:=[],vararg:=none,kwonlyargs:=[],kw_defaults:=[],kwarg:=none,defaults:=[]}
noncomputable def e_(s:Stmt):List Stmt:=match s with
 |.FunctionDef _ _ b _ _ _ _ _ _ _=>b
 |_=>[]
noncomputable def ar(s:Stmt):Scope:=match s with
 |.FunctionDef _ _ _ _ _ _ sc _ _ _=>sc
 |_=>{kind:=.function,names:=[],isGenerator:=false,isCoroutine:=false}
noncomputable abbrev BX:AJ:=fun _ _ _ _ _ _=>False
noncomputable abbrev E0:XK:=fun _ _ _=>False
theorem Cq{X:Cx}:Passes BX X E0:=fun _ _ _ _ _ _ _ h=>h.elim
structure Fs(K:PySem.W.Frag)(x qual:Str)(st:Stmt)(f:Addr)(fd:FuncData):Prop where
 ex:∃(oc:Value)(od:Option Addr)(kV doc pm:Value)(an:Option Addr)(cQ ct:Value)(y8:Array (Option Value)),
  fd=PySem.W.fnOf x qual (fY st) (e_ st) (ar st) .none kV doc pm an cQ ct/\K.lookup f=some ⟨oc,od,.func fd,y8⟩/\PySem.W.codeIn K cQ qual=true
 kp:PySem.W.keepIn K (.ref f)=true
section
variable {P:Program} {w:World} {K:PySem.W.Frag} {mg:Str->Option Value} {base:Heap}
theorem Fs.ok{x qual:Str}{st:Stmt}{f:Addr}{fd:FuncData}{N ps:List Str}{k:Nat}{sp:Sp}(F:Fs K x qual st f fd)(S:aH N ps (ar st))(len:∀vs H Q E,sp vs H Q E->vs.length=ps.length)(uq:∀(cQ:Value)(A:Around)(outer:List Env)(s:Shared)(H:Hp)(vs:List V)(Q:VK)(E:XK),fP k (A.deeper (envOfC qual (ar st) s.heap.objs.size f cQ))->sp vs H Q E->
 ∃t,wz (wU BX P w K mg base N qual (ar st) f cQ A outer s H E).Lo (e_ st) t/\t {nx:=fun _ H'=>Q .fB H',rt:=Q} (start N vs) H):g7 P w K mg base BX (k+1) f fd ps sp:=by
 obtain⟨oc,od,kV,doc,pm,an,cQ,ct,y8,rfl,lk,wA⟩:=F.ex;refine Hz lk wA S len fun A outer s H vs Q E hr y9=>?_;obtain⟨t,h,q⟩:=uq cQ A outer s H vs Q E hr y9;exact⟨t,h.Lo,q⟩
theorem Fs.binds{x qual:Str}{st:Stmt}{f:Addr}{fd:FuncData}{ps:List Str}(F:Fs K x qual st f fd)(h:∀(kV doc pm:Value)(an:Option Addr)(cQ ct:Value)(us:List Value),us.length=ps.length->bindArgs (PySem.W.fnOf x qual (fY st) (e_ st) (ar st) .none kV doc pm an cQ ct) ⟨us,[]⟩=pure (ps.zip us)):Binds K fd ps []:=by
 obtain⟨oc,od,kV,doc,pm,an,cQ,ct,y8,rfl,lk,wA⟩:=F.ex;exact .all (h kV doc pm an cQ ct)
theorem Cr{x qual:Str}{st:Stmt}{f:Addr}{oc:Value}{od an:Option Addr}{y8:Array (Option Value)}{kV doc pm cQ ct:Value}(l:K.lookup f=some ⟨oc,od,.func (PySem.W.fnOf x qual (fY st) (e_ st) (ar st) .none kV doc pm an cQ ct),y8⟩)(c:PySem.W.codeIn K cQ qual=true)(k:PySem.W.keepIn K (.ref f)=true):Fs K x qual st f (PySem.W.fnOf x qual (fY st) (e_ st) (ar st) .none kV doc pm an cQ ct):=⟨⟨oc,od,kV,doc,pm,an,cQ,ct,y8,rfl,l,c⟩,k⟩
end
theorem AO{n:Nat}(h:n<=1000):n<sizeLine:=Nat.lt_of_le_of_lt h (by decide)
section
variable {X:Cx}
theorem pv(i:Nat){x:Str}{pos:Pos}(hN:X.N[i]?=some x:=by rfl)(hv:Qy X.env.scope x:=by first|exact Or.inl rfl|exact Or.inr (Or.inl rfl)|exact Or.inr (Or.inr rfl))(hd:(x==("__debug__":Str))=false:=by decide)(wA:(x==("__classdict__":Str))=false:=by decide):PE X (.Name x pos) (Fe i):=Je hN hv hd wA
end
theorem w8{A B:Prop}(h:B):if false=true then A else B:=by
 rw[if_neg Bool.false_ne_true];exact h
theorem uw{A B:Prop}(h:A):if true=true then A else B:=by
 rw[if_pos rfl];exact h
theorem cZ{c A B:Prop}[Decidable c](h1:c->A)(h2:¬c->B):if c then A else B:=by
 by_cases h:c
 ·rw[if_pos h];exact h1 h
 ·rw[if_neg h];exact h2 h
theorem ux{c A B:Prop}[Decidable c](hc:c)(h:B):if(!decide c)=true then A else B:=by
 rw[decide_eq_true hc];exact w8 h
noncomputable def au(H H':Hp):Prop:=∀b o,H b=some o->H' b=some o
theorem au.refl(H:Hp):au H H:=fun _ _ h=>h
theorem au.trans{H H1 H2:Hp}(a:au H H1)(b:au H1 H2):au H H2:=fun c o h=>b c o (a c o h)
theorem au.free{H H':Hp}(e:au H H'){l:Addr}(h:H' l=Option.none):H l=Option.none:=by
 cases q:H l with
 |none=>rfl
 |some o=>
  rw[e l o q] at h;cases h
theorem au.seq{K:PySem.W.Frag}{H H':Hp}{a:Addr}{xs:List V}(e:au H H')(h:a_ K H a xs):a_ K H' a xs:=by
 rcases h with(h|⟨o,h⟩)|h
 ·exact .inl (.inl (e _ _ h))
 ·exact .inl (.inr ⟨o,e _ _ h⟩)
 ·exact .inr h
end L2
set_option maxHeartbeats 4000000
namespace L2
open PySem PySem.Spec PyProof.Rows
section
variable {X:Cx} {a b c:Expr} {ta tb tc:TE} {pos:Pos}
theorem aq:nX X (binaryOp .Mult) (rI (fun i j=>IntMulOk i j) fun i j=>.int (i*j)):=
 Ph fun _ _ _ _ _ _ _ hc q=>mul_int q hc
theorem dS:nX X (binaryOp .FloorDiv) (rI (fun _ j=>j≠0/\j.natAbs.log2<9000) fun i j=>.int (i.fdiv j)):=
 Ph fun _ _ _ _ _ _ _ hc q=>floordiv_int hc.1 q (.inl (PyProof.noPylong_of_log2 hc.2))
noncomputable def Rb(K:PySem.W.Frag):R2:=fun x y H Q=>∃(p q:Addr)(xs ys:List Int),x=.ref p/\y=.ref q/\a_ K H p (xs.map V.int)/\a_ K H q (ys.map V.int)/\Q (.bl (decide (xs=ys))) H
theorem int_at{xs:List Int}{aZ:List Value}(r:Vals (xs.map V.int) aZ){j:Nat}(h:j<xs.length)(h':j<aZ.length):∃t,aZ[j]=Value.int xs[j] t:=by
 have e:(xs.map V.int)[j]?=some (V.int xs[j]):=by rw[List.getElem?_map,List.getElem?_eq_getElem h]<;>rfl
 obtain⟨u,hu,t,rfl⟩:=r.get e;rw[List.getElem?_eq_getElem h'] at hu;exact⟨t,Option.some.inj hu⟩
theorem Jz(xs ys:List Int)(hl:xs.length=ys.length):((List.range xs.length).all fun j=>xs.getD j 0==ys.getD j 0)=decide (xs=ys):=by
 rw[Bool.eq_iff_iff,List.all_eq_true,decide_eq_true_eq];constructor
 ·intro h;refine List.ext_getElem hl fun j h1 h2=>?_;have:=h j (List.mem_range.mpr h1);rw[beq_iff_eq,List.getD_eq_getElem?_getD,List.getD_eq_getElem?_getD,List.getElem?_eq_getElem h1,List.getElem?_eq_getElem h2] at this;exact this
 ·rintro rfl j _;exact beq_self_eq_true _
theorem JA(hu:X.A.units<cLine):nX X (compareOp .Eq) (Rb X.K):=by
 intro pins s σ H x y v u Q I rx ry h;obtain⟨p,q,xs,ys,rfl,rfl,hp,hq,h⟩:=h;cases rx;cases ry;obtain⟨aZ,r,pl,hz⟩:=I.list hp;obtain⟨MD,r2,Pn,Rf⟩:=I.list hq;have l1:=r.length;have l2:=r2.length;rw[List.length_map] at l1 l2;by_cases hl:xs.length=ys.length
 ·refine SeqAt.eq_listAt (e:=fun j=>xs.getD j 0==ys.getD j 0) pl.isList Pn.isList (by simp only[List.size_toArray];lia) hu (fun j h1 h2=>?_) ?_
  ·simp only[List.size_toArray] at h1 h2;obtain⟨t,e⟩:=int_at r (j:=j) (by lia) h1;obtain⟨t',e'⟩:=int_at r2 (j:=j) (by lia) h2;have z:SeqAt.EqAt X.A.in1 s aZ[j] MD[j] (xs[j]==ys[j]):=by
    rw[e,e'];exact SeqAt.EqAt.int_int _ _ _ _
   rw[List.getD_eq_getElem?_getD,List.getD_eq_getElem?_getD,List.getElem?_eq_getElem (show j<xs.length by lia),List.getElem?_eq_getElem (show j<ys.length by lia)];simpa using z
  ·have e:(List.range aZ.toArray.size).all (fun j=>xs.getD j 0==ys.getD j 0)=decide (xs=ys):=by
    rw[<-Jz xs ys hl,l1,List.size_toArray]
   rw[e];exact⟨.bl _,H,I,rfl,h⟩
 ·have e:decide (xs=ys)=false:=decide_eq_false fun z=>hl (by rw[z]);rw[e] at h;exact SeqAt.eq_list_lengthsAt pl.isList Pn.isList (by simp only[List.size_toArray,bne_iff_ne,ne_eq];lia) hu ⟨.bl false,H,I,rfl,h⟩
end
noncomputable def AQ(lo st:Int)(n:Nat):It:=⟨fun i _=>i<n,fun i H x H'=>H'=H/\x=.int (lo+i*st),fun i _=>n<=i⟩
theorem uy{P:Program}{w:World}{K:PySem.W.Frag}{tg:Expr}(it:Addr)(lo st:Int)(n:Nat):
 Turn P w K tg (AQ lo st n) [it] it (fun i h=>IsRangeIter h it (lo+(i:Nat)*st) ((n:Int)-(i:Nat)) st) where
 mem:=List.mem_singleton.mpr rfl
 obj:=fun i h q b hb=>by
  obtain rfl:=List.mem_singleton.mp hb;exact⟨_,q,fun v z=>by cases (show Data.fields _=Data.cell v from z)⟩
 keep:=fun i h h' q k=>k it (List.mem_singleton.mpr rfl) _ q
 item:=by
  intro X e1 e2 e3 hc i pins s σ H E I hf q hg;subst e1 e2 e3;obtain⟨f0,f1,f2,f3,f4,f5⟩:=hf it (List.mem_singleton.mpr rfl);refine(Walks.range (prog:=X.prog) (w:=X.w) (I.ok.hd hc) it lo st n).item i s _ _ hg q fun v h' tk hv q' kk=>?_;obtain⟨t,rfl⟩:=hv;have I1:Inv X pins σ H {s with heap:=h',toks:=tk}:=I.turned (fun b o hb e=>kk b o (fun z=>hb (List.mem_singleton.mp z)) e) f0 f1 f3 f4 f5;exact⟨_,rfl,yU (s:={s with heap:=h',toks:=tk}) (n:="range_iterator") q' rfl rfl (by decide) ⟨.int (lo+i*st),H,I1,⟨t,rfl⟩,⟨rfl,rfl⟩,q',fun b hb=>(hf b hb).1⟩⟩
 done:=by
  intro X e1 e2 e3 hc i pins s σ H E I hf q hg;subst e1 e2 e3;obtain⟨f0,f1,f2,f3,f4,f5⟩:=hf it (List.mem_singleton.mpr rfl);exact wpAny_pyNext_range_end (I.ok.hd hc) q (by have:n<=i:=hg;lia) fun h' eb=>⟨rfl,I.turned (t':=s.toks) (fun b o hb e=>eb b o hb e) f0 f1 f3 f4 f5⟩
 self:=fun _ _ _ _ _ q h=>wpAny_pyIter_rangeiter q h
noncomputable def HC(ta:TA):TI:=fun σ H R=>ta σ H fun vs H1=>∃(i j k:Int)(n:Nat),vs=[.int i,.int j,.int k]/\k≠0/\k.natAbs<1073741824/\Builtin.Range.small i j k=true/\Builtin.Range.rangeSize i j k=n/\R (AQ i k n) H1
theorem qM{X:Cx}{tg a b c:Expr}{ta:TA}{p pos:Pos}(hg:Gl X "range")(hm:X.mg "range"=none)(ha:PA X [a,b,c] ta)(hs:starEach [a,b,c] X.env=[(false,eval a X.env),(false,eval b X.env),(false,eval c X.env)]:=by rfl)(Jo:starEach [b,c] X.env=[(false,eval b X.env),(false,eval c X.env)]:=by rfl):PI X tg (.Call (.Name "range" p) [a,b,c] [] pos) (HC ta):=by
 intro pins s σ H R I h;refine Call_ (jk I hg hm boot_range (PyProof.Rows.callWith_type1 (dR (ha pos pins s σ H _ I h) fun us s1 q1=>?_) (by rw[hs,Jo]) (by rw[Jo];rfl)));obtain⟨vs,H1,I1,r1,i,j,k,n,rfl,hk,Wu,Wv,hn,q⟩:=q1;cases r1 with
 |cons ra rr=>
  cases rr with
  |cons rb rr=>
   cases rr with
   |cons rc rr=>
    cases rr;obtain⟨t,rfl⟩:=ra;obtain⟨u,rfl⟩:=rb;obtain⟨v,rfl⟩:=rc;refine call_range_3 hk ?_ (.inl (PyProof.noPylong_small Wu));refine wpAny_pyIter_range (IsRange.new ..) Wv ?_;have I2:Inv X pins σ H1 {s1 with heap:=s1.heap.push {cls:=.type "range",data:=.fields #[.int i t,.int j u,.int k v]}}:=I1.kept (t':=s1.toks) fun b o e=>Heap.get?_push_of_some _ e;refine⟨_,[_],_,_,H1,rfl,I2.kept (t':=s1.toks) fun b o e=>Heap.get?_push_of_some _ e,uy _ i k n,?_,fun b hb=>?_,q⟩
    ·have e1:i+((0:Nat):Int)*k=i:=by simp
     have e2:((n:Nat):Int)-((0:Nat):Int)=Builtin.Range.rangeSize i j k:=by rw[hn];simp
     show IsRangeIter _ _ (i+((0:Nat):Int)*k) (((n:Nat):Int)-((0:Nat):Int)) k;rw[e1,e2];exact Heap.get?_push_size _ rfl
    ·obtain rfl:=List.mem_singleton.mp hb;exact I2.wD (Nat.le_refl _) (I2.eV.fresh (Nat.le_refl _))
theorem oa{lo st:Int}{n:Nat}{g:TG}{tb:TS}{D:Ends}{σ:St}{H:Hp}(Pv:Nat->St->Hp->Prop)(h0:Pv 0 σ H)(hs:∀i σ H,i<n->Pv i σ H->g (.int (lo+i*st)) σ H fun fX H2=>tb {D with nx:=Pv (i+1),ct:=Pv (i+1),bk:=D.nx} fX H2)(hd:∀σ H,Pv n σ H->D.nx σ H):
 ∃W:Nat->Nat->St->Hp->Prop,(∃m,W 0 m σ H)/\∀i m σ H,W i m σ H->
  ((AQ lo st n).stop i H/\D.nx σ H)\/((AQ lo st n).go i H/\∃N:St->Hp->Prop,(∀bN H',N bN H'->∃m',m'<m/\W (i+1) m' bN H')/\∀x H',(AQ lo st n).wa i H x H'->g x σ H' fun fX H2=>tb {D with nx:=N,ct:=N,bk:=D.nx} fX H2):=by
 refine⟨fun i m σ H=>m=n-i/\i<=n/\Pv i σ H,⟨n,rfl,Nat.zero_le _,h0⟩,fun i m σ H q=>?_⟩;obtain⟨rfl,hi,p⟩:=q;by_cases gb:i<n
 ·refine .inr ⟨gb,Pv (i+1),fun bN H' p'=>⟨n-(i+1),by lia,rfl,gb,p'⟩,fun x H' y=>?_⟩;obtain⟨rfl,rfl⟩:=y;exact hs i σ _ gb p
 ·obtain rfl:i=n:=by lia
  exact .inl ⟨Nat.le_refl _,hd σ H p⟩
structure bI(P:Program)(w:World)(K:PySem.W.Frag)(mg:Str->Option Value)(base:Heap)(k:Nat)(x:Str)(ps:List Str)(sp:Sp):Prop where
 ex:∃f fd,g7 P w K mg base BX k f fd ps sp/\mg x=some (.ref f)/\PySem.W.keepIn K (.ref f)=true/\Binds K fd ps []
structure aS(K:PySem.W.Frag)(mg:Str->Option Value)(x:Str)(st:Stmt)(ps:List Str):Prop where
 ex:∃f fd,Fs K x x st f fd/\mg x=some (.ref f)/\Binds K fd ps []
section
variable {P:Program} {w:World} {K:PySem.W.Frag} {mg:Str->Option Value} {base:Heap} {x:Str} {st:Stmt} {N ps:List Str} {j k:Nat} {sp Mr:Sp}
theorem bI.mono(F:bI P w K mg base j x ps sp)(h:j<=k):bI P w K mg base k x ps sp:=
 let⟨f,fd,a,b,c,d⟩:=F.ex
 ⟨f,fd,a.mono h,b,c,d⟩
theorem bI.imp(F:bI P w K mg base k x ps sp)(h:∀vs H Q E,Mr vs H Q E->sp vs H Q E):bI P w K mg base k x ps Mr:=
 let⟨f,fd,a,b,c,d⟩:=F.ex
 ⟨f,fd,a.imp h,b,c,d⟩
theorem aS.ok(D:aS K mg x st ps)(S:aH N ps (ar st))(len:∀vs H Q E,sp vs H Q E->vs.length=ps.length)(uq:∀(f:Addr)(cQ:Value)(A:Around)(outer:List Env)(s:Shared)(H:Hp)(vs:List V)(Q:VK)(E:XK),fP k (A.deeper (envOfC x (ar st) s.heap.objs.size f cQ))->sp vs H Q E->
 ∃t,wz (wU BX P w K mg base N x (ar st) f cQ A outer s H E).Lo (e_ st) t/\t {nx:=fun _ H'=>Q .fB H',rt:=Q} (start N vs) H):bI P w K mg base (k+1) x ps sp:=
 let⟨f,fd,a,b,c⟩:=D.ex
 ⟨f,fd,a.ok S len fun cQ A outer s H vs Q E=>uq f cQ A outer s H vs Q E,b,a.kp,c⟩
end
theorem aT{K:PySem.W.Frag}{h:Heap}{mg:Str->Option Value}{x:Str}{st:Stmt}{ps:List Str}{f:Addr}{od an:Option Addr}{sl:Array (Option Value)}{oc kV doc pm cd ct:Value}(X:K.In h)(G:h.Ns mainGlobals mg)(a:PySem.W.nsIn K mainGlobals x=some (some (.ref f)))(l:K.lookup f=some ⟨oc,od,.func (PySem.W.fnOf x x (fY st) (e_ st) (ar st) .none kV doc pm an cd ct),sl⟩)(c:PySem.W.codeIn K cd x=true)(k:PySem.W.keepIn K (.ref f)=true)(b:∀(kV doc pm:Value)(an:Option Addr)(cQ ct:Value)(us:List Value),us.length=ps.length->bindArgs (PySem.W.fnOf x x (fY st) (e_ st) (ar st) .none kV doc pm an cQ ct) ⟨us,[]⟩=pure (ps.zip us)):aS K mg x st ps:=
 have F:=Cr (st:=st) l c k
 ⟨_,_,F,PySem.W.mg_of X G a,F.binds b⟩
theorem aw{X:Cx}{k:Nat}{x:Str}{ps:List Str}{sp:Sp}{p pos:Pos}{e:Expr}{es:List Expr}{t:TA}(F:bI X.prog X.w X.K X.mg X.base k x ps sp)(hr:fP k X.A)(ha:PA X (e::es) t)(hg:Gl X x:=by rfl)(Fn:(x==("__debug__":Str))=false:=by decide)(he:starEach (e::es) X.env=(false,eval e X.env)::starEach es X.env:=by rfl)(uk:(backTo pos (starEach es X.env)).any (·.1)=false:=by rfl):PE X (.Call (.Name x p) (e::es) [] pos) (Cg sp [] E0 t):=
 let⟨_,_,a,b,c,d⟩:=F.ex
 Fm a hr hg b c d .nil Cq ha Fn he uk
section
variable {σ:St} {H:Hp} {Q:VK} {D:Ends} {te ta tb:TE} {tr:TA} {ts us:TS} {tt uu:TT} {QB:Bool->Hp->Prop} {QA:List V->Hp->Prop}
theorem ME(h:ts {D with nx:=us D} σ H):Jf ts us D σ H:=h
theorem MF{i:Nat}(h:te σ H fun x H1=>D.nx (σ.set i (some x)) H1):B_ te (qE i) D σ H:=h
theorem MG{g:TG}(h:te σ H fun x H1=>g x σ H1 D.nx):B_ te g D σ H:=h
theorem MH(h:te σ H D.rt):L_ te D σ H:=h
theorem JB(h:te σ H fun _ H1=>D.nx σ H1):Ho te D σ H:=h
theorem JC(h:D.nx σ H):Hn D σ H:=h
theorem MI{i:Nat}{v:V}(e:σ[i]?=some (some v))(h:Q v H):Fe i σ H Q:=⟨v,e,h⟩
theorem MJ{wi:TI}{g:TG}(h:wi σ H fun J H1=>∃W:Nat->Nat->St->Hp->Prop,(∃m,W 0 m σ H1)/\∀i m σ H,W i m σ H->
 (J.stop i H/\D.nx σ H)\/(J.go i H/\∃N:St->Hp->Prop,(∀bN H',N bN H'->∃m',m'<m/\W (i+1) m' bN H')/\∀x H',J.wa i H x H'->g x σ H' fun fX H2=>ts {D with nx:=N,ct:=N,bk:=D.nx} fX H2)):Mg wi g ts D σ H:=h
theorem JD{R:It->Hp->Prop}(h:tr σ H fun vs H1=>∃(i j k:Int)(n:Nat),vs=[.int i,.int j,.int k]/\k≠0/\k.natAbs<1073741824/\Builtin.Range.small i j k=true/\Builtin.Range.rangeSize i j k=n/\R (AQ i k n) H1):HC tr σ H R:=h
theorem Ft{i:Nat}{v:V}{R:St->Hp->Prop}(h:R (σ.set i (some v)) H):qE i v σ H R:=h
theorem jq{K:PySem.W.Frag}{n:Nat}{t:EU}{a:Addr}{xs:List V}{R:St->Hp->Prop}(hs:cj K H a xs)(hl:xs.length=n)(h:t xs σ H R):Jh K n t (.ref a) σ H R:=⟨a,xs,rfl,hs,hl,h⟩
theorem Fu{t:TG}{u:EU}{v:V}{r:List V}{R:St->Hp->Prop}(h:t v σ H fun bN H'=>u r bN H' R):Hq t u (v::r) σ H R:=⟨v,r,rfl,h⟩
theorem JE{R:St->Hp->Prop}(h:R σ H):Mc [] σ H R:=⟨rfl,h⟩
theorem Ww{v:V}(h:Q v H):tC v σ H Q:=h
theorem Rg{r:R2}(h:ta σ H fun x H1=>tb σ H1 fun y H2=>r x y H2 Q):Mh r ta tb σ H Q:=h
theorem Rh{r:V->Hp->VK->Prop}(h:ta σ H fun x H1=>r x H1 Q):Ud r ta σ H Q:=h
theorem Ri{g:Int->Int->V}{i j:Int}(h:Q (g i j) H):Hu g (.int i) (.int j) H Q:=⟨i,j,rfl,rfl,h⟩
theorem bP{C:Int->Int->Prop}{g:Int->Int->V}{i j:Int}(c:C i j)(h:Q (g i j) H):rI C g (.int i) (.int j) H Q:=⟨i,j,rfl,rfl,c,h⟩
theorem Wx{g:Int->V}{i:Int}(h:Q (g i) H):rU g (.int i) H Q:=⟨i,rfl,h⟩
theorem JF(h:te σ H fun x H'=>∃k,x=.bl k/\QB k H'):Hv te σ H QB:=h
theorem Rj(h:te σ H fun x H'=>∃k,x=.bl k/\QB k H'):tB te σ H QB:=h
theorem Rk{k:Bool}{R:Bool->Prop}(h:R k):∃k',V.bl k=.bl k'/\R k':=⟨k,rfl,h⟩
theorem MK{i j:Int}(h:Q (.bl (decide (i=j))) H):Ue (.int i) (.int j) H Q:=⟨rfl,by rw[show decide (V.int i=V.int j)=decide (i=j) by rw[Bool.eq_iff_iff];simp];exact h⟩
theorem ML{i j:Int}(h:Q (.bl (!decide (i=j))) H):Ug (.int i) (.int j) H Q:=⟨rfl,by rw[show decide (V.int i=V.int j)=decide (i=j) by rw[Bool.eq_iff_iff];simp];exact h⟩
theorem MM(h:tt σ H fun b H1=>if b=true then ts D σ H1 else us D σ H1):L' tt ts us D σ H:=h
theorem MN(h:tt σ H fun c H1=>if c=true then ta σ H1 Q else tb σ H1 Q):Ua tt ta tb σ H Q:=h
theorem MO(h:tt σ H fun c H1=>if c=true then uu σ H1 QB else QB false H1):L6 tt uu σ H QB:=h
theorem Rl(h:tt σ H fun c H1=>if c=true then QB true H1 else uu σ H1 QB):T' tt uu σ H QB:=h
theorem MP(h:tt σ H fun c H1=>QB (!c) H1):L7 tt σ H QB:=h
theorem JG(h:ta σ H fun x H1=>∃c,x=.bl c/\if c=true then tb σ H1 Q else Q (.bl false) H1):L8 ta tb σ H Q:=h
theorem MQ(h:ta σ H fun x H1=>∃c,x=.bl c/\if c=true then Q (.bl true) H1 else tb σ H1 Q):QK ta tb σ H Q:=h
theorem JH(h:ta σ H fun x H1=>∃c,x=.bl c/\Q (.bl (!c)) H1):L9 ta σ H Q:=h
theorem MR(h:QA [] H):Mn σ H QA:=h
theorem JI(h:te σ H fun x H1=>tr σ H1 fun xs H2=>QA (x::xs) H2):Hw te tr σ H QA:=h
theorem JJ{sp:Sp}{E:XK}(h:tr σ H fun vs H1=>sp (vs++[]) H1 Q E):Cg sp [] E tr σ H Q:=h
theorem Rn{r:List V->Hp->VK->Prop}(h:tr σ H fun vs H1=>r vs H1 Q):QT r tr σ H Q:=h
theorem MS(h:tr σ H fun xs H1=>xs.length<=sizeLine/\∀p,H1 p=none->Q (.ref p) (upd H1 p (.tup xs))):Mo tr σ H Q:=h
theorem MT(h:tr σ H fun xs H1=>xs.length<=sizeLine/\∀p,H1 p=none->Q (.ref p) (upd H1 p (.lst xs))):Mp tr σ H Q:=h
theorem MU{K:PySem.W.Frag}{i:Int}{R:Bool->Prop}(h:R (i !=0)):∃k,Fh K (.int i) H k/\R k:=⟨_,rfl,h⟩
theorem aL{K:PySem.W.Frag}{p:Addr}{xs:List V}{i:Int}{v:V}(hs:cj K H p xs)(he:mU xs i=some v)(h:Q v H):Mw K (.ref p) (.int i) H Q:=⟨p,xs,i,v,rfl,rfl,hs,he,h⟩
theorem cx{K:PySem.W.Frag}{p:Addr}{xs:List V}{i:Int}{v:V}(hs:a_ K H p xs)(he:mU xs i=some v)(h:Q v H):Jr K (.ref p) (.int i) H Q:=⟨p,xs,i,v,rfl,rfl,hs,he,h⟩
theorem fb{n:Nat}(h:n<=1000):n<=sizeLine:=Nat.le_of_lt (AO h)
theorem au.new{H:Hp}{p:Addr}(h:H p=none)(o:HO):au H (upd H p o):=fun b u q=>by rw[aI (aN q h)];exact q
end
end L2
namespace L2
open PySem PySem.Spec PyProof.Rows
noncomputable def Cs(K:PySem.W.Frag)(a:Addr):It:=
 ⟨fun i H=>∃xs x,a_ K H a xs/\xs[i]?=some x,fun i H x H'=>∃p y,H p=none/\x=.ref p/\H'=upd H p (.tup [.int (i:Int),y])/\∀xs,a_ K H a xs->xs[i]?=some y,fun i H=>∃xs,a_ K H a xs/\xs.length<=i⟩
noncomputable def Ls(K:PySem.W.Frag)(a:Addr)(n:Nat):It:=
 ⟨fun i H=>i<n/\∃xs x,a_ K H a xs/\xs[n-1-i]?=some x,fun i H x H'=>H'=H/\∀xs,a_ K H a xs->xs[n-1-i]?=some x,fun i _=>i=n⟩
theorem nJ{b e it:Addr}(h:b∈[e,it]):b=e\/b=it:=by
 rcases List.mem_cons.mp h with z|z
 ·exact .inl z
 ·exact .inr (List.mem_singleton.mp z)
theorem AR{P:Program}{w:World}{K:PySem.W.Frag}{es:List Expr}{k:Nat}{tp:Pos}(a e it:Addr)(fK:e≠it):
 Turn P w K (.Tuple es k tp) (Cs K a) [e,it] e (fun i h=>∃old,IsEnum h e it ((i:Nat):Int) old/\h.IsListIter it a i) where
 mem:=List.mem_cons_self
 obj:=fun i h q b hb=>by
  obtain⟨old,q1,o,q2,c2,d2⟩:=q;rcases nJ hb with rfl|rfl
  ·exact⟨_,q1,fun v z=>by cases (show Data.fields _=Data.cell v from z)⟩
  ·exact⟨o,q2,fun v z=>by rw[d2] at z;cases z⟩
 keep:=fun i h h' q kk=>by
  obtain⟨old,q1,q2⟩:=q;exact⟨old,kk e List.mem_cons_self _ q1,q2.at fun o z=>kk it (List.mem_cons_of_mem _ (List.mem_singleton.mpr rfl)) o z⟩
 item:=by
  intro X e1 e2 e3 hc i pins s σ H E I hf q hg;subst e1 e2 e3;obtain⟨old,q1,q2⟩:=q;obtain⟨xs,x,hq,hx⟩:=hg;obtain⟨aZ,rv,pl,hz⟩:=I.list hq;obtain⟨u,hu,ru⟩:=rv.get hx;obtain⟨f0,f1,f2,f3,f4,f5⟩:=hf e List.mem_cons_self;obtain⟨g0,g1,g2,g3,g4,g5⟩:=hf it (List.mem_cons_of_mem _ (List.mem_singleton.mpr rfl));refine wpAny_pyNext_enum_item q1 q2 pl.isList (x:=u) (by simpa using hu) fK fun h1 eo Wy tu wJ hk=>?_;refine⟨_,rfl,wpAny_letOwnedTupleGo_enum eo fun h2 Wz sb=>?_⟩;have Ro:Heap.SameBut e h1 h2:=sb;have Lu:H s.heap.objs.size=none:=I.fresh;have hp:e≠s.heap.objs.size:=Nat.ne_of_lt (Heap.lt_size q1);have kp:∀b o,b≠e->b≠it->s.heap.get? b=some o->h2.get? b=some o:=fun b o h3 h4 z=>Ro.extBut b o h3 (hk b o h3 h4 z);have Pp:∀b o,H b=some o->b≠e/\b≠it:=fun b o z=>⟨aN z f0,aN z g0⟩;have Rp:IsTup h2 s.heap.objs.size [Value.int (i:Int) s.toks,u].toArray:=⟨_,(Ro.2 _ (Ne.symm hp)).trans tu,rfl,_,rfl⟩;have rt:Vals [V.int (i:Int),x] [Value.int (i:Int) s.toks,u]:=.cons ⟨_,rfl⟩ (.cons ru .nil);have eV:nk X.prog X.w (upd H s.heap.objs.size (.tup [.int (i:Int),x])) h2:=fun b o z=>by
   by_cases hb:b=s.heap.objs.size
   ·subst hb;rw[ak] at z;cases z;exact⟨by show 2<=sizeLine;decide,_,rt,Rp⟩
   ·rw[aI hb] at z;refine(I.eV b o z).Az (fun c v Jd r=>?_) (fun c r=>by rw[aI (aN r Lu)];exact r) fun c ys r=>by rw[aI (aN r Lu)];exact r
    rcases Jd with rfl|Jd
    ·exact kp _ _ (Pp _ _ z).1 (Pp _ _ z).2 r
    ·exact kp _ _ (Pp _ _ Jd).1 (Pp _ _ Jd).2 r
  have Lv:∀{b:Addr},b∉[e,it]->b≠e/\b≠it:=fun h3=>⟨fun z=>h3 (by rw[z];exact List.mem_cons_self),fun z=>h3 (by rw[z];exact List.mem_cons_of_mem _ (List.mem_singleton.mpr rfl))⟩;have un:Un (AB X.stack) [e,it] H (upd H s.heap.objs.size (.tup [.int (i:Int),x])) s.heap h2:=
   ⟨fun b o z _ _ h4=>kp b o (Lv h4).1 (Lv h4).2 z,fun b o z _ _ h4=>⟨o.slots,kp b o (Lv h4).1 (Lv h4).2 z⟩,
    fun b o z n _=>by rw[aI (Nat.ne_of_lt (Heap.lt_size z))];exact n,fun b o z h4=>⟨o,kp b o (Lv h4).1 (Lv h4).2 z⟩,
    fun b ys z=>by rw[aI (aN z Lu)];exact z,fun b o u z=>by rw[aI (aN z Lu)];exact z,fun b ps z=>⟨#[],by rw[aI (aN z Lu),z];simp⟩⟩
  have I2:Inv X pins σ (upd H s.heap.objs.size (.tup [.int (i:Int),x])) {s with heap:=h2,toks:=s.toks+1}:=
   I.call (g':=s.gens) (d':=s.drawn) (t':=s.toks+1) (ch:=[e,it]) un eV I.bare fun b hb=>by
    rcases nJ hb with rfl|rfl
    ·exact⟨f3,f1,f4,f5⟩
    ·exact⟨g3,g1,g4,g5⟩
  have i2:h2.IsListIter it a (i+1):=Wy.at fun o z=>Ro.extBut it o (Ne.symm fK) z;refine⟨.ref s.heap.objs.size,_,I2,rfl,⟨_,x,Lu,rfl,rfl,fun ys hy=>by rw[I.nV hy hq];exact hx⟩,⟨u,Wz,i2⟩,fun b hb=>?_⟩;rcases nJ hb with rfl|rfl
  ·rw[aI hp];exact f0
  ·obtain⟨o,z,_⟩:=q2;rw[aI (Nat.ne_of_lt (Heap.lt_size z))];exact g0
 done:=by
  intro X e1 e2 e3 hc i pins s σ H E I hf q hg;subst e1 e2 e3;obtain⟨old,q1,q2⟩:=q;obtain⟨xs,hq,hx⟩:=hg;obtain⟨aZ,rv,pl,hz⟩:=I.list hq;have hl:=rv.length;obtain⟨g0,g1,g2,g3,g4,g5⟩:=hf it (List.mem_cons_of_mem _ (List.mem_singleton.mpr rfl));exact wpAny_pyNext_enum_end (I.ok.hd hc) q1 q2 pl.isList (by simp;lia) fun h' eb=>⟨rfl,I.turned (t':=s.toks) (fun b o hb z=>eb b o hb z) g0 g1 g3 g4 g5⟩
 self:=fun _ _ _ _ _ q h=>let⟨_,q1,_⟩:=q;wpAny_pyIter_enum q1 h
noncomputable def HD(K:PySem.W.Frag)(ta:TA):TI:=fun σ H R=>ta σ H fun vs H1=>∃a,vs=[.ref a]/\(∃xs,a_ K H1 a xs)/\R (Cs K a) H1
theorem rR{X:Cx}{es:List Expr}{k:Nat}{tp:Pos}{a:Expr}{ta:TA}{p pos:Pos}(hg:Gl X "enumerate")(hm:X.mg "enumerate"=none)(ha:PA X [a] ta)(hs:starEach [a] X.env=[(false,eval a X.env)]:=by rfl):
 PI X (.Tuple es k tp) (.Call (.Name "enumerate" p) [a] [] pos) (HD X.K ta):=by
 intro pins s σ H R I h;refine Call_ (jk I hg hm boot_enumerate (PyProof.Rows.callWith_type1 (dR (ha pos pins s σ H _ I h) fun us s1 q1=>?_) hs rfl));obtain⟨vs,H1,I1,r1,l,rfl,⟨xs,hq⟩,q⟩:=q1;obtain⟨u,rfl,rx⟩:=vals1 r1;cases rx;obtain⟨aZ,rv,pl,hz⟩:=I1.list hq;refine call_enumerate_list pl.isList fun h' he hit wJ hk=>?_;have I2:Inv X pins σ H1 {s1 with heap:=h'}:=I1.kept (t':=s1.toks) hk;refine wpAny_pyIter_enum he ?_;have old:∀b,s1.heap.objs.size<=b->lY X pins H1 b:=fun b hb=>I1.wD hb (I1.eV.fresh hb);refine⟨_,[_,_],_,_,H1,rfl,I2,AR l _ _ (Nat.succ_ne_self _),⟨_,he,hit⟩,fun b hb=>?_,q⟩;rcases nJ hb with rfl|rfl
 ·exact old _ (Nat.le_succ _)
 ·exact old _ (Nat.le_refl _)
theorem Ct{P:Program}{w:World}{K:PySem.W.Frag}{tg:Expr}(a it:Addr)(n:Nat):Turn P w K tg (Ls K a n) [it] it (fun i h=>i<=n/\h.IsRevIter it a ((n:Int)-1-(i:Nat))) where
 mem:=List.mem_singleton.mpr rfl
 obj:=fun i h q b hb=>by
  obtain rfl:=List.mem_singleton.mp hb;obtain⟨_,o,e,c,d⟩:=q;exact⟨o,e,fun v z=>by rw[d] at z;cases z⟩
 keep:=fun i h h' q kk=>⟨q.1,q.2.at fun o z=>kk it (List.mem_singleton.mpr rfl) o z⟩
 item:=by
  intro X e1 e2 e3 hc i pins s σ H E I hf q hg;subst e1 e2 e3;obtain⟨Pq,q⟩:=q;obtain⟨hi,xs,x,hq,hx⟩:=hg;obtain⟨aZ,rv,pl,hz⟩:=I.list hq;obtain⟨u,hu,ru⟩:=rv.get hx;obtain⟨f0,f1,f2,f3,f4,f5⟩:=hf it (List.mem_singleton.mpr rfl);have ei:(n:Int)-1-(i:Nat)=((n-1-i:Nat):Int):=by lia
  rw[ei] at q;refine wpAny_pyNext_rev_item q pl.isList (x:=u) (by simpa using hu) fun h' q' sb=>?_;have I1:Inv X pins σ H {s with heap:=h'}:=I.turned (t':=s.toks) (fun b o hb z=>sb.extBut b o hb z) f0 f1 f3 f4 f5;obtain⟨o,eo,co,WA⟩:=id q';refine⟨u,rfl,yU (s:={s with heap:=h'}) eo co WA (by decide) ⟨x,H,I1,ru,⟨rfl,fun ys hy=>by rw[I.nV hy hq];exact hx⟩,⟨by lia,?_⟩,fun b hb=>(hf b hb).1⟩⟩;have e2:(n:Int)-1-((i+1:Nat):Int)=((n-1-i:Nat):Int)-1:=by lia
  show h'.IsRevIter it a ((n:Int)-1-((i+1:Nat):Int));rw[e2];exact q'
 done:=by
  intro X e1 e2 e3 hc i pins s σ H E I hf q hg;subst e1 e2 e3;obtain⟨Pq,q⟩:=q;have MV:i=n:=hg;subst MV;obtain⟨f0,f1,f2,f3,f4,f5⟩:=hf it (List.mem_singleton.mpr rfl);have ei:(i:Int)-1-(i:Nat)=-1:=by lia
  rw[ei] at q;exact wpAny_pyNext_rev_end (I.ok.hd hc) q fun h' eb=>⟨rfl,I.turned (t':=s.toks) (fun b o hb z=>eb b o hb z) f0 f1 f3 f4 f5⟩
 self:=fun _ _ _ _ _ q h=>wpAny_pyIter_revIter q.2 h
noncomputable def MW(K:PySem.W.Frag)(ta:TA):TI:=fun σ H R=>ta σ H fun vs H1=>∃a xs,vs=[.ref a]/\a_ K H1 a xs/\R (Ls K a xs.length) H1
theorem w_{X:Cx}{tg a:Expr}{ta:TA}{p pos:Pos}(hg:Gl X "reversed")(hm:X.mg "reversed"=none)(ha:PA X [a] ta)(hs:starEach [a] X.env=[(false,eval a X.env)]:=by rfl):
 PI X tg (.Call (.Name "reversed" p) [a] [] pos) (MW X.K ta):=by
 intro pins s σ H R I h;refine Call_ (jk I hg hm boot_reversed (PyProof.Rows.callWith_type1 (dR (ha pos pins s σ H _ I h) fun us s1 q1=>?_) hs rfl));obtain⟨vs,H1,I1,r1,l,xs,rfl,hq,q⟩:=q1;obtain⟨u,rfl,rx⟩:=vals1 r1;cases rx;obtain⟨aZ,rv,pl,hz⟩:=I1.list hq;refine call_reversed_list pl.isList ?_;have e0:(aZ.toArray.size:Int)-1=(xs.length:Int)-1-((0:Nat):Int):=by rw[List.size_toArray,<-rv.length];simp
 rw[e0];have I2:Inv X pins σ H1 {s1 with heap:=s1.heap.push (revObj l ((xs.length:Int)-1-((0:Nat):Int)))}:=I1.kept (t':=s1.toks) fun b o e=>Heap.get?_push_of_some _ e;have q0:(s1.heap.push (revObj l ((xs.length:Int)-1-((0:Nat):Int)))).IsRevIter s1.heap.objs.size l ((xs.length:Int)-1-((0:Nat):Int)):=⟨_,Heap.get?_push_size _ rfl,rfl,rfl⟩;refine wpAny_pyIter_revIter q0 ?_;refine⟨_,[_],_,_,H1,rfl,I2,Ct l _ xs.length,⟨Nat.zero_le _,q0⟩,fun b hb=>?_,q⟩;obtain rfl:=List.mem_singleton.mp hb;exact I1.wD (Nat.le_refl _) (I1.eV.fresh (Nat.le_refl _))
end L2
namespace L2
open PySem PySem.Spec PyProof.Rows
section
variable {prog:Program} {w:World} {A:Around} {R:Result->Shared->Prop} {s:Shared}
theorem AS{elt tg Uo:Expr}{sc:Scope}{ps:Pos}{it acc:Value}{en:Env}(J:Nat->Shared->Prop)(turn:∀n s,J n s->wpAny (model prog w) A (pyNext it) (fun r s1=>match r with
 |none=>R (.ok .next) s1
 |some v=>wpAny (model prog w) A (letOwnedTupleGo tg it v) (fun _ s2=>wpAny (model prog w) A (assign tg en v) (fun _ s3=>wpAny (model prog w) A (eval elt en) (fun x s4=>
  wpAny (model prog w) A (call (.builtin "list.append") [acc,x]) (fun _ s5=>∃m,m<n/\J m s5) (fun _ _=>False) s4) (fun _ _=>False) s3) (fun _ _=>False) s2) (fun _ _=>False) s1) (fun _ _=>False) s)(n:Nat)(h:J n s):codeAny (model prog w) A (.compLoop (.ListComp elt [⟨tg,Uo,[],0⟩] sc ps) 0 it acc en) R s:=by
 refine codeAny_loop rfl J (fun n s hJ=>?_) n h;show wpAny (model prog w) A ((compTurn (.ListComp elt [⟨tg,Uo,[],0⟩] sc ps) 0 it acc en).onRaise (fun x=>do noteFrame x en;theTreesLotGoes x)) _ _ s;refine wpAny_noted ?_;rw[compTurn_list1];have no:∀{α:Type}{t:Sem α}{Q:α->Shared->Prop}{E:Value->Shared->Prop}{s:Shared},wpAny (model prog w) A t Q (fun _ _=>False) s->wpAny (model prog w) A t Q E s:=
  fun h=>wpAny_mono h (fun _ _ q=>q) fun _ _ z=>z.elim
 refine wpAny_bind (wpAny_standAt (wpAny_bind (dR (no (turn n s hJ)) fun r s1 h1=>?_)));cases r with
 |none=>exact wpAny_pure h1
 |some v=>
  refine wpAny_bind (dR (no h1) fun _ s2 h2=>?_);refine wpAny_bind (dR (no h2) fun _ s3 h3=>?_);refine wpAny_bind (wpAny_bind (dR (no h3) fun x s4 h4=>?_));refine wpAny_bind (dR (no h4) fun _ s5 h5=>?_);exact wpAny_pure (wpAny_pure ⟨rfl,h5⟩)
end
noncomputable def fC(X:Cx)(scope:Scope)(cl:List (Str×Addr))(C:Addr)(s:Shared)(H:Hp)(M:List Str)(ex:List Addr)(pins:List (Addr×Obj)):Cx:=
 {X with N:=M,gn:=s,B6:=H,env:=compEnvC scope cl C X.env,outer:=X.stack,ex:=ex,fn:=fun _=>false,pn:=X.pn++pins,xe:=fun _ _=>False}
structure oe(X:Cx)(scope:Scope)(cl:List (Str×Addr))(own:List Str)(fr:List Nat)(M:List Str):Prop where
 Cu:closureFor scope X.env=pure cl
 kind:scope.kind=.function
 names:∀x∈scope.names,x.2=.local->scope.names.lookup x.1=some .local
 og:∀x∈scope.names,x.2≠.cell
 cls:∀x c,cl.lookup x=some c->X.env.cells.lookup x=some c
 has:∀x,((relabel scope X.env).names.lookup x=some .cell\/(relabel scope X.env).names.lookup x=some .free)->∃c,cl.lookup x=some c
 len:M.length=own.length+fr.length
 Rq:∀(i:Nat) x,own[i]?=some x->M[i]?=some x
 HE:∀(j i:Nat) x,fr[j]?=some i->M[own.length+j]?=some x->X.N[i]?=some x/\X.env.scope.names.lookup x=some .cell/\(∃c,cl.lookup x=some c)/\((relabel scope X.env).names.lookup x=some .cell\/(relabel scope X.env).names.lookup x=some .free)
noncomputable def g8(own:List Str)(fr:List Nat)(σ:St):St:=List.replicate own.length none++fr.map fun i=>(σ[i]?).join
section
variable {X:Cx} {pins:List (Addr×Obj)} {σ:St} {H:Hp} {s:Shared} {scope:Scope} {cl:List (Str×Addr)} {own:List Str} {fr:List Nat} {M:List Str}
theorem Inv.comp(I:Inv X pins σ H s)(K:oe X scope cl own fr M){fp:List Addr}(hf:∀b∈fp,lY X pins H b)(ho:∀b∈fp,∃o,s.heap.get? b=some o/\∀v,o.data≠.cell v){h':Heap}{m:Str->Option Value}{tk:Nat}(hn:h'.Ns s.heap.objs.size m)(hk:∀b u,s.heap.get? b=some u->h'.get? b=some u):
 Inv (fC X scope cl s.heap.objs.size s H M fp pins) [] (g8 own fr σ) H {s with heap:=h',toks:=tk}:=by
 have hC:H s.heap.objs.size=none:=I.eV.fresh (Nat.le_refl _);have Rr:∀{b o},s.heap.get? b=some o->b≠s.heap.objs.size:=fun e=>Nat.ne_of_lt (Heap.lt_size e);have L1:∀x c,X.env.cells.lookup x=some c->c≠s.heap.objs.size:=fun x c e=>by
  obtain⟨v,o,q,_⟩:=I.cell x c e;exact Rr q
 have Up:∀b,b≠X.env.locals->b∉X.fs->b∉AB X.stack:=fun b h1 h2 z=>(List.mem_cons.mp (I.rJ b z)).elim h1 h2;refine⟨⟨I.ok.mod,K.kind,I.ok.glob,I.ok.blt,Nat.le_refl _,fun x y c h1 h2=>I.ok.inj x y c (K.cls x c h1) (K.cls y c h2),fun x hx=>K.has x hx,(fun x c h _=>Bool.noConfusion h),I.ok.hd,I.ok.frames,.inl rfl,fun b hb=>?_,I.bs,Nat.le_trans I.ok.Fc I.sz,fun b o e hb=>?_,fun b hb=>?_,I.stack,I.yS⟩,
  rfl,I.bare,Un.kept hk,⟨m,hn,fun i x v h1 h2 h3=>?_⟩,fun x c h=>?_,hC,fun x c h=>I.j8 x c (K.cls x c h),fun p hp=>?_,I.eV.kept hk,?_⟩
 ·obtain⟨o,e,_⟩:=ho b hb;exact⟨Rr e,fun x c h z=>(hf b hb).2.2.2.2.1 x c (K.cls x c h) z⟩
 ·have:=(hf b hb);rcases this.2.2.2.1 with z|z
  ·exact I.ok.B7 b o e z
  ·exact absurd (Nat.lt_of_lt_of_le (Heap.lt_size e) (Nat.le_trans I.ok.Fc z)) (Nat.lt_irrefl _)
 ·exact Up b (hf b hb).2.1 (hf b hb).2.2.1
 ·unfold g8 at h2;by_cases hi:i<own.length
  ·rw[List.getElem?_append_left (by simpa using hi),List.getElem?_replicate,if_pos hi] at h2;cases h2
  ·obtain⟨j,rfl⟩:∃j,i=own.length+j:=⟨i-own.length,by lia⟩;rw[List.getElem?_append_right (by simp),List.length_replicate,Nat.add_sub_cancel_left,List.getElem?_map] at h2;cases e:fr[j]? with
   |none=>rw[e] at h2;cases h2
   |some k=>
    rw[e] at h2;have Pu:(σ[k]?).join=some v:=Option.some.inj h2;obtain⟨q1,q2,⟨c,q3⟩,q4⟩:=K.HE j k x e h1;have h5:σ[k]?=some (some v):=by
     cases z:σ[k]? with
     |none=>rw[z] at Pu;cases Pu
     |some y=>
      rw[z] at Pu;exact congrArg some Pu
    obtain⟨m0,_,hl⟩:=I.loc;obtain⟨u,r,l⟩:=hl k x v q1 h5 (.inr (.inl q2));refine⟨u,r,.inr ⟨q4,c,q3,?_⟩⟩;rcases l with⟨k1,_⟩|⟨_,c',e1,z⟩
    ·have Uq:X.env.scope.names.lookup x=some .local:=k1;rw[q2] at Uq;cases Uq
    ·have e2:=K.cls x c q3;rw[e1] at e2;cases e2;obtain⟨o,eo,ed⟩:=z;exact⟨o,hk _ _ eo,ed⟩
 ·obtain⟨v,o,eo,ed⟩:=I.cell x c (K.cls x c h);exact⟨v,o,hk _ _ eo,ed⟩
 ·have WB:p∈X.pn++pins:=by
   rcases List.mem_append.mp hp with z|z
   ·exact z
   ·cases z
  obtain⟨e,n,ne,nf,d⟩:=I.pin p WB;exact⟨hk _ _ e,n,Rr e,Up _ ne nf,d⟩
 ·unfold g8;rw[List.length_append,List.length_replicate,List.length_map];exact K.len.symm
theorem Inv.JK{h:Heap}{s':Shared}{H':Hp}{bN:St}{C:Addr}{fp:List Addr}(I:Inv X pins σ H s)(hf:∀b∈fp,lY X pins H b)(I':Inv (fC X scope cl C s H M fp pins) [] bN H' s'):Inv X pins σ H' s':=
 I.L5 I'.os I'.base I'.eV I'.bare fun b hb=>⟨(hf b hb).2.2.2.1,(hf b hb).2.1,(hf b hb).2.2.2.2.1,(hf b hb).2.2.2.2.2⟩
noncomputable def ze(own:List Str)(fr:List Nat)(wi:TI)(g:TG)(te:TE):TE:=fun σ H Q=>wi σ H fun J H1=>∀D,H1 D=none->∃W:Nat->Nat->St->Hp->Prop,(∃m,W 0 m (g8 own fr σ) (upd H1 D (.lst [])))/\∀i m fX H2,W i m fX H2->
 (J.stop i H2/\Q (.ref D) H2)\/(J.go i H2/\∀x H3,J.wa i H2 x H3->g x fX H3 fun dy H4=>te dy H4 fun y H5=>∃ys,H5 D=some (.lst ys)/\ys.length<sizeLine/\∃m',m'<m/\W (i+1) m' dy (upd H5 D (.lst (ys++[y]))))
theorem oh{elt tg iter:Expr}{ps:Pos}{g:TG}{te:TE}{it D:Addr}{fp:List Addr}{tn:Nat->Heap->Prop}{J:It}{H1:Hp}{s3:Shared}{W:Nat->Nat->St->Hp->Prop}{Qz:Hp->Prop}{Rz:Result->Shared->Prop}{C:Addr}(hc:X.calm=true)(K:oe X scope cl own fr M)(I3:Inv X pins σ H1 s3)(T:Turn X.prog X.w X.K tg J fp it tn)(st:tn 0 s3.heap)(hf:∀b∈fp,lY X pins H1 b)(hg:PG (fC X scope cl C s3 H1 M fp pins) tg g)(he:PE (fC X scope cl C s3 H1 M fp pins) elt te)(w0:∃m,W 0 m (g8 own fr σ) H1)(turn:∀i m fX H2,W i m fX H2->(J.stop i H2/\Qz H2)\/(J.go i H2/\∀x H3,J.wa i H2 x H3->g x fX H3 fun dy H4=>te dy H4 fun y H5=>∃ys,H5 D=some (.lst ys)/\ys.length<sizeLine/\∃m',m'<m/\W (i+1) m' dy (upd H5 D (.lst (ys++[y]))))){h':Heap}{m0:Str->Option Value}{tk:Nat}(hC:C=s3.heap.objs.size)(hn:h'.Ns C m0)(hk:∀b u,s3.heap.get? b=some u->h'.get? b=some u)(fin:∀s' H' m',Inv X pins σ H' s'->H' C=none->s'.heap.Ns C m'->Qz H'->Rz (.ok .next) s'):
 codeAny (model X.prog X.w) X.A (.compStart (.ListComp elt [⟨tg,iter,[],0⟩] scope ps) 0 (.ref it) (.ref D) (compEnvC scope cl C X.env)) Rz {s3 with heap:=h',toks:=tk}:=by
 subst hC;have I4:=I3.comp K hf (T.obj _ _ st) (tk:=tk) hn hk;have Ur:tn 0 h':=T.keep _ _ _ st fun b _ o e=>hk b o e;have wG:∀{H':Hp},(∀b∈fp,H' b=none)->∀b∈fp,lY (fC X scope cl s3.heap.objs.size s3 H1 M fp pins) [] H' b:=fun{H'} hz b hb=>by
  obtain⟨o,e,_⟩:=T.obj _ _ st b hb;obtain⟨_,f1,f2,f3,f4,f5⟩:=hf b hb;refine⟨hz b hb,Nat.ne_of_lt (Heap.lt_size e),fun z=>(List.mem_cons.mp (I3.rJ b z)).elim f1 f2,.inl hb,fun x c h=>f4 x c (K.cls x c h),fun p hp=>f5 p ?_⟩;rcases List.mem_append.mp hp with z|z
  ·exact z
  ·cases z
 have loop:codeAny (model X.prog X.w) X.A (.compLoop (.ListComp elt [⟨tg,iter,[],0⟩] scope ps) 0 (.ref it) (.ref D) (compEnvC scope cl s3.heap.objs.size X.env)) Rz {s3 with heap:=h',toks:=tk}:=by
  obtain⟨m,w0⟩:=w0;refine AS (fun n s'=>∃i bN H',Inv (fC X scope cl s3.heap.objs.size s3 H1 M fp pins) [] bN H' s'/\tn i s'.heap/\(∀b∈fp,H' b=none)/\W i n bN H') (fun n s5 hJ=>?_) m ⟨0,_,H1,I4,Ur,fun b hb=>(hf b hb).1,w0⟩;obtain⟨i,Pw,H5,I5,Lr,Pg,w5⟩:=hJ;rcases turn i n Pw H5 w5 with⟨stop,qz⟩|⟨go,step⟩
  ·refine dR (T.done (fC X scope cl s3.heap.objs.size s3 H1 M fp pins) rfl rfl rfl hc i [] s5 Pw H5 _ I5 (wG Pg) Lr stop) fun r s6 q6=>?_;obtain⟨hr,I6⟩:=q6;subst hr;obtain⟨m6,n6,_⟩:=I6.loc;exact fin s6 H5 m6 (I3.JK (h:=h') hf I6) I6.free n6 qz
  ·refine dR (T.item (fC X scope cl s3.heap.objs.size s3 H1 M fp pins) rfl rfl rfl hc i [] s5 Pw H5 _ I5 (wG Pg) Lr go) fun r s6 q6=>?_;obtain⟨u,hr,h6⟩:=q6;subst hr;refine dR h6 fun _ s7 q7=>?_;obtain⟨x,H7,I7,r7,y7,Ru,WC⟩:=q7;have WD:=I7.pinned (wG WC) (T.obj _ _ Ru);refine dR (hg _ s7 Pw H7 x u _ WD r7 (step x H7 y7)) fun _ s8 q8=>?_;obtain⟨Rv,H8,I8,q8⟩:=q8;refine dR (he _ s8 Rv H8 _ I8 q8) fun v s9 q9=>?_;obtain⟨y,H9,I9,r9,ys,hD,hz,m',hm,w9⟩:=q9;refine dR (eQ (X:=fC X scope cl s3.heap.objs.size s3 H1 M fp pins) _ s9 Rv H9 (.ref D) [y] (.ref D) [v] (fun v' H'=>v'=.fB/\H'=upd H9 D (.lst (ys++[y]))) I9 rfl (.cons r9 .nil) ⟨D,ys,y,rfl,rfl,hD,hz,rfl,rfl⟩) fun v' Py WE=>?_;obtain⟨v10,EW,Rw,_,rfl,rfl⟩:=WE;refine⟨m',hm,i+1,Rv,_,Rw.kO,T.keep _ _ _ Ru fun b hb o e=>(Rw.pin (b,o) (List.mem_append_right _ (List.mem_append_right _ (iO hb e)))).1,fun b hb=>?_,w9⟩;obtain⟨o,e,_⟩:=T.obj _ _ Ru b hb;exact(Rw.pin (b,o) (List.mem_append_right _ (List.mem_append_right _ (iO hb e)))).2.1
 exact codeAny_compStart_list loop (T.self X.A 0 _ _ _ Ur loop)
theorem fZ{elt tg iter:Expr}{ps:Pos}{wi:TI}{g:TG}{te:TE}(hc:X.calm=true)(hx:X.xe=fun _ _=>False)(K:oe X scope cl own fr M)(hi:PI X tg iter wi)(hg:∀C s3 H1 fp pins,PG (fC X scope cl C s3 H1 M fp pins) tg g)(he:∀C s3 H1 fp pins,PE (fC X scope cl C s3 H1 M fp pins) elt te)(hs:∀x,foldedSetIterable iter X.env x=pure x:=by intro _;rfl):PE X (.ListComp elt [⟨tg,iter,[],0⟩] scope ps) (ze own fr wi g te):=by
 intro pins s σ H Q I h;rw[eval_ListComp];refine wpAny_comprehension_free (use:=none) rfl hs K.Cu K.kind K.names ?_;show wpAny _ _ (eval iter X.env) _ _ _;refine dR (hi pins s σ H _ I h) fun v s1 h1=>dR h1 fun Pf s2 h2=>?_;obtain⟨it,fp,tn,J,H2,e,I2,T,Ji,f2,hW⟩:=h2;subst e;refine wpAny_newObj_type (hd:=by size_fits) ?_;have I3:Inv X pins σ (upd H2 s2.heap.objs.size (.lst [])) {s2 with heap:=s2.heap.push {cls:=.type "list",dict:=none,data:=.seq ([]:List Value).toArray}}:=I2.Ju (t':=s2.toks) .nil (Nat.zero_le _);obtain⟨W,w0,turn⟩:=hW s2.heap.objs.size I2.fresh;have Lq:tn 0 (s2.heap.push {cls:=.type "list",dict:=none,data:=.seq ([]:List Value).toArray}):=T.keep _ _ _ Ji fun b _ o e=>Heap.get?_push_of_some _ e;have f3:∀b∈fp,lY X pins (upd H2 s2.heap.objs.size (.lst [])) b:=fun b hb=>by
  obtain⟨o,e,_⟩:=T.obj _ _ Ji b hb;obtain⟨f0,f'⟩:=f2 b hb;exact⟨by rw[aI (Nat.ne_of_lt (Heap.lt_size e))];exact f0,f'⟩
 refine wpAny_newFunctionEnv K.og (fun y hy=>nomatch hy) (fun h' EV MX=>?_) K.kind;have hk:∀b u,(s2.heap.push {cls:=.type "list",dict:=none,data:=.seq ([]:List Value).toArray}).get? b=some u->h'.get? b=some u:=fun b u e=>
  MX.extBut b u (Nat.ne_of_lt (Heap.lt_size e)) (Heap.get?_push_of_some _ e)
 refine oh (g:=g) (te:=te) (W:=W) (Qz:=fun H'=>Q (.ref s2.heap.objs.size) H') hc K I3 T Lq f3 (hg _ _ _ _ _) (he _ _ _ _ _) w0 turn rfl EV hk fun s' H' m' J1 MY Rx qz=>?_;refine⟨m',Rx,fun h2 sb=>⟨.ref s2.heap.objs.size,H',?_,rfl,qz⟩⟩;obtain⟨_,f1,_,Ry,f4,f5⟩:=I3.wD (H':=H') (Nat.le_refl _) MY;exact J1.turned (t':=s'.toks) (fun b o hb e=>sb.extBut b o hb e) MY f1 Ry f4 f5
theorem Fv{i:Nat}{y:Str}{py:Pos}{elt tg iter:Expr}{ps MZ:Pos}{wi:TI}{g:TG}{te:TE}(hN:X.N.Nodup)(RA:X.N[i]?=some y)(hc:X.calm=true)(hx:X.xe=fun _ _=>False)(K:oe X scope cl own fr M)(hi:PI X tg iter wi)(hg:∀C s3 H1 fp pins,PG (fC X scope cl C s3 H1 M fp pins) tg g)(he:∀C s3 H1 fp pins,PE (fC X scope cl C s3 H1 M fp pins) elt te)(hy:X.env.scope.names.lookup y=some .local)(WG:swapsWith (.ListComp elt [⟨tg,iter,[],0⟩] scope ps) (some (.Name y py)) MZ.line X.env=pure true:=by rfl)(hs:∀x,foldedSetIterable iter X.env x=pure x:=by intro _;rfl):PS X (.Assign [.Name y py] (.ListComp elt [⟨tg,iter,[],0⟩] scope ps) MZ) (B_ (ze own fr wi g te) (qE i)):=by
 intro pins s σ H D I h;rw[exec_Assign_Name_used _ _ _ _ WG];refine wpAny_bind (wpAny_standAt (wpAny_bind ?_));show wpAny _ _ (do let _<-comprehension (.ListComp elt [⟨tg,iter,[],0⟩] scope ps) scope X.env _ (newList []) false (eval iter X.env) (some (assign (.Name y py) X.env))) _ _ s;refine wpAny_bind (dR (Q:=fun _ s'=>SP X pins D .next s') (wpAny_comprehension_free (use:=some (assign (.Name y py) X.env)) rfl hs K.Cu K.kind K.names ?_) fun _ s' q=>wpAny_pure (wpAny_pure q));refine dR (hi pins s σ H _ I h) fun v s1 h1=>dR h1 fun Pf s2 h2=>?_;obtain⟨it,fp,tn,J,H2,e,I2,T,Ji,f2,hW⟩:=h2;subst e;refine wpAny_newObj_type (hd:=by size_fits) ?_;have I3:Inv X pins σ (upd H2 s2.heap.objs.size (.lst [])) {s2 with heap:=s2.heap.push {cls:=.type "list",dict:=none,data:=.seq ([]:List Value).toArray}}:=I2.Ju (t':=s2.toks) .nil (Nat.zero_le _);obtain⟨W,w0,turn⟩:=hW s2.heap.objs.size I2.fresh;have Lq:tn 0 (s2.heap.push {cls:=.type "list",dict:=none,data:=.seq ([]:List Value).toArray}):=T.keep _ _ _ Ji fun b _ o e=>Heap.get?_push_of_some _ e;have f3:∀b∈fp,lY X pins (upd H2 s2.heap.objs.size (.lst [])) b:=fun b hb=>by
  obtain⟨o,e,_⟩:=T.obj _ _ Ji b hb;obtain⟨f0,f'⟩:=f2 b hb;exact⟨by rw[aI (Nat.ne_of_lt (Heap.lt_size e))];exact f0,f'⟩
 refine wpAny_newFunctionEnv K.og (fun y hy=>nomatch hy) (fun h' EV MX=>?_) K.kind;have hk:∀b u,(s2.heap.push {cls:=.type "list",dict:=none,data:=.seq ([]:List Value).toArray}).get? b=some u->h'.get? b=some u:=fun b u e=>
  MX.extBut b u (Nat.ne_of_lt (Heap.lt_size e)) (Heap.get?_push_of_some _ e)
 refine oh (g:=g) (te:=te) (W:=W) (Qz:=fun H'=>qE i (.ref s2.heap.objs.size) σ H' D.nx) hc K I3 T Lq f3 (hg _ _ _ _ _) (he _ _ _ _ _) w0 turn rfl EV hk fun s' H' m' J1 MY Rx qz=>?_;show wpAny _ _ (assign (.Name y py) X.env (.ref s2.heap.objs.size)) _ _ s';obtain⟨_,f1,_,Ry,f4,f5⟩:=I3.wD (H':=H') (Nat.le_refl _) MY;refine wpAny_assign_Name (qC J1 hN RA (.inl hy) (v:=.ref s2.heap.objs.size) rfl (fun s4 J2 sb=>?_) (.inr hy));obtain⟨a,sa,WH⟩:=sb;have fK:(s2.heap.push {cls:=.type "list",dict:=none,data:=.seq ([]:List Value).toArray}).objs.size≠a:=by
  rcases WH with z|z
  ·rw[z];exact f1
  ·exact fun e=>f4 y a z e.symm
 refine⟨m',Rx.sameBut sa fK,fun h2 WI=>⟨_,H',?_,qz⟩⟩;exact J2.turned (t':=s4.toks) (fun b o hb e=>WI.extBut b o hb e) MY f1 Ry f4 f5
end
end L2
namespace L2
open PySem PySem.Spec PyProof.Rows
section
variable {X:Cx}
end
end L2
namespace L2
open PySem PySem.Spec PyProof.Rows
noncomputable def Cv(env:Env):List (Str×Addr)->Prop
 |[]=>True
 |p::r=>env.cells.lookup p.1=some p.2/\Cv env r
noncomputable def uz(X:Cx)(scope:Scope)(cl:List (Str×Addr)):List Nat->List Str->Prop
 |[],[]=>True
 |i::r,x::y=>(X.N[i]?=some x/\X.env.scope.names.lookup x=some .cell/\(cl.lookup x).isSome=true/\((relabel scope X.env).names.lookup x=some .cell\/(relabel scope X.env).names.lookup x=some .free))/\uz X scope cl r y
 |_,_=>False
theorem Cv.get{env:Env}:∀{cl:List (Str×Addr)},Cv env cl->∀x c,cl.lookup x=some c->env.cells.lookup x=some c
 |[],_,x,c,h=>by simp at h
 |(y,d)::r,k,x,c,h=>by
  rw[List.lookup_cons] at h;cases e:x==y with
  |true=>
   rw[e] at h;have e1:x=y:=eq_of_beq e;have e2:d=c:=Option.some.inj h;rw[e1,<-e2];exact k.1
  |false=>
   rw[e] at h;exact Cv.get k.2 x c h
theorem uz.len{X:Cx}{scope:Scope}{cl:List (Str×Addr)}:∀{fr:List Nat}{fs:List Str},uz X scope cl fr fs->fr.length=fs.length
 |[],[],_=>rfl
 |_::r,_::y,h=>congrArg Nat.succ (uz.len (fr:=r) (fs:=y) h.2)
 |[],_::_,h=>h.elim
 |_::_,[],h=>h.elim
theorem uz.get{X:Cx}{scope:Scope}{cl:List (Str×Addr)}:∀{fr:List Nat}{fs:List Str},uz X scope cl fr fs->∀(j i:Nat) x,fr[j]?=some i->fs[j]?=some x->
 X.N[i]?=some x/\X.env.scope.names.lookup x=some .cell/\(∃c,cl.lookup x=some c)/\((relabel scope X.env).names.lookup x=some .cell\/(relabel scope X.env).names.lookup x=some .free)
 |[],[],_,j,i,x,h,_=>by simp at h
 |k::r,z::y,H,0,i,x,h1,h2=>by
  simp at h1 h2;subst h1 h2;exact⟨H.1.1,H.1.2.1,Option.isSome_iff_exists.mp H.1.2.2.1,H.1.2.2.2⟩
 |k::r,z::y,H,j+1,i,x,h1,h2=>uz.get (fr:=r) (fs:=y) H.2 j i x (by simpa using h1) (by simpa using h2)
 |[],_::_,h,_,_,_,_,_=>h.elim
 |_::_,[],h,_,_,_,_,_=>h.elim
theorem g9{X:Cx}{scope:Scope}{cl:List (Str×Addr)}{own fs:List Str}{fr:List Nat}(Cu:closureFor scope X.env=pure cl)(kind:scope.kind=.function)(names:∀x∈scope.names,x.2=.local->scope.names.lookup x.1=some .local)(og:∀x∈scope.names,x.2≠.cell)(c:Cv X.env cl)(h:((relabel scope X.env).names.all fun p=>!(p.2==.cell||p.2==.free)||(cl.lookup p.1).isSome)=true)(f:uz X scope cl fr fs):oe X scope cl own fr (own++fs) where
 Cu:=Cu
 kind:=kind
 names:=names
 og:=og
 cls:=c.get
 has:=fun x hx=>by
  have hm:∃k,(x,k)∈(relabel scope X.env).names/\(k=.cell\/k=.free):=by
   rcases hx with z|z
   ·exact⟨_,PySem.mem_of_lookup z,.inl rfl⟩
   ·exact⟨_,PySem.mem_of_lookup z,.inr rfl⟩
  obtain⟨k,hk,RB⟩:=hm;have:=List.all_eq_true.mp h (x,k) hk;rcases RB with rfl|rfl
  ·exact Option.isSome_iff_exists.mp (by simpa using this)
  ·exact Option.isSome_iff_exists.mp (by simpa using this)
 len:=by rw[List.length_append,f.len]
 Rq:=fun i x hi=>by
  rw[List.getElem?_append_left (List.getElem?_eq_some_iff.mp hi).1];exact hi
 HE:=fun j i x h1 h2=>by
  rw[List.getElem?_append_right (Nat.le_add_right _ _),Nat.add_sub_cancel_left] at h2;exact f.get j i x h1 h2
noncomputable def qe(fr:List Nat)(σ:St):St:=fr.map fun i=>(σ[i]?).join
section
variable {own:List Str} {fr:List Nat} {g:TG} {te:TE} {σ:St} {H1:Hp} {Q:VK}
theorem rS{J:It}(n:Nat)(Pv:List V->Prop)(hz:n<=sizeLine)(p0:Pv [])(hs:∀(i:Nat)(r:St)(ys:List V)(H2:Hp),i<n->r.length=own.length->ys.length=i->Pv ys->au H1 H2->J.go i H2/\∀x H3,J.wa i H2 x H3->au H2 H3/\∀Z:V->St->Hp->Prop,(∀y dy H5,au H3 H5->Pv (ys++[y])->(∃r',r'.length=own.length/\dy=r'++qe fr σ)->Z y dy H5)->g x (r++qe fr σ) H3 fun dy H4=>te dy H4 fun y H5=>Z y dy H5)(he:∀H2,au H1 H2->J.stop n H2)(hq:∀D H2 ys,H1 D=none->au H1 H2->H2 D=some (.lst ys)->ys.length=n->Pv ys->Q (.ref D) H2):
 ∀D,H1 D=none->∃W:Nat->Nat->St->Hp->Prop,(∃m,W 0 m (g8 own fr σ) (upd H1 D (.lst [])))/\∀i m fX H2,W i m fX H2->
  (J.stop i H2/\Q (.ref D) H2)\/(J.go i H2/\∀x H3,J.wa i H2 x H3->g x fX H3 fun dy H4=>te dy H4 fun y H5=>∃ys,H5 D=some (.lst ys)/\ys.length<sizeLine/\∃m',m'<m/\W (i+1) m' dy (upd H5 D (.lst (ys++[y])))):=by
 intro D hD;refine⟨fun i m fX H2=>m=n-i/\i<=n/\au H1 H2/\(∃r:St,r.length=own.length/\fX=r++qe fr σ)/\∃ys,ys.length=i/\Pv ys/\H2 D=some (.lst ys),⟨n,rfl,Nat.zero_le _,au.new hD _,⟨_,List.length_replicate,rfl⟩,[],rfl,p0,ak⟩,fun i m fX H2 w=>?_⟩;obtain⟨rfl,hi,dZ,⟨r,hr,rfl⟩,ys,hl,hp,hy⟩:=w;by_cases gb:i<n
 ·obtain⟨go,st⟩:=hs i r ys H2 gb hr hl hp dZ;refine .inr ⟨go,fun x H3 y=>?_⟩;obtain⟨Pz,gg⟩:=st x H3 y;refine gg (fun v dy H5=>∃ys,H5 D=some (.lst ys)/\ys.length<sizeLine/\∃m',m'<n-i/\(m'=n-(i+1)/\i+1<=n/\au H1 (upd H5 D (.lst (ys++[v])))/\(∃r:St,r.length=own.length/\dy=r++qe fr σ)/\∃zs,zs.length=i+1/\Pv zs/\upd H5 D (.lst (ys++[v])) D=some (.lst zs))) fun v dy H5 xc pv⟨r',Fw,e⟩=>?_;refine⟨ys,xc _ _ (Pz _ _ hy),by lia,n-(i+1),by lia,rfl,gb,fun b o q=>?_,⟨r',Fw,e⟩,ys++[v],by rw[List.length_append,hl];rfl,pv,ak⟩;rw[aI (aN q hD)];exact xc _ _ (Pz _ _ (dZ _ _ q))
 ·obtain rfl:i=n:=by lia
  exact .inl ⟨he H2 dZ,hq D H2 ys hD dZ hy hl hp⟩
theorem qN{K:PySem.W.Frag}{a:Addr}{xs:List V}(hS:a_ K H1 a xs)(Pv:List V->Prop)(hz:xs.length<=sizeLine)(p0:Pv [])(hs:∀(i:Nat)(x:V)(r:St)(ys:List V)(H2:Hp),xs[i]?=some x->r.length=own.length->ys.length=i->Pv ys->au H1 H2->∀Z:V->St->Hp->Prop,(∀y dy H5,au H2 H5->Pv (ys++[y])->(∃r',r'.length=own.length/\dy=r'++qe fr σ)->Z y dy H5)->g x (r++qe fr σ) H2 fun dy H4=>te dy H4 fun y H5=>Z y dy H5)(hq:∀D H2 ys,H1 D=none->au H1 H2->H2 D=some (.lst ys)->ys.length=xs.length->Pv ys->Q (.ref D) H2):
 ∀D,H1 D=none->∃W:Nat->Nat->St->Hp->Prop,(∃m,W 0 m (g8 own fr σ) (upd H1 D (.lst [])))/\∀i m fX H2,W i m fX H2->
  ((qF K a).stop i H2/\Q (.ref D) H2)\/((qF K a).go i H2/\∀x H3,(qF K a).wa i H2 x H3->g x fX H3 fun dy H4=>te dy H4 fun y H5=>∃ys,H5 D=some (.lst ys)/\ys.length<sizeLine/\∃m',m'<m/\W (i+1) m' dy (upd H5 D (.lst (ys++[y])))):=
 rS xs.length Pv hz p0 (fun i r ys H2 hi hr hl hp dZ=>⟨⟨xs,xs[i],dZ.seq hS,by simp[hi]⟩,fun x H3 y=>by
  obtain⟨rfl,y⟩:=y
  exact⟨au.refl _,hs i x r ys _ (y xs (dZ.seq hS)) hr hl hp dZ⟩⟩) (fun H2 dZ=>⟨xs,dZ.seq hS,Nat.le_refl _⟩) hq
theorem xf{lo:Int}{n:Nat}(Pv:List V->Prop)(hz:n<=sizeLine)(p0:Pv [])(hs:∀(i:Nat)(r:St)(ys:List V)(H2:Hp),i<n->r.length=own.length->ys.length=i->Pv ys->au H1 H2->∀Z:V->St->Hp->Prop,(∀y dy H5,au H2 H5->Pv (ys++[y])->(∃r',r'.length=own.length/\dy=r'++qe fr σ)->Z y dy H5)->g (.int (lo+i)) (r++qe fr σ) H2 fun dy H4=>te dy H4 fun y H5=>Z y dy H5)(hq:∀D H2 ys,H1 D=none->au H1 H2->H2 D=some (.lst ys)->ys.length=n->Pv ys->Q (.ref D) H2):
 ∀D,H1 D=none->∃W:Nat->Nat->St->Hp->Prop,(∃m,W 0 m (g8 own fr σ) (upd H1 D (.lst [])))/\∀i m fX H2,W i m fX H2->
  ((yV lo n).stop i H2/\Q (.ref D) H2)\/((yV lo n).go i H2/\∀x H3,(yV lo n).wa i H2 x H3->g x fX H3 fun dy H4=>te dy H4 fun y H5=>∃ys,H5 D=some (.lst ys)/\ys.length<sizeLine/\∃m',m'<m/\W (i+1) m' dy (upd H5 D (.lst (ys++[y])))):=
 rS n Pv hz p0 (fun i r ys H2 hi hr hl hp dZ=>⟨hi,fun x H3 y=>by
  obtain⟨rfl,rfl⟩:=y
  exact⟨au.refl _,hs i r ys _ hi hr hl hp dZ⟩⟩) (fun H2 dZ=>Nat.le_refl _) hq
theorem AU{K:PySem.W.Frag}{a:Addr}{xs:List V}(hS:a_ K H1 a xs)(Pv:List V->Prop)(hz:xs.length<=sizeLine)(p0:Pv [])(hs:∀(i:Nat)(x:V)(p:Addr)(r:St)(ys:List V)(H2:Hp),xs[i]?=some x->r.length=own.length->ys.length=i->Pv ys->au H1 H2->H2 p=some (.tup [.int (i:Int),x])->
 ∀Z:V->St->Hp->Prop,(∀y dy H5,au H2 H5->Pv (ys++[y])->(∃r',r'.length=own.length/\dy=r'++qe fr σ)->Z y dy H5)->g (.ref p) (r++qe fr σ) H2 fun dy H4=>te dy H4 fun y H5=>Z y dy H5)(hq:∀D H2 ys,H1 D=none->au H1 H2->H2 D=some (.lst ys)->ys.length=xs.length->Pv ys->Q (.ref D) H2):
 ∀D,H1 D=none->∃W:Nat->Nat->St->Hp->Prop,(∃m,W 0 m (g8 own fr σ) (upd H1 D (.lst [])))/\∀i m fX H2,W i m fX H2->
  ((Cs K a).stop i H2/\Q (.ref D) H2)\/((Cs K a).go i H2/\∀x H3,(Cs K a).wa i H2 x H3->g x fX H3 fun dy H4=>te dy H4 fun y H5=>∃ys,H5 D=some (.lst ys)/\ys.length<sizeLine/\∃m',m'<m/\W (i+1) m' dy (upd H5 D (.lst (ys++[y])))):=
 rS xs.length Pv hz p0 (fun i r ys H2 hi hr hl hp dZ=>⟨⟨xs,xs[i],dZ.seq hS,by simp[hi]⟩,fun x H3 y=>by
  obtain⟨p,z,hn,rfl,rfl,y⟩:=y
  exact⟨au.new hn _,hs i z p r ys _ (y xs (dZ.seq hS)) hr hl hp (dZ.trans (au.new hn _)) ak⟩⟩) (fun H2 dZ=>⟨xs,dZ.seq hS,Nat.le_refl _⟩) hq
end
theorem uA{K:PySem.W.Frag}{a:Addr}{xs:List V}{g:TG}{tb:TS}{D:Ends}{σ:St}{H:Hp}(Pv:Nat->St->Hp->Prop)(h0:Pv 0 σ H)(hl:∀i σ H,i<=xs.length->Pv i σ H->a_ K H a xs)(hs:∀i x p σ H,xs[i]?=some x->H p=none->Pv i σ H->g (.ref p) σ (upd H p (.tup [.int (i:Int),x])) fun fX H2=>tb {D with nx:=Pv (i+1),ct:=Pv (i+1),bk:=D.nx} fX H2)(hd:∀σ H,Pv xs.length σ H->D.nx σ H):
 ∃W:Nat->Nat->St->Hp->Prop,(∃m,W 0 m σ H)/\∀i m σ H,W i m σ H->
  ((Cs K a).stop i H/\D.nx σ H)\/((Cs K a).go i H/\∃N:St->Hp->Prop,(∀bN H',N bN H'->∃m',m'<m/\W (i+1) m' bN H')/\∀x H',(Cs K a).wa i H x H'->g x σ H' fun fX H2=>tb {D with nx:=N,ct:=N,bk:=D.nx} fX H2):=by
 refine⟨fun i m σ H=>m=xs.length-i/\i<=xs.length/\Pv i σ H,⟨xs.length,rfl,Nat.zero_le _,h0⟩,fun i m σ H w=>?_⟩;obtain⟨rfl,hi,p⟩:=w;have q:=hl i σ H hi p;by_cases gb:i<xs.length
 ·refine .inr ⟨⟨xs,xs[i],q,by simp[gb]⟩,Pv (i+1),fun bN H' p'=>⟨xs.length-(i+1),by lia,rfl,gb,p'⟩,fun x H' y=>?_⟩;obtain⟨t,z,hn,rfl,rfl,y⟩:=y;exact hs i z t σ H (y xs q) hn p
 ·obtain rfl:i=xs.length:=by lia
  exact .inl ⟨⟨xs,q,Nat.le_refl _⟩,hd σ H p⟩
theorem rT{K:PySem.W.Frag}{a:Addr}{xs:List V}{g:TG}{tb:TS}{D:Ends}{σ:St}{H:Hp}(Pv:Nat->St->Hp->Prop)(h0:Pv 0 σ H)(hl:∀i σ H,i<=xs.length->Pv i σ H->a_ K H a xs)(hs:∀i x σ H,i<xs.length->xs[xs.length-1-i]?=some x->Pv i σ H->g x σ H fun fX H2=>tb {D with nx:=Pv (i+1),ct:=Pv (i+1),bk:=D.nx} fX H2)(hd:∀σ H,Pv xs.length σ H->D.nx σ H):
 ∃W:Nat->Nat->St->Hp->Prop,(∃m,W 0 m σ H)/\∀i m σ H,W i m σ H->
  ((Ls K a xs.length).stop i H/\D.nx σ H)\/((Ls K a xs.length).go i H/\∃N:St->Hp->Prop,(∀bN H',N bN H'->∃m',m'<m/\W (i+1) m' bN H')/\∀x H',(Ls K a xs.length).wa i H x H'->g x σ H' fun fX H2=>tb {D with nx:=N,ct:=N,bk:=D.nx} fX H2):=by
 refine⟨fun i m σ H=>m=xs.length-i/\i<=xs.length/\Pv i σ H,⟨xs.length,rfl,Nat.zero_le _,h0⟩,fun i m σ H w=>?_⟩;obtain⟨rfl,hi,p⟩:=w;have q:=hl i σ H hi p;by_cases gb:i<xs.length
 ·have hx:xs.length-1-i<xs.length:=by lia
  refine .inr ⟨⟨gb,xs,xs[xs.length-1-i],q,List.getElem?_eq_getElem hx⟩,Pv (i+1),fun bN H' p'=>⟨xs.length-(i+1),by lia,rfl,gb,p'⟩,fun x H' y=>?_⟩;obtain⟨rfl,y⟩:=y;exact hs i x σ _ gb (y xs q) p
 ·obtain rfl:i=xs.length:=by lia
  exact .inl ⟨rfl,hd σ H p⟩
theorem cX{c:TT}{tb:TS}{D:Ends}{σ:St}{H:Hp}(Pv:Nat->St->Hp->Prop)(h0:∃m,Pv m σ H)(hs:∀m σ H,Pv m σ H->c σ H fun b H1=>if b=true then ∃N:St->Hp->Prop,(∀bN H',N bN H'->∃m',m'<m/\Pv m' bN H')/\tb {D with nx:=N,ct:=N,bk:=D.nx} σ H1 else D.nx σ H1):Ca c tb D σ H:=⟨Pv,h0,hs⟩
section
variable {σ:St} {H:Hp} {R:It->Hp->Prop} {tl:TE} {tr:TA} {Q:VK}
theorem Fy{K:PySem.W.Frag}(h:tl σ H fun x H1=>∃a,x=.ref a/\(∃xs,a_ K H1 a xs)/\R (qF K a) H1):Hs K tl σ H R:=h
theorem JL(h:tr σ H fun vs H1=>∃j:Int,vs=[.int j]/\-(2^62)<=j/\j<2^62/\R (yV 0 j.toNat) H1):Ht tr σ H R:=h
theorem JM(h:tr σ H fun vs H1=>∃i j:Int,vs=[.int i,.int j]/\(-(2^62)<=i/\i<2^62/\-(2^62)<=j/\j<2^62)/\R (yV i (j-i).toNat) H1):Mf tr σ H R:=h
theorem Fz{K:PySem.W.Frag}(h:tr σ H fun vs H1=>∃a,vs=[.ref a]/\(∃xs,a_ K H1 a xs)/\R (Cs K a) H1):HD K tr σ H R:=h
theorem JN{K:PySem.W.Frag}(h:tr σ H fun vs H1=>∃a xs,vs=[.ref a]/\a_ K H1 a xs/\R (Ls K a xs.length) H1):MW K tr σ H R:=h
theorem JO{te:TE}{S:Option Int->Hp->Prop}(h:te σ H fun x H1=>∃i,x=.int i/\S (some i) H1):HA te σ H S:=h
theorem Cw{S:Option Int->Hp->Prop}(h:S none H):za σ H S:=h
theorem FA{r:V->Option Int->Option Int->Hp->VK->Prop}{Us Ut:TO}(h:tl σ H fun x H1=>Us σ H1 fun l H2=>Ut σ H2 fun u H3=>r x l u H3 Q):Uj r tl Us Ut σ H Q:=h
theorem M0{to ti:TE}{t:Fg}{v:V}{S:St->Hp->Prop}(h:to σ H fun o H1=>ti σ H1 fun i H2=>t o i v H2 fun H3=>S σ H3):Md to ti t v σ H S:=h
end
theorem xg{K:PySem.W.Frag}{H:Hp}{p:Addr}{xs:List V}{R:Bool->Prop}(hs:a_ K H p xs)(h:R (!xs.isEmpty)):∃k,Fh K (.ref p) H k/\R k:=⟨_,.inl ⟨xs,hs,rfl⟩,h⟩
end L2
namespace SF
open Lean.Grind
section
variable {R:Type} [CommRing R]
noncomputable def aF(f:Nat->R):Nat->R
 |0=>0
 |n+1=>aF f n+f n
theorem aQ{f g:Nat->R}:∀{n:Nat},(∀i,i<n->f i=g i)->aF f n=aF g n
 |0,_=>rfl
 |n+1,h=>by
  show aF f n+f n=aF g n+g n;rw[aQ (fun i hi=>h i (Nat.lt_succ_of_lt hi)),h n (Nat.lt_succ_self n)]
theorem fc(f g:Nat->R):∀n,aF (fun i=>f i+g i) n=aF f n+aF g n
 |0=>by show(0:R)=0+0;grind
 |n+1=>by
  show aF (fun i=>f i+g i) n+(f n+g n)=aF f n+f n+(aF g n+g n);rw[fc f g n];grind
theorem cO(c:R)(f:Nat->R):∀n,aF (fun i=>c*f i) n=c*aF f n
 |0=>by show(0:R)=c*0;grind
 |n+1=>by
  show aF (fun i=>c*f i) n+c*f n=c*(aF f n+f n);rw[cO c f n];grind
theorem jP(c:R)(f:Nat->R)(n:Nat):aF (fun i=>f i*c) n=aF f n*c:=by
 rw[aQ (g:=fun i=>c*f i) (fun i _=>by grind),cO];grind
theorem qO(n:Nat):aF (fun _=>(0:R)) n=0:=by
 induction n with
 |zero=>rfl
 |succ n ih=>show aF (fun _=>(0:R)) n+0=0;rw[ih];grind
theorem cq{f:Nat->R}{n:Nat}(h:∀i,i<n->f i=0):aF f n=0:=by
 rw[aQ h,qO]
theorem eS(f:Nat->R):∀n,aF f (n+1)=f 0+aF (fun i=>f (i+1)) n
 |0=>by show(0:R)+f 0=f 0+0;grind
 |n+1=>by
  show aF f (n+1)+f (n+1)=f 0+(aF (fun i=>f (i+1)) n+f (n+1));rw[eS f n];grind
theorem cu(f:Nat->R)(m:Nat):∀n,aF f (m+n)=aF f m+aF (fun i=>f (m+i)) n
 |0=>by show aF f m=aF f m+0;grind
 |n+1=>by
  show aF f (m+n)+f (m+n)=aF f m+(aF (fun i=>f (m+i)) n+f (m+n));rw[cu f m n];grind
theorem uB(f:Nat->R):∀n,aF f (n+1)=aF (fun i=>f (n-i)) (n+1)
 |0=>rfl
 |n+1=>by
  rw[eS (fun i=>f (n+1-i)) (n+1)];show aF f (n+1)+f (n+1)=f (n+1)+aF (fun i=>f (n+1-(i+1))) (n+1);rw[uB f n,aQ (f:=fun i=>f (n+1-(i+1))) (g:=fun i=>f (n-i)) (fun i _=>by rw[Nat.add_sub_add_right])];grind
theorem oi(F:Nat->Nat->R):∀n,aF (fun i=>aF (fun j=>F j (i-j)) (i+1)) n=aF (fun j=>aF (fun k=>F j k) (n-j)) n
 |0=>rfl
 |n+1=>by
  show aF (fun i=>aF (fun j=>F j (i-j)) (i+1)) n+aF (fun j=>F j (n-j)) (n+1)=aF (fun j=>aF (fun k=>F j k) (n+1-j)) n+aF (fun k=>F n k) (n+1-n);rw[oi F n];have e1:aF (fun j=>aF (fun k=>F j k) (n+1-j)) n=aF (fun j=>aF (fun k=>F j k) (n-j)+F j (n-j)) n:=by
   refine aQ fun j hj=>?_;have e:n+1-j=(n-j)+1:=by lia
   rw[e];rfl
  rw[e1,fc];have e2:n+1-n=1:=by lia
  rw[e2];show _+(aF (fun j=>F j (n-j)) n+F n (n-n))=_+(0+F n 0);rw[Nat.sub_self];grind
end
structure PS(R:Type) where
 c:Nat->R
namespace PS
variable {R:Type} [CommRing R]
theorem ext{f g:PS R}(h:∀i,f.c i=g.c i):f=g:=by
 cases f;cases g;congr;exact funext h
noncomputable def RD(f g:PS R):PS R:=⟨fun i=>f.c i+g.c i⟩
noncomputable def RE(f g:PS R):PS R:=⟨fun n=>aF (fun i=>f.c i*g.c (n-i)) (n+1)⟩
noncomputable def RF(f:PS R):PS R:=⟨fun i=>-f.c i⟩
noncomputable def RG(f g:PS R):PS R:=⟨fun i=>f.c i-g.c i⟩
noncomputable def C(a:R):PS R:=⟨fun i=>if i=0 then a else 0⟩
noncomputable instance:Add (PS R):=⟨RD⟩
noncomputable instance:Mul (PS R):=⟨RE⟩
noncomputable instance:Neg (PS R):=⟨RF⟩
noncomputable instance:Sub (PS R):=⟨RG⟩
theorem oj(f g:PS R)(i:Nat):(f+g).c i=f.c i+g.c i:=rfl
theorem Cy(f:PS R)(i:Nat):(-f).c i=-f.c i:=rfl
theorem JP(f g:PS R)(i:Nat):(f-g).c i=f.c i-g.c i:=rfl
theorem dQ(f g:PS R)(n:Nat):(f*g).c n=aF (fun i=>f.c i*g.c (n-i)) (n+1):=rfl
theorem om(a:R)(i:Nat):(C a).c i=if i=0 then a else 0:=rfl
theorem mul_comm(f g:PS R):f*g=g*f:=by
 apply ext;intro n;rw[dQ,dQ,uB];refine aQ fun i hi=>?_;have e:n-(n-i)=i:=by lia
 rw[e];grind
theorem mV(a:R)(f:PS R)(n:Nat):(C a*f).c n=a*f.c n:=by
 rw[dQ,eS];rw[cq (fun i _=>by rw[om,if_neg (by lia)];grind)];rw[om,if_pos rfl,Nat.sub_zero];grind
theorem mul_assoc(f g h:PS R):f*g*h=f*(g*h):=by
 apply ext;intro n;rw[dQ,dQ];have e1:aF (fun i=>(f*g).c i*h.c (n-i)) (n+1)=aF (fun i=>aF (fun j=>(fun j k=>f.c j*g.c k*h.c (n-(j+k))) j (i-j)) (i+1)) (n+1):=by
  refine aQ fun i hi=>?_;rw[dQ,<-jP];refine aQ fun j hj=>?_;show f.c j*g.c (i-j)*h.c (n-i)=f.c j*g.c (i-j)*h.c (n-(j+(i-j)));have e:j+(i-j)=i:=by lia
  rw[e]
 have e2:aF (fun i=>f.c i*(g*h).c (n-i)) (n+1)=aF (fun j=>aF (fun k=>(fun j k=>f.c j*g.c k*h.c (n-(j+k))) j k) (n+1-j)) (n+1):=by
  refine aQ fun j hj=>?_;rw[dQ,<-cO];have e:n+1-j=n-j+1:=by lia
  rw[e];refine aQ fun k hk=>?_;show f.c j*(g.c k*h.c (n-j-k))=f.c j*g.c k*h.c (n-(j+k));have e:n-j-k=n-(j+k):=by lia
  rw[e];grind
 rw[e1,e2];exact oi (fun j k=>f.c j*g.c k*h.c (n-(j+k))) (n+1)
theorem add_mul(f g h:PS R):(f+g)*h=f*h+g*h:=by
 apply ext;intro n;rw[dQ,oj,dQ,dQ,<-fc];exact aQ fun i _=>by rw[oj];grind
theorem one_mul(f:PS R):C 1*f=f:=by
 apply ext;intro n;rw[mV];grind
theorem Cz(a b:R):C (a+b)=C a+C b:=by
 apply ext;intro i;rw[oj,om,om,om];split<;>grind
theorem zf(a:R):C (-a)=-C a:=by
 apply ext;intro i;rw[Cy,om,om];split<;>grind
theorem iq(i:Nat):(C (0:R)).c i=0:=by rw[om];split<;>rfl
noncomputable instance instNatCast:NatCast (PS R):=⟨fun n=>C (@NatCast.natCast R Semiring.natCast n)⟩
noncomputable instance instIntCast:IntCast (PS R):=⟨fun n=>C (@IntCast.intCast R Ring.intCast n)⟩
noncomputable instance instOfNat(n:Nat):OfNat (PS R) n:=⟨C (@OfNat.ofNat R n (Semiring.ofNat n))⟩
noncomputable def M1(f:PS R):Nat->PS R
 |0=>C 1
 |n+1=>M1 f n*f
noncomputable instance instHPow:HPow (PS R) Nat (PS R):=⟨M1⟩
noncomputable instance iu:SMul Nat (PS R):=⟨fun n f=>C (@NatCast.natCast R Semiring.natCast n)*f⟩
noncomputable instance iw:SMul Int (PS R):=⟨fun n f=>C (@IntCast.intCast R Ring.intCast n)*f⟩
noncomputable instance instCommRing:CommRing (PS R) where
 natCast:=instNatCast
 ofNat:=instOfNat
 nsmul:=iu
 npow:=instHPow
 intCast:=instIntCast
 zsmul:=iw
 add_zero f:=by apply ext;intro i;show f.c i+(C (0:R)).c i=f.c i;rw[iq];grind
 add_comm f g:=by apply ext;intro i;show f.c i+g.c i=g.c i+f.c i;grind
 add_assoc f g h:=by apply ext;intro i;show f.c i+g.c i+h.c i=f.c i+(g.c i+h.c i);grind
 mul_assoc:=mul_assoc
 mul_one f:=by rw[mul_comm];exact one_mul f
 one_mul:=one_mul
 right_distrib:=add_mul
 left_distrib f g h:=by rw[mul_comm f (g+h),add_mul,mul_comm g f,mul_comm h f]
 zero_mul f:=by apply ext;intro i;show(C (0:R)*f:PS R).c i=(C (0:R)).c i;rw[mV,iq];grind
 mul_zero f:=by apply ext;intro i;show(f*C (0:R):PS R).c i=(C (0:R)).c i;rw[mul_comm,mV,iq];grind
 pow_zero f:=rfl
 pow_succ f n:=rfl
 ofNat_succ n:=by
  show C (@OfNat.ofNat R (n+1) (Semiring.ofNat (n+1)))=C (@OfNat.ofNat R n (Semiring.ofNat n))+C 1;rw[<-Cz];exact congrArg C (Semiring.ofNat_succ n)
 ofNat_eq_natCast n:=congrArg C (Semiring.ofNat_eq_natCast n)
 nsmul_eq_natCast_mul n f:=rfl
 neg_add_cancel f:=by apply ext;intro i;show-f.c i+f.c i=(C (0:R)).c i;rw[iq];grind
 sub_eq_add_neg f g:=by apply ext;intro i;show f.c i-g.c i=f.c i+-g.c i;grind
 neg_zsmul n f:=by
  apply ext;intro i;show(C (@IntCast.intCast R Ring.intCast (-n))*f).c i=-((C (@IntCast.intCast R Ring.intCast n)*f).c i);have e:@IntCast.intCast R Ring.intCast (-n)=-@IntCast.intCast R Ring.intCast n:=Ring.intCast_neg n;rw[mV,mV,e];grind
 zsmul_natCast_eq_nsmul n f:=by
  apply ext;intro i;show(C (@IntCast.intCast R Ring.intCast (n:Int))*f).c i=(C (@NatCast.natCast R Semiring.natCast n)*f).c i;rw[mV,mV];have e:@IntCast.intCast R Ring.intCast (n:Int)=@NatCast.natCast R Semiring.natCast n:=Ring.intCast_natCast n;rw[e]
 intCast_ofNat n:=congrArg C (Ring.intCast_ofNat n)
 intCast_neg n:=by
  show C (@IntCast.intCast R Ring.intCast (-n))=-C (@IntCast.intCast R Ring.intCast n);rw[<-zf];exact congrArg C (Ring.intCast_neg n)
 mul_comm:=mul_comm
noncomputable def nat(n:Nat):R:=@NatCast.natCast R Semiring.natCast n
noncomputable def bE(f:PS R):PS R:=⟨fun n=>nat (n+1)*f.c (n+1)⟩
theorem oo(f:PS R)(n:Nat):(bE f).c n=nat (n+1)*f.c (n+1):=rfl
theorem FC(m n:Nat):(nat (m+n):R)=nat m+nat n:=Semiring.natCast_add m n
theorem jQ(f g:PS R):bE (f*g)=bE f*g+f*bE g:=by
 apply ext;intro n;rw[oj,oo,dQ,dQ,dQ];have e0:nat (n+1)*aF (fun i=>f.c i*g.c (n+1-i)) (n+1+1)=aF (fun i=>nat i*(f.c i*g.c (n+1-i))) (n+1+1)+aF (fun i=>nat (n+1-i)*(f.c i*g.c (n+1-i))) (n+1+1):=by
  rw[<-cO,<-fc];refine aQ fun i hi=>?_;have e:n+1=i+(n+1-i):=by lia
  have e2:(nat (n+1):R)=nat i+nat (n+1-i):=by rw[<-FC,<-e]
  rw[e2];grind
 rw[e0];have z:(nat 0:R)=0:=Semiring.natCast_zero;have e1:aF (fun i=>nat i*(f.c i*g.c (n+1-i))) (n+1+1)=aF (fun i=>(bE f).c i*g.c (n-i)) (n+1):=by
  rw[eS,z];have:aF (fun i=>nat (i+1)*(f.c (i+1)*g.c (n+1-(i+1)))) (n+1)=aF (fun i=>(bE f).c i*g.c (n-i)) (n+1):=by
   refine aQ fun i _=>?_;rw[Nat.add_sub_add_right,oo];grind
  rw[this];grind
 have e2:aF (fun i=>nat (n+1-i)*(f.c i*g.c (n+1-i))) (n+1+1)=aF (fun i=>f.c i*(bE g).c (n-i)) (n+1):=by
  show aF (fun i=>nat (n+1-i)*(f.c i*g.c (n+1-i))) (n+1)+nat (n+1-(n+1))*(f.c (n+1)*g.c (n+1-(n+1)))=_;rw[Nat.sub_self,z];have:aF (fun i=>nat (n+1-i)*(f.c i*g.c (n+1-i))) (n+1)=aF (fun i=>f.c i*(bE g).c (n-i)) (n+1):=by
   refine aQ fun i hi=>?_;have e:n+1-i=(n-i)+1:=by lia
   rw[e,oo];grind
  rw[this];grind
 rw[e1,e2]
end PS
end SF
namespace SF
noncomputable def Bd(n:Nat)(x:Int):Prop:=x.natAbs<2^n
theorem Bd.mono{m n:Nat}{x:Int}(h:Bd m x)(Lw:m<=n):Bd n x:=
 Nat.lt_of_lt_of_le h (Nat.pow_le_pow_right (by decide) Lw)
theorem Bd.mul{m n:Nat}{x y:Int}(h:Bd m x)(h':Bd n y):Bd (m+n) (x*y):=by
 unfold Bd at*;rw[Int.natAbs_mul,Nat.pow_add];exact Nat.mul_lt_mul'' h h'
theorem Bd.neg{n:Nat}{x:Int}(h:Bd n x):Bd n (-x):=by
 unfold Bd at*;rw[Int.natAbs_neg];exact h
theorem Bd.add{n:Nat}{x y:Int}(h:Bd n x)(h':Bd n y):Bd (n+1) (x+y):=by
 unfold Bd at*;have:=Int.natAbs_add_le x y;rw[Nat.pow_succ];lia
theorem Bd.sub{n:Nat}{x y:Int}(h:Bd n x)(h':Bd n y):Bd (n+1) (x-y):=by
 rw[Int.sub_eq_add_neg];exact h.add h'.neg
theorem Bd.of_dvd{n:Nat}{x y:Int}(h:Bd n y)(hd:x∣y)(h0:y≠0):Bd n x:=by
 unfold Bd at*;have h1:x.natAbs∣y.natAbs:=Int.natAbs_dvd_natAbs.mpr hd;have h2:=Nat.le_of_dvd (Int.natAbs_pos.mpr h0) h1;lia
theorem Bd.log2{n:Nat}{x:Int}(h:Bd n x)(hn:n<=9000):x.natAbs.log2<9000:=by
 unfold Bd at h;rcases Nat.eq_zero_or_pos x.natAbs with h0|hp
 ·rw[h0];decide
 ·exact(Nat.log2_lt (Nat.ne_of_gt hp)).mpr (Nat.lt_of_lt_of_le h (Nat.pow_le_pow_right (by decide) hn))
theorem Bd.of_le{n:Nat}{x y:Int}(h:Bd n y)(h':x.natAbs<=y.natAbs):Bd n x:=Nat.lt_of_le_of_lt h' h
theorem Bd.gr{n:Nat}{x:Int}(h1:0<=x)(h2:x<2^n):Bd n x:=by
 unfold Bd;have e:((2:Int)^n)=((2^n:Nat):Int):=by simp
 rw[e] at h2;lia
theorem Bd.of_two{n:Nat}{x:Int}(h1:-(2^n)<x)(h2:x<2^n):Bd n x:=by
 unfold Bd;have e:((2:Int)^n)=((2^n:Nat):Int):=by simp
 rw[e] at h1 h2;lia
theorem fQ{g l:Int}(hl:0<l):g.fmod l=g%l:=Int.fmod_eq_emod_of_nonneg g (by lia)
theorem fR{g l:Int}(hl:0<l):g.fdiv l=g/l:=Int.fdiv_eq_ediv_of_nonneg g (by lia)
theorem uC{g l:Int}(hg:0<=g)(hl:0<l):Int.gcd l (g%l)=Int.gcd g l:=by
 obtain⟨m,rfl⟩:=Int.eq_ofNat_of_zero_le hg;obtain⟨n,rfl⟩:=Int.eq_ofNat_of_zero_le (show 0<=l by lia);have e:((m:Int)%(n:Int))=((m%n:Nat):Int):=by simp
 rw[e];show Nat.gcd n (m%n)=Nat.gcd m n;rw[Nat.gcd_comm m n,Nat.gcd_rec n m,Nat.gcd_comm]
theorem zg{a b:Int}:Int.gcd (if a<0 then -a else a) (if b<0 then -b else b)=Int.gcd a b:=by
 split<;>split<;>simp[Int.gcd_neg,Int.neg_gcd]
theorem zh{g:Int}(hg:0<=g):((Int.gcd g 0:Nat):Int)=g:=by
 rw[Int.gcd_zero_right];lia
noncomputable def rs(a b:Int):Int:=if b<0 then -((Int.gcd a b:Nat):Int) else((Int.gcd a b:Nat):Int)
noncomputable def rt(a b:Int):Int:=a.fdiv (rs a b)
noncomputable def ru(a b:Int):Int:=b.fdiv (rs a b)
theorem HF{a b:Int}(h:b≠0):rs a b≠0:=by
 have:0<Int.gcd a b:=Int.gcd_pos_of_ne_zero_right a h;unfold rs;split<;>lia
theorem uD{a b:Int}:rs a b∣a:=by
 unfold rs;split
 ·exact Int.neg_dvd.mpr (Int.gcd_dvd_left ..)
 ·exact Int.gcd_dvd_left ..
theorem rV{a b:Int}:rs a b∣b:=by
 unfold rs;split
 ·exact Int.neg_dvd.mpr (Int.gcd_dvd_right ..)
 ·exact Int.gcd_dvd_right ..
theorem gu{x y:Int}(hd:y∣x):x.fdiv y*y=x:=Int.fdiv_mul_cancel hd
theorem xi{a b:Int}:rt a b*rs a b=a:=gu uD
theorem rW{a b:Int}:ru a b*rs a b=b:=gu rV
theorem CA{a b:Int}(h:b≠0):0<ru a b:=by
 have e:=rW (a:=a) (b:=b);have hg:0<Int.gcd a b:=Int.gcd_pos_of_ne_zero_right a h;by_cases hb:b<0
 ·have hs:rs a b<0:=by unfold rs;rw[if_pos hb];lia
  by_cases hq:0<ru a b
  ·exact hq
  ·have:0<=ru a b*rs a b:=Int.mul_nonneg_of_nonpos_of_nonpos (by lia) (by lia);lia
 ·have hs:0<rs a b:=by unfold rs;rw[if_neg hb];lia
  by_cases hq:0<ru a b
  ·exact hq
  ·have:ru a b*rs a b<=0:=Int.mul_nonpos_of_nonpos_of_nonneg (by lia) (by lia);lia
theorem zi{a b:Int}(h:b≠0):rt a b*b=a*ru a b:=by
 have e1:=xi (a:=a) (b:=b);have e2:=rW (a:=a) (b:=b);have h0:=HF (a:=a) h;have:(rt a b*b)*rs a b=(a*ru a b)*rs a b:=by grind
 exact Int.eq_of_mul_eq_mul_right h0 this
theorem HG{a b:Int}(h:b≠0):Int.gcd (rt a b) (ru a b)=1:=by
 have e1:=xi (a:=a) (b:=b);have e2:=rW (a:=a) (b:=b);have h0:=HF (a:=a) h;have hg:0<Int.gcd a b:=Int.gcd_pos_of_ne_zero_right a h;have hn:(rs a b).natAbs=Int.gcd a b:=by unfold rs;split<;>lia
 have:Int.gcd (rt a b*rs a b) (ru a b*rs a b)=Int.gcd (rt a b) (ru a b)*(rs a b).natAbs:=Int.gcd_mul_right ..;rw[e1,e2,hn] at this;have h2:1*Int.gcd a b=Int.gcd (rt a b) (ru a b)*Int.gcd a b:=by lia
 exact(Nat.eq_of_mul_eq_mul_right hg h2).symm
theorem JQ{a b:Int}:rt a b∣a:=⟨rs a b,xi.symm⟩
theorem JR{a b:Int}:ru a b∣b:=⟨rs a b,rW.symm⟩
theorem M3{a b:Int}{n:Nat}(_h:b≠0)(hb:Bd n a):Bd n (rt a b):=by
 by_cases ha:a=0
 ·subst ha;have e:rt 0 b=0:=by unfold rt;simp
  rw[e];exact hb
 ·exact hb.of_dvd JQ ha
theorem M4{a b:Int}{n:Nat}(h:b≠0)(hb:Bd n b):Bd n (ru a b):=hb.of_dvd JR h
structure ZF(p q a b:Int):Prop where
 pos:0<q
 Uu:p*b=a*q
 low:Int.gcd p q=1
end SF
namespace SF
open Lean.Grind
noncomputable def co(xs:List Int)(i:Nat):Int:=xs.getD i 0
noncomputable def se(xs:List Int):PS Int:=⟨co xs⟩
theorem rX(xs:List Int):(se xs).c=co xs:=rfl
theorem iQ(x:Int)(r:List Int):co (x::r) 0=x:=rfl
theorem fe(x:Int)(r:List Int)(i:Nat):co (x::r) (i+1)=co r i:=rfl
theorem cy{xs:List Int}{i:Nat}(h:i<xs.length):co xs i=xs[i]:=by
 show xs.getD i 0=_;rw[List.getD_eq_getElem?_getD,List.getElem?_eq_getElem h];rfl
theorem cz{xs:List Int}{i:Nat}(h:xs.length<=i):co xs i=0:=by
 show xs.getD i 0=_;rw[List.getD_eq_getElem?_getD,List.getElem?_eq_none h];rfl
theorem iR(xs:List Int)(n i:Nat):co (xs.take n) i=if i<n then co xs i else 0:=by
 show(xs.take n).getD i 0=_;rw[List.getD_eq_getElem?_getD];split
 ·rename_i h;rw[List.getElem?_take_of_lt h];rfl
 ·rename_i h;rw[List.getElem?_eq_none (by rw[List.length_take];lia)];rfl
theorem JS(f:Int->Int)(h0:f 0=0)(xs:List Int)(i:Nat):co (xs.map f) i=f (co xs i):=by
 show(xs.map f).getD i 0=f (xs.getD i 0);rw[List.getD_eq_getElem?_getD,List.getD_eq_getElem?_getD,List.getElem?_map];cases xs[i]? with
 |none=>exact h0.symm
 |some v=>rfl
noncomputable def fv(f:Nat->Int)(n:Nat):List Int:=(List.range n).map f
theorem aR(f:Nat->Int)(n:Nat):(fv f n).length=n:=by simp[fv]
theorem jr(f:Nat->Int)(n i:Nat):co (fv f n) i=if i<n then f i else 0:=by
 split
 ·rename_i h;rw[cy (by rw[aR];exact h)];simp[fv]
 ·rename_i h;exact cz (by rw[aR];lia)
theorem rY{f:Nat->Int}{n:Nat}(h:∀i,n<=i->f i=0):co (fv f n)=f:=by
 funext i
 rw[jr];split
 ·rfl
 ·rename_i hi;exact(h i (by lia)).symm
theorem JT(xs:List Int):fv (co xs) xs.length=xs:=by
 refine List.ext_getElem (aR _ _) fun i h1 h2=>?_;simp only[fv,List.getElem_map,List.getElem_range];exact cy h2
theorem rZ{f:Nat->Int}{n i:Nat}{v:Int}(h:i<n):(fv f n).set i v=fv (fun j=>if j=i then v else f j) n:=by
 refine List.ext_getElem (by rw[List.length_set,aR,aR]) fun j h1 h2=>?_;rw[List.getElem_set];simp only[fv,List.getElem_map,List.getElem_range];by_cases e:i=j
 ·rw[if_pos e,if_pos e.symm]
 ·rw[if_neg e,if_neg (Ne.symm e)]
theorem dt{f g:Nat->Int}{n:Nat}(h:∀i,i<n->f i=g i):fv f n=fv g n:=by
 unfold fv;exact List.map_congr_left fun i hi=>h i (List.mem_range.mp hi)
noncomputable def Tr(xs:List Int):Prop:=∀x,xs.getLast?=some x->x≠0
theorem Tr.nil:Tr []:=fun x h=>by cases h
theorem Tr.last{xs:List Int}(h:Tr xs)(hn:xs≠[]):co xs (xs.length-1)≠0:=by
 have hl:0<xs.length:=List.length_pos_iff.mpr hn;rw[cy (by lia)];refine h _ ?_;rw[List.getLast?_eq_getElem?,List.getElem?_eq_getElem (by lia)]
theorem Tr.jR{xs:List Int}(h:xs≠[]->co xs (xs.length-1)≠0):Tr xs:=by
 intro x hx;have hn:xs≠[]:=by rintro rfl;cases hx
 have hl:0<xs.length:=List.length_pos_iff.mpr hn;have:=h hn;rw[cy (by lia)] at this;rw[List.getLast?_eq_getElem?,List.getElem?_eq_getElem (by lia)] at hx;rw[Option.some.inj hx] at this;exact this
theorem Tr.inj{xs ys:List Int}(hx:Tr xs)(hy:Tr ys)(h:∀i,co xs i=co ys i):xs=ys:=by
 have hl:xs.length=ys.length:=by
  rcases Nat.lt_trichotomy xs.length ys.length with gb|he|gb
  ·have hn:ys≠[]:=by rintro rfl;exact absurd gb (Nat.not_lt_zero _)
   have:=hy.last hn;rw[<-h,cz (by lia)] at this;exact absurd rfl this
  ·exact he
  ·have hn:xs≠[]:=by rintro rfl;exact absurd gb (Nat.not_lt_zero _)
   have:=hx.last hn;rw[h,cz (by lia)] at this;exact absurd rfl this
 refine List.ext_getElem hl fun i h1 h2=>?_;have:=h i;rw[cy h1,cy h2] at this;exact this
noncomputable def dU:List Int->List Int
 |[]=>[]
 |x::r=>match dU r with
  |[]=>if x=0 then[] else[x]
  |y::t=>x::y::t
theorem gv:∀(xs:List Int)(i:Nat),co (dU xs) i=co xs i
 |[],i=>rfl
 |x::r,i=>by
  have ih:=gv r;unfold dU;cases e:dU r with
  |nil=>
   rw[e] at ih
   dsimp only
   split
   ·rename_i hx;cases i with
    |zero=>exact hx.symm
    |succ i=>rw[fe,<-ih i];rfl
   ·cases i with
    |zero=>rfl
    |succ i=>rw[fe,fe,<-ih i]
  |cons y t=>
   rw[e] at ih;cases i with
   |zero=>rfl
   |succ i=>exact ih i
theorem iy:∀xs:List Int,Tr (dU xs)
 |[]=>Tr.nil
 |x::r=>by
  have ih:=iy r;unfold dU;cases e:dU r with
  |nil=>
   dsimp only
   split
   ·exact Tr.nil
   ·rename_i hx;intro z hz;have:x=z:=by simpa using hz
    rw[<-this];exact hx
  |cons y t=>
   rw[e] at ih;intro z hz;exact ih z (by simpa using hz)
theorem CB{xs:List Int}(h:Tr xs):dU xs=xs:=(iy xs).inj h (gv xs)
theorem CC{xs ys:List Int}(h:∀i,co xs i=co ys i):dU xs=dU ys:=
 (iy xs).inj (iy ys) fun i=>by rw[gv,gv,h]
theorem qP:∀xs:List Int,(dU xs).length<=xs.length
 |[]=>Nat.le_refl _
 |x::r=>by
  have ih:=qP r;unfold dU;cases e:dU r with
  |nil=>
   dsimp only
   split<;>simp
  |cons y t=>
   rw[e] at ih;simp only[List.length_cons] at*;lia
theorem xj{xs:List Int}{n:Nat}(h:co xs n=0):dU (xs.take (n+1))=dU (xs.take n):=by
 refine CC fun i=>?_;rw[iR,iR];by_cases h1:i<n
 ·rw[if_pos h1,if_pos (by lia)]
 ·rw[if_neg h1];split
  ·have:i=n:=by lia
   rw[this];exact h
  ·rfl
theorem FD{xs:List Int}{n:Nat}(hn:n<=xs.length)(h:n=0\/co xs (n-1)≠0):Tr (xs.take n):=by
 refine Tr.jR fun fK=>?_;have hl:(xs.take n).length=n:=by rw[List.length_take];lia
 rw[hl,iR];have:0<n:=by
  rcases Nat.eq_zero_or_pos n with z|z
  ·rw[z] at fK;simp at fK
  ·exact z
 rw[if_pos (by lia)];rcases h with z|z
 ·lia
 ·exact z
noncomputable def mulL(xs ys:List Int):List Int:=if xs=[]\/ys=[] then[] else fv (se xs*se ys).c (xs.length+ys.length-1)
theorem uE{xs ys:List Int}{n:Nat}(h:xs.length+ys.length<=n+1):(se xs*se ys).c n=0:=by
 rw[PS.dQ];refine cq fun i hi=>?_;by_cases h1:i<xs.length
 ·rw[rX,rX,cz (xs:=ys) (by lia)];grind
 ·rw[rX,rX,cz (xs:=xs) (by lia)];grind
theorem nK(xs ys:List Int):co (mulL xs ys)=(se xs*se ys).c:=by
 unfold mulL;split
 ·rename_i h
  funext n
  rw[PS.dQ];refine(cq fun i _=>?_).symm;rcases h with h|h<;>subst h
  ·show(0:Int)*_=0;grind
  ·show _*(0:Int)=0;grind
 ·refine rY fun i hi=>uE ?_;rename_i h;rw[_root_.not_or] at h;have h1:=List.length_pos_iff.mpr h.1;have h2:=List.length_pos_iff.mpr h.2;lia
theorem oq{xs ys:List Int}(hx:xs≠[])(hy:ys≠[]):(se xs*se ys).c (xs.length+ys.length-2)=co xs (xs.length-1)*co ys (ys.length-1):=by
 have h1:=List.length_pos_iff.mpr hx;have h2:=List.length_pos_iff.mpr hy;rw[PS.dQ];have e:xs.length+ys.length-2+1=(xs.length-1)+(1+(ys.length-1)):=by lia
 rw[e,cu,cu];rw[cq (n:=xs.length-1) (fun i hi=>by rw[rX,rX,cz (xs:=ys) (by lia)];grind)];rw[cq (n:=ys.length-1) (fun i hi=>by rw[rX,rX,cz (xs:=xs) (by lia)];grind)];show 0+((0+co xs (xs.length-1+0)*co ys (xs.length+ys.length-2-(xs.length-1+0)))+0)=_;have e2:xs.length+ys.length-2-(xs.length-1+0)=ys.length-1:=by lia
 rw[e2,Nat.add_zero];grind
theorem nL{xs ys:List Int}(hx:Tr xs)(hy:Tr ys):Tr (mulL xs ys):=by
 by_cases h:xs=[]\/ys=[]
 ·unfold mulL;rw[if_pos h];exact Tr.nil
 ·refine Tr.jR fun _=>?_;rw[nK];have hl:(mulL xs ys).length=xs.length+ys.length-1:=by unfold mulL;rw[if_neg h,aR]
  rw[hl];rw[_root_.not_or] at h;have h1:=List.length_pos_iff.mpr h.1;have h2:=List.length_pos_iff.mpr h.2;have e:xs.length+ys.length-1-1=xs.length+ys.length-2:=by lia
  rw[e,oq h.1 h.2];exact Int.mul_ne_zero (hx.last h.1) (hy.last h.2)
noncomputable def cF(xs:List Int):List Int:=fv (PS.bE (se xs)).c (xs.length-1)
theorem kS(xs:List Int):co (cF xs)=(PS.bE (se xs)).c:=by
 refine rY fun i hi=>?_;show PS.nat (i+1)*co xs (i+1)=0;rw[cz (by lia)];grind
theorem FE(n:Nat):(PS.nat n:Int)=(n:Int):=rfl
theorem zj{xs:List Int}(hx:Tr xs):Tr (cF xs):=by
 refine Tr.jR fun h=>?_;have hl:(cF xs).length=xs.length-1:=aR _ _;have hp:0<(cF xs).length:=List.length_pos_iff.mpr h;rw[hl] at hp;rw[kS,hl];have fK:xs≠[]:=by rintro rfl;simp at hp
 have e:xs.length-1-1+1=xs.length-1:=by lia
 show PS.nat (xs.length-1-1+1)*co xs (xs.length-1-1+1)≠0;rw[e,FE];exact Int.mul_ne_zero (by lia) (hx.last fK)
end SF
namespace SF
noncomputable def fy(xs:List Int):Nat:=xs.foldl (fun g x=>Int.gcd g x) 0
noncomputable def kT(g:Nat)(xs:List Int):Nat:=xs.foldl (fun g x=>Int.gcd g x) g
theorem qQ:∀(xs:List Int)(g d:Nat),d∣kT g xs↔(d∣g/\∀x∈xs,(d:Int)∣x)
 |[],g,d=>by simp[kT]
 |x::r,g,d=>by
  have ih:=qQ r (Int.gcd g x) d;show d∣kT (Int.gcd g x) r↔_;rw[ih];have h1:d∣Int.gcd g x↔(d∣g/\(d:Int)∣x):=by
   constructor
   ·intro h;have hz:(d:Int)∣((Int.gcd g x:Nat):Int):=Int.ofNat_dvd.mpr h;exact⟨Int.ofNat_dvd.mp (Int.dvd_trans hz (Int.gcd_dvd_left ..)),Int.dvd_trans hz (Int.gcd_dvd_right ..)⟩
   ·rintro⟨h1,h2⟩;exact Int.ofNat_dvd.mp (Int.dvd_coe_gcd (Int.ofNat_dvd.mpr h1) h2)
  rw[h1];constructor
  ·rintro⟨⟨a,b⟩,c⟩;exact⟨a,fun y hy=>by rcases List.mem_cons.mp hy with rfl|hy;exact b;exact c y hy⟩
  ·rintro⟨a,b⟩;exact⟨⟨a,b x List.mem_cons_self⟩,fun y hy=>b y (List.mem_cons_of_mem _ hy)⟩
theorem md(xs:List Int)(d:Nat):d∣fy xs↔∀x∈xs,(d:Int)∣x:=by
 have:=qQ xs 0 d;rw[show kT 0 xs=fy xs from rfl] at this;rw[this];exact⟨fun h=>h.2,fun h=>⟨Nat.dvd_zero d,h⟩⟩
theorem kU{xs:List Int}{x:Int}(h:x∈xs):((fy xs:Nat):Int)∣x:=(md xs _).mp (Nat.dvd_refl _) x h
theorem me{xs:List Int}{x:Int}(h:x∈xs)(h0:x≠0):0<fy xs:=by
 rcases Nat.eq_zero_or_pos (fy xs) with z|z
 ·have:=kU h;rw[z] at this;exact absurd (Int.zero_dvd.mp this) h0
 ·exact z
noncomputable def cont(xs:List Int):Int:=if co xs (xs.length-1)<0 then -((fy xs:Nat):Int) else((fy xs:Nat):Int)
theorem uF(xs:List Int):(cont xs).natAbs=fy xs:=by unfold cont;split<;>lia
theorem ot{xs:List Int}{x:Int}(h:x∈xs):cont xs∣x:=by
 unfold cont;split
 ·exact Int.neg_dvd.mpr (kU h)
 ·exact kU h
theorem kW{xs:List Int}(hn:xs≠[]):co xs (xs.length-1)∈xs:=by
 have hl:0<xs.length:=List.length_pos_iff.mpr hn;rw[cy (by lia)];exact List.getElem_mem _
theorem ff{xs:List Int}(h:Tr xs)(hn:xs≠[]):cont xs≠0:=by
 have:=me (kW hn) (h.last hn);have e:=uF xs;lia
noncomputable def aC(xs:List Int):List Int:=xs.map (·.fdiv (cont xs))
theorem aY(xs:List Int):(aC xs).length=xs.length:=List.length_map _
theorem iz{xs:List Int}{i:Nat}(h:i<xs.length):co (aC xs) i*cont xs=co xs i:=by
 unfold aC;rw[JS (fun y=>y.fdiv (cont xs)) (by simp)];have hm:co xs i∈xs:=by rw[cy h];exact List.getElem_mem _
 exact Int.fdiv_mul_cancel (ot hm)
theorem iS{xs:List Int}(h:Tr xs)(hn:xs≠[]):0<co (aC xs) (xs.length-1):=by
 have hl:0<xs.length:=List.length_pos_iff.mpr hn;have e:=iz (xs:=xs) (i:=xs.length-1) (by lia);have h0:=h.last hn;have hp:=me (kW hn) h0;by_cases hc:co xs (xs.length-1)<0
 ·have hs:cont xs<0:=by unfold cont;rw[if_pos hc];lia
  by_cases hq:0<co (aC xs) (xs.length-1)
  ·exact hq
  ·have:0<=co (aC xs) (xs.length-1)*cont xs:=Int.mul_nonneg_of_nonpos_of_nonpos (by lia) (by lia);lia
 ·have hs:0<cont xs:=by unfold cont;rw[if_neg hc];lia
  by_cases hq:0<co (aC xs) (xs.length-1)
  ·exact hq
  ·have:co (aC xs) (xs.length-1)*cont xs<=0:=Int.mul_nonpos_of_nonpos_of_nonneg (by lia) (by lia);lia
theorem cA{xs:List Int}(h:Tr xs):Tr (aC xs):=by
 refine Tr.jR fun hn=>?_;have hx:xs≠[]:=by rintro rfl;exact hn rfl
 rw[aY];have:=iS h hx;lia
theorem uH{xs:List Int}(h:Tr xs)(hn:xs≠[]):fy (aC xs)=1:=by
 have h0:=h.last hn;have hp:=me (kW hn) h0;have hd:fy (aC xs)*fy xs∣fy xs:=by
  rw[md];intro x hx;have hy:x.fdiv (cont xs)∈aC xs:=List.mem_map.mpr ⟨x,hx,rfl⟩;have h1:=kU hy;have e:=Int.fdiv_mul_cancel (ot hx);obtain⟨k,hk⟩:=h1;have ha:(cont xs).natAbs=fy xs:=uF xs;rcases Int.natAbs_eq (cont xs) with hc|hc
  ·rw[ha] at hc;refine⟨k,?_⟩;rw[<-e,hk,hc];push_cast;grind
  ·rw[ha] at hc;refine⟨-k,?_⟩;rw[<-e,hk,hc];push_cast;grind
 have h2:fy (aC xs)*fy xs∣1*fy xs:=by rw[Nat.one_mul];exact hd
 have h3:=Nat.dvd_of_mul_dvd_mul_right hp h2;exact Nat.eq_one_of_dvd_one h3
noncomputable def hv(t u:Int)(xs:List Int):Int:=aF (fun i=>co xs i*(t^i*u^(xs.length-1-i))) xs.length
noncomputable def js(t u:Int)(p:Int×Int)(x:Int):Int×Int:=(p.1*t+x*p.2,p.2*u)
theorem r_(t u x:Int)(r:List Int):hv t u (x::r)=hv t u r*t+x*u^r.length:=by
 unfold hv;rw[List.length_cons,eS,<-jP];have e:aF (fun i=>co (x::r) (i+1)*(t^(i+1)*u^(r.length+1-1-(i+1)))) r.length=aF (fun i=>co r i*(t^i*u^(r.length-1-i))*t) r.length:=by
  refine aQ fun i hi=>?_;have e1:r.length+1-1-(i+1)=r.length-1-i:=by lia
  rw[e1,fe,Int.pow_succ];grind
 rw[e];rw[iQ,Nat.add_sub_cancel,Nat.sub_zero,Int.pow_zero];grind
theorem zk(t u:Int):∀xs:List Int,xs.reverse.foldl (js t u) (0,1)=(hv t u xs,u^xs.length)
 |[]=>by show((0:Int),(1:Int))=(0,u^0);rw[Int.pow_zero]
 |x::r=>by
  rw[List.reverse_cons,List.foldl_append,zk t u r,r_];show(hv t u r*t+x*u^r.length,u^r.length*u)=_;rw[List.length_cons,Int.pow_succ]
end SF
namespace SF
noncomputable def cv(xs ys:List Int)(a j:Nat):Int:=aF (fun i=>if i<=j then co xs i*co ys (j-i) else 0) a
theorem FF(xs ys:List Int)(a j:Nat):cv xs ys (a+1) j=cv xs ys a j+(if a<=j then co xs a*co ys (j-a) else 0):=rfl
theorem zl(xs ys:List Int)(j:Nat):cv xs ys xs.length j=(se xs*se ys).c j:=by
 rw[PS.dQ];show aF (fun i=>if i<=j then co xs i*co ys (j-i) else 0) xs.length=aF (fun i=>co xs i*co ys (j-i)) (j+1);rcases Nat.le_total xs.length (j+1) with h|h
 ·have e:j+1=xs.length+(j+1-xs.length):=by lia
  rw[e,cu,cq (n:=j+1-xs.length) (fun i _=>by rw[cz (xs:=xs) (by lia)];grind)];rw[aQ (g:=fun i=>co xs i*co ys (j-i)) (fun i hi=>by rw[if_pos (by lia)])];grind
 ·have e:xs.length=(j+1)+(xs.length-(j+1)):=by lia
  rw[e,cu,cq (n:=xs.length-(j+1)) (fun i _=>by rw[if_neg (by lia)])];rw[aQ (g:=fun i=>co xs i*co ys (j-i)) (fun i hi=>by rw[if_pos (by lia)])];grind
theorem CD(xs ys:List Int)(a j:Nat):(cv xs ys a j+if a<=j/\j<a+ys.length then co xs a*co ys (j-a) else 0)=cv xs ys (a+1) j:=by
 rw[FF];by_cases h:a<=j
 ·rw[if_pos h];by_cases h2:j<a+ys.length
  ·rw[if_pos ⟨h,h2⟩]
  ·rw[if_neg (fun z=>h2 z.2),cz (xs:=ys) (by lia)];grind
 ·rw[if_neg h,if_neg (fun z=>h z.1)]
theorem uI{xs ys:List Int}(hx:xs≠[])(hy:ys≠[]):mulL xs ys=fv (cv xs ys xs.length) (xs.length+ys.length-1):=by
 unfold mulL;rw[if_neg (by intro z;rcases z with z|z;exact hx z;exact hy z)];exact dt fun i _=>(zl xs ys i).symm
theorem CF(n:Nat):fv (fun _=>0) n=List.replicate n 0:=by
 refine List.ext_getElem (by rw[aR,List.length_replicate]) fun i h1 h2=>?_;simp[fv]
theorem AV(xs:List Int):((fv (fun i=>(i:Int)*co xs i) xs.length).drop 1)=cF xs:=by
 unfold cF;refine List.ext_getElem (by rw[List.length_drop,aR,aR]) fun i h1 h2=>?_;rw[List.getElem_drop];have e1:(fv (fun i=>(i:Int)*co xs i) xs.length)[1+i]'(by rw[aR];rw[aR] at h2;lia)=((1+i:Nat):Int)*co xs (1+i):=by simp only[fv,List.getElem_map,List.getElem_range]
 rw[e1];simp only[fv,List.getElem_map,List.getElem_range];rw[PS.oo,rX,Nat.add_comm 1 i];rfl
noncomputable def CG(t u:Int)(xs:List Int)(j:Nat):Int×Int:=(xs.reverse.take j).foldl (js t u) (0,1)
theorem CH(t u:Int)(xs:List Int):CG t u xs 0=(0,1):=rfl
theorem uJ(t u:Int)(xs:List Int)(j:Nat)(h:j<xs.length):CG t u xs (j+1)=js t u (CG t u xs j) (co xs (xs.length-1-j)):=by
 unfold CG;have hj:j<xs.reverse.length:=by rw[List.length_reverse];exact h
 rw[List.take_add_one,List.getElem?_eq_getElem hj,Option.toList_some,List.foldl_append];have e:xs.reverse[j]=co xs (xs.length-1-j):=by
  rw[List.getElem_reverse,cy (by lia)]
 rw[e];rfl
theorem ou(t u:Int)(xs:List Int):(CG t u xs xs.length).1=hv t u xs:=by
 unfold CG;rw[List.take_of_length_le (by rw[List.length_reverse];exact Nat.le_refl _),zk]
end SF
namespace L2
open PySem PySem.Spec PyProof.Rows
section
variable {X:Cx} {K:PySem.W.Frag} {pos:Pos}
theorem uK(h:X.K=K):Pk X (Jr K):=by subst h;exact bB
theorem FG{es:List Expr}{k:Nat}{t:EU}{n:Nat}(hK:X.K=K)(hc:X.calm=true)(h:Ma X es t)(hn:(assignEach es X.env).length=n)(Hr:(assignEach es X.env).findIdx? (·.1)=none):PG X (.Tuple es k pos) (Jh K n t):=by subst hK;exact kh hc h hn Hr
end
theorem uL(F:Nat->Int)(n:Nat):SF.fv F (n+1)=SF.fv F n++[F n]:=by
 unfold SF.fv;rw[List.range_succ,List.map_append];rfl
theorem sf{α:Type}{r:List α}(h:r.length=1):∃x,r=[x]:=by
 match r,h with
 |[x],_=>exact⟨x,rfl⟩
theorem RH{α:Type}{r:List α}(h:r.length=2):∃x y,r=[x,y]:=by
 match r,h with
 |[x,y],_=>exact⟨x,y,rfl⟩
noncomputable abbrev kj(J:It)(own:List Str)(fr:List Nat)(σ:St)(g:TG)(te:TE)(H1:Hp)(Q:VK):Prop:=
 ∀D,H1 D=none->∃W:Nat->Nat->St->Hp->Prop,(∃m,W 0 m (g8 own fr σ) (upd H1 D (.lst [])))/\∀i m fX H2,W i m fX H2->
  (J.stop i H2/\Q (.ref D) H2)\/(J.go i H2/\∀x H3,J.wa i H2 x H3->g x fX H3 fun dy H4=>te dy H4 fun y H5=>∃ys,H5 D=some (.lst ys)/\ys.length<sizeLine/\∃m',m'<m/\W (i+1) m' dy (upd H5 D (.lst (ys++[y]))))
section
variable {K:PySem.W.Frag} {own:List Str} {fr:List Nat} {g:TG} {te:TE} {σ:St} {H1:Hp} {Q:VK}
theorem sh{xs:List Int}{n:Nat}{x:V}(h:(xs.map V.int)[n]?=some x):n<xs.length/\x=.int (SF.co xs n):=by
 have hn:n<xs.length:=by
  have:=(List.getElem?_eq_some_iff.mp h).1
  rwa [List.length_map] at this
 rw[List.getElem?_map,List.getElem?_eq_getElem hn] at h;rw[SF.cy hn];exact⟨hn,(Option.some.inj h).symm⟩
theorem iT{a:Addr}{xs:List Int}(hS:a_ K H1 a (xs.map V.int))(F:Nat->Int)(hz:xs.length<=1000)(hs:∀(i:Nat)(r:St)(H2:Hp),i<xs.length->r.length=own.length->au H1 H2->∀Z:V->St->Hp->Prop,(∀dy H5,au H2 H5->(∃r':St,r'.length=own.length/\dy=r'++qe fr σ)->Z (.int (F i)) dy H5)->g (.int (SF.co xs i)) (r++qe fr σ) H2 fun dy H4=>te dy H4 fun y H5=>Z y dy H5)(hq:∀D H2,H1 D=none->au H1 H2->H2 D=some (.lst ((SF.fv F xs.length).map V.int))->Q (.ref D) H2):kj (qF K a) own fr σ g te H1 Q:=
 qN hS (fun ys=>ys=(SF.fv F ys.length).map V.int) (fb (by rw[List.length_map];exact hz)) rfl
  (fun i x r ys H2 hx hr hl hp dZ Z hZ=>by
   obtain⟨hi,rfl⟩:=sh hx
   refine hs i r H2 hi hr dZ Z fun dy H5 s e=>hZ _ dy H5 s ?_ e
   subst hl
   rw[List.length_append]
   show ys++[V.int (F ys.length)]=(SF.fv F (ys.length+1)).map V.int
   rw[uL,List.map_append,<-hp];rfl)
  (fun D H2 ys hD dZ h2 hl hp=>hq D H2 hD dZ (by rw[h2,hp,hl,List.length_map]))
theorem xk{a:Addr}{xs:List Int}(hS:a_ K H1 a (xs.map V.int))(F:Nat->Int)(hz:xs.length<=1000)(hs:∀(i:Nat)(p:Addr)(r:St)(H2:Hp),i<xs.length->r.length=own.length->au H1 H2->H2 p=some (.tup [.int (i:Int),.int (SF.co xs i)])->
 ∀Z:V->St->Hp->Prop,(∀dy H5,au H2 H5->(∃r':St,r'.length=own.length/\dy=r'++qe fr σ)->Z (.int (F i)) dy H5)->g (.ref p) (r++qe fr σ) H2 fun dy H4=>te dy H4 fun y H5=>Z y dy H5)(hq:∀D H2,H1 D=none->au H1 H2->H2 D=some (.lst ((SF.fv F xs.length).map V.int))->Q (.ref D) H2):kj (Cs K a) own fr σ g te H1 Q:=
 AU hS (fun ys=>ys=(SF.fv F ys.length).map V.int) (fb (by rw[List.length_map];exact hz)) rfl
  (fun i x p r ys H2 hx hr hl hp dZ si Z hZ=>by
   obtain⟨hi,rfl⟩:=sh hx
   refine hs i p r H2 hi hr dZ si Z fun dy H5 s e=>hZ _ dy H5 s ?_ e
   subst hl
   rw[List.length_append]
   show ys++[V.int (F ys.length)]=(SF.fv F (ys.length+1)).map V.int
   rw[uL,List.map_append,<-hp];rfl)
  (fun D H2 ys hD dZ h2 hl hp=>hq D H2 hD dZ (by rw[h2,hp,hl,List.length_map]))
theorem f6{σ:St}{H H1:Hp}{Q:VK}{own:List Str}{fr:List Nat}{wi:TI}{g:TG}{te:TE}(J:It)(h:∀R:It->Hp->Prop,R J H1->wi σ H R)(h2:kj J own fr σ g te H1 Q):ze own fr wi g te σ H Q:=h _ h2
end
end L2
namespace PySem
open Sem (wp)
namespace F
theorem AW:typeLookup (.type "list_reverseiterator") "__len__"=pure none:=by rw[typeLookup_type,builtinLookup_eq_fast];kernel_rfl
theorem CI:typeLookup (.type "list_reverseiterator") "__length_hint__"=pure (some (.builtin "list_reverseiterator.__length_hint__")):=by rw[typeLookup_type,builtinLookup_eq_fast];kernel_rfl
end F
section
variable {prog:Program} {w:World} {A:Around} {E:Value->Shared->Prop} {s:Shared}
theorem CJ{I:Addr}{Q:Bool->Shared->Prop}(hT:s.TypeIs (.ref I) "list_reverseiterator")(h:Q false s):wpAny (model prog w) A (Builtin.List.listLengthHint (.ref I)) Q E s:=by
 unfold Builtin.List.listLengthHint;refine wpAny_bind (wpAny_specialOf hT F.AW ?_);show wpAny _ _ (specialOf (Value.ref I) (Str.ofString "__length_hint__") >>= _) _ _ _;refine wpAny_bind (wpAny_specialOf hT F.CI ?_)
 (generalize RI:("list_reverseiterator.__length_hint__":String)=WJ;wp_delta;rw[show splitId WJ=some ("list_reverseiterator","__length_hint__") from by subst RI;decide +kernel];subst RI)
 refine wpAny_bind (wpAny_isInstance (b:=true) hT (by rw[isSubtype_type];kernel_rfl) ?_);exact wpAny_pure h
theorem uM{I l:Addr}{items:Array Value}{Q:Value->Shared->Prop}(hh:A.handled=none)(hit:s.heap.IsRevIter I l ((items.size:Int)-1))(hl:s.heap.IsList l items)(fK:l≠I)(hn:items.size<=sizeLine)(hQ:∀h' tk nu c',(∀b o,b≠I->s.heap.get? b=some o->h'.get? b=some o)->h'.get? s.heap.objs.size=some {cls:=.type "list",dict:=none,data:=.seq nu c',slots:=#[]}->
 ItemsOf (fun i v=>items[items.size-1-i]?=some v) nu items.size->Q (.ref s.heap.objs.size) {s with heap:=h',toks:=tk}):
 wpAny (model prog w) A (call (.type "list") [.ref I]) Q E s:=by
 refine callType_codes (Q₁:=fun obj cN=>obj=.ref s.heap.objs.size/\cN={s with heap:=s.heap.push {cls:=.type "list",data:=.seq #[]}}) PySem.F.called_list (PySem.F.typeCall_list_1 _) PySem.F.entry_list_init
  (code_list_new _ ⟨rfl,rfl⟩) fun obj cN RJ=>?_
 obtain⟨rfl,rfl⟩:=RJ;have hS:(s.heap.push {cls:=.type "list",data:=.seq #[]}).get? s.heap.objs.size=some {cls:=.type "list",data:=.seq #[]}:=Heap.get?_push_size _ rfl;have hI:I<s.heap.objs.size:=let⟨_,e,_⟩:=hit;Heap.lt_size e;have gb:l<s.heap.objs.size:=let⟨_,e,_⟩:=hl;Heap.lt_size e;refine⟨⟨_,hS,rfl⟩,PySem.F.args_list_init_2 _ _,?_⟩;show wpAny _ _ (do let old<-Builtin.List.listItems (.ref s.heap.objs.size);Builtin.List.listUpdate (.ref s.heap.objs.size) (fun _=>#[]);letGo old.toList.reverse;Builtin.List.listExtendWith (.ref s.heap.objs.size) (.ref I) .none) _ _ _;generalize RK:s.heap.objs.size=S at hS ⊢;generalize M5:s.heap.push {cls:=.type "list",data:=.seq #[]}=h1 at hS ⊢;have k1:∀b o,s.heap.get? b=some o->h1.get? b=some o:=fun b o e=>by rw[<-M5];exact Heap.get?_push_of_some _ e
 refine wpAny_bind ?_;unfold Builtin.List.listItems;refine wpAny_bind (wpAny_seqItems hS rfl (wpAny_pure ?_));show wpAny _ _ (updateSeq S (fun _=>#[]) >>= fun _=>letGo (#[]:Array Value).toList.reverse >>= fun _=>Builtin.List.listExtendWith (.ref S) (.ref I) .none) _ _ _;refine wpAny_bind (wpAny_updateSeq hS rfl ?_);have HH:=Heap.get?_update_self (Obj.mapSeq (fun _=>(#[]:Array Value))) hS rfl;have PC:∀b o,b≠S->h1.get? b=some o->(h1.update S (Obj.mapSeq (fun _=>(#[]:Array Value)))).get? b=some o:=
  fun b o hb e=>(Heap.get?_update_other _ _ (Ne.symm hb)).trans e
 refine wpAny_bind (wpAny_letGo ?_);have RL:S≠I:=fun e=>by rw[<-e,<-RK] at hI;exact Nat.lt_irrefl _ hI
 have Uv:S≠l:=fun e=>by rw[<-e,<-RK] at gb;exact Nat.lt_irrefl _ gb
 generalize ZG:h1.update S (Obj.mapSeq (fun _=>(#[]:Array Value)))=h2 at HH PC ⊢;have FH:h2.IsRevIter I l ((items.size:Int)-1):=hit.at fun o e=>PC _ _ RL.symm (k1 _ _ e);have qR:h2.IsList l items:=hl.at fun o e=>PC _ _ Uv.symm (k1 _ _ e);have W:=Walks.listRev (prog:=prog) (w:=w) (A:=A.in1.in1) hh I l fK items;have e0:(items.size:Int)-1-((0:Nat):Int)=(items.size:Int)-1:=by lia
 have WK:(0:Nat)<=items.size/\h2.IsRevIter I l ((items.size:Int)-1-((0:Nat):Int))/\h2.IsList l items:=by
  rw[e0];exact⟨Nat.zero_le _,FH,qR⟩
 unfold Builtin.List.listExtendWith;refine wpAny_bind (wpAny_typeOf (T:="list_reverseiterator") FH.typeIs ?_);have h3:Builtin.List.listSameRef (.ref S) (.ref I)=false:=by simp[Builtin.List.listSameRef,RL]
 rw[if_neg (by rw[h3];decide)];refine wpAny_bind (wpAny_pyIter_revIter FH ?_);refine wpAny_bind (wpAny_holding (CJ FH.typeIs ?_));rw[if_neg (by decide)];refine wpAny_pure ⟨plainId_quiet PySem.F.plain_extend_loop _,?_⟩;obtain⟨c3,WL⟩:∃c,h2.get? S=some {cls:=.type "list",dict:=none,data:=.seq #[] c,slots:=#[]}:=⟨_,HH⟩;refine codeAny_extend_loopS W.toS hn S (by simp only[List.mem_cons,List.not_mem_nil,or_false,not_or];exact⟨RL,Uv⟩) .none items.size 0 {s with heap:=h2} #[] c3 rfl (Nat.zero_le _) WK WL (ItemsOf.nil _) fun s' nu c' hm WM FI=>?_;rw[Moved.eq_with hm];subst RK;refine⟨rfl,hQ s'.heap s'.toks nu c' (fun b o hb e=>hm.heap b o (fun JU=>?_) (PC b o ?_ (k1 b o e))) WM FI⟩
 ·rcases List.mem_cons.mp JU with e'|JU
  ·have:=Heap.lt_size e;rw[e'] at this;exact Nat.lt_irrefl _ this
  ·exact hb (List.mem_singleton.mp JU)
 ·intro z;have:=Heap.lt_size e;rw[z] at this;exact Nat.lt_irrefl _ this
theorem ow{l:Addr}{items:Array Value}{Q:Value->Shared->Prop}(hl:s.heap.IsList l items)(h:∀uj:Shared,uj={s with heap:=s.heap.push {cls:=.type "list_iterator",data:=.fields #[.ref l,.int 0 0]}}->
 (uj.heap.IsListIter s.heap.objs.size l 0/\uj.heap.IsList l items)->l≠s.heap.objs.size->Q (.ref s.heap.objs.size) uj):
 wpAny (model prog w) A (pyIter (.ref l)) Q E s:=by
 have gb:l<s.heap.objs.size:=by obtain⟨_,e,_⟩:=hl;exact Heap.lt_size e
 exact wpAny_pyIter_list hl (h _ rfl ⟨⟨_,Heap.get?_push_size _ rfl,rfl,rfl⟩,hl.push _⟩ (Nat.ne_of_lt gb))
end
end PySem
namespace L2
open PySem PySem.Spec PyProof.Rows
section
variable {X:Cx}
theorem AX(hc:X.calm=true):jm X (.builtin "any") (fun xs H Q=>∃(p:Addr)(ns:List Int),xs=[.ref p]/\a_ X.K H p (ns.map V.int)/\Q (.bl (ns.any (·!=0))) H):=by
 intro pins s σ H xs us Q I r h;obtain⟨p,ns,rfl,hp,q⟩:=h;obtain⟨u,rfl,rx⟩:=vals1 r;cases rx;obtain⟨aZ,rv,pl,hz⟩:=I.list hp;have hlen:=rv.length;rw[List.length_map] at hlen;refine call_any_walk (ow pl.isList fun uj e st RM=>?_);subst e;refine⟨_,_,_,_,_,_,fun i=>(ns.getD i 0)!=0,rfl,Walks.list (A:=X.A.in1) (I.ok.hd hc) _ p RM aZ.toArray,st,?_,fun h' tk hk=>?_⟩
 ·intro i v s' Q' E' hv RN;have ik:aZ[i]?=some v:=by simpa using hv
  have hi:i<aZ.length:=(List.getElem?_eq_some_iff.mp ik).1;obtain⟨t,e⟩:=int_at rv (j:=i) (by lia) hi;rw[List.getElem?_eq_getElem hi,e] at ik;cases ik;have M6:Q' (ns.getD i 0!=0) s':=RN;rw[List.getD_eq_getElem?_getD,List.getElem?_eq_getElem (by lia)] at M6;exact truthy_int M6
 ·have e:(List.range aZ.toArray.size).any (fun i=>(ns.getD i 0)!=0)=ns.any (·!=0):=by
   rw[List.size_toArray,<-hlen,Bool.eq_iff_iff,List.any_eq_true,List.any_eq_true];constructor
   ·rintro⟨i,hi,h⟩;have hi:=List.mem_range.mp hi;rw[List.getD_eq_getElem?_getD,List.getElem?_eq_getElem hi] at h;exact⟨_,List.getElem_mem hi,h⟩
   ·rintro⟨x,hx,h⟩;obtain⟨i,hi,rfl⟩:=List.getElem_of_mem hx;refine⟨i,List.mem_range.mpr hi,?_⟩;rw[List.getD_eq_getElem?_getD,List.getElem?_eq_getElem hi];exact h
  rw[e];exact⟨.bl _,H,I.kept (old_kept hk),rfl,q⟩
theorem M7{xs:List Bool}{aZ:List Value}(r:Vals (xs.map V.bl) aZ){j:Nat}(h:j<xs.length)(h':j<aZ.length):aZ[j]=Value.bool xs[j]:=by
 have e:(xs.map V.bl)[j]?=some (V.bl xs[j]):=by rw[List.getElem?_map,List.getElem?_eq_getElem h]<;>rfl
 obtain⟨u,hu,hr⟩:=r.get e;rw[List.getElem?_eq_getElem h'] at hu;have Fw:u=Value.bool xs[j]:=hr;rw[<-Fw];exact Option.some.inj hu
theorem AY(hc:X.calm=true):jm X (.builtin "all") (fun xs H Q=>∃(p:Addr)(bs:List Bool),xs=[.ref p]/\a_ X.K H p (bs.map V.bl)/\Q (.bl (bs.all id)) H):=by
 intro pins s σ H xs us Q I r h;obtain⟨p,ns,rfl,hp,q⟩:=h;obtain⟨u,rfl,rx⟩:=vals1 r;cases rx;obtain⟨aZ,rv,pl,hz⟩:=I.list hp;have hlen:=rv.length;rw[List.length_map] at hlen;refine call_all_walk (ow pl.isList fun uj e st RM=>?_);subst e;refine⟨_,_,_,_,_,_,fun i=>ns.getD i false,rfl,Walks.list (A:=X.A.in1) (I.ok.hd hc) _ p RM aZ.toArray,st,?_,fun h' tk hk=>?_⟩
 ·intro i v s' Q' E' hv RN;have ik:aZ[i]?=some v:=by simpa using hv
  have hi:i<aZ.length:=(List.getElem?_eq_some_iff.mp ik).1;have e:=M7 rv (j:=i) (by lia) hi;rw[List.getElem?_eq_getElem hi,e] at ik;cases ik;have M6:Q' (ns.getD i false) s':=RN;rw[List.getD_eq_getElem?_getD,List.getElem?_eq_getElem (by lia)] at M6;exact wpAny_truthy_bool M6
 ·have e:(List.range aZ.toArray.size).all (fun i=>ns.getD i false)=ns.all id:=by
   rw[List.size_toArray,<-hlen,Bool.eq_iff_iff,List.all_eq_true,List.all_eq_true];constructor
   ·intro h x hx;obtain⟨i,hi,rfl⟩:=List.getElem_of_mem hx;have:=h i (List.mem_range.mpr hi);rw[List.getD_eq_getElem?_getD,List.getElem?_eq_getElem hi] at this;exact this
   ·intro h i hi;have hi:=List.mem_range.mp hi;rw[List.getD_eq_getElem?_getD,List.getElem?_eq_getElem hi];exact h _ (List.getElem_mem hi)
  rw[e];exact⟨.bl _,H,I.kept (old_kept hk),rfl,q⟩
theorem AZ(hc:X.calm=true):jm X (.builtin "max") (fun xs H Q=>∃(p:Addr)(ns:List Int),xs=[.ref p]/\a_ X.K H p (ns.map V.int)/\ns≠[]/\∀m,m∈ns->(∀x∈ns,x<=m)->Q (.int m) H):=by
 intro pins s σ H xs us Q I r h;obtain⟨p,ns,rfl,hp,fK,q⟩:=h;obtain⟨u,rfl,rx⟩:=vals1 r;cases rx;obtain⟨aZ,rv,pl,hz⟩:=I.list hp;have hi:IntsAre aZ ns:=intsAre_of rv;obtain⟨ys,e⟩:=hi.allInts.items;have EV:ns=ys.toList.map (·.1):=by
  rw[<-hi.numsOf,<-nums_intItems,<-e]
 have wJ:0<ys.size:=by
  have h3:=List.length_pos_iff.mpr fK;rw[EV,List.length_map,Array.length_toList] at h3;exact h3
 have PD:s.heap.IsList p (intItems ys):=e▸pl.isList;refine max_intList (I.ok.hd hc) PD wJ fun v h' tk hv hk=>?_;obtain⟨t,rfl⟩:=intItems_at hv;obtain⟨h1,h2⟩:=argBest_gt (numAt ys) (ys.size-1);refine⟨.int _,H,I.kept hk,⟨t,rfl⟩,q _ ?_ fun a ha=>?_⟩
 ·rw[EV,numAt_eq];exact getD_mem (by rw[List.length_map,Array.length_toList];lia)
 ·rw[EV] at ha;obtain⟨j,hj,rfl⟩:=mem_getD ha;rw[List.length_map,Array.length_toList] at hj;rw[<-numAt_eq];exact h2 j (by lia)
theorem uN:∀{xs:List V}{us:List Value},Vals xs us->Vals xs.reverse us.reverse
 |_,_,.nil=>.nil
 |_,_,.cons a b=>by
  rw[List.reverse_cons,List.reverse_cons];exact(uN b).append (.cons a .nil)
noncomputable def M8(K:PySem.W.Frag)(ta:TA):TE:=fun σ H Q=>ta σ H fun vs H1=>∃(p:Addr)(ys:List V),vs=[.ref p]/\a_ K H1 p ys/\∀l,H1 l=none->Q (.ref l) (upd H1 l (.lst ys.reverse))
theorem FJ{a:Expr}{ta:TA}{p p' pos pos':Pos}(hc:X.calm=true)(hg:Gl X "reversed")(hm:X.mg "reversed"=none)(MV:Gl X "list")(Lx:X.mg "list"=none)(ha:PA X [a] ta)(hs:starEach [a] X.env=[(false,eval a X.env)]:=by rfl)(xl:starEach [Expr.Call (.Name "reversed" p) [a] [] pos] X.env=[(false,eval (Expr.Call (.Name "reversed" p) [a] [] pos) X.env)]:=by rfl):
 PE X (.Call (.Name "list" p') [.Call (.Name "reversed" p) [a] [] pos] [] pos') (M8 X.K ta):=by
 intro pins s σ H Q I h;refine wpAny_Call_Name_kw (jk I MV Lx boot_list ?_);refine PyProof.Rows.callWith_type1 ?_ xl rfl;rw[xl];show wpAny _ _ (spliced [(false,eval (Expr.Call (.Name "reversed" p) [a] [] pos) X.env)]) _ _ _;refine Calls.spliced_cons ?_;refine Call_ (jk I hg hm boot_reversed (PyProof.Rows.callWith_type1 (dR (ha pos pins s σ H _ I h) fun us s1 q1=>?_) hs rfl));obtain⟨vs,H1,I1,r1,l,ys,rfl,hq,q⟩:=q1;obtain⟨u,rfl,rx⟩:=vals1 r1;cases rx;obtain⟨aZ,rv,pl,hz⟩:=I1.list hq;have hlen:=rv.length;refine call_reversed_list pl.isList ?_;refine Calls.spliced_nil ?_;have gb:l<s1.heap.objs.size:=by obtain⟨_,e,_⟩:=pl.isList;exact Heap.lt_size e
 have Rf:aZ.toArray.size<=sizeLine:=by rw[List.size_toArray];lia
 refine uM (items:=aZ.toArray) (I.ok.hd hc) ⟨_,Heap.get?_push_size _ rfl,rfl,rfl⟩ (pl.isList.push _) (Nat.ne_of_lt gb) Rf fun h' tk nu c' hk hS FI=>?_;have WN:∀b o,s1.heap.get? b=some o->h'.get? b=some o:=fun b o e=>hk b o (Nat.ne_of_lt (Heap.lt_size e)) (Heap.get?_push_of_some _ e);have wJ:s1.heap.objs.size<=(s1.heap.push (revObj l ((aZ.toArray.size:Int)-1))).objs.size:=by rw[Heap.size_push];lia
 have HI:nu.size=aZ.toArray.size:=FI.1;have rr:Vals ys.reverse nu.toList:=by
  have e:nu.toList=aZ.reverse:=by
   refine List.ext_getElem ?_ fun i h1 h2=>?_
   ·rw[Array.length_toList,HI,List.size_toArray,List.length_reverse]
   ·have h3:i<nu.size:=by simpa using h1
    have:=FI.2 i nu[i] (by simp[h3]);have h4:aZ.toArray.size-1-i<aZ.length:=by rw[List.size_toArray];rw[HI,List.size_toArray] at h3;lia
    have h5:aZ[aZ.toArray.size-1-i]?=some nu[i]:=by simpa using this
    rw[List.getElem?_eq_getElem h4] at h5;rw[List.getElem_reverse];simp only[Array.getElem_toList];rw[<-Option.some.inj h5];simp
  rw[e];exact uN rv
 refine⟨.ref _,_,I1.laid (t':=tk) WN wJ (show gk X.prog X.w _ h' _ (.lst ys.reverse) from⟨by rw[List.length_reverse];exact hz,nu.toList,c',rr,by rw[Array.toArray_toList];exact hS⟩),rfl,q _ (I1.eV.fresh wJ)⟩
end
end L2
namespace L2
open PySem PySem.Spec PyProof.Rows
structure Dv(X:Cx):Prop where
 tree:X.prog.given.tree=none
 top:∃(env:Env)(l:List Env),X.stack=env::l/\env.scope.isGenerator=false/\env.scope.isCoroutine=false/\env.builtins=builtinsNs/\env.globals=mainGlobals
 dp:X.A.depth+100<recursionLimit
theorem fP.py{k:Nat}{A:Around}(r:fP (k+32) A):A.depth+100<recursionLimit:=by have:=r.dp;lia
theorem eJ{X:Cx}(h:Dv X):nX X (binaryOp .FloorDiv) (rI (fun _ j=>j≠0) fun i j=>.int (i.fdiv j)):=by
 intro pins s σ H x y v u Q I rx ry hh;obtain⟨i,j,rfl,rfl,hc,q⟩:=hh;obtain⟨t,rfl⟩:=rx;obtain⟨t',rfl⟩:=ry;obtain⟨env,l,e,h1,h2,h3,h4⟩:=h.top;refine floordiv_int hc ?_ (.inr (PySem.PylongRoom.of I.nolimit h.dp (PySem.SeerAt.of (I.ok.mod.seer.keeps I.bk) h.tree (by rw[I.ok.frames,e]) h1 h2 h3 h4)));exact⟨.int (i.fdiv j),H,I.tok _,⟨_,rfl⟩,q⟩
end L2
namespace L2
open PySem PySem.Spec PyProof.Rows
section
variable {X:Cx}
end
end L2
namespace L2
open PySem PySem.Spec PyProof.Rows
inductive mf:List Expr->List Int->Prop
 |nil:mf [] []
 |pos {n:Int} {j:Nat} {p:Pos} {es:List Expr} {ns:List Int} (h:mf es ns):mf (.Constant (.int n) j p::es) (n::ns)
 |neg {n:Int} {j:Nat} {p p':Pos} {es:List Expr} {ns:List Int} (h:mf es ns):mf (.UnaryOp .USub (.Constant (.int n) j p) p'::es) (-n::ns)
noncomputable def HJ(ns:List Int):TA:=fun _ H Q=>Q (ns.map V.int) H
theorem sj{X:Cx}:∀{es:List Expr}{ns:List Int},mf es ns->PA X es (HJ ns)
 |_,_,.nil=>fun pos pins s σ H Q I h=>ag pos pins s σ H Q I h
 |_,_,.pos h=>fun pos pins s σ H Q I q=>aa af (sj h) rfl pos pins s σ H Q I q
 |_,_,.neg h=>fun pos pins s σ H Q I q=>aa (cW bZ af) (sj h) rfl pos pins s σ H Q I ⟨_,rfl,q⟩
end L2
namespace L2
open PySem PySem.Spec PyProof.Rows
section
variable {X:Cx}
noncomputable def RO(K:PySem.W.Frag):R2:=fun x y H Q=>∃(p q:Addr)(a b c d:Int),x=.ref p/\y=.ref q/\cj K H p [.int a,.int b]/\cj K H q [.int c,.int d]/\Q (.bl (a==c&&b==d)) H
theorem CK(hu:X.A.units<cLine):nX X (compareOp .Eq) (RO X.K):=by
 intro pins s σ H x y v u Q I rx ry h;obtain⟨p,q,a,b,c,d,rfl,rfl,hp,hq,h⟩:=h;cases rx;cases ry;obtain⟨aZ,r,pl,hz⟩:=I.tuple hp;obtain⟨MD,r2,Pn,Rf⟩:=I.tuple hq;obtain⟨u1,u2,rfl,⟨t1,rfl⟩,⟨t2,rfl⟩⟩:=vals2 r;obtain⟨w1,w2,rfl,⟨t3,rfl⟩,⟨t4,rfl⟩⟩:=vals2 r2;have z:=SeqAt.RcAt.tuples (A:=X.A) (s:=s) (e:=fun j=>if j=0 then a==c else b==d) pl Pn hu (fun j h1 h2=>by
  match j,h1,h2 with
  |0,_,_=>exact SeqAt.EqAt.int_int _ _ _ _
  |1,_,_=>exact SeqAt.EqAt.int_int _ _ _ _
  |j+2,h1,_=>exact absurd h1 (by simp));refine z X.prog X.w X.xe _ ?_;have e3:((List.range (min [Value.int a t1,Value.int b t2].toArray.size [Value.int c t3,Value.int d t4].toArray.size)).all (fun j=>if j=0 then a==c else b==d)&&[Value.int a t1,Value.int b t2].toArray.size==[Value.int c t3,Value.int d t4].toArray.size)=(a==c&&b==d):=by
  show(((a==c)&&((b==d)&&true))&&true)=_;cases (a==c)<;>cases (b==d)<;>rfl
 rw[e3];exact⟨.bl _,H,I,rfl,h⟩
end
end L2
namespace SF
open Lean.Grind
structure Po where
 s:PS Int
 fin:∃n,∀i,n<=i->s.c i=0
namespace Po
theorem inj{f g:Po}(h:f.s=g.s):f=g:=by cases f;cases g;cases h;rfl
noncomputable def c(f:Po)(i:Nat):Int:=f.s.c i
theorem ext{f g:Po}(h:∀i,f.c i=g.c i):f=g:=inj (PS.ext h)
theorem M9(a:Int):∃n,∀i,n<=i->(PS.C a).c i=0:=⟨1,fun i hi=>by rw[PS.om,if_neg (by lia)]⟩
noncomputable def K(a:Int):Po:=⟨PS.C a,M9 a⟩
theorem FK(f g:Po):∃n,∀i,n<=i->(f.s+g.s).c i=0:=by
 obtain⟨a,ha⟩:=f.fin;obtain⟨b,hb⟩:=g.fin;exact⟨max a b,fun i hi=>by rw[PS.oj,ha i (by lia),hb i (by lia)];rfl⟩
theorem FL(f g:Po):∃n,∀i,n<=i->(f.s-g.s).c i=0:=by
 obtain⟨a,ha⟩:=f.fin;obtain⟨b,hb⟩:=g.fin;exact⟨max a b,fun i hi=>by rw[PS.JP,ha i (by lia),hb i (by lia)];rfl⟩
theorem FN(f:Po):∃n,∀i,n<=i->(-f.s).c i=0:=by
 obtain⟨a,ha⟩:=f.fin;exact⟨a,fun i hi=>by rw[PS.Cy,ha i hi];rfl⟩
theorem FO(f g:Po):∃n,∀i,n<=i->(f.s*g.s).c i=0:=by
 obtain⟨a,ha⟩:=f.fin;obtain⟨b,hb⟩:=g.fin;refine⟨a+b,fun n hn=>?_⟩;rw[PS.dQ];refine cq fun i hi=>?_;by_cases h:i<a
 ·rw[hb (n-i) (by lia)];grind
 ·rw[ha i (by lia)];grind
noncomputable instance instAdd:Add Po:=⟨fun f g=>⟨f.s+g.s,FK f g⟩⟩
noncomputable instance instMul:Mul Po:=⟨fun f g=>⟨f.s*g.s,FO f g⟩⟩
noncomputable instance instNeg:Neg Po:=⟨fun f=>⟨-f.s,FN f⟩⟩
noncomputable instance instSub:Sub Po:=⟨fun f g=>⟨f.s-g.s,FL f g⟩⟩
noncomputable instance instNatCast:NatCast Po:=⟨fun n=>K (n:Int)⟩
noncomputable instance instIntCast:IntCast Po:=⟨fun n=>K n⟩
noncomputable instance instOfNat(n:Nat):OfNat Po n:=⟨K ((n:Nat):Int)⟩
noncomputable def M_(f:Po):Nat->Po
 |0=>K 1
 |n+1=>M_ f n*f
noncomputable instance instHPow:HPow Po Nat Po:=⟨M_⟩
noncomputable instance iu:SMul Nat Po:=⟨fun n f=>K (n:Int)*f⟩
noncomputable instance iw:SMul Int Po:=⟨fun n f=>K n*f⟩
theorem HK:(PS.C (1:Int))=1:=rfl
theorem zm:(PS.C (0:Int))=0:=rfl
noncomputable instance instCommRing:CommRing Po where
 natCast:=instNatCast
 ofNat:=instOfNat
 nsmul:=iu
 npow:=instHPow
 intCast:=instIntCast
 zsmul:=iw
 add_zero f:=inj (by show f.s+PS.C 0=f.s;rw[zm];grind)
 add_comm f g:=inj (by show f.s+g.s=g.s+f.s;grind)
 add_assoc f g h:=inj (by show f.s+g.s+h.s=f.s+(g.s+h.s);grind)
 mul_assoc f g h:=inj (by show f.s*g.s*h.s=f.s*(g.s*h.s);grind)
 mul_one f:=inj (by show f.s*PS.C 1=f.s;rw[HK];grind)
 one_mul f:=inj (by show PS.C 1*f.s=f.s;rw[HK];grind)
 right_distrib f g h:=inj (by show(f.s+g.s)*h.s=f.s*h.s+g.s*h.s;grind)
 left_distrib f g h:=inj (by show f.s*(g.s+h.s)=f.s*g.s+f.s*h.s;grind)
 zero_mul f:=inj (by show PS.C 0*f.s=PS.C 0;rw[zm];grind)
 mul_zero f:=inj (by show f.s*PS.C 0=PS.C 0;rw[zm];grind)
 pow_zero f:=rfl
 pow_succ f n:=rfl
 ofNat_succ n:=inj (by show PS.C (((n+1:Nat)):Int)=PS.C ((n:Nat):Int)+PS.C ((1:Nat):Int);rw[<-PS.Cz];rfl)
 ofNat_eq_natCast n:=rfl
 nsmul_eq_natCast_mul n f:=rfl
 neg_add_cancel f:=inj (by show -f.s+f.s=PS.C 0;rw[zm];grind)
 sub_eq_add_neg f g:=inj (by show f.s-g.s=f.s+-g.s;grind)
 neg_zsmul n f:=inj (by show PS.C (-n)*f.s=-(PS.C n*f.s);rw[PS.zf];grind)
 zsmul_natCast_eq_nsmul n f:=rfl
 intCast_ofNat n:=rfl
 intCast_neg n:=inj (by show PS.C (-n)=-PS.C n;rw[PS.zf])
 mul_comm f g:=inj (PS.mul_comm f.s g.s)
theorem zo(a b:Int):K (a+b)=K a+K b:=inj (PS.Cz a b)
theorem CL(a:Int):K (-a)=-K a:=inj (PS.zf a)
theorem cK:K 1=1:=rfl
theorem c_:K 0=0:=rfl
theorem fg(i:Nat):(0:Po).c i=0:=PS.iq i
theorem qS(i:Nat):(1:Po).c i=if i=0 then 1 else 0:=PS.om 1 i
theorem xm(a:Int)(i:Nat):(K a).c i=if i=0 then a else 0:=PS.om a i
theorem j_(f g:Po)(i:Nat):(f+g).c i=f.c i+g.c i:=rfl
theorem gM(f g:Po)(i:Nat):(f-g).c i=f.c i-g.c i:=rfl
theorem HL(f:Po)(i:Nat):(-f).c i=-f.c i:=rfl
theorem uO(f g:Po)(n:Nat):(f*g).c n=aF (fun i=>f.c i*g.c (n-i)) (n+1):=rfl
theorem bC(a:Int)(f:Po)(n:Nat):(K a*f).c n=a*f.c n:=PS.mV a f.s n
theorem cb(a b:Int):K (a*b)=K a*K b:=ext fun i=>by
 rw[bC,xm,xm];split<;>grind
theorem JV(xs:List Int):∃n,∀i,n<=i->(se xs).c i=0:=⟨xs.length,fun i hi=>cz hi⟩
noncomputable def ao(xs:List Int):Po:=⟨se xs,JV xs⟩
theorem bJ(xs:List Int)(i:Nat):(ao xs).c i=co xs i:=rfl
theorem xn(f:Po):∃xs:List Int,Tr xs/\co xs=f.c:=by
 obtain⟨n,hn⟩:=f.fin;refine⟨dU (fv f.c n),iy _,?_⟩
 funext i
 rw[gv,rY (f:=f.c) hn]
noncomputable def lst(f:Po):List Int:=Classical.choose (xn f)
theorem iU(f:Po):Tr (lst f):=(Classical.choose_spec (xn f)).1
theorem jt(f:Po):co (lst f)=f.c:=(Classical.choose_spec (xn f)).2
noncomputable def len(f:Po):Nat:=(lst f).length
theorem dE(f:Po):ao (lst f)=f:=ext fun i=>by rw[bJ,jt]
theorem sk{xs:List Int}(h:Tr xs):lst (ao xs)=xs:=(iU _).inj h fun i=>by rw[jt];rfl
theorem bq{xs:List Int}(h:Tr xs):len (ao xs)=xs.length:=by unfold len;rw[sk h]
theorem gN{xs ys:List Int}(hx:Tr xs)(hy:Tr ys)(h:ao xs=ao ys):xs=ys:=by rw[<-sk hx,h,sk hy]
theorem dF:ao []=0:=ext fun i=>by rw[bJ,fg];rfl
theorem iV(xs ys:List Int):ao (mulL xs ys)=ao xs*ao ys:=ext fun i=>by rw[bJ,nK];rfl
theorem CM(xs:List Int):ao (dU xs)=ao xs:=ext fun i=>by rw[bJ,bJ,gv]
theorem eM{f:Po}{i:Nat}(h:len f<=i):f.c i=0:=by rw[<-jt];exact cz h
theorem lead{f:Po}(h:0<len f):f.c (len f-1)≠0:=by
 rw[<-jt];exact(iU f).last (List.length_pos_iff.mp h)
theorem cS{f:Po}{n:Nat}(h:∀i,n<=i->f.c i=0):len f<=n:=by
 rcases Nat.lt_or_ge n (len f) with hl|hl
 ·exact absurd (h (len f-1) (by lia)) (lead (by lia))
 ·exact hl
theorem len_eq{f:Po}{n:Nat}(h:∀i,n<=i->f.c i=0)(h0:f.c (n-1)≠0)(hp:0<n):len f=n:=by
 have h1:=cS h;rcases Nat.lt_or_ge (len f) n with hl|hl
 ·exact absurd (eM (f:=f) (i:=n-1) (by lia)) h0
 ·lia
theorem fS:len (0:Po)=0:=Nat.le_zero.mp (cS fun i _=>fg i)
theorem nM{f:Po}(h:len f=0):f=0:=ext fun i=>by rw[fg];exact eM (by lia)
theorem len_pos{f:Po}(h:f≠0):0<len f:=Nat.pos_of_ne_zero fun z=>h (nM z)
theorem cD{f:Po}(h:0<len f):f≠0:=by rintro rfl;rw[fS] at h;lia
theorem sr(f g:Po):len (f+g)<=max (len f) (len g):=cS fun i hi=>by
 rw[j_,eM (by lia),eM (by lia)];rfl
theorem len_sub(f g:Po):len (f-g)<=max (len f) (len g):=cS fun i hi=>by
 rw[gM,eM (by lia),eM (by lia)];rfl
theorem len_K{a:Int}(h:a≠0):len (K a)=1:=len_eq (fun i hi=>by rw[xm,if_neg (by lia)]) (by rw[xm,if_pos rfl];exact h) (by decide)
theorem uP(a:Int):len (K a)<=1:=cS fun i hi=>by rw[xm,if_neg (by lia)]
theorem cG{f:Po}(h:len f<=1):f=K (f.c 0):=ext fun i=>by
 rw[xm];split
 ·rename_i e;rw[e]
 ·exact eM (by lia)
theorem M'{a b:Int}(h:K a=K b):a=b:=by
 have:=congrArg (fun f=>f.c 0) h;simpa[xm] using this
theorem j7{a:Int}(h:a≠0):K a≠0:=fun e=>h (M' (e.trans c_.symm))
theorem len_mul{f g:Po}(hf:f≠0)(hg:g≠0):len (f*g)+1=len f+len g:=by
 have h1:=len_pos hf;have h2:=len_pos hg;have e:(f*g).c=(se (lst f)*se (lst g)).c:=by
  rw[<-nK]
  conv=>lhs;rw[<-dE f,<-dE g,<-iV]
  rfl
 have h3:len (f*g)=len f+len g-1:=by
  refine len_eq (fun i hi=>?_) ?_ (by lia)
  ·rw[e];refine uE ?_;show len f+len g<=i+1;lia
  ·rw[e];have:=oq (xs:=lst f) (ys:=lst g) (List.length_pos_iff.mp h1) (List.length_pos_iff.mp h2);have e2:len f+len g-1-1=(lst f).length+(lst g).length-2:=by show _=len f+len g-2;lia
   rw[e2,this];exact Int.mul_ne_zero ((iU f).last (List.length_pos_iff.mp h1)) ((iU g).last (List.length_pos_iff.mp h2))
 lia
theorem ox{f g:Po}(hf:f≠0)(hg:g≠0):(f*g).c (len (f*g)-1)=f.c (len f-1)*g.c (len g-1):=by
 have h1:=len_pos hf;have h2:=len_pos hg;have h3:=len_mul hf hg;have e:(f*g).c=(se (lst f)*se (lst g)).c:=by
  rw[<-nK]
  conv=>lhs;rw[<-dE f,<-dE g,<-iV]
  rfl
 have:=oq (xs:=lst f) (ys:=lst g) (List.length_pos_iff.mp h1) (List.length_pos_iff.mp h2);have e2:len (f*g)-1=(lst f).length+(lst g).length-2:=by show _=len f+len g-2;lia
 rw[e,e2,this,jt,jt];rfl
theorem bT{f g:Po}(hf:f≠0)(hg:g≠0):f*g≠0:=by
 have h1:=len_pos hf;have h2:=len_pos hg;have h3:=len_mul hf hg;exact cD (by lia)
theorem mul_eq_zero{f g:Po}(h:f*g=0):f=0\/g=0:=by
 by_cases hf:f=0
 ·exact .inl hf
 ·by_cases hg:g=0
  ·exact .inr hg
  ·exact absurd h (bT hf hg)
theorem cancel{f g h:Po}(hf:f≠0)(e:f*g=f*h):g=h:=by
 have:f*(g-h)=0:=by grind
 rcases mul_eq_zero this with z|z
 ·exact absurd z hf
 ·grind
theorem gw{a:Int}(h:a≠0)(f:Po):len (K a*f)=len f:=by
 by_cases hf:f=0
 ·rw[hf];have:K a*(0:Po)=0:=by grind
  rw[this]
 ·have:=len_mul (j7 h) hf;rw[len_K h] at this;lia
theorem su{f g:Po}(h:f*g≠0):f≠0:=by rintro rfl;exact h (by grind)
theorem iA{f g:Po}(h:f*g≠0):g≠0:=by rintro rfl;exact h (by grind)
noncomputable def X(n:Nat):Po:=⟨⟨fun i=>if i=n then 1 else 0⟩,n+1,fun i hi=>if_neg (by lia)⟩
theorem zp(n i:Nat):(X n).c i=if i=n then 1 else 0:=rfl
theorem fL(n:Nat)(f:Po)(i:Nat):(X n*f).c i=if i<n then 0 else f.c (i-n):=by
 rw[uO];split
 ·rename_i h;refine cq fun j hj=>?_;rw[zp,if_neg (by lia)];grind
 ·rename_i h;have e:i+1=n+(1+(i-n)):=by lia
  rw[e,cu,cu];rw[cq (n:=n) (fun j hj=>by rw[zp,if_neg (by lia)];grind)];rw[cq (n:=i-n) (fun j hj=>by rw[zp,if_neg (by lia)];grind)];show 0+((0+(X n).c (n+0)*f.c (i-(n+0)))+0)=_;rw[zp,if_pos (Nat.add_zero n),Nat.add_zero];grind
theorem sv:X 0=1:=ext fun i=>by rw[zp,qS]
noncomputable def D(f g:Po):Prop:=∃a:Int,a≠0/\∃q,K a*g=f*q
theorem D.refl(f:Po):D f f:=⟨1,by decide,1,by rw[cK];grind⟩
theorem D.mul(f g:Po):D f (f*g):=⟨1,by decide,g,by rw[cK];grind⟩
theorem D.zero(f:Po):D f 0:=⟨1,by decide,0,by grind⟩
theorem D.trans{f g h:Po}(h1:D f g)(h2:D g h):D f h:=by
 obtain⟨a,ha,q,e⟩:=h1;obtain⟨b,hb,r,e2⟩:=h2;exact⟨a*b,Int.mul_ne_zero ha hb,q*r,by rw[cb];grind⟩
theorem D.add{f g h:Po}(h1:D f g)(h2:D f h):D f (g+h):=by
 obtain⟨a,ha,q,e⟩:=h1;obtain⟨b,hb,r,e2⟩:=h2;exact⟨a*b,Int.mul_ne_zero ha hb,K b*q+K a*r,by rw[cb];grind⟩
theorem D.mulR{f g:Po}(h:D f g)(u:Po):D f (g*u):=by
 obtain⟨a,ha,q,e⟩:=h;exact⟨a,ha,q*u,by grind⟩
theorem D.mulL{f g:Po}(h:D f g)(u:Po):D f (u*g):=by
 obtain⟨a,ha,q,e⟩:=h;exact⟨a,ha,q*u,by grind⟩
theorem D.neg{f g:Po}(h:D f g):D f (-g):=by
 obtain⟨a,ha,q,e⟩:=h;exact⟨a,ha,-q,by grind⟩
theorem D.sub{f g h:Po}(h1:D f g)(h2:D f h):D f (g-h):=by
 have:=h1.add h2.neg;have e:g-h=g+-h:=by grind
 rw[e];exact this
theorem D.uQ{f g:Po}{a:Int}(ha:a≠0)(h:D f (K a*g)):D f g:=by
 obtain⟨b,hb,q,e⟩:=h;exact⟨b*a,Int.mul_ne_zero hb ha,q,by rw[cb];grind⟩
theorem D.WO{f:Po}{a:Int}(ha:a≠0):D (K a) f:=⟨a,ha,f,rfl⟩
theorem D.Kl{f g:Po}{a:Int}(ha:a≠0)(h:D f g):D (K a*f) g:=by
 obtain⟨b,hb,q,e⟩:=h;exact⟨a*b,Int.mul_ne_zero ha hb,q,by rw[cb];grind⟩
theorem D.ne{f g:Po}(h:D f g)(hg:g≠0):f≠0:=by
 obtain⟨a,ha,q,e⟩:=h;rintro rfl;exact bT (j7 ha) hg (by rw[e];grind)
theorem D.len{f g:Po}(h:D f g)(hg:g≠0):len f<=len g:=by
 have hf:=h.ne hg;obtain⟨a,ha,q,e⟩:=h;have hq:q≠0:=by
  rintro rfl;exact bT (j7 ha) hg (by rw[e];grind)
 have h1:=len_mul hf hq;rw[<-e,gw ha] at h1;have:=len_pos hq;lia
theorem D.oy{f g:Po}(h:D f g)(hg:g≠0)(hl:Po.len g<=Po.len f):D g f:=by
 have hf:=h.ne hg;obtain⟨a,ha,q,e⟩:=h;have hq:q≠0:=by
  rintro rfl;exact bT (j7 ha) hg (by rw[e];grind)
 have h1:=len_mul hf hq;rw[<-e,gw ha] at h1;have h2:Po.len q<=1:=by lia
 have e2:=cG h2;have hb:q.c 0≠0:=by
  intro z;rw[z,c_] at e2;exact hq e2
 refine⟨q.c 0,hb,K a,?_⟩;rw[<-e2];grind
theorem D.cancel{f g h:Po}(hh:h≠0)(e:D (h*f) (h*g)):D f g:=by
 obtain⟨a,ha,q,e⟩:=e;refine⟨a,ha,q,Po.cancel hh ?_⟩;grind
theorem D.JW{f g h:Po}(e:D f g):D (h*f) (h*g):=by
 obtain⟨a,ha,q,e⟩:=e;exact⟨a,ha,q,by grind⟩
theorem D.const{f g:Po}(hf:f≠0)(hl:Po.len f<=1):D f g:=by
 have e:=cG hl;have hb:f.c 0≠0:=by
  intro z;rw[z,c_] at e;exact hf e
 rw[e];exact D.WO hb
theorem Na{g:Po}(hg:g≠0):∀(n:Nat)(f:Po),len f<=n->∃a q r,a≠0/\K a*f=g*q+r/\len r<len g
 |0,f,h=>⟨1,0,f,by decide,by rw[cK];grind,by have:=len_pos hg;lia⟩
 |n+1,f,h=>by
  have Nb:=len_pos hg;by_cases hl:len f<len g
  ·exact⟨1,0,f,by decide,by rw[cK];grind,hl⟩
  have ZH:0<len f:=by lia
  let b:=g.c (len g-1);let d:=f.c (len f-1);let t:=K d*X (len f-len g);have hb:b≠0:=lead Nb;have hx:∀i,(t*g).c i=d*(if i<len f-len g then 0 else g.c (i-(len f-len g))):=fun i=>by
   have e:t*g=K d*(X (len f-len g)*g):=by show K d*X (len f-len g)*g=_;grind
   rw[e,bC,fL]
  have h2:len (K b*f-t*g)<=n:=cS fun i hi=>by
   rw[gM,bC,hx];rw[if_neg (by lia)];by_cases he:i=len f-1
   ·have e2:i-(len f-len g)=len g-1:=by lia
    rw[e2,he];show b*d-d*b=0;grind
   ·rw[eM (f:=f) (by lia),eM (f:=g) (by lia)];grind
  obtain⟨a,q,r,ha,e,hr⟩:=Na hg n _ h2;exact⟨a*b,q+K a*t,r,Int.mul_ne_zero ha hb,by rw[cb];grind,hr⟩
theorem sy:∀(n:Nat)(f g:Po),len g<=n->(f≠0\/g≠0)->∃h u v,h≠0/\u*f+v*g=h/\D h f/\D h g
 |0,f,g,hn,h0=>by
  have hg:g=0:=nM (by lia);have hf:f≠0:=h0.resolve_right fun z=>z hg;exact⟨f,1,0,hf,by grind,D.refl f,by rw[hg];exact D.zero f⟩
 |n+1,f,g,hn,h0=>by
  by_cases hg:g=0
  ·exact sy 0 f g (by rw[hg,fS];exact Nat.le_refl _) h0
  obtain⟨a,q,r,ha,e,hr⟩:=Na hg _ f (Nat.le_refl _);obtain⟨h,u,v,hh,eb,d1,d2⟩:=sy n g r (by lia) (.inl hg);refine⟨h,v*K a,u-v*q,hh,by grind,?_,d1⟩;refine D.uQ ha ?_;rw[e];exact(d1.mulR q).add d2
end Po
end SF
namespace SF
open Lean.Grind
noncomputable def HM(p:Nat):Prop:=2<=p/\∀d,d∣p->d=1\/d=p
theorem HM.dvd{p:Nat}(h:HM p){a b:Int}(hd:(p:Int)∣a*b):(p:Int)∣a\/(p:Int)∣b:=by
 by_cases ha:(p:Int)∣a
 ·exact .inl ha
 refine .inr ?_;have h1:p∣a.natAbs*b.natAbs:=by
  have:=Int.natAbs_dvd_natAbs.mpr hd
  rwa [Int.natAbs_mul,Int.natAbs_natCast] at this
 have hg:Nat.gcd p a.natAbs=1:=by
  rcases h.2 _ (Nat.gcd_dvd_left p a.natAbs) with e|e
  ·exact e
  ·exact absurd (Int.ofNat_dvd_left.mpr (by rw[<-e];exact Nat.gcd_dvd_right ..)) ha
 exact Int.ofNat_dvd_left.mpr (Nat.Coprime.dvd_of_dvd_mul_left hg h1)
theorem HM.ex:∀(n m:Nat),m<=n->2<=m->∃p,HM p/\p∣m
 |0,m,h,h2=>by lia
 |n+1,m,h,h2=>by
  by_cases hp:∀d,d∣m->d=1\/d=m
  ·exact⟨m,⟨h2,hp⟩,Nat.dvd_refl m⟩
  ·obtain⟨d,hd⟩:=Classical.not_forall.mp hp;obtain⟨uR,hd2⟩:=Classical.not_imp.mp hd;rw[_root_.not_or] at hd2;have hle:=Nat.le_of_dvd (by lia) uR;have h0:d≠0:=by
    rintro rfl;have:=Nat.eq_zero_of_zero_dvd uR;lia
   obtain⟨p,hp,HN⟩:=HM.ex n d (by lia) (by lia);exact⟨p,hp,Nat.dvd_trans HN uR⟩
theorem least{P:Nat->Prop}:∀(n:Nat),¬P n->∃i,¬P i/\∀j,j<i->P j:=by
 intro n
 induction n using Nat.strongRecOn with
 |_ n ih=>
  intro h;by_cases hx:∀j,j<n->P j
  ·exact⟨n,h,hx⟩
  ·obtain⟨j,hj⟩:=Classical.not_forall.mp hx;obtain⟨h1,h2⟩:=Classical.not_imp.mp hj;exact ih j h1 h2
theorem ju{p:Int}{f:Nat->Int}:∀{n:Nat},(∀i,i<n->p∣f i)->p∣aF f n
 |0,_=>Int.dvd_zero p
 |n+1,h=>Int.dvd_add (ju fun i hi=>h i (by lia)) (h n (by lia))
namespace Po
noncomputable def Pr(f:Po):Prop:=∀p:Nat,(∀i,(p:Int)∣f.c i)->p=1
theorem Pr.ne{f:Po}(h:Pr f):f≠0:=by
 rintro rfl;have:=h 2 fun i=>by rw[fg];exact Int.dvd_zero _
 lia
theorem mW{p:Nat}(hp:HM p){f q:Po}(h:∀i,(p:Int)∣(f*q).c i):(∀i,(p:Int)∣f.c i)\/(∀i,(p:Int)∣q.c i):=by
 by_cases h1:∀i,(p:Int)∣f.c i
 ·exact .inl h1
 by_cases h2:∀i,(p:Int)∣q.c i
 ·exact .inr h2
 exfalso;obtain⟨i0,RA⟩:=Classical.not_forall.mp h1;obtain⟨j0,WQ⟩:=Classical.not_forall.mp h2;obtain⟨i,hi,WR⟩:=least (P:=fun i=>(p:Int)∣f.c i) i0 RA;obtain⟨j,hj,WS⟩:=least (P:=fun i=>(p:Int)∣q.c i) j0 WQ;have:=h (i+j);rw[uO] at this;have e:i+j+1=i+(1+j):=by lia
 rw[e,cu,cu] at this;have d1:(p:Int)∣aF (fun s=>f.c s*q.c (i+j-s)) i:=ju fun s hs=>Int.dvd_mul_of_dvd_left (WR s hs);have d2:(p:Int)∣aF (fun s=>f.c (i+(1+s))*q.c (i+j-(i+(1+s)))) j:=ju fun s hs=>Int.dvd_mul_of_dvd_right (WS _ (by lia));have d3:=(Int.dvd_add_right d1).mp this;have d4:=(Int.dvd_add_left d2).mp d3;have d5:(p:Int)∣f.c i*q.c j:=by
  have e2:aF (fun s=>f.c (i+s)*q.c (i+j-(i+s))) 1=f.c i*q.c j:=by
   show 0+f.c (i+0)*q.c (i+j-(i+0))=_;rw[Nat.add_zero,Nat.add_sub_cancel_left];grind
  rw[<-e2];exact d4
 rcases hp.dvd d5 with z|z
 ·exact hi z
 ·exact hj z
theorem over{f:Po}{p:Int}(h:∀i,p∣f.c i):∃g,f=K p*g:=by
 refine⟨⟨⟨fun i=>f.c i/p⟩,?_⟩,?_⟩
 ·obtain⟨n,hn⟩:=f.fin;exact⟨n,fun i hi=>by show f.c i/p=0;rw[show f.c i=0 from hn i hi];simp⟩
 ·refine ext fun i=>?_;rw[bC];exact(Int.mul_ediv_cancel' (h i)).symm
theorem HP{f:Po}(hf:Pr f):∀(n:Nat)(a:Int)(g q:Po),a.natAbs<=n->a≠0->K a*g=f*q->∃q',q=K a*q'
 |0,a,g,q,hn,h0,e=>by lia
 |n+1,a,g,q,hn,h0,e=>by
  by_cases h1:a.natAbs=1
  ·refine⟨K a*q,?_⟩;have e2:a*a=1:=by
    rcases Int.natAbs_eq a with z|z<;>rw[h1] at z<;>rw[z]<;>rfl
   have:K a*(K a*q)=K (a*a)*q:=by rw[cb];grind
   rw[this,e2,cK];grind
  obtain⟨p,hp,hd⟩:=HM.ex _ a.natAbs (Nat.le_refl _) (by lia);have ue:(p:Int)∣a:=Int.ofNat_dvd_left.mpr hd;obtain⟨b,rfl⟩:=ue;have hb:b≠0:=by rintro rfl;exact h0 (by simp)
  have FP:(p:Int)≠0:=by have:=hp.1;lia
  have n_:∀i,(p:Int)∣(f*q).c i:=fun i=>by
   rw[<-e,bC,Int.mul_assoc];exact Int.dvd_mul_right ..
  rcases mW hp n_ with z|z
  ·have:=hf p z;have:=hp.1;lia
  obtain⟨q1,rfl⟩:=over z;have e1:K b*g=f*q1:=by
   refine Po.cancel (j7 FP) ?_;rw[cb] at e;grind
  have gb:b.natAbs<=n:=by
   have h2:=hp.1;rw[Int.natAbs_mul,Int.natAbs_natCast] at hn;have h3:0<b.natAbs:=by lia
   have h4:2*b.natAbs<=p*b.natAbs:=Nat.mul_le_mul_right _ h2;lia
  obtain⟨q2,rfl⟩:=HP hf n b g q1 gb hb e1;exact⟨q2,by rw[cb];grind⟩
theorem Pr.div{f g:Po}(hf:Pr f)(h:D f g):∃q,g=f*q:=by
 obtain⟨a,ha,q,e⟩:=h;obtain⟨q',rfl⟩:=HP hf _ a g q (Nat.le_refl _) ha e;refine⟨q',Po.cancel (j7 ha) ?_⟩;grind
theorem Pr.JX{f g:Po}(h:Pr (f*g)):Pr g:=fun p hp=>h p fun i=>by
 rw[uO];exact ju fun s _=>Int.dvd_mul_of_dvd_right (hp _)
theorem Pr.same{f g:Po}(hf:Pr f)(hg:Pr g)(h1:D f g)(h2:D g f)(l1:0<f.c (len f-1))(l2:0<g.c (len g-1)):f=g:=by
 obtain⟨q,e⟩:=hf.div h1;have RP:=h1.len hg.ne;have qR:=h2.len hf.ne;have hq:q≠0:=by rintro rfl;exact hg.ne (by rw[e];grind)
 have WT:=len_mul hf.ne hq;rw[<-e] at WT;have hc:=cG (f:=q) (by lia);have hd:∀i,q.c 0∣g.c i:=fun i=>by
  have e2:g=K (q.c 0)*f:=by rw[<-hc,e];grind
  rw[e2,bC];exact Int.dvd_mul_right ..
 have h3:(q.c 0).natAbs=1:=hg _ fun i=>Int.natAbs_dvd.mpr (hd i);have hle:len f=len g:=by lia
 have e3:g.c (len g-1)=q.c 0*f.c (len f-1):=by
  have e2:g=K (q.c 0)*f:=by rw[<-hc,e];grind
  have:=congrArg (fun z:Po=>z.c (len g-1)) e2;have e4:g.c (len g-1)=(K (q.c 0)*f).c (len g-1):=this;rw[e4,bC,hle]
 have h4:q.c 0=1:=by
  rcases Int.natAbs_eq (q.c 0) with z|z
  ·rw[z,h3];rfl
  ·rw[h3] at z;rw[z] at e3;lia
 rw[e,hc,h4,cK];grind
theorem FQ(f:Po):∃n,∀i,n<=i->(PS.bE f.s).c i=0:=by
 obtain⟨n,hn⟩:=f.fin;exact⟨n,fun i hi=>by rw[PS.oo,hn (i+1) (by lia)];grind⟩
noncomputable def bE(f:Po):Po:=⟨PS.bE f.s,FQ f⟩
theorem mX(f:Po)(i:Nat):(bE f).c i=((i+1:Nat):Int)*f.c (i+1):=rfl
theorem jQ(f g:Po):bE (f*g)=bE f*g+f*bE g:=inj (PS.jQ f.s g.s)
theorem oz(a:Int)(f:Po):bE (K a*f)=K a*bE f:=ext fun i=>by
 rw[mX,bC,bC,mX];grind
theorem zq(f:Po):len (bE f)=len f-1:=by
 by_cases h:len f<=1
 ·have:len (bE f)<=0:=cS fun i _=>by rw[mX,eM (by lia)];grind
  lia
 ·refine len_eq (fun i hi=>by rw[mX,eM (by lia)];grind) ?_ (by lia);rw[mX];have e:len f-1-1+1=len f-1:=by lia
  rw[e];exact Int.mul_ne_zero (by lia) (lead (by lia))
theorem fh(xs:List Int):ao (cF xs)=bE (ao xs):=ext fun i=>by
 rw[bJ,kS];rfl
theorem iB(f:Po):f^0=1:=rfl
theorem pow_succ'(f:Po)(n:Nat):f^(n+1)=f^n*f:=rfl
theorem xo{f:Po}(h:f≠0):∀n:Nat,f^n≠0
 |0=>by rw[iB,<-cK];exact j7 (by decide)
 |n+1=>by rw[pow_succ'];exact bT (xo h n) h
theorem zr(f:Po):∀n:Nat,bE (f^(n+1))=K ((n+1:Nat):Int)*(f^n*bE f)
 |0=>by
  have e:f^(0+1)=f:=by rw[pow_succ',iB];grind
  rw[e,iB];show _=K 1*_;rw[cK];grind
 |n+1=>by
  rw[pow_succ',jQ,zr f n];have e:K ((n+1+1:Nat):Int)=K ((n+1:Nat):Int)+1:=by
   rw[<-cK,<-zo];rfl
  rw[e,pow_succ'];grind
noncomputable def kX(p:Po):Prop:=2<=len p/\∀d,D d p->len d<=1\/len p<=len d
theorem kX.ne{p:Po}(h:kX p):p≠0:=cD (by have:=h.1;lia)
theorem kX.prime{p f g:Po}(hp:kX p)(h:D p (f*g)):D p f\/D p g:=by
 obtain⟨h,u,v,hh,e,d1,d2⟩:=sy _ p f (Nat.le_refl _) (.inl hp.ne);rcases hp.2 h d1 with z|z
 ·refine .inr ?_;have hc:=cG z;have h0:h.c 0≠0:=fun z=>hh (by rw[hc,z,c_]);refine D.uQ h0 ?_;rw[<-hc,<-e];have e2:(u*p+v*f)*g=p*(u*g)+(f*g)*v:=by grind
  rw[e2];exact(D.mul p _).add (D.mulR (by assumption) v)
 ·exact .inl ((d1.oy hp.ne z).trans d2)
theorem kX.ex:∀(n:Nat)(f:Po),len f<=n->2<=len f->∃p,kX p/\D p f
 |0,f,h,h2=>by lia
 |n+1,f,h,h2=>by
  by_cases hp:∀d,D d f->len d<=1\/len f<=len d
  ·exact⟨f,⟨h2,hp⟩,D.refl f⟩
  ·obtain⟨d,hd⟩:=Classical.not_forall.mp hp;obtain⟨uR,hd2⟩:=Classical.not_imp.mp hd;rw[_root_.not_or] at hd2;obtain⟨p,hp,HN⟩:=kX.ex n d (by lia) (by lia);exact⟨p,hp,HN.trans uR⟩
theorem kX.bE{p:Po}(hp:kX p):¬D p (bE p):=fun h=>by
 have h1:=hp.1;have h2:=zq p;have:=h.len (cD (by lia));lia
theorem kX.mult{p:Po}(hp:kX p):∀(n:Nat)(f:Po),len f<=n->f≠0->∃(e:Nat)(u:Po)(a:Int),a≠0/\K a*f=p^e*u/\¬D p u
 |0,f,h,h0=>absurd (nM (by lia)) h0
 |n+1,f,h,h0=>by
  by_cases hd:D p f
  ·obtain⟨a,ha,q,e⟩:=hd;have hq:q≠0:=iA (f:=p) (by rw[<-e];exact bT (j7 ha) h0);have h1:=len_mul hp.ne hq;rw[<-e,gw ha] at h1;have h2:=hp.1;obtain⟨k,u,b,hb,e2,hu⟩:=kX.mult hp n q (by lia) hq;refine⟨k+1,u,b*a,Int.mul_ne_zero hb ha,?_,hu⟩;rw[cb,pow_succ'];grind
  ·exact⟨0,f,1,by decide,by rw[cK,iB],hd⟩
theorem FR{f h p u v:Po}{a:Int}(hf:f≠0)(e1:u*f+v*bE f=h)(d1:D h f)(d2:D h (bE f))(ha:a≠0)(e:K a*f=h*p){π:Po}(hp:kX π):
 (D π p↔D π f)/\¬D (π*π) p:=by
 have RQ:D p f:=⟨a,ha,h,by grind⟩;have hh:h≠0:=su (g:=p) (by rw[<-e];exact bT (j7 ha) hf);by_cases hd:D π f
 ·obtain⟨k,w,b,hb,ew,hw⟩:=hp.mult _ f (Nat.le_refl _) hf;have hk:k≠0:=by
   rintro rfl;refine hw ?_;have:w=K b*f:=by rw[ew,iB];grind
   rw[this];exact hd.mulL _
  obtain⟨k,rfl⟩:=Nat.exists_eq_succ_of_ne_zero hk;have ed:K b*bE f=π^k*(K ((k+1:Nat):Int)*(bE π*w)+π*bE w):=by
   rw[<-oz,ew,jQ,zr,pow_succ'];grind
  have dk:D (π^k) h:=by
   rw[<-e1];refine D.add (D.mulL ⟨b,hb,π*w,?_⟩ u) (D.mulL ⟨b,hb,_,ed⟩ v);rw[ew,pow_succ'];grind
  have WU:¬D (π^(k+1)) h:=fun z=>by
   have z2:=z.trans d2;have z3:D (π^k*π) (π^k*(K ((k+1:Nat):Int)*(bE π*w)+π*bE w)):=by
    rw[<-ed,<-pow_succ'];exact z2.mulL _
   have z4:=D.cancel (xo hp.ne k) z3;have z5:D π (K ((k+1:Nat):Int)*(bE π*w)):=by
    have:=z4.sub (D.mul π (bE w));have e2:K ((k+1:Nat):Int)*(bE π*w)+π*bE w-π*bE w=K ((k+1:Nat):Int)*(bE π*w):=by grind
    rw[e2] at this;exact this
   rcases hp.prime (D.uQ (by lia) z5) with z6|z6
   ·exact hp.bE z6
   ·exact hw z6
  obtain⟨b2,Nc,w2,Uw⟩:=dk;have WV:¬D π w2:=fun z=>WU (by
   refine D.uQ Nc ?_
   rw[Uw,pow_succ'];exact z.JW);have em:K (b2*a)*(π*w)=K b*(w2*p):=by
   refine Po.cancel (xo hp.ne k) ?_;have e2:π^k*π*w=K b*f:=by rw[ew,pow_succ']
   have e3:π^k*w2=K b2*h:=Uw.symm;rw[cb];have e4:π^k*(K b2*K a*(π*w))=K b2*K a*(π^k*π*w):=by grind
   have e5:π^k*(K b*(w2*p))=K b*p*(π^k*w2):=by grind
   rw[e4,e5,e2,e3];grind
  have JY:b2*a≠0:=Int.mul_ne_zero Nc ha;constructor
  ·refine⟨fun z=>z.trans RQ,fun _=>?_⟩;have z1:D π (w2*p):=by
    refine D.uQ hb ?_;rw[<-em];exact(D.mul π w).mulL _
   rcases hp.prime z1 with z|z
   ·exact absurd z WV
   ·exact z
  ·rintro⟨c,hc,t,et⟩;refine hw ⟨b2*a*c,Int.mul_ne_zero JY hc,K b*(w2*t),Po.cancel hp.ne ?_⟩;have e6:π*(K (b2*a*c)*w)=K c*(K (b2*a)*(π*w)):=by rw[cb];grind
   rw[e6,em];grind
 ·refine⟨⟨fun z=>z.trans RQ,fun z=>absurd z hd⟩,fun z=>hd ?_⟩;have:D π (π*π):=D.mul π π;exact(this.trans z).trans RQ
theorem xp:∀(n:Nat)(p q:Po),len p<=n->p≠0->(∀π,kX π->¬D (π*π) p)->(∀π,kX π->D π p->D π q)->D p q
 |0,p,q,h,h0,_,_=>absurd (nM (by lia)) h0
 |n+1,p,q,h,h0,hs,hd=>by
  by_cases hl:len p<=1
  ·exact D.const h0 hl
  obtain⟨π,hp,HN⟩:=kX.ex _ p (Nat.le_refl _) (by lia);have dq:=hd π hp HN;obtain⟨a,ha,p1,e⟩:=HN;have h1:p1≠0:=iA (f:=π) (by rw[<-e];exact bT (j7 ha) h0);have RP:=len_mul hp.ne h1;rw[<-e,gw ha] at RP;have qR:=hp.1;have Ux:D p1 p:=⟨a,ha,π,by grind⟩;have WW:¬D π p1:=fun z=>hs π hp (by
   refine D.uQ ha ?_
   rw[e];exact z.JW);have WX:=xp n p1 q (by lia) h1 (fun τ ht z=>hs τ ht (z.trans Ux)) (fun τ ht z=>hd τ ht (z.trans Ux));obtain⟨b,hb,t,et⟩:=WX;have z1:D π (p1*t):=by rw[<-et];exact dq.mulL _
  rcases hp.prime z1 with z|z
  ·exact absurd z WW
  obtain⟨c,hc,s,es⟩:=z;refine⟨c*b*a,Int.mul_ne_zero (Int.mul_ne_zero hc hb) ha,K a*(K a*s),?_⟩;have e3:K (c*b*a)*q=K a*(K c*(K b*q)):=by rw[cb,cb];grind
  have e4:p*(K a*(K a*s))=K a*((K a*p)*s):=by grind
  rw[e3,e4,et,e];grind
end Po
end SF
namespace SF
open Lean.Grind
theorem kY{f g:Nat->Int}:∀{n:Nat},(∀i,i<n->f i<=g i)->aF f n<=aF g n
 |0,_=>Int.le_refl 0
 |n+1,h=>Int.add_le_add (kY fun i hi=>h i (by lia)) (h n (by lia))
theorem jv{f:Nat->Int}{n:Nat}(h:∀i,i<n->0<=f i):0<=aF f n:=by
 have:=kY (f:=fun _=>0) (g:=f) h;rw[qO] at this;exact this
theorem FT{f:Nat->Int}{n j:Nat}(h:∀i,i<n->0<=f i)(hj:j<n):f j<=aF f n:=by
 have e:n=j+(1+(n-1-j)):=by lia
 rw[e,cu,cu];have h1:0<=aF f j:=jv fun i hi=>h i (by lia);have h2:0<=aF (fun i=>f (j+(1+i))) (n-1-j):=jv fun i hi=>h _ (by lia);have h3:aF (fun i=>f (j+i)) 1=f j:=by show 0+f (j+0)=f j;rw[Nat.add_zero];grind
 lia
theorem oA(M:Int):∀n:Nat,aF (fun i=>M*(M+1)^i) n=(M+1)^n-1
 |0=>by show(0:Int)=(M+1)^0-1;rw[Int.pow_zero];rfl
 |n+1=>by
  show aF (fun i=>M*(M+1)^i) n+M*(M+1)^n=_;rw[oA M n,Int.pow_succ];grind
noncomputable def ab(x:Int):Int:=(x.natAbs:Int)
theorem aM(x:Int):0<=ab x:=by unfold ab;lia
theorem gy(x y:Int):ab (x+y)<=ab x+ab y:=by unfold ab;lia
theorem JZ(x y:Int):ab (x-y)<=ab x+ab y:=by unfold ab;lia
theorem cw(x y:Int):ab (x*y)=ab x*ab y:=by unfold ab;rw[Int.natAbs_mul];push_cast;rfl
theorem mY{x:Int}(h:0<=x):ab x=x:=by unfold ab;lia
theorem fW{x:Int}(h:x≠0):0<ab x:=by unfold ab;lia
theorem xq{f:Nat->Int}:∀n:Nat,ab (aF f n)<=aF (fun i=>ab (f i)) n
 |0=>Int.le_refl 0
 |n+1=>by
  have h1:=gy (aF f n) (f n);have h2:=xq (f:=f) n;show ab (aF f n+f n)<=aF (fun i=>ab (f i)) n+ab (f n);lia
namespace Po
noncomputable def eY(p:Int):List Int->Int
 |[]=>0
 |x::r=>x+p*eY p r
theorem sA(p:Int):∀xs:List Int,eY p xs=aF (fun i=>co xs i*p^i) xs.length
 |[]=>rfl
 |x::r=>by
  show x+p*eY p r=_;rw[sA p r,List.length_cons,eS,iQ,Int.pow_zero,<-cO];have e:aF (fun i=>p*(co r i*p^i)) r.length=aF (fun i=>co (x::r) (i+1)*p^(i+1)) r.length:=aQ fun i _=>by
   rw[fe,Int.pow_succ];grind
  rw[e];grind
noncomputable def ev(p:Int)(f:Po):Int:=aF (fun i=>f.c i*p^i) (len f)
theorem uS(p:Int){f:Po}{n:Nat}(h:len f<=n):ev p f=aF (fun i=>f.c i*p^i) n:=by
 have e:n=len f+(n-len f):=by lia
 rw[e,cu,cq (n:=n-len f) (fun i _=>by rw[eM (by lia)];grind)];show aF _ _=_;grind
theorem jw(p:Int)(xs:List Int):ev p (ao xs)=eY p xs:=by
 rw[sA,uS p (f:=ao xs) (n:=xs.length) (cS fun i hi=>by rw[bJ];exact cz hi)];rfl
theorem xr(p:Int)(f g:Po):ev p (f+g)=ev p f+ev p g:=by
 have h1:=sr f g;rw[uS p h1,uS p (f:=f) (n:=max (len f) (len g)) (by lia),uS p (f:=g) (n:=max (len f) (len g)) (by lia),<-fc];exact aQ fun i _=>by rw[j_];grind
theorem kZ(p a:Int)(f:Po):ev p (K a*f)=a*ev p f:=by
 have h1:len (K a*f)<=len f:=cS fun i hi=>by rw[bC,eM hi];grind
 rw[uS p h1];unfold ev;rw[<-cO];exact aQ fun i _=>by rw[bC];grind
theorem J0(p:Int)(f:Po):ev p (-f)=-ev p f:=by
 have e:-f=K (-1)*f:=by
  rw[CL,cK];grind
 rw[e,kZ];grind
theorem J3(p:Int)(f g:Po):ev p (f-g)=ev p f-ev p g:=by
 have e:f-g=f+-g:=by grind
 rw[e,xr,J0];grind
theorem CN(p a:Int):ev p (K a)=a:=by
 rw[uS p (uP a)];show 0+(K a).c 0*p^0=a;rw[xm,if_pos rfl,Int.pow_zero];grind
theorem oB(x:Int)(r:List Int):ao (x::r)=K x+X 1*ao r:=ext fun i=>by
 rw[j_,xm,fL,bJ];cases i with
 |zero=>rw[iQ,if_pos rfl,if_pos (by decide)];grind
 |succ i=>rw[fe,if_neg (by lia),if_neg (by lia),Nat.add_sub_cancel,bJ];grind
theorem qT(p:Int):∀xs:List Int,∃B,ao xs=(X 1-K p)*B+K (eY p xs)
 |[]=>⟨0,by rw[dF];show _=_+K 0;rw[c_];grind⟩
 |x::r=>by
  obtain⟨B,e⟩:=qT p r;refine⟨X 1*B+K (eY p r),?_⟩;rw[oB,e];show _=_+K (x+p*eY p r);rw[zo,cb];grind
theorem factor(p:Int)(f:Po):∃B,f=(X 1-K p)*B+K (ev p f):=by
 obtain⟨B,e⟩:=qT p (lst f);rw[dE] at e;refine⟨B,?_⟩;rw[<-jw,dE] at e;exact e
theorem FU(p:Int)(f:Po)(i:Nat):((X 1-K p)*f).c i=(if i<1 then 0 else f.c (i-1))-p*f.c i:=by
 have e:(X 1-K p)*f=X 1*f-K p*f:=by grind
 rw[e,gM,fL,bC]
theorem CO(p:Int):len (X 1-K p)=2:=by
 refine len_eq (fun i hi=>?_) ?_ (by decide)
 ·rw[gM,zp,xm,if_neg (by lia),if_neg (by lia)];rfl
 ·rw[gM,zp,xm,if_pos (by decide),if_neg (by decide)];decide
theorem Nd(p:Int)(f:Po):ev p ((X 1-K p)*f)=0:=by
 have h:len ((X 1-K p)*f)<=len f+1:=cS fun i hi=>by
  rw[FU,if_neg (by lia),eM (by lia),eM (by lia)];grind
 rw[uS p h];have e:aF (fun i=>((X 1-K p)*f).c i*p^i) (len f+1)=aF (fun i=>(if i<1 then 0 else f.c (i-1))*p^i) (len f+1)-aF (fun i=>p*(f.c i*p^i)) (len f+1):=by
  have:∀a b:Int,a=b-(b-a):=fun a b=>by lia
  have e2:aF (fun i=>(if i<1 then 0 else f.c (i-1))*p^i) (len f+1)=aF (fun i=>((X 1-K p)*f).c i*p^i) (len f+1)+aF (fun i=>p*(f.c i*p^i)) (len f+1):=by
   rw[<-fc];exact aQ fun i _=>by rw[FU];grind
  lia
 rw[e,cO,<-uS p (f:=f) (n:=len f+1) (by lia),eS];have e3:aF (fun i=>(if i+1<1 then 0 else f.c (i+1-1))*p^(i+1)) (len f)=p*ev p f:=by
  unfold ev;rw[<-cO];exact aQ fun i _=>by
   rw[if_neg (by lia),Nat.add_sub_cancel,Int.pow_succ];grind
 rw[e3,if_pos (by decide)];grind
theorem mi(p:Int)(f g:Po):ev p (f*g)=ev p f*ev p g:=by
 obtain⟨A,ea⟩:=factor p f;obtain⟨B,eb⟩:=factor p g;have e:f*g=(X 1-K p)*(A*g+K (ev p f)*B)+K (ev p f*ev p g):=by
  rw[cb]
  conv=>lhs;rw[ea]
  have:K (ev p f)*g=K (ev p f)*((X 1-K p)*B+K (ev p g)):=by rw[<-eb]
  grind
 rw[e,xr,Nd,CN];grind
theorem CP(p:Int){f g q:Po}(e:g=f*q):ev p f∣ev p g:=by rw[e,mi];exact Int.dvd_mul_right ..
noncomputable def nn(ρ:Int)(N:Nat)(z:Po):Int:=aF (fun i=>ab (z.c i)*ρ^i) N
theorem qU{ρ:Int}(h:0<=ρ)(N:Nat)(z:Po):0<=nn ρ N z:=
 jv fun i _=>Int.mul_nonneg (aM _) (Int.pow_nonneg h)
theorem CQ{ρ:Int}(h:0<ρ){N:Nat}{z:Po}(hz:z≠0)(hl:len z<=N):0<nn ρ N z:=by
 have h1:=len_pos hz;have h2:=lead h1;have:=FT (f:=fun i=>ab (z.c i)*ρ^i) (n:=N) (j:=len z-1) (fun i _=>Int.mul_nonneg (aM _) (Int.pow_nonneg (by lia))) (by lia);have h3:0<ab (z.c (len z-1))*ρ^(len z-1):=Int.mul_pos (fW h2) (Int.pow_pos h);unfold nn;exact Int.lt_of_lt_of_le h3 this
theorem zt{f z y:Po}{s τ p M:Int}{N:Nat}(hM:∀i,ab (f.c i)<=M)(hN:len f=N+2)(hy:len y<=N+1)(hp:0<=p)(e:(X 1-K p)*y=K τ*f-K s*z)(hz:len z<=N+1):
 p*nn (M+1) (N+1) y<=ab s*nn (M+1) (N+1) z+(M+1)*nn (M+1) (N+1) y:=by
 have J4:0<=M:=Int.le_trans (aM _) (hM 0);have kc:(0:Int)<=M+1:=by lia
 have top:τ*f.c (N+1)=y.c N:=by
  have:=congrArg (fun w:Po=>w.c (N+1)) e;have h2:((X 1-K p)*y).c (N+1)=(K τ*f-K s*z).c (N+1):=this;rw[FU,if_neg (by lia),Nat.add_sub_cancel,eM (f:=y) (i:=N+1) hy,gM,bC,bC,eM (f:=z) (i:=N+1) hz] at h2;grind
 have hl:=lead (f:=f) (by lia);have FV:len f-1=N+1:=by lia
 rw[FV] at hl;have row:∀i,i<N+1->p*(ab (y.c i)*(M+1)^i)<=ab s*(ab (z.c i)*(M+1)^i)+(if i<1 then 0 else ab (y.c (i-1)))*(M+1)^i+ab τ*(M*(M+1)^i):=by
  intro i _;have h2:((X 1-K p)*y).c i=(K τ*f-K s*z).c i:=congrArg (fun w:Po=>w.c i) e;rw[FU,gM,bC,bC] at h2;have e3:p*y.c i=(s*z.c i+(if i<1 then 0 else y.c (i-1)))-τ*f.c i:=by lia
  have h4:ab (p*y.c i)<=ab s*ab (z.c i)+(if i<1 then 0 else ab (y.c (i-1)))+ab τ*M:=by
   rw[e3];have a1:=JZ (s*z.c i+(if i<1 then 0 else y.c (i-1))) (τ*f.c i);have a2:=gy (s*z.c i) (if i<1 then 0 else y.c (i-1));have a3:ab (if i<1 then 0 else y.c (i-1))=if i<1 then 0 else ab (y.c (i-1)):=by split<;>rfl
   have a4:ab (τ*f.c i)<=ab τ*M:=by rw[cw];exact Int.mul_le_mul_of_nonneg_left (hM i) (aM _)
   rw[a3] at a2;rw[cw s] at a2;lia
  rw[cw,mY hp] at h4;have h5:=Int.mul_le_mul_of_nonneg_right h4 (show 0<=(M+1)^i from Int.pow_nonneg kc);have e4:p*(ab (y.c i)*(M+1)^i)=p*ab (y.c i)*(M+1)^i:=by grind
  have e5:ab s*(ab (z.c i)*(M+1)^i)+(if i<1 then 0 else ab (y.c (i-1)))*(M+1)^i+ab τ*(M*(M+1)^i)=(ab s*ab (z.c i)+(if i<1 then 0 else ab (y.c (i-1)))+ab τ*M)*(M+1)^i:=by grind
  rw[e4,e5];exact h5
 have h6:=kY (n:=N+1) row;rw[cO,fc,fc,cO,cO,oA] at h6;have e7:aF (fun i=>(if i<1 then 0 else ab (y.c (i-1)))*(M+1)^i) (N+1)=(M+1)*aF (fun i=>ab (y.c i)*(M+1)^i) N:=by
  rw[eS,<-cO,if_pos (by decide)];have:aF (fun i=>(if i+1<1 then 0 else ab (y.c (i+1-1)))*(M+1)^(i+1)) N=aF (fun i=>(M+1)*(ab (y.c i)*(M+1)^i)) N:=aQ fun i _=>by
   rw[if_neg (by lia),Nat.add_sub_cancel,Int.pow_succ];grind
  rw[this];grind
 rw[e7] at h6;have e8:nn (M+1) (N+1) y=aF (fun i=>ab (y.c i)*(M+1)^i) N+ab (y.c N)*(M+1)^N:=rfl;have h9:ab τ*((M+1)^(N+1)-1)<=(M+1)*(ab (y.c N)*(M+1)^N):=by
  rw[<-top,cw];have g1:1<=ab (f.c (N+1)):=fW hl;have g2:0<=(M+1)^(N+1):=Int.pow_nonneg kc;have g3:ab τ*(M+1)^(N+1)*1<=ab τ*(M+1)^(N+1)*ab (f.c (N+1)):=Int.mul_le_mul_of_nonneg_left g1 (Int.mul_nonneg (aM _) g2);have g4:=aM τ;have RS:(M+1)*(ab τ*ab (f.c (N+1))*(M+1)^N)=ab τ*(M+1)^(N+1)*ab (f.c (N+1)):=by rw[Int.pow_succ];grind
  rw[RS];have WY:ab τ*((M+1)^(N+1)-1)=ab τ*(M+1)^(N+1)*1-ab τ:=by grind
  rw[WY];lia
 show p*nn (M+1) (N+1) y<=ab s*nn (M+1) (N+1) z+(M+1)*nn (M+1) (N+1) y;rw[e8];show p*(aF (fun i=>ab (y.c i)*(M+1)^i) N+ab (y.c N)*(M+1)^N)<=ab s*nn (M+1) (N+1) z+(M+1)*(aF (fun i=>ab (y.c i)*(M+1)^i) N+ab (y.c N)*(M+1)^N);have ZI:p*(aF (fun i=>ab (y.c i)*(M+1)^i) N+ab (y.c N)*(M+1)^N)<=ab s*nn (M+1) (N+1) z+(M+1)*aF (fun i=>ab (y.c i)*(M+1)^i) N+ab τ*((M+1)^(N+1)-1):=h6;have Nf:(M+1)*(aF (fun i=>ab (y.c i)*(M+1)^i) N+ab (y.c N)*(M+1)^N)=(M+1)*aF (fun i=>ab (y.c i)*(M+1)^i) N+(M+1)*(ab (y.c N)*(M+1)^N):=by grind
 rw[Nf];lia
theorem uT{f k q t:Po}(hf:f≠0)(e:f=k*q)(ht:len t+1<=len k)(p:Int):
 ∃B,len B+1<=len k/\(X 1-K p)*(q*B)=K (ev p t)*f-K (ev p k)*(q*t):=by
 let F:=K (ev p t)*k-K (ev p k)*t;obtain⟨B,eB⟩:=factor p F;have e0:ev p F=0:=by
  show ev p (K (ev p t)*k-K (ev p k)*t)=0;rw[J3,kZ,kZ];grind
 rw[e0,c_] at eB;have Uy:F=(X 1-K p)*B:=by rw[eB];grind
 refine⟨B,?_,?_⟩
 ·by_cases hB:B=0
  ·rw[hB,fS];lia
  ·have h1:=len_mul (cD (by rw[CO];decide)) hB (f:=X 1-K p);rw[<-Uy,CO] at h1;have h2:len F<=len k:=by
    have h3:len F<=max (len (K (ev p t)*k)) (len (K (ev p k)*t)):=len_sub _ _;have h4:len (K (ev p t)*k)<=len k:=cS fun i hi=>by rw[bC,eM hi];grind
    have h5:len (K (ev p k)*t)<=len t:=cS fun i hi=>by rw[bC,eM hi];grind
    lia
   lia
 ·have:(X 1-K p)*(q*B)=q*F:=by rw[Uy];grind
  rw[this,e];show q*(K (ev p t)*k-K (ev p k)*t)=_;grind
theorem jS{f k q:Po}(hf:f≠0)(e:f=k*q)(hk:2<=len k){M:Int}(hM:∀i,ab (f.c i)<=M){p:Int}(hp:M+1<p):p-(M+1)<=ab (ev p k):=by
 have J4:0<=M:=Int.le_trans (aM _) (hM 0);have kc:(0:Int)<M+1:=by lia
 have RT:k≠0:=cD (by lia);have PF:q≠0:=by rintro rfl;exact hf (by rw[e];grind)
 have hl:=len_mul RT PF;rw[<-e] at hl;have ZJ:=len_pos PF;obtain⟨N,hN⟩:∃N,len f=N+2:=⟨len f-2,by lia⟩;have xt:∀t:Po,len t+1<=len k->len (q*t)<=N+1:=fun t ht=>by
  by_cases h0:t=0
  ·rw[h0];have:q*(0:Po)=0:=by grind
   rw[this,fS];lia
  ·have:=len_mul PF h0;lia
 have hs:ev p k≠0:=fun z=>by
  have l1:len (1:Po)=1:=by rw[<-cK];exact len_K (by decide)
  obtain⟨B,hB,eB⟩:=uT hf e (t:=1) (by lia) p;have g:=zt hM hN (xt B hB) (by lia) eB (xt 1 (by lia));have WZ:ev p 1=1:=by rw[<-cK,CN]
  rw[z] at g;have h0:ab 0=0:=rfl;rw[h0,Int.zero_mul,Int.zero_add] at g;have W0:q*B=0:=by
   by_cases hz:q*B=0
   ·exact hz
   ·have:=CQ kc hz (xt B hB);have h3:(M+1)*nn (M+1) (N+1) (q*B)<p*nn (M+1) (N+1) (q*B):=Int.mul_lt_mul_of_pos_right hp this;lia
  rw[W0,z,WZ,cK,c_] at eB;exact hf (by grind)
 have hex:∃m:Nat,∃t:Po,len t+1<=len k/\q*t≠0/\nn (M+1) (N+1) (q*t)=(m:Int):=by
  refine⟨(nn (M+1) (N+1) (q*1)).toNat,1,?_,?_,?_⟩
  ·have l1:len (1:Po)=1:=by rw[<-cK];exact len_K (by decide)
   lia
  ·have:q*1=q:=by grind
   rw[this];exact PF
  ·exact(Int.toNat_of_nonneg (qU (by lia) _ _)).symm
 obtain⟨m0,PH⟩:=hex;obtain⟨m,hm,J5⟩:=least (P:=fun m:Nat=>¬∃t:Po,len t+1<=len k/\q*t≠0/\nn (M+1) (N+1) (q*t)=(m:Int)) m0 (fun z=>z PH);obtain⟨t,ht,hz,hn⟩:=Classical.not_not.mp hm;obtain⟨B,hB,eB⟩:=uT hf e ht p;have g:=zt hM hN (xt B hB) (by lia) eB (xt t ht);have hy:q*B≠0:=fun z=>by
  rw[z] at eB;have e2:K (ev p t)*f=K (ev p k)*(q*t):=by grind
  have h1:len (K (ev p k)*(q*t))<=N+1:=by
   rw[gw hs];exact xt t ht
  by_cases h0:ev p t=0
  ·rw[h0,c_] at e2;exact bT (j7 hs) hz (by grind)
  ·have h2:=gw h0 f;rw[e2] at h2;lia
 have FW:nn (M+1) (N+1) (q*t)<=nn (M+1) (N+1) (q*B):=by
  have W2:=qU (ρ:=M+1) (by lia) (N+1) (q*B);rcases Int.lt_or_le (nn (M+1) (N+1) (q*B)) (nn (M+1) (N+1) (q*t)) with gb|hle
  ·exfalso;refine J5 (nn (M+1) (N+1) (q*B)).toNat (by lia) ⟨B,hB,hy,?_⟩;exact(Int.toNat_of_nonneg W2).symm
  ·exact hle
 have gL:=CQ kc hz (xt t ht);have h7:(p-(M+1))*nn (M+1) (N+1) (q*t)<=(p-(M+1))*nn (M+1) (N+1) (q*B):=Int.mul_le_mul_of_nonneg_left FW (by lia);have h8:(p-(M+1))*nn (M+1) (N+1) (q*B)=p*nn (M+1) (N+1) (q*B)-(M+1)*nn (M+1) (N+1) (q*B):=by grind
 have h9:(p-(M+1))*nn (M+1) (N+1) (q*t)<=ab (ev p k)*nn (M+1) (N+1) (q*t):=by lia
 exact Int.le_of_mul_le_mul_right h9 gL
end Po
end SF
namespace SF
open Lean.Grind
theorem oC:∀(b a:Nat)(φ:Nat->Nat),b<a->(∀x,x<a->φ x<b)->∃x y,x<y/\y<a/\φ x=φ y
 |0,a,φ,h,Ly=>absurd (Ly 0 h) (Nat.not_lt_zero _)
 |b+1,a,φ,h,Ly=>by
  by_cases hx:∃x,x<a-1/\φ x=φ (a-1)
  ·obtain⟨x,h1,h2⟩:=hx;exact⟨x,a-1,h1,by lia,h2⟩
  have fK:∀x,x<a-1->φ x≠φ (a-1):=fun x h1 h2=>hx ⟨x,h1,h2⟩;have hc:=Ly (a-1) (by lia);obtain⟨x,y,h1,h2,h3⟩:=oC b (a-1) (fun x=>if φ x=b then φ (a-1) else φ x) (by lia) (fun x hx=>by
   have h1:=Ly x (by lia)
   have h2:=fK x hx
   split
   ·lia
   ·lia);refine⟨x,y,h1,by lia,?_⟩;have n1:=fK x (by lia);have n2:=fK y h2;split at h3<;>split at h3<;>lia
noncomputable def dg(B x i:Nat):Nat:=x/B^i%B
theorem zu(B x i:Nat):dg B x (i+1)=dg B (x/B) i:=by
 unfold dg;rw[Nat.pow_succ',Nat.div_div_eq_div_mul]
theorem qV{B:Nat}(h:0<B)(x i:Nat):dg B x i<B:=Nat.mod_lt _ h
theorem CT{B:Nat}(hB:0<B):∀(n x y:Nat),x<B^n->y<B^n->(∀i,i<n->dg B x i=dg B y i)->x=y
 |0,x,y,hx,hy,_=>by rw[Nat.pow_zero] at hx hy;lia
 |n+1,x,y,hx,hy,h=>by
  have h0:=h 0 (by lia);unfold dg at h0;rw[Nat.pow_zero,Nat.div_one,Nat.div_one] at h0;have hd:=CT hB n (x/B) (y/B) (Nat.div_lt_of_lt_mul (by rw[<-Nat.pow_succ'];exact hx)) (Nat.div_lt_of_lt_mul (by rw[<-Nat.pow_succ'];exact hy)) (fun i hi=>by
   rw[<-zu,<-zu];exact h (i+1) (by lia));rw[<-Nat.div_add_mod x B,<-Nat.div_add_mod y B,hd,h0]
noncomputable def enc(B:Nat)(w:Nat->Nat):Nat->Nat
 |0=>0
 |n+1=>enc B w n+w n*B^n
theorem sC{B:Nat}{w:Nat->Nat}(hw:∀i,w i<B):∀n,enc B w n<B^n
 |0=>by show 0<B^0;rw[Nat.pow_zero];decide
 |n+1=>by
  show enc B w n+w n*B^n<B^(n+1);have h1:=sC hw n;have h2:(w n+1)*B^n<=B*B^n:=Nat.mul_le_mul_right _ (hw n);rw[Nat.add_mul,Nat.one_mul] at h2;rw[Nat.pow_succ,Nat.mul_comm (B^n)];lia
theorem zv{B:Nat}{w v:Nat->Nat}(hw:∀i,w i<B)(hv:∀i,v i<B):∀n,enc B w n=enc B v n->∀i,i<n->w i=v i
 |0,_,i,hi=>by lia
 |n+1,h,i,hi=>by
  have h1:=sC hw n;have h2:=sC hv n;have h':enc B w n+w n*B^n=enc B v n+v n*B^n:=h;have e1:(enc B w n+w n*B^n)/B^n=w n:=by
   rw[Nat.add_mul_div_right _ _ (by lia),Nat.div_eq_of_lt h1,Nat.zero_add]
  have e2:(enc B v n+v n*B^n)/B^n=v n:=by
   rw[Nat.add_mul_div_right _ _ (by lia),Nat.div_eq_of_lt h2,Nat.zero_add]
  have e3:w n=v n:=by rw[<-e1,h',e2]
  by_cases he:i=n
  ·rw[he];exact e3
  ·exact zv hw hv n (by rw[e3] at h';lia) i (by lia)
namespace Po
noncomputable def zw(w:Nat->Int)(n:Nat):Po:=⟨⟨fun i=>if i<n then w i else 0⟩,n,fun i hi=>if_neg (by lia)⟩
theorem kd(w:Nat->Int)(n i:Nat):(zw w n).c i=if i<n then w i else 0:=rfl
theorem fM(w:Nat->Int)(n:Nat):len (zw w n)<=n:=cS fun i hi=>if_neg (by lia)
theorem CU{u f:Po}{n:Nat}{H M:Int}(hl:len u<=n)(hu:∀i,ab (u.c i)<=H)(hf:∀i,ab (f.c i)<=M)(j:Nat):ab ((u*f).c j)<=n*(H*M):=by
 have hH:0<=H:=Int.le_trans (aM _) (hu 0);have hM:0<=M:=Int.le_trans (aM _) (hf 0);have W3:0<=H*M:=Int.mul_nonneg hH hM;rw[uO];have h1:=xq (f:=fun i=>u.c i*f.c (j-i)) (j+1);have h2:aF (fun i=>ab (u.c i*f.c (j-i))) (j+1)<=aF (fun i=>if i<n then H*M else 0) (j+1):=kY fun i _=>by
  split
  ·rw[cw];exact Int.mul_le_mul (hu i) (hf _) (aM _) hH
  ·rw[eM (f:=u) (by lia),Int.zero_mul];exact Int.le_refl _
 have h3:∀m:Nat,aF (fun i=>if i<n then H*M else 0) m<=(min m n:Nat)*(H*M):=by
  intro m
  induction m with
  |zero=>show(0:Int)<=_;rw[Nat.zero_min];show(0:Int)<=0*_;lia
  |succ m ih=>
   show aF (fun i=>if i<n then H*M else 0) m+(if m<n then H*M else 0)<=_;split
   ·have e:min (m+1) n=min m n+1:=by lia
    rw[e];have e2:((min m n+1:Nat):Int)*(H*M)=((min m n:Nat):Int)*(H*M)+H*M:=by
     rw[Int.natCast_add];grind
    rw[e2];lia
   ·have e:min (m+1) n=min m n:=by lia
    rw[e];lia
 have h4:=h3 (j+1);have h5:((min (j+1) n:Nat):Int)*(H*M)<=(n:Int)*(H*M):=Int.mul_le_mul_of_nonneg_right (by lia) W3;lia
theorem qW{f g:Po}{M:Nat}(EX:∀i,ab (f.c i)<=M)(FX:∀i,ab (g.c i)<=M){A n m:Nat}(Lw:n+m=A)(Ng:0<A)(off:Nat):
 ∃U V:Po,len U<=n/\len V<=m/\(U≠0\/V≠0)/\(∀i,ab (U.c i)<=(((2*A*M+1)^(A-1):Nat):Int))/\(∀i,ab (V.c i)<=(((2*A*M+1)^(A-1):Nat):Int))/\
  (∀j,j<A-1->(U*f+V*g).c (off+j)=0)/\∀i,ab ((U*f+V*g).c i)<=((A*((2*A*M+1)^(A-1)*M):Nat):Int):=by
 let H:Nat:=(2*A*M+1)^(A-1);have hH:0<H:=Nat.pow_pos (by lia);let uu:Nat->Po:=fun x=>zw (fun i=>((dg (H+1) x i:Nat):Int)) n;let vv:Nat->Po:=fun x=>zw (fun i=>((dg (H+1) x (n+i):Nat):Int)) m;let ww:Nat->Po:=fun x=>uu x*f+vv x*g;have bu:∀x i,ab ((uu x).c i)<=(H:Int):=fun x i=>by
  show ab ((zw _ n).c i)<=_;rw[kd];split
  ·have:=qV (B:=H+1) (by lia) x i;rw[mY (by lia)];lia
  ·show(0:Int)<=_;lia
 have bv:∀x i,ab ((vv x).c i)<=(H:Int):=fun x i=>by
  show ab ((zw _ m).c i)<=_;rw[kd];split
  ·have:=qV (B:=H+1) (by lia) x (n+i);rw[mY (by lia)];lia
  ·show(0:Int)<=_;lia
 have bw:∀U V:Po,len U<=n->len V<=m->(∀i,ab (U.c i)<=(H:Int))->(∀i,ab (V.c i)<=(H:Int))->∀j,ab ((U*f+V*g).c j)<=((A*(H*M):Nat):Int):=fun U V l1 l2 b1 b2 j=>by
  rw[j_];have h1:=CU l1 b1 EX j;have h2:=CU l2 b2 FX j;have h3:=gy ((U*f).c j) ((V*g).c j);have e:((A*(H*M):Nat):Int)=(n:Int)*((H:Int)*M)+(m:Int)*((H:Int)*M):=by
   rw[<-Lw];push_cast;grind
  lia
 let Bz:Nat:=A*(H*M);let Bk:Nat:=2*Bz+1;let wi:Nat->Nat->Nat:=fun x j=>((ww x).c (off+j)+Bz).toNat;have RU:∀x j,wi x j<Bk:=fun x j=>by
  have:=bw (uu x) (vv x) (fM _ _) (fM _ _) (bu x) (bv x) (off+j);have h2:ab ((ww x).c (off+j))<=((A*(H*M):Nat):Int):=this;unfold ab at h2;show((ww x).c (off+j)+Bz).toNat<2*Bz+1;have:Bz=A*(H*M):=rfl;lia
 have J6:Bk^(A-1)<(H+1)^A:=by
  have h1:Bk<=(2*A*M+1)*H:=by
   show 2*(A*(H*M))+1<=(2*A*M+1)*H;have e:(2*A*M+1)*H=2*(A*(H*M))+H:=by grind
   lia
  have h2:Bk^(A-1)<=((2*A*M+1)*H)^(A-1):=Nat.pow_le_pow_left h1 _;rw[Nat.mul_pow] at h2;have h3:H*H^(A-1)=H^A:=by
   rw[<-Nat.pow_succ'];congr 1;lia
  have h4:H^A<(H+1)^A:=Nat.pow_lt_pow_left (by lia) (by lia);have h5:(2*A*M+1)^(A-1)*H^(A-1)=H^A:=h3;lia
 obtain⟨x,y,ZK,hy,Ly⟩:=oC _ _ (fun x=>enc Bk (wi x) (A-1)) J6 (fun x _=>sC (RU x) _);have heq:=zv (RU x) (RU y) _ Ly;let U:=uu x-uu y;let V:=vv x-vv y;have lU:len U<=n:=Nat.le_trans (len_sub _ _) (by have:=fM (fun i=>((dg (H+1) x i:Nat):Int)) n;have:=fM (fun i=>((dg (H+1) y i:Nat):Int)) n;exact Nat.max_le.mpr ⟨by assumption,by assumption⟩);have lV:len V<=m:=Nat.le_trans (len_sub _ _) (by have:=fM (fun i=>((dg (H+1) x (n+i):Nat):Int)) m;have:=fM (fun i=>((dg (H+1) y (n+i):Nat):Int)) m;exact Nat.max_le.mpr ⟨by assumption,by assumption⟩);have bU:∀i,ab (U.c i)<=(H:Int):=fun i=>by
  show ab ((uu x-uu y).c i)<=_;rw[gM];show ab ((zw _ n).c i-(zw _ n).c i)<=_;rw[kd,kd];have h1:=qV (B:=H+1) (by lia) x i;have h2:=qV (B:=H+1) (by lia) y i;unfold ab;split<;>lia
 have bV:∀i,ab (V.c i)<=(H:Int):=fun i=>by
  show ab ((vv x-vv y).c i)<=_;rw[gM];show ab ((zw _ m).c i-(zw _ m).c i)<=_;rw[kd,kd];have h1:=qV (B:=H+1) (by lia) x (n+i);have h2:=qV (B:=H+1) (by lia) y (n+i);unfold ab;split<;>lia
 have fK:U≠0\/V≠0:=by
  by_cases hU:U=0
  ·refine .inr fun hV=>?_;have:x=y:=CT (by lia) A x y (by lia) hy fun i hi=>by
    by_cases Pq:i<n
    ·have h1:(uu x-uu y).c i=0:=by
      have:(uu x-uu y)=0:=hU;rw[this,fg]
     rw[gM] at h1;have h2:(uu x).c i=((dg (H+1) x i:Nat):Int):=by show(zw _ n).c i=_;rw[kd,if_pos Pq]
     have h3:(uu y).c i=((dg (H+1) y i:Nat):Int):=by show(zw _ n).c i=_;rw[kd,if_pos Pq]
     lia
    ·have h1:(vv x-vv y).c (i-n)=0:=by
      have:(vv x-vv y)=0:=hV;rw[this,fg]
     rw[gM] at h1;have Uz:i-n<m:=by lia
     have W4:n+(i-n)=i:=by lia
     have h2:(vv x).c (i-n)=((dg (H+1) x (n+(i-n)):Nat):Int):=by show(zw _ m).c (i-n)=_;rw[kd,if_pos Uz]
     have h3:(vv y).c (i-n)=((dg (H+1) y (n+(i-n)):Nat):Int):=by show(zw _ m).c (i-n)=_;rw[kd,if_pos Uz]
     rw[W4] at h2 h3;lia
   lia
  ·exact .inl hU
 refine⟨U,V,lU,lV,fK,bU,bV,fun j hj=>?_,bw U V lU lV bU bV⟩;have h1:=heq j hj;have b1:=bw (uu x) (vv x) (fM _ _) (fM _ _) (bu x) (bv x) (off+j);have b2:=bw (uu y) (vv y) (fM _ _) (fM _ _) (bu y) (bv y) (off+j);have h2:((ww x).c (off+j)+Bz).toNat=((ww y).c (off+j)+Bz).toNat:=h1;have W5:ab ((ww x).c (off+j))<=((Bz:Nat):Int):=b1;have W6:ab ((ww y).c (off+j))<=((Bz:Nat):Int):=b2;unfold ab at W5 W6;have h3:(ww x).c (off+j)=(ww y).c (off+j):=by lia
 have e:U*f+V*g=ww x-ww y:=by
  show(uu x-uu y)*f+(vv x-vv y)*g=uu x*f+vv x*g-(uu y*f+vv y*g);grind
 rw[e,gM,h3];lia
theorem jT{W z:Po}{a b i:Nat}(l:len W<=a)(e:a+len z<=b+1)(hi:b<=i):(W*z).c i=0:=by
 by_cases hW:W=0
 ·rw[hW];have:(0:Po)*z=0:=by grind
  rw[this,fg]
 ·by_cases hz:z=0
  ·rw[hz];have:W*(0:Po)=0:=by grind
   rw[this,fg]
  ·have:=len_mul hW hz;exact eM (by lia)
theorem J7{f g h f1 g1 u0 v0:Po}{c0:Int}{M:Nat}(hh:h≠0)(xu:f1≠0)(zx:g1≠0)(ef:f=h*f1)(eg:g=h*g1)(eb:u0*f1+v0*g1=K c0)(BY:c0≠0)(EX:∀i,ab (f.c i)<=M)(FX:∀i,ab (g.c i)<=M){A:Nat}(hA:len f1+len g1=A+2)(Ng:0<A):
 ∃(U V:Po)(r:Int),r≠0/\U*f1+V*g1=K r/\∀i,ab (r*h.c i)<=((A*((2*A*M+1)^(A-1)*M):Nat):Int):=by
 have lf:=len_mul hh xu;have lg:=len_mul hh zx;rw[<-ef] at lf;rw[<-eg] at lg;have mZ:=len_pos xu;have sD:=len_pos zx;have W7:=len_pos hh;obtain⟨U,V,lU,lV,fK,bU,bV,hz,CV⟩:=qW (f:=f) (g:=g) EX FX (n:=len g1-1) (m:=len f1-1) (A:=A) (by lia) Ng (len h);let R:=U*f+V*g;have eR:R=h*(U*f1+V*g1):=by
  show U*f+V*g=_;rw[ef,eg];grind
 have lR:len R<=len h:=cS fun i hi=>by
  by_cases Lz:i<len h+A-1
  ·have:=hz (i-len h) (by lia);have ei:len h+(i-len h)=i:=by lia
   rw[ei] at this;exact this
  ·show(U*f+V*g).c i=0;rw[j_,jT (W:=U) (z:=f) (b:=len h+A-1) lU (by lia) (by lia),jT (W:=V) (z:=g) (b:=len h+A-1) lV (by lia) (by lia)];rfl
 have Nh:len (U*f1+V*g1)<=1:=by
  by_cases h0:U*f1+V*g1=0
  ·rw[h0,fS];lia
  ·have:=len_mul hh h0;rw[<-eR] at this;lia
 have er:=cG Nh;refine⟨U,V,(U*f1+V*g1).c 0,?_,er,?_⟩
 ·intro z;rw[z,c_] at er;have dv:D f1 V:=⟨c0,BY,u0*V-v0*U,by
   rw[<-eb]
   have:V*g1=-(U*f1):=by grind
   have e2:(u0*f1+v0*g1)*V=u0*f1*V+v0*(V*g1):=by grind
   rw[e2,this];grind⟩;have du:D g1 U:=⟨c0,BY,v0*U-u0*V,by
   rw[<-eb]
   have:U*f1=-(V*g1):=by grind
   have e2:(u0*f1+v0*g1)*U=u0*(U*f1)+v0*g1*U:=by grind
   rw[e2,this];grind⟩;rcases fK with hU|hV
  ·have:=du.len hU;lia
  ·have:=dv.len hV;lia
 ·intro i;have h1:=CV i;have e:U*f+V*g=K ((U*f1+V*g1).c 0)*h:=by
   show R=_;rw[eR,<-er];grind
  rw[e,bC] at h1;exact h1
end Po
end SF
namespace SF
open Lean.Grind
namespace Po
theorem eK{xs:List Int}(h:Tr xs)(hn:xs≠[]):ao xs=K (cont xs)*ao (aC xs):=ext fun i=>by
 rw[bC,bJ,bJ];by_cases hi:i<xs.length
 ·have:=iz hi;grind
 ·rw[cz (by lia),cz (by rw[aY];lia)];grind
theorem mj{xs:List Int}{x:Int}(h:x∈xs):∃i,co xs i=x:=by
 obtain⟨i,hi,e⟩:=List.getElem_of_mem h;exact⟨i,by rw[cy hi,e]⟩
theorem di{xs:List Int}(h:Tr xs)(hn:xs≠[]):Pr (ao (aC xs)):=fun p hp=>by
 have h1:p∣fy (aC xs):=(md _ _).mpr fun x hx=>by
  obtain⟨i,e⟩:=mj hx;rw[<-e];exact hp i
 rw[uH h hn] at h1;exact Nat.eq_one_of_dvd_one h1
theorem fD{xs:List Int}(h:Tr xs)(hn:xs≠[]):0<(ao (aC xs)).c (len (ao (aC xs))-1):=by
 rw[bq (cA h),aY];exact iS h hn
theorem J8{f:Po}(h:f≠0):lst f≠[]:=List.length_pos_iff.mp (len_pos h)
theorem zy{xs:List Int}(h:Tr xs){b:Int}{f:Po}(hb:b≠0)(e:ao xs=K b*f)(hf:Pr f)(hl:0<f.c (len f-1)):ao (aC xs)=f:=by
 have hn:xs≠[]:=by
  rintro rfl;rw[dF] at e;exact bT (j7 hb) hf.ne e.symm
 have hc:=ff h hn;have e2:=eK h hn;refine(di h hn).same hf ?_ ?_ (fD h hn) hl
 ·refine D.uQ hb ?_;rw[<-e,e2];exact(D.refl _).mulL _
 ·refine D.uQ hc ?_;rw[<-e2,e];exact(D.refl _).mulL _
structure GC(f g d:Po):Prop where
 pr:Pr d
 pos:0<d.c (len d-1)
 df:D d f
 dg:D d g
 bz:∃(u v:Po)(a:Int),a≠0/\u*f+v*g=K a*d
theorem GC.PJ{f g d e:Po}(h:GC f g d)(h1:D e f)(h2:D e g):D e d:=by
 obtain⟨u,v,a,ha,eq⟩:=h.bz;refine D.uQ ha ?_;rw[<-eq];exact(h1.mulL u).add (h2.mulL v)
theorem GC.uniq{f g d e:Po}(h:GC f g d)(h':GC f g e):d=e:=
 h.pr.same h'.pr (h'.PJ h.df h.dg) (h.PJ h'.df h'.dg) h.pos h'.pos
theorem GC.symm{f g d:Po}(h:GC f g d):GC g f d:=by
 obtain⟨u,v,a,ha,eq⟩:=h.bz;exact⟨h.pr,h.pos,h.dg,h.df,v,u,a,ha,by grind⟩
theorem GC.ex{f g:Po}(h:f≠0\/g≠0):∃d,GC f g d:=by
 obtain⟨d,u,v,hd,e,d1,d2⟩:=sy _ f g (Nat.le_refl _) h;have hn:=J8 hd;have ht:=iU d;have e2:d=K (cont (lst d))*ao (aC (lst d)):=by
  conv=>lhs;rw[<-dE d]
  exact eK ht hn
 have hc:=ff ht hn;have hd2:D (ao (aC (lst d))) d:=by
  conv=>rhs;rw[e2]
  exact(D.refl _).mulL _
 exact⟨ao (aC (lst d)),di ht hn,fD ht hn,hd2.trans d1,hd2.trans d2,u,v,_,hc,by rw[e];exact e2⟩
theorem GC.scale{f g d:Po}{a b:Int}(ha:a≠0)(hb:b≠0)(h:GC f g d):GC (K a*f) (K b*g) d:=by
 obtain⟨u,v,c,hc,eq⟩:=h.bz;refine⟨h.pr,h.pos,h.df.mulL _,h.dg.mulL _,K b*u,K a*v,a*b*c,Int.mul_ne_zero (Int.mul_ne_zero ha hb) hc,?_⟩;rw[cb,cb];grind
structure HQ(p v:Int)(xs:List Int):Prop where
 val:eY p xs=v
 J9:∀x∈xs,-p<2*x/\2*x<=p
 tr:Tr xs
theorem nN{p:Int}(hp:0<p):∀xs ys:List Int,(∀x∈xs,-p<2*x/\2*x<=p)->(∀x∈ys,-p<2*x/\2*x<=p)->eY p xs=eY p ys->∀i,co xs i=co ys i
 |[],[],_,_,_,i=>rfl
 |x::r,[],hx,hy,e,i=>by
  have h1:=hx x List.mem_cons_self;have e1:x+p*eY p r=0:=e;have hd:x=0:=by
   have h2:p∣x:=⟨-eY p r,by grind⟩;obtain⟨k,rfl⟩:=h2;have:k=0:=by
    rcases Int.lt_trichotomy k 0 with hk|hk|hk
    ·have:p*k<=p*(-1):=Int.mul_le_mul_of_nonneg_left (by lia) (by lia);lia
    ·exact hk
    ·have:p*1<=p*k:=Int.mul_le_mul_of_nonneg_left (by lia) (by lia);lia
   rw[this];simp
  have e2:eY p r=eY p []:=by
   rw[hd] at e1;have e3:p*eY p r=0:=by lia
   rcases Int.mul_eq_zero.mp e3 with z|z
   ·lia
   ·rw[z];rfl
  have ih:=nN hp r [] (fun x h=>hx x (List.mem_cons_of_mem _ h)) hy e2;cases i with
  |zero=>rw[iQ,hd];rfl
  |succ i=>rw[fe,ih i];rfl
 |[],y::s,hx,hy,e,i=>by
  have h1:=hy y List.mem_cons_self;have e1:0=y+p*eY p s:=e;have hd:y=0:=by
   have h2:p∣y:=⟨-eY p s,by grind⟩;obtain⟨k,rfl⟩:=h2;have:k=0:=by
    rcases Int.lt_trichotomy k 0 with hk|hk|hk
    ·have:p*k<=p*(-1):=Int.mul_le_mul_of_nonneg_left (by lia) (by lia);lia
    ·exact hk
    ·have:p*1<=p*k:=Int.mul_le_mul_of_nonneg_left (by lia) (by lia);lia
   rw[this];simp
  have e2:eY p []=eY p s:=by
   rw[hd] at e1;have e3:p*eY p s=0:=by lia
   rcases Int.mul_eq_zero.mp e3 with z|z
   ·lia
   ·rw[z];rfl
  have ih:=nN hp [] s hx (fun x h=>hy x (List.mem_cons_of_mem _ h)) e2;cases i with
  |zero=>rw[iQ,hd];rfl
  |succ i=>rw[fe,<-ih i];rfl
 |x::r,y::s,hx,hy,e,i=>by
  have h1:=hx x List.mem_cons_self;have h2:=hy y List.mem_cons_self;have e1:x+p*eY p r=y+p*eY p s:=e;have hd:x=y:=by
   have h3:x-y=p*(eY p s-eY p r):=by grind
   generalize eY p s-eY p r=k at h3;have:k=0:=by
    rcases Int.lt_trichotomy k 0 with hk|hk|hk
    ·have:p*k<=p*(-1):=Int.mul_le_mul_of_nonneg_left (by lia) (by lia);lia
    ·exact hk
    ·have:p*1<=p*k:=Int.mul_le_mul_of_nonneg_left (by lia) (by lia);lia
   rw[this] at h3;lia
  have e2:eY p r=eY p s:=by
   have e3:p*eY p r=p*eY p s:=by lia
   exact Int.eq_of_mul_eq_mul_left (by lia) e3
  have ih:=nN hp r s (fun x h=>hx x (List.mem_cons_of_mem _ h)) (fun x h=>hy x (List.mem_cons_of_mem _ h)) e2;cases i with
  |zero=>rw[iQ,iQ,hd]
  |succ i=>rw[fe,fe,ih i]
theorem HQ.uniq{p v:Int}(hp:0<p){xs ys:List Int}(h:HQ p v xs)(h':HQ p v ys):xs=ys:=
 h.tr.inj h'.tr (nN hp xs ys h.J9 h'.J9 (by rw[h.val,h'.val]))
theorem mem_co{xs:List Int}{M:Int}(h:∀x∈xs,ab x<=M)(h0:0<=M)(i:Nat):ab (co xs i)<=M:=by
 by_cases hi:i<xs.length
 ·rw[cy hi];exact h _ (List.getElem_mem _)
 ·rw[cz (by lia)];exact h0
theorem gcd_right{f g:Po}{M p:Int}(hf:Pr f)(hg:Pr g)(hM:(∀i,ab (f.c i)<=M)\/(∀i,ab (g.c i)<=M))(hp:2*(M+1)<p){G:List Int}(hs:HQ p ((Int.gcd (ev p f) (ev p g):Nat):Int) G)(d1:D (ao (aC G)) f)(d2:D (ao (aC G)) g):GC f g (ao (aC G)):=by
 have J4:0<=M:=by
  rcases hM with h|h
  ·exact Int.le_trans (aM _) (h 0)
  ·exact Int.le_trans (aM _) (h 0)
 have nz:∀w:Po,w≠0->(∀i,ab (w.c i)<=M)->ev p w≠0:=fun w hw hb=>by
  by_cases hl:2<=len w
  ·have:=jS hw (show w=w*1 by grind) hl hb (p:=p) (by lia);intro z;rw[z] at this;have h0:ab 0=0:=rfl;lia
  ·have e:=cG (f:=w) (by lia);rw[e,CN];intro z;rw[z,c_] at e;exact hw e
 have W8:Int.gcd (ev p f) (ev p g)≠0:=by
  rcases hM with h|h
  ·exact Nat.ne_of_gt (Int.gcd_pos_of_ne_zero_left _ (nz f hf.ne h))
  ·exact Nat.ne_of_gt (Int.gcd_pos_of_ne_zero_right _ (nz g hg.ne h))
 have FY:G≠[]:=by
  rintro rfl;have:(0:Int)=((Int.gcd (ev p f) (ev p g):Nat):Int):=hs.val;lia
 have eG:=eK hs.tr FY;have hc:=ff hs.tr FY;have pf:=di hs.tr FY;have lf:=fD hs.tr FY;generalize ZL:ao (aC G)=fd at*;have ZM:2*ab (cont G)<=p:=by
  have hm:=kW FY;have h1:=hs.J9 _ hm;have h2:=hs.tr.last FY;have h3:(cont G).natAbs<=(co G (G.length-1)).natAbs:=Nat.le_of_dvd (by lia) (Int.natAbs_dvd_natAbs.mpr (ot hm));unfold ab;lia
 have J_:((Int.gcd (ev p f) (ev p g):Nat):Int)=cont G*ev p fd:=by
  rw[<-hs.val,<-jw,eG,kZ]
 have RV:ev p fd≠0:=fun z=>by
  rw[z,Int.mul_zero] at J_;lia
 obtain⟨h,gc⟩:=GC.ex (f:=f) (g:=g) (.inl hf.ne);have dh:D fd h:=gc.PJ d1 d2;obtain⟨k,ek⟩:=pf.div dh;obtain⟨f1,e1⟩:=gc.pr.div gc.df;obtain⟨g1,e2⟩:=gc.pr.div gc.dg;have RT:k≠0:=by rintro rfl;exact gc.pr.ne (by rw[ek];grind)
 have HN:ev p k∣cont G:=by
  have h1:ev p h∣((Int.gcd (ev p f) (ev p g):Nat):Int):=Int.dvd_coe_gcd (CP p e1) (CP p e2);rw[J_,ek,mi,Int.mul_comm (ev p fd)] at h1;exact Int.dvd_of_mul_dvd_mul_right RV h1
 have hle:ab (ev p k)<=ab (cont G):=by
  unfold ab;have:=Nat.le_of_dvd (by lia) (Int.natAbs_dvd_natAbs.mpr HN);lia
 have W9:len k<=1:=by
  rcases Nat.lt_or_ge 1 (len k) with hl|hl
  ·exfalso;have W_:p-(M+1)<=ab (ev p k):=by
    rcases hM with hb|hb
    ·exact jS hf.ne (show f=k*(fd*f1) by rw[e1,ek];grind) hl hb (by lia)
    ·exact jS hg.ne (show g=k*(fd*g1) by rw[e2,ek];grind) hl hb (by lia)
   lia
  ·exact hl
 have UA:=cG W9;have hb:k.c 0≠0:=fun z=>RT (by rw[UA,z,c_]);obtain⟨u,v,a,ha,eq⟩:=gc.bz;refine⟨pf,lf,d1,d2,u,v,a*k.c 0,Int.mul_ne_zero ha hb,?_⟩;rw[eq,ek,cb,<-UA];grind
noncomputable def NB(A M:Nat):Nat:=(A+1)*((2*A*M+1)^A*M)
theorem zz{A B M N:Nat}(h:A<=B)(h':M<=N):NB A M<=NB B N:=by
 unfold NB;refine Nat.mul_le_mul (by lia) (Nat.mul_le_mul ?_ h');refine Nat.le_trans (Nat.pow_le_pow_left (n:=2*A*M+1) (m:=2*B*N+1) ?_ A) (Nat.pow_le_pow_right (by lia) h);have:=Nat.mul_le_mul (Nat.mul_le_mul_left 2 h) h';lia
theorem qX{f g h f1 g1:Po}{M A:Nat}(hf:Pr f)(hg:Pr g)(EX:∀i,ab (f.c i)<=M)(FX:∀i,ab (g.c i)<=M)(gc:GC f g h)(e1:f=h*f1)(e2:g=h*g1)(hA:len f+len g<=A+2):
 ∃(U V:Po)(r:Int),r≠0/\U*f1+V*g1=K r/\∀i,ab (r*h.c i)<=((NB A M:Nat):Int):=by
 have hh:=gc.pr.ne;have xu:f1≠0:=by rintro rfl;exact hf.ne (by rw[e1];grind)
 have zx:g1≠0:=by rintro rfl;exact hg.ne (by rw[e2];grind)
 obtain⟨u0,v0,a,ha,eq⟩:=gc.bz;have eb:u0*f1+v0*g1=K a:=by
  refine Po.cancel hh ?_;rw[e1,e2] at eq;grind
 have lf:=len_mul hh xu;have lg:=len_mul hh zx;rw[<-e1] at lf;rw[<-e2] at lg;have W7:=len_pos hh;have mZ:=len_pos xu;have sD:=len_pos zx;by_cases Ng:len f1+len g1=2
 ·have ek:=cG (f:=f1) (by lia);have hb:f1.c 0≠0:=fun z=>xu (by rw[ek,z,c_]);refine⟨1,0,f1.c 0,hb,by rw[<-ek];grind,fun i=>?_⟩;have e3:f=K (f1.c 0)*h:=by rw[<-ek,e1];grind
  have h4:=EX i;rw[e3,bC] at h4;have h5:NB 0 M<=NB A M:=zz (by lia) (Nat.le_refl _);have h6:NB 0 M=M:=by unfold NB;simp
  lia
 ·obtain⟨U,V,r,hr,er,hb⟩:=J7 hh xu zx e1 e2 eb ha EX FX (A:=len f1+len g1-2) (by lia) (by lia);refine⟨U,V,r,hr,er,fun i=>Int.le_trans (hb i) ?_⟩;refine Int.ofNat_le.mpr ?_;generalize hB:len f1+len g1-2=B;have h5:NB B M<=NB A M:=zz (by lia) (Nat.le_refl _);refine Nat.le_trans ?_ h5;unfold NB;refine Nat.mul_le_mul (by lia) (Nat.mul_le_mul_right _ ?_);exact Nat.pow_le_pow_right (by lia) (by lia)
theorem A0{f g h:Po}{M A:Nat}(hf:Pr f)(hg:Pr g)(EX:∀i,ab (f.c i)<=M)(FX:∀i,ab (g.c i)<=M)(gc:GC f g h)(hA:len f+len g<=A+2){p:Int}(hp:2*((NB A M:Nat):Int)<p){G:List Int}(hs:HQ p ((Int.gcd (ev p f) (ev p g):Nat):Int) G)(W8:Int.gcd (ev p f) (ev p g)≠0):ao (aC G)=h:=by
 obtain⟨f1,e1⟩:=gc.pr.div gc.df;obtain⟨g1,e2⟩:=gc.pr.div gc.dg;have hh:=gc.pr.ne;have xu:f1≠0:=by rintro rfl;exact hf.ne (by rw[e1];grind)
 have zx:g1≠0:=by rintro rfl;exact hg.ne (by rw[e2];grind)
 obtain⟨U,V,r,hr,er,hb⟩:=qX hf hg EX FX gc e1 e2 hA;let c:Nat:=Int.gcd (ev p f1) (ev p g1);have W':(c:Int)∣r:=by
  have:=congrArg (ev p) er;rw[xr,mi,mi,CN] at this;rw[<-this];exact Int.dvd_add (Int.dvd_mul_of_dvd_right (Int.gcd_dvd_left ..)) (Int.dvd_mul_of_dvd_right (Int.gcd_dvd_right ..))
 have J_:((Int.gcd (ev p f) (ev p g):Nat):Int)=ab (ev p h)*c:=by
  rw[e1,e2,mi,mi,Int.gcd_mul_left]
  push_cast;rfl
 have BY:(c:Int)≠0:=fun z=>by
  rw[z,Int.mul_zero] at J_;lia
 have ZN:ev p h≠0:=fun z=>by
  rw[z] at J_;have h0:ab 0=0:=rfl;rw[h0,Int.zero_mul] at J_;lia
 obtain⟨s,Ni,Jo⟩:∃s:Int,(s=1\/s=-1)/\ab (ev p h)=s*ev p h:=by
  rcases Int.le_total 0 (ev p h) with z|z
  ·exact⟨1,.inl rfl,by rw[mY z];lia⟩
  ·exact⟨-1,.inr rfl,by unfold ab;lia⟩
 have PK:s*c≠0:=Int.mul_ne_zero (by lia) BY;have xl:HQ p ((Int.gcd (ev p f) (ev p g):Nat):Int) (lst (K (s*c)*h)):=by
  refine⟨?_,?_,iU _⟩
  ·rw[<-jw,dE,kZ,J_,Jo];grind
  ·intro x hx;obtain⟨i,ei⟩:=mj hx;rw[jt,bC] at ei;have h1:=hb i;have h2:ab x<=ab (r*h.c i):=by
    rw[<-ei,cw (s*c),cw r];refine Int.mul_le_mul_of_nonneg_right ?_ (aM _);have h3:(c:Int).natAbs<=r.natAbs:=Nat.le_of_dvd (by lia) (Int.natAbs_dvd_natAbs.mpr W');rw[cw];have h4:ab s=1:=by rcases Ni with z|z<;>rw[z]<;>rfl
    rw[h4,Int.one_mul];unfold ab;lia
   unfold ab at h1 h2;lia
 have FP:0<p:=by lia
 rw[hs.uniq FP xl];exact zy (iU _) PK (dE _) gc.pr gc.pos
end Po
end SF
namespace SF
open Lean.Grind
namespace Po
theorem fE{xs:List Int}(h:Tr xs)(hn:xs≠[]):ao xs≠0:=cD (by rw[bq h];exact List.length_pos_iff.mpr hn)
theorem A1{xs:List Int}(h:Tr xs)(hp:Pr (ao xs))(hl:0<(ao xs).c (len (ao xs)-1)):aC xs=xs:=
 gN (cA h) h (zy h (b:=1) (by decide) (by rw[cK];grind) hp hl)
open Classical in
noncomputable def dG(xs ys:List Int):List Int:=if h:ao xs≠0\/ao ys≠0 then lst (choose (GC.ex h)) else[]
theorem f7(xs ys:List Int):Tr (dG xs ys):=by
 unfold dG;split
 ·exact iU _
 ·exact Tr.nil
theorem cY{xs ys:List Int}(h:ao xs≠0\/ao ys≠0):GC (ao xs) (ao ys) (ao (dG xs ys)):=by
 unfold dG;rw[dif_pos h,dE];exact Classical.choose_spec (GC.ex h)
theorem nO{xs ys ds:List Int}(hd:Tr ds)(h:GC (ao xs) (ao ys) (ao ds)):ds=dG xs ys:=by
 have h0:ao xs≠0\/ao ys≠0:=by
  by_cases hx:ao xs=0
  ·refine .inr fun hy=>?_;obtain⟨u,v,a,ha,e⟩:=h.bz;rw[hx,hy] at e;exact bT (j7 ha) h.pr.ne (by grind)
  ·exact .inl hx
 exact gN hd (f7 _ _) (h.uniq (cY h0))
theorem qY(xs ys:List Int):dG xs ys=dG ys xs:=by
 by_cases h:ao xs≠0\/ao ys≠0
 ·exact nO (f7 _ _) (cY h).symm
 ·unfold dG;rw[dif_neg h,dif_neg fun z=>h z.symm]
theorem k_{xs:List Int}(h:Tr xs):dG xs []=aC xs:=by
 by_cases hn:xs=[]
 ·subst hn;unfold dG;rw[dif_neg (by rw[dF];intro z;rcases z with z|z<;>exact z rfl)];rfl
 ·refine(nO (cA h) ?_).symm;have e:=eK h hn;refine⟨di h hn,fD h hn,?_,?_,1,0,cont xs,ff h hn,?_⟩
  ·rw[e];exact(D.refl _).mulL _
  ·rw[dF];exact D.zero _
  ·rw[<-e];grind
theorem oE{xs ys:List Int}(hx:Tr xs)(hy:Tr ys)(eT:xs≠[])(iK:ys≠[]):dG (aC xs) (aC ys)=dG xs ys:=by
 refine nO (f7 _ _) ?_;rw[eK hx eT,eK hy iK];exact(cY (.inl (di hx eT).ne)).scale (ff hx eT) (ff hy iK)
theorem zA{xs ys:List Int}(h:ao xs≠0\/ao ys≠0):dG xs ys≠[]:=fun z=>(cY h).pr.ne (by rw[z,dF])
theorem A2{xs ys:List Int}(h:ao xs≠0\/ao ys≠0):aC (dG xs ys)=dG xs ys:=A1 (f7 _ _) (cY h).pr (cY h).pos
open Classical in
noncomputable def lj(xs ys:List Int):List Int:=if h:∃q,ao (aC xs)=ao (aC ys)*q then lst (choose h) else[]
theorem zB(xs ys:List Int):Tr (lj xs ys):=by
 unfold lj;split
 ·exact iU _
 ·exact Tr.nil
theorem sE{xs ys:List Int}(hx:Tr xs)(hy:Tr ys)(eT:xs≠[])(iK:ys≠[])(h:D (ao ys) (ao xs)):ao (aC xs)=ao (aC ys)*ao (lj xs ys):=by
 have h2:∃q,ao (aC xs)=ao (aC ys)*q:=by
  refine(di hy iK).div ?_;refine D.uQ (ff hx eT) ?_;rw[<-eK hx eT];refine D.trans ?_ h;rw[eK hy iK];exact(D.refl _).mulL _
 unfold lj;rw[dif_pos h2,dE];exact Classical.choose_spec h2
theorem FZ{xs ys qs:List Int}(hy:Tr ys)(iK:ys≠[])(hq:Tr qs)(e:ao (aC xs)=ao (aC ys)*ao qs):qs=lj xs ys:=by
 have h2:∃q,ao (aC xs)=ao (aC ys)*q:=⟨_,e⟩;refine gN hq (zB _ _) ?_;unfold lj;rw[dif_pos h2,dE];have e2:=Classical.choose_spec h2;exact cancel (di hy iK).ne (e.symm.trans e2)
theorem F4{xs ys:List Int}(hx:Tr xs)(hy:Tr ys)(eT:xs≠[])(iK:ys≠[])(h:D (ao ys) (ao xs)):Pr (ao (lj xs ys))/\0<(ao (lj xs ys)).c (len (ao (lj xs ys))-1):=by
 have e:=sE hx hy eT iK h;have p:=di hx eT;have l:=fD hx eT;have ly:=fD hy iK;rw[e] at p l;have hq:=p.JX;refine⟨hq,?_⟩;rw[ox (di hy iK).ne hq.ne] at l;rcases Int.lt_or_le 0 ((ao (lj xs ys)).c (len (ao (lj xs ys))-1)) with z|z
 ·exact z
 ·have:=Int.mul_nonpos_of_nonneg_of_nonpos (Int.le_of_lt ly) z;lia
noncomputable def iL(xs:List Int):List Int:=lj xs (dG xs (cF xs))
structure CW(p f:Po):Prop where
 pr:Pr p
 pos:0<p.c (len p-1)
 wb:∀π,kX π->(D π p↔D π f)
 sq:∀π,kX π->¬D (π*π) p
theorem CW.uniq{p q f g:Po}(h:CW p f)(h':CW q g)(e:∀π,kX π->(D π f↔D π g)):p=q:=by
 refine h.pr.same h'.pr ?_ ?_ h.pos h'.pos
 ·exact xp _ p q (Nat.le_refl _) h.pr.ne h.sq fun π hp z=>(h'.wb π hp).mpr ((e π hp).mp ((h.wb π hp).mp z))
 ·exact xp _ q p (Nat.le_refl _) h'.pr.ne h'.sq fun π hp z=>(h.wb π hp).mpr ((e π hp).mpr ((h'.wb π hp).mp z))
theorem Nj{xs:List Int}(hx:Tr xs)(eT:xs≠[]):D (ao (dG xs (cF xs))) (ao xs):=(cY (.inl (fE hx eT))).df
theorem xv(xs:List Int):Tr (iL xs):=zB _ _
theorem Nk{xs:List Int}(hx:Tr xs)(eT:xs≠[]):CW (ao (iL xs)) (ao xs):=by
 have h0:ao xs≠0\/ao (cF xs)≠0:=.inl (fE hx eT);have gc:=cY h0;have hd:=Nj hx eT;have hg:=f7 xs (cF xs);have PL:=zA h0;have hq:=F4 hx hg eT PL hd;have e:=sE hx hg eT PL hd;rw[A2 h0] at e;have e2:ao xs=ao (dG xs (cF xs))*(K (cont xs)*ao (iL xs)):=by
  rw[eK hx eT,e];show K (cont xs)*(ao (dG xs (cF xs))*ao (iL xs))=_;grind
 obtain⟨u,v,a,ha,eb⟩:=gc.bz;rw[fh] at eb;have hc:=ff hx eT;have key:∀π,kX π->(D π (ao (iL xs))↔D π (ao xs))/\¬D (π*π) (ao (iL xs)):=fun π hp=>by
  have d1:D (K a*ao (dG xs (cF xs))) (ao xs):=gc.df.Kl ha;have d2:D (K a*ao (dG xs (cF xs))) (bE (ao xs)):=by rw[<-fh];exact gc.dg.Kl ha
  have e3:K a*ao xs=K a*ao (dG xs (cF xs))*(K (cont xs)*ao (iL xs)):=by
   conv=>lhs;rw[e2]
   grind
  have:=FR (fE hx eT) eb d1 d2 ha e3 hp;refine⟨⟨fun z=>this.1.mp (z.mulL _),fun z=>?_⟩,fun z=>this.2 (z.mulL _)⟩;exact D.uQ hc (this.1.mpr z)
 exact⟨hq.1,hq.2,fun π hp=>(key π hp).1,fun π hp=>(key π hp).2⟩
theorem xw{xs:List Int}(hx:Tr xs)(h:CW (ao xs) (ao xs)):dG xs (cF xs)=[1]:=by
 have hn:ao xs≠0:=h.pr.ne;have gc:=cY (xs:=xs) (ys:=cF xs) (.inl hn);have hl:len (ao (dG xs (cF xs)))<=1:=by
  rcases Nat.lt_or_ge 1 (len (ao (dG xs (cF xs)))) with hl|hl
  ·exfalso;obtain⟨π,hp,hd⟩:=kX.ex _ _ (Nat.le_refl _) hl;have d1:=hd.trans gc.df;have d2:=hd.trans gc.dg;rw[fh] at d2;obtain⟨a,ha,u,e⟩:=d1;have e2:=congrArg bE e;rw[oz,jQ] at e2;have d3:D π (bE π*u):=by
    have h3:D π (K a*bE (ao xs)-π*bE u):=(d2.mulL _).sub (D.mul π _);have e3:K a*bE (ao xs)-π*bE u=bE π*u:=by grind
    rw[e3] at h3;exact h3
   rcases hp.prime d3 with z|z
   ·exact hp.bE z
   ·refine h.sq π hp (D.uQ ha ?_);rw[e];exact z.JW
  ·exact hl
 have e:=cG hl;have t1:Tr [1]:=fun x hx=>by
  have:1=x:=by simpa using hx
  lia
 refine gN (f7 _ _) t1 ?_;have hp:=gc.pr;have gL:=gc.pos;rw[e] at hp gL ⊢;generalize (ao (dG xs (cF xs))).c 0=b at*;have RW:b≠0:=by rintro rfl;exact hp.ne c_
 have hb:b.natAbs=1:=hp _ fun i=>by
  rw[xm];split
  ·exact Int.natAbs_dvd.mpr (Int.dvd_refl b)
  ·exact Int.dvd_zero _
 rw[len_K RW,xm,if_pos rfl] at gL;have:b=1:=by lia
 rw[this];exact ext fun i=>by
  rw[xm,bJ];cases i with
  |zero=>rfl
  |succ i=>rfl
theorem F5{xs ys:List Int}(hx:Tr xs)(hy:Tr ys)(eT:xs≠[])(iK:ys≠[]){A M:Nat}(hA:xs.length+ys.length<=A+2)(h1:∀i,ab (co (aC xs) i)<=M)(h2:∀i,ab (co (aC ys) i)<=M)(i:Nat):
 ab (co (dG xs ys) i)<=((NB A M:Nat):Int):=by
 rw[<-oE hx hy eT iK];have gc:=cY (xs:=aC xs) (ys:=aC ys) (.inl (di hx eT).ne);obtain⟨f1,e1⟩:=gc.pr.div gc.df;obtain⟨g1,e2⟩:=gc.pr.div gc.dg;have hh:=gc.pr.ne;have pf:=di hx eT;have pg:=di hy iK;have xu:f1≠0:=by rintro rfl;exact pf.ne (by rw[e1];grind)
 have zx:g1≠0:=by rintro rfl;exact pg.ne (by rw[e2];grind)
 have RP:len (ao (aC xs))=xs.length:=by rw[bq (cA hx),aY]
 have qR:len (ao (aC ys))=ys.length:=by rw[bq (cA hy),aY]
 obtain⟨U,V,r,hr,er,hb⟩:=qX pf pg h1 h2 gc e1 e2 (A:=A) (by lia);refine Int.le_trans ?_ (hb i);rw[cw];have g1:1<=ab r:=fW hr;have g2:=aM (co (dG (aC xs) (aC ys)) i);have g3:1*ab (co (dG (aC xs) (aC ys)) i)<=ab r*ab (co (dG (aC xs) (aC ys)) i):=Int.mul_le_mul_of_nonneg_right g1 g2;have g4:ab (co (dG (aC xs) (aC ys)) i)<=ab r*ab (co (dG (aC xs) (aC ys)) i):=by lia
 exact g4
end Po
end SF
namespace SF
open Lean.Grind
namespace Po
theorem HR(a b:Nat):X (a+b)=X a*X b:=ext fun i=>by
 rw[fL,zp,zp];by_cases h:i<a
 ·rw[if_pos h,if_neg (by lia)]
 ·rw[if_neg h];by_cases h2:i=a+b
  ·rw[if_pos h2,if_pos (by lia)]
  ·rw[if_neg h2,if_neg (by lia)]
noncomputable def jx(rs ds:List Int)(t:Int)(k:Nat):List Int:=fv (fun j=>co rs j-if k<=j then t*co ds (j-k) else 0) rs.length
theorem A4(rs ds:List Int)(t:Int)(k:Nat):(jx rs ds t k).length=rs.length:=aR _ _
theorem oF{rs ds:List Int}{t:Int}{k:Nat}(h:k+ds.length<=rs.length)(j:Nat):co (jx rs ds t k) j=co rs j-if k<=j then t*co ds (j-k) else 0:=by
 unfold jx;rw[jr];split
 ·rfl
 ·rw[cz (xs:=rs) (by lia)];split
  ·rw[cz (xs:=ds) (by lia)];grind
  ·rfl
theorem A5{rs ds:List Int}{t:Int}{k:Nat}(h:k+ds.length<=rs.length):ao (jx rs ds t k)=ao rs-K t*X k*ao ds:=ext fun j=>by
 have e:K t*X k*ao ds=K t*(X k*ao ds):=by grind
 rw[e,gM,bC,fL,bJ,bJ,bJ,oF h];by_cases hj:k<=j
 ·rw[if_pos hj,if_neg (by lia)]
 ·rw[if_neg hj,if_pos (by lia)];grind
theorem CY{rs:List Int}(h:co rs (rs.length-1)=0):ao rs.dropLast=ao rs:=ext fun j=>by
 rw[bJ,bJ,List.dropLast_eq_take,iR];split
 ·rfl
 ·by_cases hj:j=rs.length-1
  ·rw[hj,h]
  ·rw[cz (by lia)]
theorem zC(x y:Int):(x.fdiv y).natAbs<=x.natAbs:=by
 rcases Int.lt_trichotomy y 0 with h|h|h
 ·have e:x.fdiv y=(-x).fdiv (-y):=by rw[Int.neg_fdiv_neg]
  rw[e,fR (by lia:0< -y)];generalize hz:-y=z;have J':0<z:=by lia
  rcases Int.le_total 0 (-x) with hx|hx
  ·have h1:=Int.ediv_nonneg hx (by lia:0<=z);have h2:=Int.ediv_le_self z hx;lia
  ·have h1:(-x)/z<=0:=by
    have:=Int.ediv_le_ediv J' hx;rw[Int.zero_ediv] at this;exact this
   have h2:-x<=(-x)/z:=by
    rw[Int.le_ediv_iff_mul_le J'];have:(-x)*z<=(-x)*1:=Int.mul_le_mul_of_nonpos_left hx (by lia);lia
   lia
 ·rw[h,Int.fdiv_zero];simp
 ·rw[fR h];rcases Int.le_total 0 x with hx|hx
  ·have h1:=Int.ediv_nonneg hx (by lia:0<=y);have h2:=Int.ediv_le_self y hx;lia
  ·have h1:x/y<=0:=by
    have:=Int.ediv_le_ediv h hx;rw[Int.zero_ediv] at this;exact this
   have h2:x<=x/y:=by
    rw[Int.le_ediv_iff_mul_le h];have:x*y<=x*1:=Int.mul_le_mul_of_nonpos_left hx (by lia);lia
   lia
theorem A6{rs ds:List Int}(hd:Tr ds)(xx:ds≠[])(hl:ds.length<=rs.length){s:Po}(e:ao rs=ao ds*s):
 co rs (rs.length-1)-(co rs (rs.length-1)).fdiv (co ds (ds.length-1))*co ds (ds.length-1)=0:=by
 have hz:co rs (rs.length-1)=0->co rs (rs.length-1)-(co rs (rs.length-1)).fdiv (co ds (ds.length-1))*co ds (ds.length-1)=0:=fun z=>by
  rw[z,Int.zero_fdiv];grind
 by_cases hs:s=0
 ·refine hz ?_;have:(ao rs).c (rs.length-1)=0:=by
   rw[e,hs];have e2:ao ds*(0:Po)=0:=by grind
   rw[e2,fg]
  exact this
 ·have UB:=fE hd xx;have h1:=len_mul UB hs;rw[<-e] at h1;rw[bq hd] at h1;have h2:len (ao rs)<=rs.length:=cS fun i hi=>by rw[bJ];exact cz hi
  by_cases h3:len (ao rs)=rs.length
  ·have h4:=ox UB hs;rw[<-e,h3,bq hd,bJ,bJ] at h4;have xy:=hd.last xx;rw[h4,Int.mul_comm (co ds (ds.length-1)),Int.mul_fdiv_cancel _ xy];lia
  ·have gL:0<rs.length:=by have:=List.length_pos_iff.mpr xx;lia
   exact hz (eM (f:=ao rs) (i:=rs.length-1) (by lia))
theorem A7{rs ds:List Int}(hd:Tr ds)(hl:rs.length<ds.length){s:Po}(e:ao rs=ao ds*s):ao rs=0:=by
 have xx:ds≠[]:=by rintro rfl;exact absurd hl (Nat.not_lt_zero _)
 by_cases hs:s=0
 ·rw[e,hs];grind
 ·have h1:=len_mul (fE hd xx) hs;rw[<-e,bq hd] at h1;have h2:len (ao rs)<=rs.length:=cS fun i hi=>by rw[bJ];exact cz hi
  have h3:=len_pos hs;lia
theorem any_zero{rs:List Int}:rs.any (·!=0)=false↔ao rs=0:=by
 constructor
 ·intro h;refine ext fun i=>?_;rw[bJ,fg];by_cases hi:i<rs.length
  ·rw[cy hi];have:=List.any_eq_false.mp h _ (List.getElem_mem hi);simpa using this
  ·exact cz (by lia)
 ·intro h;refine List.any_eq_false.mpr fun x hx=>?_;obtain⟨i,e⟩:=mj hx;have:(ao rs).c i=0:=by rw[h,fg]
  rw[bJ,e] at this;simp[this]
theorem Ka{xs ds qs:List Int}(hx:Tr xs)(eT:xs≠[])(hd:Tr ds)(e:ao xs=ao ds*ao qs)(hl:qs.length+ds.length=xs.length+1):Tr qs:=by
 have h0:=fE hx eT;rw[e] at h0;have h1:=len_mul (su h0) (iA h0);rw[<-e,bq hx,bq hd] at h1;refine Tr.jR fun hq=>?_;have hp:=List.length_pos_iff.mpr hq;have h2:=lead (f:=ao qs) (by lia);have e2:len (ao qs)-1=qs.length-1:=by lia
 rw[e2] at h2;exact h2
theorem zD(p:Int):∀xs ys:List Int,eY p (xs++ys)=eY p xs+p^xs.length*eY p ys
 |[],ys=>by show eY p ys=0+p^0*eY p ys;rw[Int.pow_zero];lia
 |x::r,ys=>by
  show x+p*eY p (r++ys)=x+p*eY p r+p^(r.length+1)*eY p ys;rw[zD p r ys,Int.pow_succ];grind
noncomputable def digit(p v:Int):Int:=if 2*(v%p)>p then v%p-p else v%p
noncomputable def jy(p v:Int):Int:=(v-digit p v)/p
theorem oG{p v:Int}(hp:0<p):digit p v+p*jy p v=v:=by
 have hd:p∣v-digit p v:=by
  unfold digit;have h1:=Int.emod_add_mul_ediv v p;split
  ·exact⟨v/p+1,by grind⟩
  ·exact⟨v/p,by grind⟩
 unfold jy;rw[Int.mul_ediv_cancel' hd];lia
theorem nP{p v:Int}(hp:0<p):-p<2*digit p v/\2*digit p v<=p:=by
 have h1:=Int.emod_nonneg v (Int.ne_of_gt hp);have h2:=Int.emod_lt_of_pos v hp;unfold digit;split<;>lia
theorem uU{p v:Int}(hp:0<p)(hv:0<=v):0<=jy p v:=by
 have e:=oG (v:=v) hp;have b:=nP (v:=v) hp;rcases Int.lt_or_le (jy p v) 0 with h|h
 ·have:p*jy p v<=p*(-1):=Int.mul_le_mul_of_nonneg_left (by lia) (by lia);lia
 ·exact h
theorem F6{p v w:Int}(hp:0<p)(h:v<=p*w):jy p v<=w:=by
 have e:=oG (v:=v) hp;have b:=nP (v:=v) hp;rcases Int.lt_or_le w (jy p v) with h2|h2
 ·have:p*(w+1)<=p*jy p v:=Int.mul_le_mul_of_nonneg_left (by lia) (by lia);have e2:p*(w+1)=p*w+p:=by grind
  lia
 ·exact h2
theorem CZ{p:Int}(hp:2<=p):jy p 1=0/\digit p 1=1:=by
 have e:(1:Int)%p=1:=Int.emod_eq_of_lt (by decide) (by lia);have e2:digit p 1=1:=by unfold digit;rw[e,if_neg (by lia)]
 refine⟨?_,e2⟩;unfold jy;rw[e2];simp
theorem F7{p v:Int}(hp:3<=p)(hv:0<v):jy p v<v:=by
 have e:=oG (p:=p) (v:=v) (by lia);have b:=nP (p:=p) (v:=v) (by lia);rcases Int.lt_or_le (jy p v) v with h|h
 ·exact h
 ·have h1:p*v<=p*jy p v:=Int.mul_le_mul_of_nonneg_left h (by lia);have h2:3*v<=p*v:=Int.mul_le_mul_of_nonneg_right hp (by lia);have h3:p*1<=p*v:=Int.mul_le_mul_of_nonneg_left (by lia) (by lia);lia
theorem xA{p v:Int}(hp:0<p)(hv:v≠0)(h:jy p v=0):digit p v≠0:=fun z=>by
 have e:=oG (v:=v) hp;rw[z,h] at e;lia
theorem Nl{p:Int}(hp:0<p){xs:List Int}(h:∀x∈xs,ab x<p):ab (eY p xs)<p^xs.length:=by
 rw[sA];have h1:=xq (f:=fun i=>co xs i*p^i) xs.length;have h2:aF (fun i=>ab (co xs i*p^i)) xs.length<=aF (fun i=>(p-1)*(p-1+1)^i) xs.length:=kY fun i hi=>by
  rw[cw,mY (Int.pow_nonneg (by lia))];have e:p-1+1=p:=by lia
  rw[e];refine Int.mul_le_mul_of_nonneg_right ?_ (Int.pow_nonneg (by lia));have:=h (co xs i) (by rw[cy hi];exact List.getElem_mem hi);lia
 rw[oA] at h2;have e:p-1+1=p:=by lia
 rw[e] at h2;lia
theorem uV(p:Int)(xs:List Int){j:Nat}(h:j<xs.length):eY p (xs.drop (xs.length-(j+1)))=eY p (xs.drop (xs.length-j))*p+co xs (xs.length-1-j):=by
 have e:xs.length-(j+1)=xs.length-1-j:=by lia
 have e2:xs.length-j=xs.length-1-j+1:=by lia
 rw[e,e2,List.drop_eq_getElem_cons (i:=xs.length-1-j) (by lia)];show xs[xs.length-1-j]+p*_=_;rw[cy (by lia)];grind
theorem C0(p:Int)(xs:List Int):eY p (xs.drop (xs.length-xs.length))=eY p xs:=by rw[Nat.sub_self,List.drop_zero]
theorem uW(p:Int)(xs:List Int):eY p (xs.drop (xs.length-0))=0:=by rw[Nat.sub_zero,List.drop_length];rfl
end Po
end SF
namespace SF
open Lean.Grind
namespace Po
theorem Nn{p M:Int}{w:Po}(hw:w≠0)(hb:∀i,ab (w.c i)<=M)(hp:2*(M+1)<p):ev p w≠0:=by
 have J4:0<=M:=Int.le_trans (aM _) (hb 0);by_cases hl:2<=len w
 ·have:=jS hw (show w=w*1 by grind) hl hb (p:=p) (by lia);intro z;rw[z] at this;have h0:ab 0=0:=rfl;lia
 ·have e:=cG (f:=w) (by lia);rw[e,CN];intro z;rw[z,c_] at e;exact hw e
theorem C1{a b:Int}{B:Int}(h:(a≠0/\ab a<=B)\/(b≠0/\ab b<=B)):Int.gcd a b≠0/\((Int.gcd a b:Nat):Int)<=B:=by
 rcases h with⟨h,hb⟩|⟨h,hb⟩
 ·refine⟨Nat.ne_of_gt (Int.gcd_pos_of_ne_zero_left _ h),Int.le_trans ?_ hb⟩;unfold ab;have:=Nat.le_of_dvd (by lia) (Int.natAbs_dvd_natAbs.mpr (Int.gcd_dvd_left (a:=a) (b:=b)));lia
 ·refine⟨Nat.ne_of_gt (Int.gcd_pos_of_ne_zero_right _ h),Int.le_trans ?_ hb⟩;unfold ab;have:=Nat.le_of_dvd (by lia) (Int.natAbs_dvd_natAbs.mpr (Int.gcd_dvd_right (a:=a) (b:=b)));lia
theorem A8{xs ys:List Int}{M p:Int}(hx:ao xs≠0)(hy:ao ys≠0)(hM:(∀x∈xs,ab x<=M)\/(∀y∈ys,ab y<=M))(h0:0<=M)(hp:2*(M+1)<p)(n:Nat)(h1:xs.length<=n)(h2:ys.length<=n):
 Int.gcd (eY p xs) (eY p ys)≠0/\((Int.gcd (eY p xs) (eY p ys):Nat):Int)<=p^n:=by
 have key:∀zs:List Int,ao zs≠0->(∀x∈zs,ab x<=M)->zs.length<=n->eY p zs≠0/\ab (eY p zs)<=p^n:=fun zs hz hb hl=>by
  constructor
  ·rw[<-jw];exact Nn hz (fun i=>mem_co hb h0 i) hp
  ·have h3:=Nl (p:=p) (by lia) (xs:=zs) (fun x hx=>by have:=hb x hx;lia);have h4:p^zs.length<=p^n:=by
    obtain⟨k,rfl⟩:=Int.eq_ofNat_of_zero_le (show 0<=p by lia);have e1:((k:Int)^zs.length)=((k^zs.length:Nat):Int):=by simp
    have e2:((k:Int)^n)=((k^n:Nat):Int):=by simp
    rw[e1,e2];exact Int.ofNat_le.mpr (Nat.pow_le_pow_right (by lia) hl)
   lia
 refine C1 ?_;rcases hM with h|h
 ·exact .inl (key xs hx h h1)
 ·exact .inr (key ys hy h h2)
theorem zE(b:Nat):2*NB 60 (2^b)<2^(61*b+427):=by
 unfold NB;have h0:0<2^b:=Nat.two_pow_pos b;have h1:2*60*2^b+1<=2^(b+7):=by rw[Nat.pow_add];lia
 have h2:(2*60*2^b+1)^60<=(2^(b+7))^60:=Nat.pow_le_pow_left h1 60;rw[<-Nat.pow_mul] at h2;have h3:(2*60*2^b+1)^60*2^b<=2^((b+7)*60)*2^b:=Nat.mul_le_mul_right _ h2;rw[<-Nat.pow_add] at h3;have e:61*b+427=((b+7)*60+b)+7:=by lia
 rw[e,Nat.pow_add 2 ((b+7)*60+b) 7];generalize (2*60*2^b+1)^60*2^b=z at*;have h4:0<2^((b+7)*60+b):=Nat.two_pow_pos _;lia
end Po
end SF
namespace SF
open Lean.Grind
namespace RR
noncomputable def ra(x:Rat):Rat:=if x<0 then -x else x
theorem fF(x:Rat):0<=ra x:=by unfold ra;split<;>grind
theorem oH(x y:Rat):ra (x+y)<=ra x+ra y:=by unfold ra;split<;>split<;>split<;>grind
theorem xC(x:Rat):ra (-x)=ra x:=by unfold ra;split<;>split<;>grind
theorem oI{x e:Rat}:ra x<e↔(-e<x/\x<e):=by unfold ra;split<;>grind
theorem HS{x e:Rat}:ra x<=e↔(-e<=x/\x<=e):=by unfold ra;split<;>grind
theorem sF{a b c d:Rat}(h1:a<=b)(h2:c<=d)(h3:0<=b)(h4:0<=c):a*c<=b*d:=by
 have e1:a*c<=b*c:=Rat.mul_le_mul_of_nonneg_right h1 h4;have e2:b*c<=b*d:=Rat.mul_le_mul_of_nonneg_left h2 h3;grind
theorem C2(x y:Rat):ra (x*y)=ra x*ra y:=by
 unfold ra;by_cases hx:x<0<;>by_cases hy:y<0
 ·have:¬x*y<0:=by
   have:=Rat.mul_pos (a:=-x) (b:=-y) (by grind) (by grind);grind
  rw[if_neg this,if_pos hx,if_pos hy];grind
 ·rw[if_pos hx,if_neg hy];by_cases h0:y=0
  ·rw[h0,if_neg (by grind)];grind
  ·have:=Rat.mul_pos (a:=-x) (b:=y) (by grind) (by grind);rw[if_pos (by grind)];grind
 ·rw[if_neg hx,if_pos hy];by_cases h0:x=0
  ·rw[h0,if_neg (by grind)];grind
  ·have:=Rat.mul_pos (a:=x) (b:=-y) (by grind) (by grind);rw[if_pos (by grind)];grind
 ·rw[if_neg hx,if_neg hy];have:¬x*y<0:=by
   have:=Rat.mul_nonneg (a:=x) (b:=y) (by grind) (by grind);grind
  rw[if_neg this]
theorem xD{a b:Rat}(ha:0<a)(hb:0<b):0<a/b:=by rw[Rat.div_def];exact Rat.mul_pos ha (Rat.inv_pos.mpr hb)
structure CS where
 s:Nat->Rat
 c:∀e:Rat,0<e->∃N,∀m n,N<=m->N<=n->ra (s m-s n)<e
theorem CS.bd(a:CS):∃B:Rat,0<B/\∀n,ra (a.s n)<=B:=by
 obtain⟨N,hN⟩:=a.c 1 (by decide);have hex:∀k:Nat,∃B:Rat,0<B/\∀n,n<k->ra (a.s n)<=B:=by
  intro k
  induction k with
  |zero=>exact⟨1,by decide,fun n hn=>by lia⟩
  |succ k ih=>
   obtain⟨B,hB,hb⟩:=ih;refine⟨B+ra (a.s k),by have:=fF (a.s k);grind,fun n hn=>?_⟩;by_cases h:n<k
   ·have:=hb n h;have:=fF (a.s k);grind
   ·have e:n=k:=by lia
    rw[e];grind
 obtain⟨B,hB,hb⟩:=hex (N+1);refine⟨B+1,by grind,fun n=>?_⟩;by_cases h:n<N+1
 ·have:=hb n h;grind
 ·have h1:=hN n N (by lia) (Nat.le_refl _);have h2:=hb N (by lia);have h3:=oH (a.s n-a.s N) (a.s N);have e:a.s n-a.s N+a.s N=a.s n:=by grind
  rw[e] at h3;grind
theorem half{e:Rat}(h:0<e):0<e/2/\e/2+e/2=e:=by
 constructor<;>grind
noncomputable def Kb(a b:CS):CS:=⟨fun n=>a.s n+b.s n,fun e he=>by
 obtain⟨h1,h2⟩:=half he
 obtain⟨N,hN⟩:=a.c _ h1
 obtain⟨M,hM⟩:=b.c _ h1
 refine⟨max N M,fun m n hm hn=>?_⟩
 have g1:=hN m n (by lia) (by lia)
 have g2:=hM m n (by lia) (by lia)
 have g3:=oH (a.s m-a.s n) (b.s m-b.s n)
 have e:a.s m+b.s m-(a.s n+b.s n)=a.s m-a.s n+(b.s m-b.s n):=by grind
 rw[e];grind⟩
noncomputable def Kc(a:CS):CS:=⟨fun n=>-a.s n,fun e he=>by
 obtain⟨N,hN⟩:=a.c _ he
 refine⟨N,fun m n hm hn=>?_⟩
 have g1:=hN m n hm hn
 have e2:-a.s m- -a.s n=-(a.s m-a.s n):=by grind
 rw[e2,xC];exact g1⟩
theorem uX{a b a' b' B:Rat}{e:Rat}(hB:0<B)(h1:ra a<=B)(h2:ra b'<=B)(h3:ra (b-b')<e/(2*B))(h4:ra (a-a')<e/(2*B)):ra (a*b-a'*b')<e:=by
 have e1:a*b-a'*b'=a*(b-b')+(a-a')*b':=by grind
 have g:=oH (a*(b-b')) ((a-a')*b');rw[C2,C2] at g;have z1:=fF a;have z2:=fF b';have z3:=fF (b-b');have z4:=fF (a-a');have g1:ra a*ra (b-b')<=B*ra (b-b'):=Rat.mul_le_mul_of_nonneg_right h1 z3;have g2:ra (a-a')*ra b'<=ra (a-a')*B:=Rat.mul_le_mul_of_nonneg_left h2 z4;have g3:B*ra (b-b')<B*(e/(2*B)):=(Rat.mul_lt_mul_left hB).mpr h3;have g4:B*ra (a-a')<B*(e/(2*B)):=(Rat.mul_lt_mul_left hB).mpr h4;have e2:B*(e/(2*B))=e/2:=by grind
 rw[e1];grind
noncomputable def Kd(a b:CS):CS:=⟨fun n=>a.s n*b.s n,fun e he=>by
 obtain⟨A,hA,ha⟩:=a.bd
 obtain⟨B,hB,hb⟩:=b.bd
 have Np:0<A+B:=by grind
 have gL:0<e/(2*(A+B)):=xD he (Rat.mul_pos (by decide) Np)
 obtain⟨N,hN⟩:=a.c _ gL
 obtain⟨M,hM⟩:=b.c _ gL
 refine⟨max N M,fun m n hm hn=>?_⟩
 exact uX Np (by have:=ha m;grind) (by have:=hb n;grind) (hM m n (by lia) (by lia)) (hN m n (by lia) (by lia))⟩
noncomputable def RX(q:Rat):CS:=⟨fun _=>q,fun e he=>⟨0,fun _ _ _ _=>by
 have:q-q=0:=by grind
 rw[this];unfold ra;rw[if_neg (by decide)];exact he⟩⟩
noncomputable def eqv(a b:CS):Prop:=∀e:Rat,0<e->∃N,∀n,N<=n->ra (a.s n-b.s n)<e
theorem eqv_refl(a:CS):eqv a a:=fun e he=>⟨0,fun n _=>by
 have:a.s n-a.s n=0:=by grind
 rw[this];unfold ra;rw[if_neg (by decide)];exact he⟩
theorem oJ{a b:CS}(h:eqv a b):eqv b a:=fun e he=>by
 obtain⟨N,hN⟩:=h e he;refine⟨N,fun n hn=>?_⟩;have:=hN n hn;have e2:b.s n-a.s n=-(a.s n-b.s n):=by grind
 rw[e2,xC];exact this
theorem A9{a b c:CS}(h:eqv a b)(h':eqv b c):eqv a c:=fun e he=>by
 obtain⟨h1,h2⟩:=half he;obtain⟨N,hN⟩:=h _ h1;obtain⟨M,hM⟩:=h' _ h1;refine⟨max N M,fun n hn=>?_⟩;have g1:=hN n (by lia);have g2:=hM n (by lia);have g3:=oH (a.s n-b.s n) (b.s n-c.s n);have e3:a.s n-b.s n+(b.s n-c.s n)=a.s n-c.s n:=by grind
 rw[e3] at g3;grind
noncomputable instance sd:Setoid CS:=⟨eqv,eqv_refl,oJ,A9⟩
end RR
noncomputable def Re:Type:=Quotient RR.sd
namespace Re
open RR
noncomputable def mk(a:CS):Re:=Quotient.mk sd a
theorem Ke{a b a' b':CS}(h:eqv a a')(h':eqv b b'):eqv (Kb a b) (Kb a' b'):=fun e he=>by
 obtain⟨h1,h2⟩:=half he;obtain⟨N,hN⟩:=h _ h1;obtain⟨M,hM⟩:=h' _ h1;refine⟨max N M,fun n hn=>?_⟩;have g1:=hN n (by lia);have g2:=hM n (by lia);have g3:=oH (a.s n-a'.s n) (b.s n-b'.s n);show ra (a.s n+b.s n-(a'.s n+b'.s n))<e;have e3:a.s n+b.s n-(a'.s n+b'.s n)=a.s n-a'.s n+(b.s n-b'.s n):=by grind
 rw[e3];grind
theorem Kf{a a':CS}(h:eqv a a'):eqv (Kc a) (Kc a'):=fun e he=>by
 obtain⟨N,hN⟩:=h _ he;refine⟨N,fun n hn=>?_⟩;have g1:=hN n hn;show ra (- a.s n- -a'.s n)<e;have e3:-a.s n- -a'.s n=-(a.s n-a'.s n):=by grind
 rw[e3,xC];exact g1
theorem Kg{a b a' b':CS}(h:eqv a a')(h':eqv b b'):eqv (Kd a b) (Kd a' b'):=fun e he=>by
 obtain⟨A,hA,ha⟩:=a.bd;obtain⟨B,hB,hb⟩:=b'.bd;have Np:0<A+B:=by grind
 have gL:0<e/(2*(A+B)):=xD he (Rat.mul_pos (by decide) Np);obtain⟨N,hN⟩:=h _ gL;obtain⟨M,hM⟩:=h' _ gL;refine⟨max N M,fun n hn=>?_⟩;exact uX Np (by have:=ha n;grind) (by have:=hb n;grind) (hM n (by lia)) (hN n (by lia))
noncomputable def add(x y:Re):Re:=Quotient.liftOn₂ x y (fun a b=>mk (Kb a b)) fun _ _ _ _ h h'=>Quotient.sound (Ke h h')
noncomputable def mul(x y:Re):Re:=Quotient.liftOn₂ x y (fun a b=>mk (Kd a b)) fun _ _ _ _ h h'=>Quotient.sound (Kg h h')
noncomputable def neg(x:Re):Re:=Quotient.liftOn x (fun a=>mk (Kc a)) fun _ _ h=>Quotient.sound (Kf h)
noncomputable def q(r:Rat):Re:=mk (RX r)
noncomputable instance instAdd:Add Re:=⟨add⟩
noncomputable instance instMul:Mul Re:=⟨mul⟩
noncomputable instance instNeg:Neg Re:=⟨neg⟩
noncomputable instance instSub:Sub Re:=⟨fun x y=>x+-y⟩
noncomputable instance instNatCast:NatCast Re:=⟨fun n=>q (n:Rat)⟩
noncomputable instance instIntCast:IntCast Re:=⟨fun n=>q (n:Rat)⟩
noncomputable instance instOfNat(n:Nat):OfNat Re n:=⟨q ((n:Nat):Rat)⟩
noncomputable def pow(x:Re):Nat->Re
 |0=>q 1
 |n+1=>pow x n*x
noncomputable instance instHPow:HPow Re Nat Re:=⟨pow⟩
noncomputable instance iu:SMul Nat Re:=⟨fun n x=>q (n:Rat)*x⟩
noncomputable instance iw:SMul Int Re:=⟨fun n x=>q (n:Rat)*x⟩
theorem mk_eq{a b:CS}(h:∀n,a.s n=b.s n):mk a=mk b:=by
 have:a=b:=by
  cases a;cases b;have:_=_:=funext h;cases this;rfl
 rw[this]
theorem ex(x:Re):∃a,x=mk a:=by
 obtain⟨a,h⟩:=Quotient.exists_rep x;exact⟨a,h.symm⟩
theorem ke(a b:Rat):q (a+b)=q a+q b:=mk_eq fun _=>rfl
theorem eC(a b:Rat):q (a*b)=q a*q b:=mk_eq fun _=>rfl
theorem ll(a:Rat):q (-a)=-q a:=mk_eq fun _=>rfl
noncomputable instance instCommRing:CommRing Re where
 natCast:=instNatCast
 ofNat:=instOfNat
 nsmul:=iu
 npow:=instHPow
 intCast:=instIntCast
 zsmul:=iw
 add_zero x:=by obtain⟨a,rfl⟩:=ex x;exact mk_eq fun n=>by show a.s n+((0:Nat):Rat)=a.s n;grind
 add_comm x y:=by obtain⟨a,rfl⟩:=ex x;obtain⟨b,rfl⟩:=ex y;exact mk_eq fun n=>by show a.s n+b.s n=b.s n+a.s n;grind
 add_assoc x y z:=by obtain⟨a,rfl⟩:=ex x;obtain⟨b,rfl⟩:=ex y;obtain⟨c,rfl⟩:=ex z;exact mk_eq fun n=>by show a.s n+b.s n+c.s n=a.s n+(b.s n+c.s n);grind
 mul_assoc x y z:=by obtain⟨a,rfl⟩:=ex x;obtain⟨b,rfl⟩:=ex y;obtain⟨c,rfl⟩:=ex z;exact mk_eq fun n=>by show a.s n*b.s n*c.s n=a.s n*(b.s n*c.s n);grind
 mul_one x:=by obtain⟨a,rfl⟩:=ex x;exact mk_eq fun n=>by show a.s n*((1:Nat):Rat)=a.s n;grind
 one_mul x:=by obtain⟨a,rfl⟩:=ex x;exact mk_eq fun n=>by show((1:Nat):Rat)*a.s n=a.s n;grind
 right_distrib x y z:=by obtain⟨a,rfl⟩:=ex x;obtain⟨b,rfl⟩:=ex y;obtain⟨c,rfl⟩:=ex z;exact mk_eq fun n=>by show(a.s n+b.s n)*c.s n=a.s n*c.s n+b.s n*c.s n;grind
 left_distrib x y z:=by obtain⟨a,rfl⟩:=ex x;obtain⟨b,rfl⟩:=ex y;obtain⟨c,rfl⟩:=ex z;exact mk_eq fun n=>by show a.s n*(b.s n+c.s n)=a.s n*b.s n+a.s n*c.s n;grind
 zero_mul x:=by obtain⟨a,rfl⟩:=ex x;exact mk_eq fun n=>by show((0:Nat):Rat)*a.s n=((0:Nat):Rat);grind
 mul_zero x:=by obtain⟨a,rfl⟩:=ex x;exact mk_eq fun n=>by show a.s n*((0:Nat):Rat)=((0:Nat):Rat);grind
 pow_zero x:=rfl
 pow_succ x n:=rfl
 ofNat_succ n:=mk_eq fun _=>by show((n+1:Nat):Rat)=((n:Nat):Rat)+((1:Nat):Rat);grind
 ofNat_eq_natCast n:=rfl
 nsmul_eq_natCast_mul n x:=rfl
 neg_add_cancel x:=by obtain⟨a,rfl⟩:=ex x;exact mk_eq fun n=>by show-a.s n+a.s n=((0:Nat):Rat);grind
 sub_eq_add_neg x y:=rfl
 neg_zsmul n x:=by
  obtain⟨a,rfl⟩:=ex x;refine mk_eq fun k=>?_;show((-n:Int):Rat)*a.s k=-(((n:Int):Rat)*a.s k);have:((-n:Int):Rat)=-((n:Int):Rat):=by simp
  rw[this];grind
 zsmul_natCast_eq_nsmul n x:=by obtain⟨a,rfl⟩:=ex x;exact mk_eq fun k=>rfl
 intCast_ofNat n:=mk_eq fun _=>by show(((OfNat.ofNat n:Int)):Rat)=((n:Nat):Rat);rfl
 intCast_neg n:=mk_eq fun _=>by show((-n:Int):Rat)=-((n:Int):Rat);simp
 mul_comm x y:=by obtain⟨a,rfl⟩:=ex x;obtain⟨b,rfl⟩:=ex y;exact mk_eq fun n=>by show a.s n*b.s n=b.s n*a.s n;grind
end Re
end SF
namespace SF
open Lean.Grind
namespace Re
open RR
noncomputable def RY(a b:CS):Prop:=∃e:Rat,0<e/\∃N,∀n,N<=n->a.s n+e<=b.s n
theorem HU{a b a' b':CS}(h:eqv a a')(h':eqv b b')(l:RY a b):RY a' b':=by
 obtain⟨e,he,N,hN⟩:=l;have h4:0<e/4:=by grind
 obtain⟨M,hM⟩:=h _ h4;obtain⟨L,hL⟩:=h' _ h4;refine⟨e/2,by grind,max N (max M L),fun n hn=>?_⟩;have g1:=hN n (by lia);have g2:=oI.mp (hM n (by lia));have g3:=oI.mp (hL n (by lia));grind
noncomputable def lt(x y:Re):Prop:=Quotient.liftOn₂ x y RY fun _ _ _ _ h h'=>propext ⟨HU h h',HU (oJ h) (oJ h')⟩
noncomputable instance instLT:LT Re:=⟨lt⟩
noncomputable instance instLE:LE Re:=⟨fun x y=>¬y<x⟩
theorem le_iff{x y:Re}:x<=y↔¬y<x:=Iff.rfl
theorem lt_irrefl(x:Re):¬x<x:=by
 obtain⟨a,rfl⟩:=ex x;rintro⟨e,he,N,hN⟩;have:=hN N (Nat.le_refl _);grind
theorem lt_trans{x y z:Re}(h:x<y)(h':y<z):x<z:=by
 obtain⟨a,rfl⟩:=ex x;obtain⟨b,rfl⟩:=ex y;obtain⟨c,rfl⟩:=ex z;obtain⟨e,he,N,hN⟩:=h;obtain⟨e',UC,M,hM⟩:=h';refine⟨e,he,max N M,fun n hn=>?_⟩;have g1:=hN n (by lia);have g2:=hM n (by lia);grind
theorem p_(x y:Re):x<y\/x=y\/y<x:=by
 obtain⟨a,rfl⟩:=ex x;obtain⟨b,rfl⟩:=ex y;by_cases h:eqv a b
 ·exact .inr (.inl (Quotient.sound h))
 ·have h1:∃e:Rat,0<e/\∀N,∃n,N<=n/\e<=ra (a.s n-b.s n):=by
   obtain⟨e,he⟩:=Classical.not_forall.mp h;obtain⟨RZ,UD⟩:=Classical.not_imp.mp he;refine⟨e,RZ,fun N=>?_⟩;have h3:=fun hN=>UD ⟨N,hN⟩;obtain⟨n,hn⟩:=Classical.not_forall.mp h3;obtain⟨FV,Jn⟩:=Classical.not_imp.mp hn;exact⟨n,FV,by grind⟩
  obtain⟨e,he,n_⟩:=h1;have h4:0<e/4:=by grind
  obtain⟨N,hN⟩:=a.c _ h4;obtain⟨M,hM⟩:=b.c _ h4;obtain⟨n,hn,hb⟩:=n_ (max N M);by_cases hs:a.s n-b.s n<0
  ·left;refine⟨e/2,by grind,max N M,fun m hm=>?_⟩;have g1:=oI.mp (hN m n (by lia) (by lia));have g2:=oI.mp (hM m n (by lia) (by lia));unfold ra at hb;rw[if_pos hs] at hb;grind
  ·right;right;refine⟨e/2,by grind,max N M,fun m hm=>?_⟩;have g1:=oI.mp (hN m n (by lia) (by lia));have g2:=oI.mp (hM m n (by lia) (by lia));unfold ra at hb;rw[if_neg hs] at hb;grind
noncomputable instance Kh:Std.IsLinearOrder Re where
 le_refl a:=lt_irrefl a
 le_trans a b c h h':=fun hc=>by
  rcases p_ a b with z|z|z
  ·exact h' (lt_trans hc z)
  ·rw[<-z] at h';exact h' hc
  ·exact h z
 le_antisymm a b h h':=by
  rcases p_ a b with z|z|z
  ·exact absurd z h'
  ·exact z
  ·exact absurd z h
 le_total a b:=by
  rcases p_ a b with z|z|z
  ·exact .inl fun y=>lt_irrefl a (lt_trans z y)
  ·exact .inl (by rw[z];exact lt_irrefl b)
  ·exact .inr fun y=>lt_irrefl a (lt_trans y z)
noncomputable instance Ki:Std.LawfulOrderLT Re where
 lt_iff a b:=by
  constructor
  ·intro h;exact⟨fun y=>lt_irrefl a (lt_trans h y),fun y=>y h⟩
  ·rintro⟨_,h⟩;exact Classical.not_not.mp h
theorem sG{x y:Re}(h:x<y)(z:Re):x+z<y+z:=by
 obtain⟨a,rfl⟩:=ex x;obtain⟨b,rfl⟩:=ex y;obtain⟨c,rfl⟩:=ex z;obtain⟨e,he,N,hN⟩:=h;refine⟨e,he,N,fun n hn=>?_⟩;have g1:=hN n hn;show a.s n+c.s n+e<=b.s n+c.s n;grind
theorem add_lt_iff{x y:Re}(z:Re):x<y↔x+z<y+z:=by
 constructor
 ·exact fun h=>sG h z
 ·intro h;have:=sG h (-z);have e1:x+z+-z=x:=by grind
  have e2:y+z+-z=y:=by grind
  rw[e1,e2] at this;exact this
theorem mul_pos{x y:Re}(h:0<x)(h':0<y):0<x*y:=by
 obtain⟨a,rfl⟩:=ex x;obtain⟨b,rfl⟩:=ex y;obtain⟨e,he,N,hN⟩:=h;obtain⟨e',UC,M,hM⟩:=h';refine⟨e*e',Rat.mul_pos he UC,max N M,fun n hn=>?_⟩;have g1:((0:Nat):Rat)+e<=a.s n:=hN n (by lia);have g2:((0:Nat):Rat)+e'<=b.s n:=hM n (by lia);show((0:Nat):Rat)+e*e'<=a.s n*b.s n;have g3:=sF (a:=e) (b:=a.s n) (c:=e') (d:=b.s n) (by grind) (by grind) (by grind) (by grind);grind
theorem cR{r t:Rat}:q r<q t↔r<t:=by
 constructor
 ·rintro⟨e,he,N,hN⟩;have:r+e<=t:=hN N (Nat.le_refl _);grind
 ·intro h;refine⟨t-r,by grind,0,fun n _=>?_⟩;show r+(t-r)<=t;grind
theorem eE:q 0=0:=rfl
theorem oK:q 1=1:=rfl
theorem bY{r t:Rat}:q r<=q t↔r<=t:=by
 rw[le_iff,cR];grind
theorem kg{r t:Rat}(h:q r=q t):r=t:=by
 have h1:¬r<t:=fun z=>by have:=cR.mpr z;rw[h] at this;exact lt_irrefl _ this
 have h2:¬t<r:=fun z=>by have:=cR.mpr z;rw[h] at this;exact lt_irrefl _ this
 grind
noncomputable instance C3:OrderedAdd Re where
 add_le_left_iff {a b} c:=by
  rw[le_iff,le_iff,<-add_lt_iff c]
theorem sub_pos{x y:Re}(h:x<y):0<y-x:=by
 have:=sG h (-x);have e1:x+-x=0:=by grind
 have e2:y+-x=y-x:=by grind
 rw[e1,e2] at this;exact this
theorem oM{x y:Re}(h:0<y-x):x<y:=by
 have:=sG h x;have e1:0+x=x:=by grind
 have e2:y-x+x=y:=by grind
 rw[e1,e2] at this;exact this
noncomputable instance instOrderedRing:OrderedRing Re where
 zero_lt_one:=by
  show q ((0:Nat):Rat)<q ((1:Nat):Rat);rw[cR];decide
 mul_lt_mul_of_pos_left {a b c} h hc:=by
  have:=mul_pos hc (sub_pos h);have e:c*(b-a)=c*b-c*a:=by grind
  rw[e] at this;exact oM this
 mul_lt_mul_of_pos_right {a b c} h hc:=by
  have:=mul_pos hc (sub_pos h);have e:c*(b-a)=b*c-a*c:=by grind
  rw[e] at this;exact oM this
example (x y:Re)(h:x<y):x+1<=y+2:=by grind
theorem small{x:Re}(h:0<x):∃r:Rat,0<r/\q r<x:=by
 obtain⟨a,rfl⟩:=ex x;obtain⟨e,he,N,hN⟩:=h;refine⟨e/2,by grind,e/2,by grind,N,fun n hn=>?_⟩;have g1:((0:Nat):Rat)+e<=a.s n:=hN n hn;show e/2+e/2<=a.s n;grind
theorem great(x:Re):∃r:Rat,0<r/\x<q r:=by
 obtain⟨a,rfl⟩:=ex x;obtain⟨B,hB,hb⟩:=a.bd;refine⟨B+1,by grind,1,by decide,0,fun n _=>?_⟩;have:=(HS.mp (hb n)).2;show a.s n+1<=B+1;grind
open Classical in
noncomputable def ab(x:Re):Re:=if x<0 then -x else x
theorem aM(x:Re):0<=ab x:=by unfold ab;split<;>grind
theorem cU{x e:Re}:ab x<=e↔(-e<=x/\x<=e):=by unfold ab;split<;>grind
theorem bK{x e:Re}:ab x<e↔(-e<x/\x<e):=by unfold ab;split<;>grind
theorem gy(x y:Re):ab (x+y)<=ab x+ab y:=by unfold ab;split<;>split<;>split<;>grind
theorem xE(x:Re):ab (-x)=ab x:=by unfold ab;split<;>split<;>grind
theorem mul_nonneg{x y:Re}(h:0<=x)(h':0<=y):0<=x*y:=by
 by_cases hx:x=0
 ·rw[hx];grind
 ·by_cases hy:y=0
  ·rw[hy];grind
  ·have:=mul_pos (x:=x) (y:=y) (by grind) (by grind);grind
theorem cw(x y:Re):ab (x*y)=ab x*ab y:=by
 by_cases hx:x<0<;>by_cases hy:y<0
 ·have:=mul_pos (x:=-x) (y:=-y) (by grind) (by grind);unfold ab;rw[if_neg (by grind),if_pos hx,if_pos hy];grind
 ·have:=mul_nonneg (x:=-x) (y:=y) (by grind) (by grind);unfold ab;rw[if_pos hx,if_neg hy];split<;>grind
 ·have:=mul_nonneg (x:=x) (y:=-y) (by grind) (by grind);unfold ab;rw[if_neg hx,if_pos hy];split<;>grind
 ·have:=mul_nonneg (x:=x) (y:=y) (by grind) (by grind);unfold ab;rw[if_neg (by grind),if_neg hx,if_neg hy]
theorem mul_le_mul{a b c d:Re}(h1:a<=b)(h2:c<=d)(h3:0<=b)(h4:0<=c):a*c<=b*d:=by
 have e1:=mul_nonneg (x:=b-a) (y:=c) (by grind) h4;have e2:=mul_nonneg (x:=b) (y:=d-c) h3 (by grind);grind
theorem bT{x y:Re}(hx:x≠0)(hy:y≠0):x*y≠0:=by
 intro h;have e:ab (x*y)=0:=by rw[h];unfold ab;rw[if_neg (by grind)]
 rw[cw] at e;have p1:0<ab x:=by unfold ab;split<;>grind
 have p2:0<ab y:=by unfold ab;split<;>grind
 have:=mul_pos p1 p2;rw[e] at this;exact lt_irrefl _ this
theorem uY(n:Nat):(0:Rat)<(1/2)^n:=Rat.pow_pos (by grind)
theorem xF(e:Rat)(he:0<e):∃N:Nat,∀n,N<=n->(1/2:Rat)^n<e:=by
 have key:∀n:Nat,(1/2:Rat)^n*((n:Rat)+1)<=1:=by
  intro n
  induction n with
  |zero=>rw[Rat.pow_zero];grind
  |succ n ih=>
   rw[Rat.pow_succ];have h0:=uY n;have e1:((n+1:Nat):Rat)=(n:Rat)+1:=by grind
   rw[e1];have hn:(0:Rat)<=(n:Rat):=by
    have:((0:Nat):Rat)<=(n:Rat):=by exact_mod_cast Nat.zero_le n
    exact this
   have e2:(1/2:Rat)^n*(1/2)*((n:Rat)+1+1)=(1/2:Rat)^n*((n:Rat)+1)-(1/2:Rat)^n*((n:Rat)*(1/2)):=by grind
   have h1:=Rat.mul_nonneg (a:=(1/2:Rat)^n) (b:=(n:Rat)*(1/2)) (Rat.le_of_lt h0) (Rat.mul_nonneg hn (by grind));rw[e2];grind
 obtain⟨N,hN⟩:∃N:Nat,1/e<(N:Rat):=by
  refine⟨(1/e).ceil.toNat+1,?_⟩;have h1:=Rat.le_ceil (x:=1/e);have h2:(1/e).ceil<=(((1/e).ceil.toNat+1:Nat):Int)-1:=by lia
  have h3:(((1/e).ceil:Int):Rat)<=(((((1/e).ceil.toNat+1:Nat):Int)-1:Int):Rat):=Rat.intCast_le_intCast.mpr h2;have h4:(((((1/e).ceil.toNat+1:Nat):Int)-1:Int):Rat)=(((1/e).ceil.toNat+1:Nat):Rat)-1:=by push_cast;grind
  grind
 refine⟨N,fun n hn=>?_⟩;have h1:=key n;have h0:=uY n;have ZO:(N:Rat)<=(n:Rat):=by exact_mod_cast hn
 have h5:1<e*((n:Rat)+1):=by
  have:1/e<(n:Rat)+1:=by grind
  have h6:=(Rat.mul_lt_mul_left he).mpr this;have e3:e*(1/e)=1:=by grind
  rw[e3] at h6;exact h6
 rcases Classical.em ((1/2:Rat)^n<e) with z|z
 ·exact z
 ·have hp:(0:Rat)<=(n:Rat)+1:=by
   have:(0:Rat)<=(N:Rat):=by exact_mod_cast Nat.zero_le N
   grind
  have:=Rat.mul_le_mul_of_nonneg_right (show e<=(1/2:Rat)^n by grind) hp;grind
end Re
end SF
namespace SF
open Lean.Grind
namespace Re
open RR
theorem mk_le{a:CS}{r:Rat}{N:Nat}(h:∀m,N<=m->a.s m<=r):mk a<=q r:=by
 rintro⟨e,he,M,hM⟩;have g1:r+e<=a.s (max N M):=hM _ (by lia);have g2:=h (max N M) (by lia);grind
theorem Nq{a:CS}{r:Rat}{N:Nat}(h:∀m,N<=m->r<=a.s m):q r<=mk a:=by
 rintro⟨e,he,M,hM⟩;have g1:a.s (max N M)+e<=r:=hM _ (by lia);have g2:=h (max N M) (by lia);grind
open Classical in
noncomputable def js(φ:Rat->Int)(p:Rat×Rat):Rat×Rat:=if φ p.1=φ ((p.1+p.2)/2) then((p.1+p.2)/2,p.2) else(p.1,(p.1+p.2)/2)
noncomputable def cT(φ:Rat->Int)(p:Rat×Rat):Nat->Rat×Rat
 |0=>p
 |n+1=>js φ (cT φ p n)
theorem jU{φ:Rat->Int}{a b:Rat}(ji:a<=b)(fK:φ a≠φ b):∀n:Nat,
 φ (cT φ (a,b) n).1≠φ (cT φ (a,b) n).2/\(cT φ (a,b) n).1<=(cT φ (a,b) n).2/\(cT φ (a,b) n).2-(cT φ (a,b) n).1=(b-a)*(1/2)^n
 |0=>⟨fK,ji,by show b-a=(b-a)*(1/2)^0;rw[Rat.pow_zero];grind⟩
 |n+1=>by
  obtain⟨h1,h2,h3⟩:=jU ji fK n;have e:cT φ (a,b) (n+1)=js φ (cT φ (a,b) n):=rfl;rw[e];generalize cT φ (a,b) n=p at h1 h2 h3;unfold js;rw[Rat.pow_succ];split
  ·rename_i h;refine⟨?_,?_,?_⟩
   ·show φ ((p.1+p.2)/2)≠φ p.2;rw[<-h];exact h1
   ·show(p.1+p.2)/2<=p.2;grind
   ·show p.2-(p.1+p.2)/2=_;have e2:(b-a)*((1/2)^n*(1/2))=((b-a)*(1/2)^n)*(1/2):=by grind
    rw[e2,<-h3];grind
  ·rename_i h;refine⟨h,?_,?_⟩
   ·show p.1<=(p.1+p.2)/2;grind
   ·show(p.1+p.2)/2-p.1=_;have e2:(b-a)*((1/2)^n*(1/2))=((b-a)*(1/2)^n)*(1/2):=by grind
    rw[e2,<-h3];grind
theorem A_(φ:Rat->Int)(p:Rat×Rat)(n:Nat)(h:(cT φ p n).1<=(cT φ p n).2):(cT φ p n).1<=(cT φ p (n+1)).1/\(cT φ p (n+1)).2<=(cT φ p n).2:=by
 show _<=(js φ (cT φ p n)).1/\(js φ (cT φ p n)).2<=_;unfold js;split
 ·constructor
  ·show(cT φ p n).1<=((cT φ p n).1+(cT φ p n).2)/2;grind
  ·exact Rat.le_refl
 ·constructor
  ·exact Rat.le_refl
  ·show((cT φ p n).1+(cT φ p n).2)/2<=(cT φ p n).2;grind
theorem qZ{φ:Rat->Int}{a b:Rat}(ji:a<=b)(fK:φ a≠φ b)(n:Nat):∀k:Nat,(cT φ (a,b) n).1<=(cT φ (a,b) (n+k)).1/\(cT φ (a,b) (n+k)).2<=(cT φ (a,b) n).2
 |0=>⟨Rat.le_refl,Rat.le_refl⟩
 |k+1=>by
  have ih:=qZ ji fK n k;have h:=A_ φ (a,b) (n+k) (jU ji fK (n+k)).2.1;exact⟨Rat.le_trans ih.1 h.1,Rat.le_trans h.2 ih.2⟩
theorem nQ{φ:Rat->Int}{a b:Rat}(ji:a<=b)(fK:φ a≠φ b){n m:Nat}(h:n<=m):(cT φ (a,b) n).1<=(cT φ (a,b) m).1/\(cT φ (a,b) m).1<=(cT φ (a,b) n).2:=by
 have e:m=n+(m-n):=by lia
 have h1:=qZ ji fK n (m-n);rw[<-e] at h1;have h2:=(jU ji fK m).2.1;exact⟨h1.1,Rat.le_trans h2 h1.2⟩
theorem m5{φ:Rat->Int}{a b:Rat}(ji:a<=b)(fK:φ a≠φ b)(e:Rat)(he:0<e):∃N:Nat,(b-a)*(1/2)^N<e:=by
 by_cases h0:b-a=0
 ·exact⟨0,by rw[h0];grind⟩
 ·have hp:0<b-a:=by grind
  obtain⟨N,hN⟩:=xF (e/(b-a)) (xD he hp);refine⟨N,?_⟩;have:=(Rat.mul_lt_mul_left hp).mpr (hN N (Nat.le_refl _));have e2:(b-a)*(e/(b-a))=e:=by grind
  rw[e2] at this;exact this
theorem iC{φ:Rat->Int}(loc:∀x:Re,∃d:Rat,0<d/\∀s t:Rat,ab (q s-x)<q d->ab (q t-x)<q d->φ s=φ t){a b:Rat}(ji:a<=b):φ a=φ b:=by
 by_cases fK:φ a=φ b
 ·exact fK
 exfalso;let c:CS:=⟨fun n=>(cT φ (a,b) n).1,fun e he=>by
  obtain⟨N,hN⟩:=m5 ji fK e he
  refine⟨N,fun m n hm hn=>oI.mpr ?_⟩
  have g1:=nQ ji fK hm
  have g2:=nQ ji fK hn
  have g3:=(jU ji fK N).2.2
  constructor<;>grind⟩;obtain⟨d,hd,R0⟩:=loc (mk c);obtain⟨N,hN⟩:=m5 ji fK d hd;have g3:=(jU ji fK N).2.2;have l1:q (cT φ (a,b) N).1<=mk c:=Nq (N:=N) fun m hm=>(nQ ji fK hm).1;have l2:mk c<=q (cT φ (a,b) N).2:=mk_le (N:=N) fun m hm=>(nQ ji fK hm).2;have l3:q (cT φ (a,b) N).2-q (cT φ (a,b) N).1<q d:=by
  have:q (cT φ (a,b) N).2-q (cT φ (a,b) N).1=q ((cT φ (a,b) N).2-(cT φ (a,b) N).1):=by
   have e:(cT φ (a,b) N).2-(cT φ (a,b) N).1=(cT φ (a,b) N).2+-(cT φ (a,b) N).1:=by grind
   rw[e,ke,ll];grind
  rw[this,cR,g3];exact hN
 refine(jU ji fK N).1 (R0 _ _ (bK.mpr ?_) (bK.mpr ?_))
 ·constructor<;>grind
 ·constructor<;>grind
end Re
namespace Po
open Re
noncomputable def at'(x:Re)(f:Po):Re:=aF (fun i=>((f.c i:Int):Re)*x^i) (len f)
theorem qg(x:Re){f:Po}{n:Nat}(h:len f<=n):at' x f=aF (fun i=>((f.c i:Int):Re)*x^i) n:=by
 have e:n=len f+(n-len f):=by lia
 have z:((0:Int):Re)=0:=Ring.intCast_zero;rw[e,cu,cq (n:=n-len f) (fun i _=>by rw[eM (by lia),z];grind)];show aF _ _=_;grind
theorem iW(x:Re)(f g:Po):at' x (f+g)=at' x f+at' x g:=by
 have h1:=sr f g;rw[qg x h1,qg x (f:=f) (n:=max (len f) (len g)) (by lia),qg x (f:=g) (n:=max (len f) (len g)) (by lia),<-fc];exact aQ fun i _=>by rw[j_,Ring.intCast_add];grind
theorem gO(x:Re)(a:Int)(f:Po):at' x (K a*f)=(a:Re)*at' x f:=by
 have h1:len (K a*f)<=len f:=cS fun i hi=>by rw[bC,eM hi];grind
 rw[qg x h1];unfold at';rw[<-cO];exact aQ fun i _=>by rw[bC,Ring.intCast_mul];grind
theorem oN(f:Nat->Int):∀n:Nat,((aF f n:Int):Re)=aF (fun i=>((f i:Int):Re)) n
 |0=>Ring.intCast_zero
 |n+1=>by
  show((aF f n+f n:Int):Re)=_;rw[Ring.intCast_add,oN f n];rfl
theorem pow_add'(x:Re)(m:Nat):∀n:Nat,x^(m+n)=x^m*x^n
 |0=>by
  have:x^0=1:=Semiring.pow_zero x;rw[Nat.add_zero,this];grind
 |n+1=>by
  have e1:x^(m+(n+1))=x^(m+n)*x:=Semiring.pow_succ x (m+n);have e2:x^(n+1)=x^n*x:=Semiring.pow_succ x n;rw[e1,pow_add' x m n,e2];grind
theorem dW(x:Re)(f g:Po):at' x (f*g)=at' x f*at' x g:=by
 have hl:len (f*g)<=len f+len g:=by
  by_cases hf:f=0
  ·rw[hf];have:(0:Po)*g=0:=by grind
   rw[this,fS];lia
  ·by_cases hg:g=0
   ·rw[hg];have:f*(0:Po)=0:=by grind
    rw[this,fS];lia
   ·have:=len_mul hf hg;lia
 rw[qg x hl];have z:((0:Int):Re)=0:=Ring.intCast_zero;let F:Nat->Nat->Re:=fun j k=>(((f.c j:Int):Re)*x^j)*(((g.c k:Int):Re)*x^k);have e1:aF (fun i=>(((f*g).c i:Int):Re)*x^i) (len f+len g)=aF (fun i=>aF (fun j=>F j (i-j)) (i+1)) (len f+len g):=aQ fun i _=>by
  rw[uO,oN,<-jP];refine aQ fun j hj=>?_;show _=(((f.c j:Int):Re)*x^j)*(((g.c (i-j):Int):Re)*x^(i-j));rw[Ring.intCast_mul];have e:i=j+(i-j):=by lia
  have e2:x^i=x^j*x^(i-j):=by rw[<-pow_add',<-e]
  rw[e2];grind
 rw[e1,oi F];have e3:aF (fun j=>aF (fun k=>F j k) (len f+len g-j)) (len f+len g)=aF (fun j=>(((f.c j:Int):Re)*x^j)*at' x g) (len f+len g):=aQ fun j hj=>by
  show aF (fun k=>(((f.c j:Int):Re)*x^j)*(((g.c k:Int):Re)*x^k)) _=_;rw[cO];by_cases h:j<len f
  ·rw[<-qg x (f:=g) (n:=len f+len g-j) (by lia)]
  ·rw[eM (f:=f) (by lia),z];grind
 rw[e3,jP,<-qg x (f:=f) (n:=len f+len g) (by lia)]
theorem C4(x:Re)(a:Int):at' x (K a)=(a:Re):=by
 rw[qg x (uP a)];show 0+(((K a).c 0:Int):Re)*x^0=_;have:x^0=1:=Semiring.pow_zero x;rw[xm,if_pos rfl,this];grind
theorem iX(x:Re):at' x 0=0:=by rw[<-c_,C4];exact Ring.intCast_zero
theorem F8(x:Re):at' x (X 1)=x:=by
 have h:len (X 1)<=2:=cS fun i hi=>by rw[zp,if_neg (by lia)]
 rw[qg x h];show 0+(((X 1).c 0:Int):Re)*x^0+(((X 1).c 1:Int):Re)*x^1=_;have e0:x^0=1:=Semiring.pow_zero x;have e1:x^1=x^0*x:=Semiring.pow_succ x 0;have z:((0:Int):Re)=0:=Ring.intCast_zero;have o:((1:Int):Re)=1:=Ring.intCast_one;rw[zp,zp,if_neg (by decide),if_pos rfl,e1,e0,z,o];grind
theorem oO(a:Int)(r:List Int):bE (ao (a::r))=ao r+X 1*bE (ao r):=ext fun i=>by
 rw[mX,j_,bJ,bJ,fe,fL];cases i with
 |zero=>rw[if_pos (by decide)];grind
 |succ i=>
  rw[if_neg (by lia),Nat.add_sub_cancel,mX,bJ];have:((i+1+1:Nat):Int)=((i+1:Nat):Int)+1:=by lia
  rw[this];grind
theorem fi(x:Re)(a:Int)(r:List Int):at' x (ao (a::r))=(a:Re)+x*at' x (ao r):=by
 rw[oB,iW,C4,dW,F8]
theorem xG(x:Re):∀xs:List Int,∃B:Re,0<=B/\∀t:Re,Re.ab (t-x)<=1->Re.ab (at' t (ao xs)-at' x (ao xs)-(t-x)*at' x (bE (ao xs)))<=B*(Re.ab (t-x)*Re.ab (t-x))
 |[]=>⟨0,by grind,fun t _=>by
  have e:bE (ao [])=0:=by
   refine ext fun i=>?_
   rw[mX,bJ,fg];show _*0=0;grind
  rw[e,dF,iX,iX]
  have:(0:Re)-0-(t-x)*0=0:=by grind
  rw[this];unfold Re.ab;rw[if_neg (by grind)];grind⟩
 |a::r=>by
  obtain⟨B,hB,hb⟩:=xG x r;refine⟨Re.ab (at' x (bE (ao r)))+(Re.ab x+1)*B,?_,fun t ht=>?_⟩
  ·have h1:=Re.aM (at' x (bE (ao r)));have h2:=Re.mul_nonneg (x:=Re.ab x+1) (y:=B) (by have:=Re.aM x;grind) hB;grind
  ·have h:=hb t ht;generalize kc:at' t (ao r)-at' x (ao r)-(t-x)*at' x (bE (ao r))=ρ at h;rw[fi,fi,oO,iW,dW,F8];have e:(a:Re)+t*at' t (ao r)-((a:Re)+x*at' x (ao r))-(t-x)*(at' x (ao r)+x*at' x (bE (ao r)))=(t-x)*(t-x)*at' x (bE (ao r))+t*ρ:=by rw[<-kc];grind
   rw[e];have g1:=Re.gy ((t-x)*(t-x)*at' x (bE (ao r))) (t*ρ);rw[Re.cw,Re.cw,Re.cw] at g1;have g2:Re.ab t<=Re.ab x+1:=by
    have:=Re.gy (t-x) x;have e2:t-x+x=t:=by grind
    rw[e2] at this;grind
   have g3:=Re.mul_le_mul (a:=Re.ab t) (b:=Re.ab x+1) (c:=Re.ab ρ) (d:=B*(Re.ab (t-x)*Re.ab (t-x))) g2 h (by have:=Re.aM x;grind) (Re.aM _);grind
end Po
end SF
namespace SF
open Lean.Grind
open Classical in
noncomputable def aP(x:Re):Int:=if x<0 then -1 else if 0<x then 1 else 0
namespace Re
theorem bQ{x:Re}(h:x<0):aP x=-1:=by unfold aP;rw[if_pos h]
theorem bA{x:Re}(h:0<x):aP x=1:=by unfold aP;rw[if_neg (by grind),if_pos h]
theorem aW:aP 0=0:=by unfold aP;rw[if_neg (by grind),if_neg (by grind)]
theorem aO(x:Re):(x<0/\aP x=-1)\/(x=0/\aP x=0)\/(0<x/\aP x=1):=by
 rcases p_ x 0 with h|h|h
 ·exact .inl ⟨h,bQ h⟩
 ·exact .inr (.inl ⟨h,by rw[h,aW]⟩)
 ·exact .inr (.inr ⟨h,bA h⟩)
theorem mn{x:Re}(h:x≠0):aP x=-1\/aP x=1:=by
 rcases aO x with z|z|z
 ·exact .inl z.2
 ·exact absurd z.1 h
 ·exact .inr z.2
theorem bH{x:Re}(h:aP x=0):x=0:=by
 rcases aO x with z|z|z
 ·rw[h] at z;lia
 ·exact z.1
 ·rw[h] at z;lia
theorem oP(x:Re):aP (-x)=-aP x:=by
 rcases aO x with z|z|z
 ·rw[z.2,bA (by grind)];rfl
 ·have:-x=0:=by grind
  rw[z.2,this,aW];rfl
 ·rw[z.2,bQ (by grind)]
theorem dH(x y:Re):aP (x*y)=aP x*aP y:=by
 rcases aO x with z|z|z<;>rcases aO y with w|w|w
 ·have:=mul_pos (x:=-x) (y:=-y) (by grind) (by grind);rw[z.2,w.2,bA (by grind)];rfl
 ·have:x*y=0:=by rw[w.1];grind
  rw[this,aW,w.2];lia
 ·have:=mul_pos (x:=-x) (y:=y) (by grind) (by grind);rw[z.2,w.2,bQ (by grind)];rfl
 ·have:x*y=0:=by rw[z.1];grind
  rw[this,aW,z.2];lia
 ·have:x*y=0:=by rw[z.1];grind
  rw[this,aW,z.2];lia
 ·have:x*y=0:=by rw[z.1];grind
  rw[this,aW,z.2];lia
 ·have:=mul_pos (x:=x) (y:=-y) (by grind) (by grind);rw[z.2,w.2,bQ (by grind)];rfl
 ·have:x*y=0:=by rw[w.1];grind
  rw[this,aW,w.2];lia
 ·have:=mul_pos (x:=x) (y:=y) (by grind) (by grind);rw[z.2,w.2,bA (by grind)];rfl
theorem Nr(C e:Re)(he:0<e):∃d:Rat,0<d/\d<=1/\∀z:Re,0<=z->z<q d->z*C<e:=by
 obtain⟨g,hg,hC⟩:=great (ab C);obtain⟨r,hr,ZP⟩:=small he;have h1:0<r/g:=RR.xD hr hg;refine⟨if r/g<1 then r/g else 1,by split<;>grind,by split<;>grind,fun z hz UE=>?_⟩;have h2:z<q (r/g):=by
  split at UE
  ·exact UE
  ·have:q 1<=q (r/g):=bY.mpr (by grind);grind
 have h3:z*C<=z*q g:=by
  have h4:C<=q g:=by
   have:=(cU (x:=C) (e:=ab C)).mp (by grind);grind
  have:=mul_nonneg (x:=z) (y:=q g-C) hz (by grind);grind
 have Nb:0<q g:=by
  have:=cR.mpr hg;rw[eE] at this;exact this
 have h5:z*q g<q (r/g)*q g:=by
  have:=mul_pos (x:=q (r/g)-z) (y:=q g) (by grind) Nb;grind
 have h6:q (r/g)*q g=q r:=by
  rw[<-eC];congr 1;grind
 rw[h6] at h5;grind
end Re
namespace Po
open Re
theorem gP{x:Re}{f:Po}(h:at' x f≠0):∃d:Rat,0<d/\∀t:Re,Re.ab (t-x)<q d->aP (at' t f)=aP (at' x f):=by
 obtain⟨B,hB,hb⟩:=xG x (lst f);rw[dE] at hb;have gL:0<Re.ab (at' x f):=by unfold Re.ab;split<;>grind
 obtain⟨d,hd,uR,hz⟩:=Nr (Re.ab (at' x (bE f))+B) _ gL;refine⟨d,hd,fun t ht=>?_⟩;have g0:=Re.aM (t-x);have g1:=hz (Re.ab (t-x)) g0 ht;have Xa:q d<=1:=by
  have:=bY.mpr uR;rw[oK] at this;exact this
 have g2:=hb t (by grind);have g3:Re.ab (at' t f-at' x f)<Re.ab (at' x f):=by
  have e:at' t f-at' x f=(at' t f-at' x f-(t-x)*at' x (bE f))+(t-x)*at' x (bE f):=by grind
  have g4:=Re.gy (at' t f-at' x f-(t-x)*at' x (bE f)) ((t-x)*at' x (bE f));rw[<-e,Re.cw] at g4;have g5:=Re.mul_nonneg (x:=B) (y:=Re.ab (t-x)*(1-Re.ab (t-x))) hB (Re.mul_nonneg g0 (by grind));grind
 have g6:=bK.mp g3;rcases aO (at' x f) with z|z|z
 ·have e:Re.ab (at' x f)=-at' x f:=by unfold Re.ab;rw[if_pos z.1]
  rw[z.2];exact bQ (by grind)
 ·exact absurd z.1 h
 ·have e:Re.ab (at' x f)=at' x f:=by unfold Re.ab;rw[if_neg (by grind)]
  rw[z.2];exact bA (by grind)
theorem mr{x:Re}{f:Po}(h0:at' x f=0)(h:at' x (bE f)≠0):∃d:Rat,0<d/\∀t:Re,Re.ab (t-x)<q d->aP (at' t f)=aP (t-x)*aP (at' x (bE f)):=by
 obtain⟨B,hB,hb⟩:=xG x (lst f);rw[dE] at hb;have gL:0<Re.ab (at' x (bE f)):=by unfold Re.ab;split<;>grind
 obtain⟨d,hd,uR,hz⟩:=Nr B _ gL;refine⟨d,hd,fun t ht=>?_⟩;have g0:=Re.aM (t-x);have g1:=hz (Re.ab (t-x)) g0 ht;have Xa:q d<=1:=by
  have:=bY.mpr uR;rw[oK] at this;exact this
 have g2:=hb t (by grind);rw[h0] at g2;by_cases Xb:t-x=0
 ·have:t=x:=by grind
  rw[Xb,this,h0,aW];lia
 ·have hp:0<Re.ab (t-x):=by unfold Re.ab;split<;>grind
  have g3:B*(Re.ab (t-x)*Re.ab (t-x))<Re.ab ((t-x)*at' x (bE f)):=by
   rw[Re.cw];have:=Re.mul_pos (x:=Re.ab (t-x)) (y:=Re.ab (at' x (bE f))-Re.ab (t-x)*B) hp (by grind);grind
  rw[<-dH];generalize (t-x)*at' x (bE f)=y at g2 g3;have g4:=cU.mp g2;rcases aO y with z|z|z
  ·have e:Re.ab y=-y:=by unfold Re.ab;rw[if_pos z.1]
   rw[z.2];exact bQ (by grind)
  ·rw[z.1] at g3;have e:Re.ab (0:Re)=0:=by unfold Re.ab;rw[if_neg (by grind)]
   rw[e] at g3;have:=Re.mul_nonneg hB (Re.mul_nonneg g0 g0);grind
  ·have e:Re.ab y=y:=by unfold Re.ab;rw[if_neg (by grind)]
   rw[z.2];exact bA (by grind)
end Po
noncomputable def cg(b:Int):List Int->Nat
 |[]=>0
 |s::r=>(if s*b<0 then 1 else 0)+cg (if s≠0 then s else b) r
namespace Po
open Re
noncomputable def eW(t:Re)(ps:List Po):List Int:=ps.map fun p=>aP (at' t p)
noncomputable def A'(x:Re):List Po->Prop
 |[]=>True
 |[a]=>at' x a≠0
 |a::b::[]=>at' x b≠0
 |a::b::c::r=>(at' x b=0->aP (at' x a)*aP (at' x c)<0)/\A' x (b::c::r)
theorem gQ{d e:Rat}(hd:0<d)(he:0<e):∃m:Rat,0<m/\q m<=q d/\q m<=q e:=by
 by_cases h:d<e
 ·exact⟨d,hd,bY.mpr (by grind),bY.mpr (by grind)⟩
 ·exact⟨e,he,bY.mpr (by grind),bY.mpr (by grind)⟩
theorem iD{x:Re}:∀(n:Nat)(a:Po)(r:List Po),r.length<=n->at' x a≠0->A' x (a::r)->∃d:Rat,0<d/\∀t:Re,Re.ab (t-x)<q d->aP (at' t a)=aP (at' x a)/\cg (aP (at' t a)) (eW t r)=cg (aP (at' x a)) (eW x r)
 |n,a,[],_,ha,_=>by
  obtain⟨d,hd,h⟩:=gP ha;exact⟨d,hd,fun t ht=>⟨h t ht,rfl⟩⟩
 |n,a,[b],_,ha,hc=>by
  obtain⟨d,hd,h⟩:=gP ha;obtain⟨e,he,h'⟩:=gP (show at' x b≠0 from hc);obtain⟨m,hm,h1,h2⟩:=gQ hd he;refine⟨m,hm,fun t ht=>?_⟩;have g1:=h t (by grind);have g2:=h' t (by grind);refine⟨g1,?_⟩;unfold eW;rw[List.map_cons,List.map_cons,g1,g2];rfl
 |0,a,b::c::r,hl,_,_=>by simp at hl
 |n+1,a,b::c::r,hl,ha,hc=>by
  obtain⟨d,hd,h⟩:=gP ha;obtain⟨EY,qh⟩:=hc;by_cases hb:at' x b=0
  ·have R1:=EY hb;have PM:at' x c≠0:=fun z=>by rw[z,aW] at R1;lia
   have BZ:A' x (c::r):=by
    cases r with
    |nil=>exact PM
    |cons e r=>exact qh.2
   obtain⟨e,he,h'⟩:=iD n c r (by simp at hl;lia) PM BZ;obtain⟨m,hm,h1,h2⟩:=gQ hd he;refine⟨m,hm,fun t ht=>?_⟩;have g1:=h t (by grind);obtain⟨g2,g3⟩:=h' t (by grind);refine⟨g1,?_⟩;show cg (aP (at' t a)) (aP (at' t b)::aP (at' t c)::eW t r)=cg (aP (at' x a)) (aP (at' x b)::aP (at' x c)::eW x r);rw[g1,g2,hb,aW];rw[g2] at g3;rcases mn ha with sa|sa<;>rcases mn PM with sc|sc
   ·rw[sa,sc] at R1;lia
   ·rw[sc] at g3;rw[sa,sc];rcases aO (at' t b) with z|z|z<;>rw[z.2]<;>simp[cg,g3]
   ·rw[sc] at g3;rw[sa,sc];rcases aO (at' t b) with z|z|z<;>rw[z.2]<;>simp[cg,g3]
   ·rw[sa,sc] at R1;lia
  ·obtain⟨e,he,h'⟩:=iD n b (c::r) (by simp at hl ⊢;lia) hb qh;obtain⟨m,hm,h1,h2⟩:=gQ hd he;refine⟨m,hm,fun t ht=>?_⟩;have g1:=h t (by grind);obtain⟨g2,g3⟩:=h' t (by grind);refine⟨g1,?_⟩;show cg (aP (at' t a)) (aP (at' t b)::eW t (c::r))=cg (aP (at' x a)) (aP (at' x b)::eW x (c::r));rw[g1];have nz:aP (at' x b)≠0:=fun z=>hb (bH z);show(if aP (at' t b)*aP (at' x a)<0 then 1 else 0)+cg (if aP (at' t b)≠0 then aP (at' t b) else aP (at' x a)) (eW t (c::r))=(if aP (at' x b)*aP (at' x a)<0 then 1 else 0)+cg (if aP (at' x b)≠0 then aP (at' x b) else aP (at' x a)) (eW x (c::r));rw[if_pos (c:=aP (at' x b)≠0) nz,if_pos (c:=aP (at' t b)≠0) (by rw[g2];exact nz),g3,g2]
open Classical in
theorem Nt{p0:Po}{r:List Po}{N:Rat->Int}(hc:∀x:Re,A' x (p0::bE p0::r))(hz:∀x:Re,at' x p0=0->at' x (bE p0)≠0)(hN:∀x:Re,∃d:Rat,0<d/\∃n0:Int,∀t:Rat,Re.ab (q t-x)<q d->N t=n0+(if at' x p0=0/\x<=q t then 1 else 0)){a b:Rat}(ji:a<=b):
 (cg 0 (eW (q a) (p0::bE p0::r)):Int)+N a=(cg 0 (eW (q b) (p0::bE p0::r)):Int)+N b:=by
 refine iC (φ:=fun t=>(cg 0 (eW (q t) (p0::bE p0::r)):Int)+N t) (fun x=>?_) ji;obtain⟨d,hd,n0,hn⟩:=hN x;have c0:∀(s:Int)(l:List Int),s≠0->cg 0 (s::l)=cg s l:=fun s l hs=>by
  show(if s*0<0 then 1 else 0)+cg (if s≠0 then s else 0) l=_;rw[if_neg (by lia),if_pos hs];lia
 by_cases h0:at' x p0=0
 ·have h1:=hz x h0;have qh:A' x (bE p0::r):=by
   have:=hc x;cases r with
   |nil=>exact this
   |cons e r=>exact this.2
  obtain⟨e,he,hr⟩:=mr h0 h1;obtain⟨f,hf,hs⟩:=iD r.length (bE p0) r (Nat.le_refl _) h1 qh;obtain⟨m,hm,m1,m2⟩:=gQ hd he;obtain⟨m',Lx,m3,m4⟩:=gQ hm hf;have key:∀t:Rat,Re.ab (q t-x)<q m'->(cg 0 (eW (q t) (p0::bE p0::r)):Int)+N t=(cg (aP (at' x (bE p0))) (eW x r):Int)+n0+1:=fun t ht=>by
   have k1:=hr (q t) (by grind);obtain⟨k2,k3⟩:=hs (q t) (by grind);have k4:=hn t (by grind);have nz:aP (at' x (bE p0))≠0:=fun z=>h1 (bH z);show((cg 0 (aP (at' (q t) p0)::aP (at' (q t) (bE p0))::eW (q t) r):Nat):Int)+N t=_;rw[k1,k2,k4];rw[k2] at k3;generalize aP (at' x (bE p0))=s1 at nz k3 ⊢;rcases aO (q t-x) with z|z|z
   ·rw[z.2,if_neg (by rintro⟨_,w⟩;grind),c0 _ _ (by lia)];show(((if s1*(-1*s1)<0 then 1 else 0)+cg (if s1≠0 then s1 else -1*s1) (eW (q t) r):Nat):Int)+(n0+0)=_;have R3:s1*(-1*s1)<0:=by
     have:0<s1*s1:=by
      rcases Int.lt_or_lt_of_ne nz with w|w
      ·exact Int.mul_pos_of_neg_of_neg w w
      ·exact Int.mul_pos w w
     grind
    rw[if_pos R3,if_pos nz,k3];lia
   ·rw[z.2,if_pos ⟨h0,by grind⟩];show(((if 0*s1*0<0 then 1 else 0)+((if s1*(if 0*s1≠0 then 0*s1 else 0)<0 then 1 else 0)+cg (if s1≠0 then s1 else(if 0*s1≠0 then 0*s1 else 0)) (eW (q t) r)):Nat):Int)+(n0+1)=_;have e0:0*s1=0:=by lia
    rw[e0,if_neg (by lia),if_neg (c:=(0:Int)≠0) (by lia),if_neg (by lia),if_pos nz,k3];lia
   ·rw[z.2,if_pos ⟨h0,by grind⟩,c0 _ _ (by lia)];show(((if s1*(1*s1)<0 then 1 else 0)+cg (if s1≠0 then s1 else 1*s1) (eW (q t) r):Nat):Int)+(n0+1)=_;have gL:¬s1*(1*s1)<0:=by
     have:0<s1*s1:=by
      rcases Int.lt_or_lt_of_ne nz with w|w
      ·exact Int.mul_pos_of_neg_of_neg w w
      ·exact Int.mul_pos w w
     grind
    rw[if_neg gL,if_pos nz,k3];lia
  exact⟨m',Lx,fun s t xl R4=>by
   show(cg 0 (eW (q s) (p0::bE p0::r)):Int)+N s=(cg 0 (eW (q t) (p0::bE p0::r)):Int)+N t
   rw[key s xl,key t R4]⟩
 ·obtain⟨e,he,hs⟩:=iD (r.length+1) p0 (bE p0::r) (Nat.le_refl _) h0 (hc x);obtain⟨m,hm,m1,m2⟩:=gQ hd he;have key:∀t:Rat,Re.ab (q t-x)<q m->(cg 0 (eW (q t) (p0::bE p0::r)):Int)+N t=(cg (aP (at' x p0)) (eW x (bE p0::r)):Int)+n0:=fun t ht=>by
   obtain⟨k2,k3⟩:=hs (q t) (by grind);have k4:=hn t (by grind);have nz:aP (at' x p0)≠0:=fun z=>h0 (bH z);show((cg 0 (aP (at' (q t) p0)::eW (q t) (bE p0::r)):Nat):Int)+N t=_;rw[c0 _ _ (by rw[k2];exact nz),k3,k4,if_neg (fun z=>h0 z.1)];lia
  exact⟨m,hm,fun s t xl R4=>by
   show(cg 0 (eW (q s) (p0::bE p0::r)):Int)+N s=(cg 0 (eW (q t) (p0::bE p0::r)):Int)+N t
   rw[key s xl,key t R4]⟩
end Po
end SF
namespace SF
open Lean.Grind
namespace Po
structure Nu(l:Po->Po):Prop where
 add:∀x y,l (x+y)=l x+l y
 smul:∀(a:Int) x,l (K a*x)=K a*l x
noncomputable def Ex(l:Po->Po)(F:List Po->Po):List Po->List Po->Po
 |_,[]=>0
 |pre,r::rs=>l r*F (pre++rs)-Ex l F (pre++[r]) rs
noncomputable def q5:List (Po->Po)->List Po->Po
 |[],_=>1
 |l::cs,rows=>Ex l (q5 cs) [] rows
structure iY(n:Nat)(F:List Po->Po):Prop where
 add:∀A x y B,A.length+B.length+1=n->F (A++(x+y)::B)=F (A++x::B)+F (A++y::B)
 smul:∀A(a:Int) x B,A.length+B.length+1=n->F (A++(K a*x)::B)=K a*F (A++x::B)
 alt:∀A x y B,A.length+B.length+2=n->F (A++x::y::B)=-F (A++y::x::B)
theorem oQ{n:Nat}{l:Po->Po}{F:List Po->Po}(hF:iY n F):∀(rs P Q:List Po)(x y:Po),P.length+Q.length+rs.length=n->Ex l F (P++(x+y)::Q) rs=Ex l F (P++x::Q) rs+Ex l F (P++y::Q) rs
 |[],P,Q,x,y,_=>by show(0:Po)=0+0;grind
 |r::rs,P,Q,x,y,h=>by
  rw[List.length_cons] at h;have ih:=oQ (l:=l) hF rs P (Q++[r]) x y (by rw[List.length_append,List.length_singleton];lia);have h2:=hF.add P x y (Q++rs) (by rw[List.length_append];lia);show l r*F ((P++(x+y)::Q)++rs)-Ex l F ((P++(x+y)::Q)++[r]) rs=(l r*F ((P++x::Q)++rs)-Ex l F ((P++x::Q)++[r]) rs)+(l r*F ((P++y::Q)++rs)-Ex l F ((P++y::Q)++[r]) rs);simp only[List.append_assoc,List.cons_append] at*;rw[h2,ih];grind
theorem m7{n:Nat}{l:Po->Po}{F:List Po->Po}(hF:iY n F)(a:Int):∀(rs P Q:List Po)(x:Po),P.length+Q.length+rs.length=n->Ex l F (P++(K a*x)::Q) rs=K a*Ex l F (P++x::Q) rs
 |[],P,Q,x,_=>by show(0:Po)=K a*0;grind
 |r::rs,P,Q,x,h=>by
  rw[List.length_cons] at h;have ih:=m7 (l:=l) hF a rs P (Q++[r]) x (by rw[List.length_append,List.length_singleton];lia);have h2:=hF.smul P a x (Q++rs) (by rw[List.length_append];lia);show l r*F ((P++(K a*x)::Q)++rs)-Ex l F ((P++(K a*x)::Q)++[r]) rs=K a*(l r*F ((P++x::Q)++rs)-Ex l F ((P++x::Q)++[r]) rs);simp only[List.append_assoc,List.cons_append] at*;rw[h2,ih];grind
theorem oR{n:Nat}{l:Po->Po}{F:List Po->Po}(hF:iY n F):∀(rs P Q:List Po)(x y:Po),P.length+Q.length+rs.length+1=n->Ex l F (P++x::y::Q) rs=-Ex l F (P++y::x::Q) rs
 |[],P,Q,x,y,_=>by show(0:Po)=-0;grind
 |r::rs,P,Q,x,y,h=>by
  rw[List.length_cons] at h;have ih:=oR (l:=l) hF rs P (Q++[r]) x y (by rw[List.length_append,List.length_singleton];lia);have h2:=hF.alt P x y (Q++rs) (by rw[List.length_append];lia);show l r*F ((P++x::y::Q)++rs)-Ex l F ((P++x::y::Q)++[r]) rs=-(l r*F ((P++y::x::Q)++rs)-Ex l F ((P++y::x::Q)++[r]) rs);simp only[List.append_assoc,List.cons_append] at*;rw[h2,ih];grind
theorem C5{n:Nat}{l:Po->Po}{F:List Po->Po}(hl:Nu l)(hF:iY n F):∀(A pre B:List Po)(x y:Po),pre.length+A.length+B.length=n->Ex l F pre (A++(x+y)::B)=Ex l F pre (A++x::B)+Ex l F pre (A++y::B)
 |[],pre,B,x,y,h=>by
  have h:=oQ (l:=l) hF B pre [] x y (by rw[List.length_nil] at *;lia);show l (x+y)*F (pre++B)-Ex l F (pre++[x+y]) B=(l x*F (pre++B)-Ex l F (pre++[x]) B)+(l y*F (pre++B)-Ex l F (pre++[y]) B);rw[hl.add,h];grind
 |z::A,pre,B,x,y,h=>by
  rw[List.length_cons] at h;have ih:=C5 hl hF A (pre++[z]) B x y (by rw[List.length_append,List.length_singleton];lia);have h:=hF.add (pre++A) x y B (by rw[List.length_append];lia);show l z*F (pre++(A++(x+y)::B))-Ex l F (pre++[z]) (A++(x+y)::B)=(l z*F (pre++(A++x::B))-Ex l F (pre++[z]) (A++x::B))+(l z*F (pre++(A++y::B))-Ex l F (pre++[z]) (A++y::B));rw[List.append_assoc,List.append_assoc,List.append_assoc] at h;rw[ih,h];grind
theorem zF{n:Nat}{l:Po->Po}{F:List Po->Po}(hl:Nu l)(hF:iY n F)(a:Int):∀(A pre B:List Po)(x:Po),pre.length+A.length+B.length=n->Ex l F pre (A++(K a*x)::B)=K a*Ex l F pre (A++x::B)
 |[],pre,B,x,h=>by
  have h:=m7 (l:=l) hF a B pre [] x (by rw[List.length_nil] at *;lia);show l (K a*x)*F (pre++B)-Ex l F (pre++[K a*x]) B=K a*(l x*F (pre++B)-Ex l F (pre++[x]) B);rw[hl.smul,h];grind
 |z::A,pre,B,x,h=>by
  rw[List.length_cons] at h;have ih:=zF hl hF a A (pre++[z]) B x (by rw[List.length_append,List.length_singleton];lia);have h:=hF.smul (pre++A) a x B (by rw[List.length_append];lia);show l z*F (pre++(A++(K a*x)::B))-Ex l F (pre++[z]) (A++(K a*x)::B)=K a*(l z*F (pre++(A++x::B))-Ex l F (pre++[z]) (A++x::B));rw[List.append_assoc,List.append_assoc] at h;rw[ih,h];grind
theorem C6{n:Nat}{l:Po->Po}{F:List Po->Po}(hF:iY n F):∀(A pre B:List Po)(x y:Po),pre.length+A.length+B.length+1=n->Ex l F pre (A++x::y::B)=-Ex l F pre (A++y::x::B)
 |[],pre,B,x,y,h=>by
  have h:=oR (l:=l) hF B pre [] x y (by rw[List.length_nil] at *;lia);show l x*F (pre++y::B)-(l y*F ((pre++[x])++B)-Ex l F ((pre++[x])++[y]) B)=-(l y*F (pre++x::B)-(l x*F ((pre++[y])++B)-Ex l F ((pre++[y])++[x]) B));have e1:(pre++[x])++B=pre++x::B:=by simp
  have e2:(pre++[y])++B=pre++y::B:=by simp
  have e3:(pre++[x])++[y]=pre++[x,y]:=by simp
  have e4:(pre++[y])++[x]=pre++[y,x]:=by simp
  rw[e1,e2,e3,e4,h];grind
 |z::A,pre,B,x,y,h=>by
  rw[List.length_cons] at h;have ih:=C6 (l:=l) hF A (pre++[z]) B x y (by rw[List.length_append,List.length_singleton];lia);have h:=hF.alt (pre++A) x y B (by rw[List.length_append];lia);show l z*F (pre++(A++x::y::B))-Ex l F (pre++[z]) (A++x::y::B)=-(l z*F (pre++(A++y::x::B))-Ex l F (pre++[z]) (A++y::x::B));rw[List.append_assoc,List.append_assoc] at h;rw[ih,h];grind
noncomputable def C7(cs:List (Po->Po)):Prop:=∀l∈cs,Nu l
theorem zG:∀cs:List (Po->Po),C7 cs->iY cs.length (q5 cs)
 |[],_=>⟨fun A x y B h=>by rw[List.length_nil] at h;lia,fun A a x B h=>by rw[List.length_nil] at h;lia,fun A x y B h=>by rw[List.length_nil] at h;lia⟩
 |l::cs,hc=>by
  have ih:=zG cs fun m hm=>hc m (List.mem_cons_of_mem _ hm);have hl:=hc l List.mem_cons_self;rw[List.length_cons];refine⟨fun A x y B h=>C5 hl ih A [] B x y ?_,fun A a x B h=>zF hl ih a A [] B x ?_,fun A x y B h=>C6 ih A [] B x y ?_⟩<;>(rw[List.length_nil];lia)
section
variable {n:Nat} {F:List Po->Po} (hF:iY n F)
include hF
theorem C8{x:Po}(h:x=-x):x=0:=by
 have:K 2*x=0:=by
  have e:K 2=1+1:=by rw[<-cK,<-zo];rfl
  rw[e];grind
 rcases mul_eq_zero this with z|z
 ·exact absurd z (j7 (by decide))
 ·exact z
theorem Ba(A:List Po)(x:Po)(B:List Po)(h:A.length+B.length+2=n):F (A++x::x::B)=0:=C8 hF (hF.alt A x x B h)
theorem zH:∀(B1 A B2:List Po)(x:Po),A.length+B1.length+B2.length+2=n->F (A++x::(B1++x::B2))=0
 |[],A,B2,x,h=>Ba hF A x B2 (by rw[List.length_nil] at h;lia)
 |z::B1,A,B2,x,h=>by
  rw[List.length_cons] at h;have h1:=hF.alt A x z (B1++x::B2) (by rw[List.length_append,List.length_cons];lia);have h2:=zH B1 (A++[z]) B2 x (by rw[List.length_append,List.length_singleton];lia);have e:A++x::(z::B1++x::B2)=A++x::z::(B1++x::B2):=rfl;rw[e,h1];have e2:(A++[z])++x::(B1++x::B2)=A++z::x::(B1++x::B2):=by simp
  rw[e2] at h2;rw[h2];grind
omit hF in
inductive Span(B:List Po):Po->Prop
 |zero:Span B 0
 |step (y b:Po) (a:Int):Span B y->b∈B->Span B (y+K a*b)
theorem C9(A B:List Po)(h:A.length+B.length+1=n):F (A++0::B)=0:=by
 have:=hF.smul A 0 0 B h;rw[c_] at this;have e:(0:Po)*0=0:=by grind
 rw[e] at this;rw[this];grind
theorem C_{B:List Po}{y:Po}(hy:Span B y):∀(A:List Po),A.length+B.length+1=n->F (A++y::B)=0:=by
 induction hy with
 |zero=>exact fun A h=>C9 hF A B h
 |step y b a _ hb ih=>
  intro A h;rw[hF.add A y (K a*b) B h,ih A h,hF.smul A a b B h];obtain⟨B1,B2,e⟩:=List.append_of_mem hb;have h2:A.length+B1.length+B2.length+2=n:=by
   have:=congrArg List.length e;rw[List.length_append,List.length_cons] at this;lia
  have h3:=zH hF B1 A B2 b h2;rw[<-e] at h3;rw[h3];grind
omit hF in
theorem Span.mono{B B':List Po}{y:Po}(h:Span B y)(hs:∀b∈B,b∈B'):Span B' y:=by
 induction h with
 |zero=>exact .zero
 |step y b a _ hb ih=>exact .step y b a ih (hs b hb)
omit hF in
theorem Span.add{B:List Po}{x y:Po}(h:Span B x)(h':Span B y):Span B (x+y):=by
 induction h' with
 |zero=>have:x+0=x:=by grind
        rw[this];exact h
 |step y b a _ hb ih=>
  have:x+(y+K a*b)=(x+y)+K a*b:=by grind
  rw[this];exact .step _ _ _ ih hb
omit hF in
theorem Span.of{B:List Po}{b:Po}(a:Int)(hb:b∈B):Span B (K a*b):=by
 have:K a*b=0+K a*b:=by grind
 rw[this];exact .step _ _ _ .zero hb
theorem oS{G:List Po}:∀(us vs A:List Po),us.length=vs.length->(∀i(h:i<us.length)(h':i<vs.length),∃w,Span G w/\us[i]=vs[i]+w)->A.length+us.length+G.length=n->F (A++(us++G))=F (A++(vs++G))
 |[],[],A,_,_,_=>rfl
 |[],v::vs,A,hl,_,_=>by simp at hl
 |u::us,[],A,hl,_,_=>by simp at hl
 |u::us,v::vs,A,hl,hw,h=>by
  have PD:us.length=vs.length:=by simpa using hl
  obtain⟨w,hs,e⟩:=hw 0 (by simp) (by simp);have e':u=v+w:=e;rw[List.length_cons] at h;have ih:=oS us vs (A++[v]) PD (fun i h1 h2=>by
   obtain⟨w,hs,e⟩:=hw (i+1) (by simp;lia) (by simp;lia)
   exact⟨w,hs,e⟩) (by rw[List.length_append,List.length_singleton];lia);show F (A++u::(us++G))=F (A++v::(vs++G));rw[e',hF.add A v w (us++G) (by rw[List.length_append];lia)];rw[C_ hF (hs.mono fun b hb=>List.mem_append_right _ hb) A (by rw[List.length_append];lia)];have e2:A++v::(us++G)=(A++[v])++(us++G):=by simp
  have e3:A++v::(vs++G)=(A++[v])++(vs++G):=by simp
  rw[e2,e3,ih];grind
theorem mv(a:Int):∀(us A B:List Po),A.length+us.length+B.length=n->F (A++(us.map (fun u=>K a*u)++B))=K (a^us.length)*F (A++(us++B))
 |[],A,B,_=>by
  show F (A++B)=K (a^0)*F (A++B);rw[Int.pow_zero,cK];grind
 |u::us,A,B,h=>by
  rw[List.length_cons] at h;have ih:=mv a us (A++[u]) B (by rw[List.length_append,List.length_singleton];lia);show F (A++(K a*u)::(us.map (fun u=>K a*u)++B))=K (a^(us.length+1))*F (A++u::(us++B));rw[hF.smul A a u _ (by rw[List.length_append,List.length_map];lia)];have e2:A++u::(us.map (fun u=>K a*u)++B)=(A++[u])++(us.map (fun u=>K a*u)++B):=by simp
  have e3:A++u::(us++B)=(A++[u])++(us++B):=by simp
  rw[e2,e3,ih,Int.pow_succ,cb];grind
theorem uZ(x:Po):∀(B A C:List Po),A.length+B.length+C.length+1=n->∃s:Int,(s=1\/s=-1)/\F (A++x::(B++C))=K s*F (A++(B++x::C))
 |[],A,C,_=>⟨1,.inl rfl,by rw[cK];show F (A++x::C)=1*F (A++x::C);grind⟩
 |b::B,A,C,h=>by
  rw[List.length_cons] at h;obtain⟨s,hs,e⟩:=uZ x B (A++[b]) C (by rw[List.length_append,List.length_singleton];lia);refine⟨-s,by lia,?_⟩;show F (A++x::b::(B++C))=K (-s)*F (A++(b::(B++x::C)));rw[hF.alt A x b (B++C) (by rw[List.length_append];lia)];have e2:A++b::x::(B++C)=(A++[b])++x::(B++C):=by simp
  have e3:A++b::(B++x::C)=(A++[b])++(B++x::C):=by simp
  rw[e2,e3,e,CL];grind
theorem blocks:∀(U A B:List Po),A.length+U.length+B.length=n->∃s:Int,(s=1\/s=-1)/\F (A++(U++B))=K s*F (A++(B++U))
 |[],A,B,_=>⟨1,.inl rfl,by rw[cK];show F (A++B)=1*F (A++(B++[]));rw[List.append_nil];grind⟩
 |u::U,A,B,h=>by
  rw[List.length_cons] at h;obtain⟨s,hs,e⟩:=blocks U (A++[u]) B (by rw[List.length_append,List.length_singleton];lia);obtain⟨s',xl,e'⟩:=uZ hF u B A U (by lia);refine⟨s*s',by rcases hs with z|z<;>rcases xl with w|w<;>rw[z,w]<;>lia,?_⟩;have e1:A++(u::U++B)=(A++[u])++(U++B):=by simp
  have e2:(A++[u])++(B++U)=A++u::(B++U):=by simp
  rw[e1,e,e2,e',cb];have e3:A++(B++u::U)=A++(B++(u::U)):=rfl;grind
end
theorem zI{l:Po->Po}{F:List Po->Po}:∀(rs pre:List Po),(∀r∈rs,l r=0)->Ex l F pre rs=0
 |[],_,_=>rfl
 |r::rs,pre,h=>by
  show l r*F (pre++rs)-Ex l F (pre++[r]) rs=0;rw[h r List.mem_cons_self,zI rs _ fun x hx=>h x (List.mem_cons_of_mem _ hx)];grind
theorem zJ(l:Po->Po)(cs:List (Po->Po))(r:Po)(rs:List Po)(h:∀x∈rs,l x=0):q5 (l::cs) (r::rs)=l r*q5 cs rs:=by
 show l r*q5 cs ([]++rs)-Ex l (q5 cs) ([]++[r]) rs=_;rw[zI rs _ h];show l r*q5 cs rs-0=_;grind
end Po
end SF
namespace SF
open Lean.Grind
namespace Po
noncomputable def cf(d:Nat)(P:Po):Po:=K (P.c d)
theorem Kj(d:Nat):Nu (cf d):=⟨fun x y=>by unfold cf;rw[j_,zo],fun a x=>by unfold cf;rw[bC,cb]⟩
theorem Kk:Nu (fun P=>P):=⟨fun _ _=>rfl,fun _ _=>rfl⟩
noncomputable def cols:Nat->Nat->List (Po->Po)
 |_,0=>[]
 |_,1=>[fun P=>P]
 |D,N+2=>cf D::cols (D-1) (N+1)
theorem u5:∀(N D:Nat),(cols D N).length=N
 |0,_=>rfl
 |1,_=>rfl
 |N+2,D=>by
  show(cols (D-1) (N+1)).length+1=_;rw[u5 (N+1)]
theorem u6:∀(N D:Nat),C7 (cols D N)
 |0,_=>fun l h=>nomatch h
 |1,_=>fun l h=>by
  rw[List.mem_singleton.mp h];exact Kk
 |N+2,D=>fun l h=>by
  rcases List.mem_cons.mp h with z|z
  ·rw[z];exact Kj D
  ·exact u6 (N+1) (D-1) l z
theorem F9(D N:Nat):iY N (q5 (cols D N)):=by
 have:=zG (cols D N) (u6 N D);rw[u5] at this;exact this
noncomputable def fr(f:Po):Nat->List Po
 |0=>[]
 |a+1=>(X a*f)::fr f a
theorem eN(f:Po):∀a,(fr f a).length=a
 |0=>rfl
 |a+1=>by show(fr f a).length+1=_;rw[eN f a]
theorem xH(f:Po):∀(a i:Nat)(h:i<(fr f a).length),(fr f a)[i]=X (a-1-i)*f
 |0,i,h=>by rw[eN] at h;lia
 |a+1,0,h=>by
  show X a*f=_;congr 2
 |a+1,i+1,h=>by
  have h':i<(fr f a).length:=by rw[eN] at h ⊢;lia
  show(fr f a)[i]=_;rw[xH f a i h'];congr 2;lia
theorem C'(f:Po):∀(a i:Nat),i<a->X i*f∈fr f a
 |0,i,h=>by lia
 |a+1,i,h=>by
  by_cases e:i=a
  ·rw[e];exact List.mem_cons_self
  ·exact List.mem_cons_of_mem _ (C' f a i (by lia))
theorem jV{f P:Po}:∀{a:Nat},P∈fr f a->∃i,i<a/\P=X i*f
 |0,h=>nomatch h
 |a+1,h=>by
  rcases List.mem_cons.mp h with z|z
  ·exact⟨a,by lia,z⟩
  ·obtain⟨i,hi,e⟩:=jV z;exact⟨i,by lia,e⟩
noncomputable def HV(q:Po)(e:Nat):Po:=aF (fun i=>K (q.c i)*X i) e
theorem HW(q:Po)(j:Nat):∀e:Nat,(HV q e).c j=if j<e then q.c j else 0
 |0=>by
  show(0:Po).c j=_;rw[fg,if_neg (by lia)]
 |e+1=>by
  show(HV q e+K (q.c e)*X e).c j=_;rw[j_,HW q j e,bC,zp];by_cases h1:j<e
  ·rw[if_pos h1,if_pos (show j<e+1 by lia),if_neg (show ¬j=e by lia)];grind
  ·rw[if_neg h1];by_cases h2:j=e
   ·rw[if_pos h2,if_pos (show j<e+1 by lia),h2];grind
   ·rw[if_neg h2,if_neg (show ¬j<e+1 by lia)];grind
theorem F_{q:Po}{e:Nat}(h:len q<=e):HV q e=q:=ext fun j=>by
 rw[HW];split
 ·rfl
 ·exact(eM (by lia)).symm
theorem u7(q g:Po)(k b:Nat):∀e:Nat,k+e<=b->Span (fr g b) (X k*(HV q e*g))
 |0,_=>by
  have:X k*(HV q 0*g)=0:=by show X k*(0*g)=0;grind
  rw[this];exact .zero
 |e+1,h=>by
  have ih:=u7 q g k b e (by lia);have e1:X k*(HV q (e+1)*g)=X k*(HV q e*g)+K (q.c e)*(X (k+e)*g):=by
   show X k*((HV q e+K (q.c e)*X e)*g)=_;rw[HR];grind
  rw[e1];exact ih.add (Span.of _ (C' g b (k+e) (by lia)))
theorem F1{f g h q:Po}{α β:Int}{a b e D:Nat}(eq:K α*f=q*g+K β*h)(hq:len q<=e)(ji:a+e<=b+1):
 ∃s:Int,(s=1\/s=-1)/\K (α^a)*q5 (cols D (a+b)) (fr f a++fr g b)=K (s*β^a)*q5 (cols D (a+b)) (fr g b++fr h a):=by
 have hF:=F9 D (a+b);have e1:=mv hF α (fr f a) [] (fr g b) (by rw[List.length_nil,eN,eN];lia);have e2:=mv hF β (fr h a) [] (fr g b) (by rw[List.length_nil,eN,eN];lia);have e3:=oS hF (G:=fr g b) ((fr f a).map fun u=>K α*u) ((fr h a).map fun u=>K β*u) [] (by rw[List.length_map,List.length_map,eN,eN]) (fun i h1 h2=>by
  have hi:i<a:=by rw[List.length_map,eN] at h1;exact h1
  refine⟨X (a-1-i)*(q*g),?_,?_⟩
  ·have:=u7 q g (a-1-i) b e (by lia)
   rw[F_ hq] at this;exact this
  ·rw[List.getElem_map,List.getElem_map,xH,xH]
   have e4:K α*(X (a-1-i)*f)=X (a-1-i)*(K α*f):=by grind
   rw[e4,eq];grind) (by rw[List.length_nil,List.length_map,eN,eN];lia);obtain⟨s,hs,e5⟩:=blocks hF (fr h a) [] (fr g b) (by rw[List.length_nil,eN,eN];lia);rw[eN] at e1 e2;refine⟨s,hs,?_⟩;simp only[List.nil_append] at*;rw[<-e1,e3,e2,e5,cb];grind
theorem Dc{f:Po}{i m D:Nat}(h:∀j,m<j->f.c j=0)(hd:i+m<D):(X i*f).c D=0:=by
 rw[fL,if_neg (by lia)];exact h _ (by lia)
theorem F2{g h:Po}{m k a b:Nat}(hg:∀j,m<j->g.c j=0)(hh:∀j,k<j->h.c j=0)(ha:0<a)(hk:a-1+k<b+m):∀e:Nat,
 q5 (cols (b+e+m-1) (b+e+a)) (fr g (b+e)++fr h a)=K (g.c m^e)*q5 (cols (b+m-1) (b+a)) (fr g b++fr h a)
 |0=>by
  rw[Int.pow_zero,cK];show q5 (cols (b+m-1) (b+a)) (fr g b++fr h a)=_;grind
 |e+1=>by
  have ih:=F2 hg hh ha hk e;obtain⟨a',rfl⟩:∃a',a=a'+1:=⟨a-1,by lia⟩;have e1:cols (b+(e+1)+m-1) (b+(e+1)+(a'+1))=cf (b+e+m)::cols (b+e+m-1) (b+e+(a'+1)):=by
   have e2:b+(e+1)+(a'+1)=(b+e+a')+2:=by lia
   have e3:b+(e+1)+m-1=b+e+m:=by lia
   rw[e2,e3];rfl
  rw[e1];show q5 (cf (b+e+m)::cols (b+e+m-1) (b+e+(a'+1))) (X (b+e)*g::(fr g (b+e)++fr h (a'+1)))=_;rw[zJ _ _ _ _ (fun x hx=>?_),ih]
  ·have e4:cf (b+e+m) (X (b+e)*g)=K (g.c m):=by
    unfold cf;rw[fL,if_neg (by lia)];congr 2;lia
   rw[e4,Int.pow_succ,cb];grind
  ·unfold cf;rcases List.mem_append.mp hx with z|z
   ·obtain⟨i,hi,rfl⟩:=jV z;rw[Dc hg (by lia),c_]
   ·obtain⟨i,hi,rfl⟩:=jV z;rw[Dc hh (by lia),c_]
theorem F3{h:Po}{k:Nat}(hh:∀j,k<j->h.c j=0):∀a:Nat,q5 (cols (a+k) (a+1)) (fr h (a+1))=K (h.c k^a)*h
 |0=>by
  show X 0*h*1-0=K (h.c k^0)*h;rw[Int.pow_zero,cK,sv];grind
 |a+1=>by
  have ih:=F3 hh a;have e1:cols (a+1+k) (a+1+1)=cf (a+1+k)::cols (a+k) (a+1):=by
   have e2:a+1+k-1=a+k:=by lia
   show cf (a+1+k)::cols (a+1+k-1) (a+1)=_;rw[e2]
  rw[e1];show q5 (cf (a+1+k)::cols (a+k) (a+1)) (X (a+1)*h::fr h (a+1))=_;rw[zJ _ _ _ _ (fun x hx=>?_),ih]
  ·have e4:cf (a+1+k) (X (a+1)*h)=K (h.c k):=by
    unfold cf;rw[fL,if_neg (by lia)];congr 2;lia
   rw[e4,Int.pow_succ,cb];grind
  ·unfold cf;obtain⟨i,hi,rfl⟩:=jV hx;rw[Dc hh (by lia),c_]
noncomputable def Sb(n m j:Nat)(f g:Po):Po:=q5 (cols (n+m-j-1) (m-j+(n-j))) (fr f (m-j)++fr g (n-j))
section
variable {f g h q:Po} {α β:Int} {n m k j:Nat}
theorem T1(eq:K α*f=q*g+K β*h)(hq:len q<=n-m+1)(hg:∀j,m<j->g.c j=0)(hh:∀j,k<j->h.c j=0)(HX:m<n)(UG:k<m)(hj:j<=k):
 ∃s:Int,(s=1\/s=-1)/\K (α^(m-j))*Sb n m j f g=K (s*β^(m-j)*g.c m^(n-k))*q5 (cols (m+k-j-1) (k-j+(m-j))) (fr g (k-j)++fr h (m-j)):=by
 obtain⟨s,hs,e1⟩:=F1 (D:=n+m-j-1) (a:=m-j) (b:=n-j) eq hq (by lia);have e2:=F2 (a:=m-j) (b:=k-j) hg hh (by lia) (by lia) (n-k);have d1:k-j+(n-k)=n-j:=by lia
 have d2:n-j+m-1=n+m-j-1:=by lia
 have d3:k-j+m-1=m+k-j-1:=by lia
 have d4:n-j+(m-j)=m-j+(n-j):=by lia
 rw[d1,d2,d3,d4] at e2;refine⟨s,hs,?_⟩;unfold Sb;rw[e1,e2,cb (s*β^(m-j))];grind
theorem T2(eq:K α*f=q*g+K β*h)(hq:len q<=n-m+1)(hg:∀j,m<j->g.c j=0)(hh:∀j,k<j->h.c j=0)(HX:m<n)(UG:k<m):
 ∃s:Int,(s=1\/s=-1)/\K (α^(m-k))*Sb n m k f g=K (s*β^(m-k)*g.c m^(n-k)*h.c k^(m-k-1))*h:=by
 obtain⟨s,hs,e1⟩:=T1 (j:=k) eq hq hg hh HX UG (Nat.le_refl _);refine⟨s,hs,?_⟩;rw[e1];have e2:=F3 hh (m-k-1);have d1:m-k-1+1=m-k:=by lia
 have d2:m-k-1+k=m-1:=by lia
 rw[d1,d2] at e2;have d3:m+k-k-1=m-1:=by lia
 have d4:k-k+(m-k)=m-k:=by lia
 have d5:k-k=0:=by lia
 rw[d3,d4,d5];show K _*q5 (cols (m-1) (m-k)) ([]++fr h (m-k))=_;rw[List.nil_append,e2,cb (s*β^(m-k)*g.c m^(n-k))];grind
theorem T3{r:Po}(eq:K α*f=q*g+r)(hq:len q<=n-m+1)(hg:∀j,m<j->g.c j=0)(hr:∀j,m<=j->r.c j=0)(HX:m<n)(hm:0<m):
 ∃s:Int,(s=1\/s=-1)/\K α*Sb n m (m-1) f g=K (s*g.c m^(n-m+1))*r:=by
 have Xc:K α*f=q*g+K 1*r:=by rw[eq,cK];grind
 obtain⟨s,hs,e1⟩:=F1 (D:=n) (a:=1) (b:=n-m+1) Xc hq (by lia);have e2:=F2 (a:=1) (b:=0) (k:=m-1) hg (fun j hj=>hr j (by lia)) (by lia) (by lia) (n-m+1);refine⟨s,hs,?_⟩;unfold Sb;have d1:m-(m-1)=1:=by lia
 have d2:n-(m-1)=n-m+1:=by lia
 have d3:n+m-(m-1)-1=n:=by lia
 have d4:0+(n-m+1)+m-1=n:=by lia
 have d5:0+(n-m+1)=n-m+1:=by lia
 have d6:n-m+1+1=1+(n-m+1):=by lia
 rw[d4,d5,d6] at e2;have p1:α^1=α:=by rw[Int.pow_succ,Int.pow_zero];lia
 have p2:(1:Int)^1=1:=rfl;rw[p1,p2] at e1;rw[d1,d2,d3,e1,e2];have e3:q5 (cols (0+m-1) (0+1)) (fr g 0++fr r 1)=r:=by
  show X 0*r*1-0=r;rw[sv];grind
 rw[e3,Int.mul_one,cb];grind
end
end Po
end SF
namespace SF
open Lean.Grind
namespace Po
noncomputable def Sn(s:Int):Prop:=s=1\/s=-1
theorem Sn.mul{s t:Int}(h:Sn s)(h':Sn t):Sn (s*t):=by rcases h with z|z<;>rcases h' with w|w<;>rw[z,w]<;>unfold Sn<;>lia
theorem Sn.sq{s:Int}(h:Sn s):s*s=1:=by rcases h with z|z<;>rw[z]<;>rfl
theorem Sn.pow{s:Int}(h:Sn s):∀e:Nat,Sn (s^e)
 |0=>.inl (Int.pow_zero s)
 |e+1=>by rw[Int.pow_succ];exact(h.pow e).mul h
theorem HY(x:Int):∃s,Sn s/\x=s*ab x:=by
 rcases Int.le_total 0 x with h|h
 ·exact⟨1,.inl rfl,by rw[mY h];lia⟩
 ·exact⟨-1,.inr rfl,by unfold ab;lia⟩
theorem lp(a b:Int):∀e:Nat,(a*b)^e=a^e*b^e
 |0=>by rw[Int.pow_zero,Int.pow_zero,Int.pow_zero];rfl
 |e+1=>by rw[Int.pow_succ,Int.pow_succ,Int.pow_succ,lp a b e];grind
theorem iE(a:Int)(m:Nat):∀n:Nat,a^(m+n)=a^m*a^n
 |0=>by rw[Int.pow_zero,Nat.add_zero];lia
 |n+1=>by
  have e:m+(n+1)=(m+n)+1:=by lia
  rw[e,Int.pow_succ,iE a m n,Int.pow_succ];grind
theorem pow_mul'(a:Int)(m:Nat):∀n:Nat,a^(m*n)=(a^m)^n
 |0=>by rw[Nat.mul_zero,Int.pow_zero,Int.pow_zero]
 |n+1=>by rw[Nat.mul_succ,iE,pow_mul' a m n,Int.pow_succ]
theorem cI{a:Int}(h:0<a)(n:Nat):0<a^n:=Int.pow_pos h
theorem oT(x:Int)(e:Nat):∃s,Sn s/\x^e=s*ab x^e:=by
 obtain⟨s,hs,ex⟩:=HY x;refine⟨s^e,hs.pow e,?_⟩
 conv=>lhs;rw[ex]
 rw[lp]
theorem sI{c a b:Int}{P Q:Po}(hc:c≠0)(h:K (c*a)*P=K (c*b)*Q):K a*P=K b*Q:=by
 refine cancel (j7 hc) ?_;rw[cb,cb] at h;grind
theorem R5{s:Int}(hs:Sn s){a b:Int}{P Q:Po}(h:K (s*a)*P=K b*Q):K a*P=K (s*b)*Q:=by
 have e:K a*P=K s*(K (s*a)*P):=by
  have e2:K s*(K (s*a)*P)=K (s*(s*a))*P:=by rw[cb s (s*a)];grind
  rw[e2,<-Int.mul_assoc,hs.sq,Int.one_mul]
 rw[e,h,cb s b];grind
structure wc(F G f g:Po)(n0 n1 n m:Nat)(g0 h0:Int):Prop where
 lf:len f=n+1
 lg:len g=m+1
 nm:m<n
 PN:0<g0
 LA:0<h0
 C:∀j,j<m->∃s,Sn s/\Sb n m j f g=K (s*(g0^(m-j)*h0^(n-j-1)))*Sb n0 n1 j F G
 Hh:∃s,Sn s/\K (h0^(n-m-1))*Sb n0 n1 m F G=K (s*ab (g.c m)^(n-m-1))*g
theorem wc.start{F G:Po}{n:Nat}(lf:len F=n+2)(lg:len G=n+1):wc F G F G (n+1) n (n+1) n 1 1:=by
 refine⟨lf,lg,by lia,by decide,by decide,fun j _=>⟨1,.inl rfl,?_⟩,1,.inl rfl,?_⟩
 ·rw[Int.one_pow,Int.one_pow];show _=K 1*_;rw[cK];grind
 ·have e:n+1-n-1=0:=by lia
  rw[e,Int.pow_zero,Int.pow_zero];unfold Sb;have e1:n-n=0:=by lia
  have e2:n+1-n=1:=by lia
  rw[e1,e2];show K 1*(X 0*G*1-0)=K (1*1)*G;rw[sv,Int.one_mul];grind
section
variable {F G f g q r:Po} {n0 n1 n m:Nat} {g0 h0:Int}
theorem wc.lead(S:wc F G f g n0 n1 n m g0 h0):0<ab (g.c m):=by
 have:=Po.lead (f:=g) (by rw[S.lg];lia);rw[S.lg] at this;exact fW this
theorem wc.hi(S:wc F G f g n0 n1 n m g0 h0):∀j,m<j->g.c j=0:=fun j hj=>eM (by rw[S.lg];lia)
theorem wc.rem(S:wc F G f g n0 n1 n m g0 h0)(hm:0<m)(eq:K (ab (g.c m)^(n-m+1))*f=q*g+r)(hq:len q<=n-m+1)(hr:len r<=m):∃h,r=K (g0*h0^(n-m))*h:=by
 have hl:=S.lead;obtain⟨s,hs,e1⟩:=T3 eq hq S.hi (fun j hj=>eM (by lia)) S.nm hm;obtain⟨t,ht,e2⟩:=oT (g.c m) (n-m+1);obtain⟨u,hu,e3⟩:=S.C (m-1) (by lia);have hp:ab (g.c m)^(n-m+1)≠0:=Int.ne_of_gt (cI hl _);have e4:K 1*Sb n m (m-1) f g=K (s*t)*r:=by
  refine sI hp ?_;rw[Int.mul_one,e1,e2];congr 2;grind
 rw[cK] at e4;have e5:K (s*t)*r=K (u*(g0*h0^(n-m)))*Sb n0 n1 (m-1) F G:=by
  have d1:m-(m-1)=1:=by lia
  have d2:n-(m-1)-1=n-m:=by lia
  rw[d1,d2] at e3;have p1:g0^1=g0:=by rw[Int.pow_succ,Int.pow_zero];lia
  rw[p1] at e3;rw[<-e4,<-e3];grind
 refine⟨K (s*t*u)*Sb n0 n1 (m-1) F G,?_⟩;have e6:K (s*t*1)*r=K (u*(g0*h0^(n-m)))*Sb n0 n1 (m-1) F G:=by rw[Int.mul_one];exact e5
 have e7:=R5 (Sn.mul hs ht) e6;rw[cK] at e7;have e8:r=1*r:=by grind
 rw[e8,e7];have e9:K (g0*h0^(n-m))*(K (s*t*u)*Sb n0 n1 (m-1) F G)=K (g0*h0^(n-m)*(s*t*u))*Sb n0 n1 (m-1) F G:=by rw[cb (g0*h0^(n-m)) (s*t*u)];grind
 rw[e9];congr 2;grind
theorem wc.scale(S:wc F G f g n0 n1 n m g0 h0):h0^(n-m-1)∣ab (g.c m)^(n-m):=by
 obtain⟨s,hs,e⟩:=S.Hh;have e1:(K (h0^(n-m-1))*Sb n0 n1 m F G).c m=(K (s*ab (g.c m)^(n-m-1))*g).c m:=by rw[e]
 rw[bC,bC] at e1;obtain⟨t,ht,e2⟩:=HY (g.c m);have HX:=S.nm;have d:n-m=(n-m-1)+1:=by lia
 refine⟨(Sb n0 n1 m F G).c m*(s*t),?_⟩;have e3:ab (g.c m)^(n-m)=ab (g.c m)^(n-m-1)*ab (g.c m):=by
  conv=>lhs;rw[d]
  rw[Int.pow_succ]
 rw[e3];have h1:=hs.sq;have h2:=ht.sq;generalize ab (g.c m)^(n-m-1)=L at*;generalize ab (g.c m)=l at*;generalize g.c m=y at*;generalize h0^(n-m-1)=A at*;generalize (Sb n0 n1 m F G).c m=B at*;have e5:A*(B*(s*t))=(A*B)*(s*t):=by grind
 rw[e5,e1,e2];have e6:s*L*(t*l)*(s*t)=(s*s)*(t*t)*(L*l):=by grind
 rw[e6,h1,h2];lia
theorem Nx{l h0 h1:Int}{n m k j δ:Nat}(hd:n=m+δ)(HZ:0<δ)(hk:k<m)(hj:j<=k)(h:h1*h0^(δ-1)=l^δ):
 l^((δ+1)*(m-j))*h0^(n-j-1)=h0^(δ*(m-j))*l^(n-k)*(l^(k-j)*h1^(m-j-1)):=by
 obtain⟨u,hu⟩:∃u,m-j=u+1:=⟨m-j-1,by lia⟩;have d1:n-j-1=u+δ:=by lia
 have d2:m-j-1=u:=by lia
 have d3:(δ+1)*(u+1)=δ*u+((n-k)+(k-j)):=by
  have:(n-k)+(k-j)=u+1+δ:=by lia
  rw[this,Nat.add_mul,Nat.mul_add];lia
 rw[hu,d1,show u+1-1=u by lia,d3,iE,iE,pow_mul',<-h,lp,<-pow_mul'];have d4:δ*(u+1)=(δ-1)*u+(u+δ):=by
  obtain⟨e,rfl⟩:∃e,δ=e+1:=⟨δ-1,by lia⟩;rw[Nat.add_sub_cancel,Nat.mul_add,Nat.add_mul];lia
 rw[d4,iE h0];grind
theorem wc.next{h:Po}{k:Nat}{h1:Int}(S:wc F G f g n0 n1 n m g0 h0)(eq:K (ab (g.c m)^(n-m+1))*f=q*g+K (-(g0*h0^(n-m)))*h)(hq:len q<=n-m+1)(lh:len h=k+1)(hk:k<m)(M5:h1*h0^(n-m-1)=ab (g.c m)^(n-m)):wc F G g h n0 n1 m k (ab (g.c m)) h1:=by
 have hl:=S.lead;have HX:=S.nm;have Bb:∀j,k<j->h.c j=0:=fun j hj=>eM (by rw[lh];lia);have hd:n=m+(n-m):=by lia
 have Xd:0<h1:=by
  have p1:=cI S.LA (n-m-1);have p2:=cI hl (n-m);rw[<-M5] at p2;rcases Int.lt_or_le 0 h1 with z|z
  ·exact z
  ·have:=Int.mul_nonpos_of_nonpos_of_nonneg z (Int.le_of_lt p1);lia
 have sgn:∀(e:Nat),∃t,Sn t/\(-(g0*h0^(n-m)))^e=t*(g0^e*h0^((n-m)*e)):=fun e=>by
  obtain⟨t,ht,e1⟩:=oT (-(g0*h0^(n-m))) e;refine⟨t,ht,?_⟩;have gL:0<g0*h0^(n-m):=Int.mul_pos S.PN (cI S.LA _);have e2:ab (-(g0*h0^(n-m)))=g0*h0^(n-m):=by unfold ab;lia
  rw[e1,e2,lp,pow_mul']
 refine⟨S.lg,lh,hk,hl,Xd,fun j hj=>?_,?_⟩
 ·obtain⟨s,hs,e1⟩:=T1 (j:=j) eq hq S.hi Bb HX hk (by lia);obtain⟨t,ht,e2⟩:=sgn (m-j);obtain⟨u,hu,e3⟩:=oT (g.c m) (n-k);obtain⟨v,hv,e4⟩:=S.C j (by lia);have ex:=Nx hd (by lia) hk (by lia:j<=k) M5;have R6:K ((ab (g.c m)^(n-m+1))^(m-j))*Sb n m j f g=K (s*(-(g0*h0^(n-m)))^(m-j)*g.c m^(n-k))*Sb m k j g h:=e1;rw[<-pow_mul',e2,e3,e4] at R6;have e5:K (ab (g.c m)^((n-m+1)*(m-j)))*(K (v*(g0^(m-j)*h0^(n-j-1)))*Sb n0 n1 j F G)=K (v*(g0^(m-j)*(ab (g.c m)^((n-m+1)*(m-j))*h0^(n-j-1))))*Sb n0 n1 j F G:=by
   have:v*(g0^(m-j)*(ab (g.c m)^((n-m+1)*(m-j))*h0^(n-j-1)))=ab (g.c m)^((n-m+1)*(m-j))*(v*(g0^(m-j)*h0^(n-j-1))):=by grind
   rw[this,cb (ab (g.c m)^((n-m+1)*(m-j)))];grind
  rw[e5,ex] at R6;let c:=g0^(m-j)*h0^((n-m)*(m-j))*ab (g.c m)^(n-k);have hc:c≠0:=Int.ne_of_gt (Int.mul_pos (Int.mul_pos (cI S.PN _) (cI S.LA _)) (cI hl _));have e6:K (c*(v*(ab (g.c m)^(k-j)*h1^(m-j-1))))*Sb n0 n1 j F G=K (c*(s*t*u))*Sb m k j g h:=by
   have a1:c*(v*(ab (g.c m)^(k-j)*h1^(m-j-1)))=v*(g0^(m-j)*(h0^((n-m)*(m-j))*ab (g.c m)^(n-k)*(ab (g.c m)^(k-j)*h1^(m-j-1)))):=by
    show g0^(m-j)*h0^((n-m)*(m-j))*ab (g.c m)^(n-k)*_=_;grind
   have a2:c*(s*t*u)=s*(t*(g0^(m-j)*h0^((n-m)*(m-j))))*(u*ab (g.c m)^(n-k)):=by
    show g0^(m-j)*h0^((n-m)*(m-j))*ab (g.c m)^(n-k)*_=_;grind
   rw[a1,a2];exact R6
  have e7:=sI hc e6;have hw:=Sn.mul (Sn.mul hs ht) hu;have e8:K (s*t*u*1)*Sb m k j g h=K (v*(ab (g.c m)^(k-j)*h1^(m-j-1)))*Sb n0 n1 j F G:=by rw[Int.mul_one];exact e7.symm
  have e9:=R5 hw e8;rw[cK] at e9;refine⟨s*t*u*v,hw.mul hv,?_⟩;have RS:Sb m k j g h=1*Sb m k j g h:=by grind
  rw[RS,e9];congr 2;grind
 ·obtain⟨s,hs,e1⟩:=T2 eq hq S.hi Bb HX hk;obtain⟨t,ht,e2⟩:=sgn (m-k);obtain⟨u,hu,e3⟩:=oT (g.c m) (n-k);obtain⟨v,hv,e4⟩:=S.C k hk;obtain⟨w,hw,e0⟩:=oT (h.c k) (m-k-1);have ex:=Nx hd (by lia) hk (Nat.le_refl k) M5;rw[<-pow_mul',e2,e3,e0,e4] at e1;have e5:K (ab (g.c m)^((n-m+1)*(m-k)))*(K (v*(g0^(m-k)*h0^(n-k-1)))*Sb n0 n1 k F G)=K (v*(g0^(m-k)*(ab (g.c m)^((n-m+1)*(m-k))*h0^(n-k-1))))*Sb n0 n1 k F G:=by
   have:v*(g0^(m-k)*(ab (g.c m)^((n-m+1)*(m-k))*h0^(n-k-1)))=ab (g.c m)^((n-m+1)*(m-k))*(v*(g0^(m-k)*h0^(n-k-1))):=by grind
   rw[this,cb (ab (g.c m)^((n-m+1)*(m-k)))];grind
  rw[e5,ex,show k-k=0 by lia,Int.pow_zero,Int.one_mul] at e1;let c:=g0^(m-k)*h0^((n-m)*(m-k))*ab (g.c m)^(n-k);have hc:c≠0:=Int.ne_of_gt (Int.mul_pos (Int.mul_pos (cI S.PN _) (cI S.LA _)) (cI hl _));have e6:K (c*(v*h1^(m-k-1)))*Sb n0 n1 k F G=K (c*(s*t*u*w*ab (h.c k)^(m-k-1)))*h:=by
   have a1:c*(v*h1^(m-k-1))=v*(g0^(m-k)*(h0^((n-m)*(m-k))*ab (g.c m)^(n-k)*h1^(m-k-1))):=by
    show g0^(m-k)*h0^((n-m)*(m-k))*ab (g.c m)^(n-k)*_=_;grind
   have a2:c*(s*t*u*w*ab (h.c k)^(m-k-1))=s*(t*(g0^(m-k)*h0^((n-m)*(m-k))))*(u*ab (g.c m)^(n-k))*(w*ab (h.c k)^(m-k-1)):=by
    show g0^(m-k)*h0^((n-m)*(m-k))*ab (g.c m)^(n-k)*_=_;grind
   rw[a1,a2];exact e1
  have e7:=R5 hv (sI hc e6);refine⟨v*(s*t*u*w),hv.mul (Sn.mul (Sn.mul (Sn.mul hs ht) hu) hw),?_⟩;rw[e7];congr 2;grind
end
end Po
end SF
namespace SF
open Lean.Grind
namespace Po
open Re
noncomputable def nv(x:Re):List Po->Prop
 |[]=>True
 |[_]=>True
 |[_,_]=>True
 |a::b::c::r=>(at' x b=0->aP (at' x a)*aP (at' x c)<0)/\nv x (b::c::r)
theorem nv.snoc{x:Re}{u v w:Po}(h:at' x v=0->aP (at' x u)*aP (at' x w)<0):∀hs:List Po,nv x (hs++[u,v])->nv x (hs++[u,v,w])
 |[],_=>⟨h,trivial⟩
 |[a],t=>⟨t.1,h,trivial⟩
 |a::b::hs,t=>by
  cases hs with
  |nil=>exact⟨t.1,nv.snoc h [b] t.2⟩
  |cons c hs=>exact⟨t.1,nv.snoc h (b::c::hs) t.2⟩
theorem nv.Km{x:Re}{w:Po}(hw:at' x w≠0):∀hs:List Po,nv x (hs++[w])->A' x (hs++[w])
 |[],_=>hw
 |[a],_=>hw
 |[a,b],t=>⟨t.1,hw⟩
 |a::b::c::hs,t=>⟨t.1,nv.Km hw (b::c::hs) t.2⟩
theorem Bc{x:Re}{f g h q:Po}{α β:Int}(Xe:0<α)(Kn:0<β)(eq:K α*f=q*g+K (-β)*h)(UH:¬(at' x f=0/\at' x g=0)):
 (at' x g=0->aP (at' x f)*aP (at' x h)<0)/\¬(at' x g=0/\at' x h=0):=by
 have e:=congrArg (at' x) eq;rw[gO,iW,dW,gO] at e;have F':(0:Re)<(α:Re):=by
  show Re.q ((0:Nat):Rat)<Re.q (α:Rat);rw[cR];exact Rat.intCast_lt_intCast.mpr Xe
 have Ny:(0:Re)<(β:Re):=by
  show Re.q ((0:Nat):Rat)<Re.q (β:Rat);rw[cR];exact Rat.intCast_lt_intCast.mpr Kn
 have Xf:((-β:Int):Re)=-(β:Re):=Ring.intCast_neg β;rw[Xf] at e;generalize (α:Re)=a at e F';generalize (β:Re)=b at e Ny;have key:at' x g=0->a*at' x f=-(b*at' x h):=fun z=>by rw[z] at e;grind
 constructor
 ·intro z;have e2:=key z;have hf:at' x f≠0:=fun y=>UH ⟨y,z⟩;have s1:aP (a*at' x f)=aP (at' x f):=by rw[dH,bA F'];lia
  have s2:aP (b*at' x h)=aP (at' x h):=by rw[dH,bA Ny];lia
  rw[e2,oP,s2] at s1;rw[<-s1];have h0:aP (at' x h)≠0:=fun y=>hf (bH (by rw[<-s1,y];rfl));generalize aP (at' x h)=s at h0;have:0<s*s:=by
   rcases Int.lt_or_lt_of_ne h0 with w|w
   ·exact Int.mul_pos_of_neg_of_neg w w
   ·exact Int.mul_pos w w
  have e3:-s*s=-(s*s):=by grind
  rw[e3];lia
 ·rintro⟨z,w⟩;have e2:=key z;rw[w] at e2;have e3:a*at' x f=0:=by rw[e2];grind
  by_cases hf:at' x f=0
  ·exact UH ⟨hf,z⟩
  ·exact Re.bT (fun y=>by rw[y] at F';exact lt_irrefl _ F') hf e3
theorem q_{x:Re}{f g u v:Po}{a:Int}(ha:a≠0)(e:u*f+v*g=K a):¬(at' x f=0/\at' x g=0):=by
 rintro⟨z,w⟩;have e2:=congrArg (at' x) e;rw[iW,dW,dW,C4,z,w] at e2;have e3:(a:Re)=0:=by rw[<-e2];grind
 have e4:q (a:Rat)=q 0:=e3;have:=kg e4;have:(a:Rat)=((0:Int):Rat):=this;exact ha (Rat.intCast_inj.mp this)
theorem Dd{rs ys:List Int}(iK:ys≠[])(hl:ys.length<=rs.length){σ l:Int}(Nz:σ*co ys (ys.length-1)=l):
 ao (fv (fun j=>co rs j*l-if rs.length-ys.length<=j/\j<rs.length-ys.length+(ys.length-1) then co rs (rs.length-1)*σ*co ys (j-(rs.length-ys.length)) else 0) (rs.length-1))=
  K l*ao rs-K (co rs (rs.length-1)*σ)*X (rs.length-ys.length)*ao ys:=ext fun j=>by
 have hp:=List.length_pos_iff.mpr iK;have e:K (co rs (rs.length-1)*σ)*X (rs.length-ys.length)*ao ys=K (co rs (rs.length-1)*σ)*(X (rs.length-ys.length)*ao ys):=by grind
 rw[e,gM,bC,bC,fL,bJ,bJ,bJ,jr];by_cases h1:j<rs.length-1
 ·rw[if_pos h1];by_cases h2:rs.length-ys.length<=j
  ·rw[if_pos ⟨h2,by lia⟩,if_neg (by lia)];grind
  ·rw[if_neg (fun z=>h2 z.1),if_pos (by lia)];grind
 ·rw[if_neg h1,if_neg (by lia)];by_cases h3:j=rs.length-1
  ·have e2:j-(rs.length-ys.length)=ys.length-1:=by lia
   rw[e2,h3,Int.mul_assoc,Nz];grind
  ·rw[cz (xs:=rs) (by lia),cz (xs:=ys) (by lia)];grind
theorem NA(y:Int):(if y<0 then -1 else if 0<y then 1 else 0)*y=ab y:=by
 unfold ab;split
 ·lia
 ·split<;>lia
structure UI(xs ys rs:List Int):Prop where
 tr:Tr rs
 lt:rs.length<ys.length
 eq:∃q,K (ab (co ys (ys.length-1))^(xs.length-ys.length+1))*ao xs=q*ao ys+ao rs/\len q<=xs.length-ys.length+1
theorem Ko(a:Int)(k:Nat):len (K a*X k)<=k+1:=cS fun i hi=>by
 rw[bC,zp,if_neg (by lia)];grind
theorem Ga{rs:List Int}{n:Nat}(h:rs.length<n):(dU rs).length<n:=Nat.lt_of_le_of_lt (qP rs) h
theorem neg_fdiv{rs:List Int}{β:Int}{h:Po}(Kn:0<β)(e:ao rs=K β*h):ao (fv (fun i=>(-(co rs i)).fdiv β) rs.length)=-h:=ext fun i=>by
 rw[bJ,jr,HL];have e1:co rs i=β*h.c i:=by
  have:(ao rs).c i=(K β*h).c i:=by rw[e]
  rw[bJ,bC] at this;exact this
 split
 ·rw[e1];have:-(β*h.c i)=(-(h.c i))*β:=by grind
  rw[this,Int.mul_fdiv_cancel _ (Int.ne_of_gt Kn)]
 ·rw[cz (by lia)] at e1;rcases Int.mul_eq_zero.mp e1.symm with z|z
  ·lia
  ·lia
end Po
end SF
namespace SF
open Lean.Grind
theorem nS(s:Rat):s*(s.den:Rat)=(s.num:Rat):=by
 have h:=Rat.num_divInt_den s;rw[Rat.divInt_eq_div] at h;have hd:((s.den:Int):Rat)≠0:=by
  intro z;have z2:((s.den:Int):Rat)=((0:Int):Rat):=z;have:=Rat.intCast_inj.mp z2;have:=s.den_nz;lia
 have e:(s.den:Rat)=((s.den:Int):Rat):=rfl;rw[e]
 conv=>lhs;rw[<-h]
 grind
theorem zK{s:Rat}(h:s.den∣s.num.natAbs*s.num.natAbs\/s.den∣s.num.natAbs*s.num.natAbs*s.num.natAbs):s=(s.num:Rat):=by
 have hc:Nat.Coprime s.den s.num.natAbs:=s.reduced.symm;have h1:s.den∣1:=by
  rcases h with h|h
  ·have:=hc.dvd_of_dvd_mul_left h;have h2:=hc.dvd_of_dvd_mul_left (k:=s.den) (n:=1) (m:=s.num.natAbs);exact h2 (by rw[Nat.mul_one];exact this)
  ·have h3:=hc.dvd_of_dvd_mul_right h;have h4:=hc.dvd_of_dvd_mul_right h3;have h2:=hc.dvd_of_dvd_mul_left (k:=s.den) (n:=1) (m:=s.num.natAbs);exact h2 (by rw[Nat.mul_one];exact h4)
 have h2:s.den=1:=Nat.eq_one_of_dvd_one h1;have:=nS s;rw[h2] at this;have e:((1:Nat):Rat)=1:=rfl;rw[e] at this;rw[<-this];grind
theorem De{s:Rat}{n:Int}(h:s*s=(n:Rat)):∃k:Int,k*k=n:=by
 have e:=nS s;have e1:((s.num*s.num:Int):Rat)=((n*(s.den*s.den):Int):Rat):=by
  rw[Rat.intCast_mul,Rat.intCast_mul,Rat.intCast_mul,<-e,<-h];have e0:(((s.den:Nat):Int):Rat)=(s.den:Rat):=rfl;rw[e0];grind
 have e2:=Rat.intCast_inj.mp e1;have hd:s.den∣s.num.natAbs*s.num.natAbs:=by
  have:(s.den:Int)∣s.num*s.num:=⟨n*s.den,by rw[e2];grind⟩;have:=Int.ofNat_dvd_left.mp this
  rwa [Int.natAbs_mul] at this
 have e3:=zK (s:=s) (.inl hd);refine⟨s.num,?_⟩;rw[e3,<-Rat.intCast_mul] at h;exact Rat.intCast_inj.mp h
theorem Df{s:Rat}{n:Int}(h:s*s*s=(n:Rat)):∃k:Int,k*k*k=n:=by
 have e:=nS s;have e1:((s.num*s.num*s.num:Int):Rat)=((n*(s.den*s.den*s.den):Int):Rat):=by
  rw[Rat.intCast_mul,Rat.intCast_mul,Rat.intCast_mul,Rat.intCast_mul,Rat.intCast_mul,<-e,<-h];have e0:(((s.den:Nat):Int):Rat)=(s.den:Rat):=rfl;rw[e0];grind
 have e2:=Rat.intCast_inj.mp e1;have hd:s.den∣s.num.natAbs*s.num.natAbs*s.num.natAbs:=by
  have:(s.den:Int)∣s.num*s.num*s.num:=⟨n*(s.den*s.den),by rw[e2];grind⟩;have:=Int.ofNat_dvd_left.mp this
  rwa [Int.natAbs_mul,Int.natAbs_mul] at this
 have e3:=zK (s:=s) (.inr hd);refine⟨s.num,?_⟩;rw[e3,<-Rat.intCast_mul,<-Rat.intCast_mul] at h;exact Rat.intCast_inj.mp h
noncomputable def UJ(n:Int):Prop:=n=2\/n=3\/n=5\/n=6\/n=7\/n=8\/n=10\/n=12\/n=50\/n=99
noncomputable def UK(n:Int):Prop:=n=2\/n=3\/n=4\/n=5\/n=6\/n=7\/n=9\/n=10\/n=-2\/n=-5
theorem R7{m c:Nat}(hc:c<121)(h:∀m,m<=10->m*m≠c):m*m≠c:=fun e=>by
 rcases Nat.lt_or_ge 10 m with z|z
 ·have:=Nat.mul_le_mul (show 11<=m from z) (show 11<=m from z);lia
 ·exact h m z e
theorem R8{m c:Nat}(hc:c<27)(h:∀m,m<=2->m*m*m≠c):m*m*m≠c:=fun e=>by
 rcases Nat.lt_or_ge 2 m with z|z
 ·have:=Nat.mul_le_mul (Nat.mul_le_mul (show 3<=m from z) (show 3<=m from z)) (show 3<=m from z);lia
 ·exact h m z e
theorem Kp{n:Int}(h:UJ n)(k:Int):k*k≠n:=fun e=>by
 have e2:k.natAbs*k.natAbs=n.natAbs:=by rw[<-Int.natAbs_mul,e]
 rcases h with rfl|rfl|rfl|rfl|rfl|rfl|rfl|rfl|rfl|rfl<;>exact R7 (by decide) (by decide) e2
theorem Kq{n:Int}(h:UK n)(k:Int):k*k*k≠n:=fun e=>by
 have e2:k.natAbs*k.natAbs*k.natAbs=n.natAbs:=by rw[<-Int.natAbs_mul,<-Int.natAbs_mul,e]
 rcases h with rfl|rfl|rfl|rfl|rfl|rfl|rfl|rfl|rfl|rfl<;>exact R8 (by decide) (by decide) e2
namespace Po
open Re
theorem cH(a:Int):((a:Int):Re)=q (a:Rat):=rfl
theorem at2(x:Re)(a b:Int):at' x (ao [a,b])=(a:Re)+x*(b:Re):=by
 rw[fi,fi,dF,iX];grind
theorem LB(x:Re)(a b c:Int):at' x (ao [a,b,c])=(a:Re)+x*((b:Re)+x*(c:Re)):=by
 rw[fi,at2]
theorem Xg(x:Re)(a b c d:Int):at' x (ao [a,b,c,d])=(a:Re)+x*((b:Re)+x*((c:Re)+x*(d:Re))):=by
 rw[fi,LB]
theorem R9{f:Po}(h:len f=2):kX f:=by
 refine⟨by lia,fun d hd=>?_⟩;have h0:f≠0:=cD (by lia);have h1:=hd.len h0;have h2:=len_pos (hd.ne h0);lia
theorem u9{e f:Po}(he:len e=2)(hd:D e f):∃r:Rat,at' (q r) f=0:=by
 obtain⟨a,ha,p,eq⟩:=hd;have hl:e.c 1≠0:=by
  have:=lead (f:=e) (by lia);rw[he] at this;exact this
 have PD:((e.c 1:Int):Rat)≠0:=fun z=>hl (Rat.intCast_inj.mp (show((e.c 1:Int):Rat)=((0:Int):Rat) from z));refine⟨-((e.c 0:Int):Rat)/((e.c 1:Int):Rat),?_⟩;generalize hr:-((e.c 0:Int):Rat)/((e.c 1:Int):Rat)=r;have e0:at' (q r) e=0:=by
  have e1:e=ao [e.c 0,e.c 1]:=ext fun i=>by
   rw[bJ]
   match i with
   |0=>rfl
   |1=>rfl
   |i+2=>rw[eM (by lia)];rfl
  rw[e1,at2,cH,cH,<-eC,<-ke];have e2:((ao [e.c 0,e.c 1]).c 0:Int)=e.c 0:=rfl;have:((e.c 0:Int):Rat)+r*((e.c 1:Int):Rat)=0:=by rw[<-hr];grind
  show q (((e.c 0:Int):Rat)+r*((e.c 1:Int):Rat))=0;rw[this];rfl
 have e3:=congrArg (at' (q r)) eq;rw[gO,dW,e0] at e3;have e4:(a:Re)*at' (q r) f=0:=by rw[e3];grind
 by_cases hz:at' (q r) f=0
 ·exact hz
 ·exfalso;refine Re.bT (fun z=>ha ?_) hz e4;have z2:q (a:Rat)=q ((0:Int):Rat):=z;exact Rat.intCast_inj.mp (kg z2)
theorem zL{f:Po}(h:len f=3\/len f=4)(hn:∀r:Rat,at' (q r) f≠0):kX f:=by
 have h0:f≠0:=cD (by lia);refine⟨by lia,fun d hd=>?_⟩;have h1:=hd.len h0;have h2:=len_pos (hd.ne h0);by_cases h3:len d<=1
 ·exact .inl h3
 by_cases h4:len f<=len d
 ·exact .inr h4
 exfalso;by_cases h5:len d=2
 ·obtain⟨r,hr⟩:=u9 h5 hd;exact hn r hr
 ·obtain⟨a,ha,p,eq⟩:=hd;have hp:p≠0:=iA (f:=d) (by rw[<-eq];exact bT (j7 ha) h0);have h6:=len_mul (cD h2) hp;rw[<-eq,gw ha] at h6;obtain⟨r,hr⟩:=u9 (e:=p) (f:=f) (by lia) ⟨a,ha,d,by rw[eq];grind⟩;exact hn r hr
noncomputable def dc:List Po->Po
 |[]=>1
 |g::r=>g*dc r
theorem rd{p:Po}(hp:kX p):∀gs:List Po,D p (dc gs)->∃g∈gs,D p g
 |[],h=>by
  have l1:len (1:Po)=1:=by rw[<-cK];exact len_K (by decide)
  have:=h.len (cD (by show 0<len (1:Po);lia));have h2:=hp.1;have h3:len (dc [])=1:=l1;lia
 |g::r,h=>by
  rcases hp.prime h with z|z
  ·exact⟨g,List.mem_cons_self,z⟩
  ·obtain⟨x,hx,hd⟩:=rd hp r z;exact⟨x,List.mem_cons_of_mem _ hx,hd⟩
structure Fk(g:Po):Prop where
 wb:kX g
 pr:Pr g
 pos:0<g.c (len g-1)
theorem Fk.same{g h:Po}(hg:Fk g)(hh:Fk h)(d:D g h):g=h:=by
 rcases hh.wb.2 g d with z|z
 ·have:=hg.wb.1;lia
 ·exact hg.pr.same hh.pr d (d.oy hh.wb.ne z) hg.pos hh.pos
theorem zM:∀gs:List Po,(∀g∈gs,Fk g)->gs.Nodup->∀p,kX p->¬D (p*p) (dc gs)
 |[],_,_,p,hp,h=>by
  have l1:len (1:Po)=1:=by rw[<-cK];exact len_K (by decide)
  have h1:=h.len (show dc []≠0 from cD (by show 0<len (1:Po);lia));have h2:=hp.1;have h3:=len_mul hp.ne hp.ne;have h4:len (dc [])=1:=l1;lia
 |g::r,hF,hN,p,hp,h=>by
  have hg:=hF g List.mem_cons_self;obtain⟨Xh,Xi⟩:=List.nodup_cons.mp hN;obtain⟨a,ha,t,e⟩:=h;have e':K a*(g*dc r)=p*p*t:=e;by_cases hd:D p g
  ·have Nb:D g p:=by
    rcases hg.wb.2 p hd with z|z
    ·have:=hp.1;lia
    ·exact hd.oy hg.wb.ne z
   obtain⟨b,hb,s,es⟩:=Nb;have Xj:D g (dc r):=by
    refine⟨b*b*a,Int.mul_ne_zero (Int.mul_ne_zero hb hb) ha,s*s*t,Po.cancel hg.wb.ne ?_⟩;have e1:g*(K (b*b*a)*dc r)=K b*K b*(K a*(g*dc r)):=by rw[cb,cb];grind
    have e2:g*(g*(s*s*t))=(g*s)*(g*s)*t:=by grind
    rw[e1,e2,e',<-es];grind
   obtain⟨x,hx,Xk⟩:=rd hg.wb r Xj;have:=hg.same (hF x (List.mem_cons_of_mem _ hx)) Xk;exact Xh (by rw[this];exact hx)
  ·have h1:D p (g*dc r):=⟨a,ha,p*t,by rw[e'];grind⟩;have h2:=(hp.prime h1).resolve_left hd;obtain⟨c,hc,u,eu⟩:=h2;have h3:D p (g*u):=by
    refine⟨a,ha,K c*t,Po.cancel hp.ne ?_⟩;have e1:p*(K a*(g*u))=K a*(g*(p*u)):=by grind
    rw[e1,<-eu];have e2:K a*(g*(K c*dc r))=K c*(K a*(g*dc r)):=by grind
    rw[e2,e'];grind
   have h4:=(hp.prime h3).resolve_left hd;obtain⟨d,Xl,v,ev⟩:=h4;refine zM r (fun x hx=>hF x (List.mem_cons_of_mem _ hx)) Xi p hp ⟨d*c,Int.mul_ne_zero Xl hc,v,?_⟩;rw[cb];have e1:K d*K c*dc r=K d*(K c*dc r):=by grind
   rw[e1,eu];have e2:K d*(p*u)=p*(K d*u):=by grind
   rw[e2,ev];grind
theorem Pr.mul{f g:Po}(hf:Pr f)(hg:Pr g):Pr (f*g):=fun p hp=>by
 rcases Nat.lt_or_ge 1 p with h1|h1
 ·exfalso;obtain⟨r,hr,hd⟩:=HM.ex _ p (Nat.le_refl _) h1;have n_:∀i,(r:Int)∣(f*g).c i:=fun i=>Int.dvd_trans (Int.ofNat_dvd.mpr hd) (hp i);have h2:=hr.1;rcases mW hr n_ with z|z
  ·have:=hf r z;lia
  ·have:=hg r z;lia
 ·have h0:p≠0:=by
   rintro rfl;have hz:f*g=0:=ext fun i=>by
    rw[fg];exact Int.zero_dvd.mp (hp i)
   exact bT hf.ne hg.ne hz
  lia
theorem Pr.one:Pr 1:=fun p hp=>by
 have:=hp 0;rw[qS,if_pos rfl] at this;exact Nat.eq_one_of_dvd_one (Int.ofNat_dvd.mp this)
theorem oU:∀gs:List Po,(∀g∈gs,Fk g)->Pr (dc gs)/\0<(dc gs).c (len (dc gs)-1)
 |[],_=>by
  have l1:len (1:Po)=1:=by rw[<-cK];exact len_K (by decide)
  refine⟨Pr.one,?_⟩;show 0<(1:Po).c (len (1:Po)-1);rw[l1,qS,if_pos rfl];decide
 |g::r,h=>by
  obtain⟨h1,h2⟩:=oU r fun x hx=>h x (List.mem_cons_of_mem _ hx);have hg:=h g List.mem_cons_self;refine⟨hg.pr.mul h1,?_⟩;show 0<(g*dc r).c (len (g*dc r)-1);rw[ox hg.pr.ne h1.ne];exact Int.mul_pos hg.pos h2
theorem lq{gs:List Po}(h:∀g∈gs,Fk g)(hN:gs.Nodup):CW (dc gs) (dc gs):=
 ⟨(oU gs h).1,(oU gs h).2,fun _ _=>Iff.rfl,zM gs h hN⟩
theorem kl{xs:List Int}(tx:Tr xs)(eT:xs≠[]){gs:List Po}(h:∀g∈gs,Fk g)(hN:gs.Nodup)(e:∀p,kX p->(D p (ao xs)↔D p (dc gs))):ao (iL xs)=dc gs:=
 (Nk tx eT).uniq (lq h hN) e
theorem zN(z:Int):(if z<0 then -1 else if 0<z then 1 else 0:Int)=aP ((z:Int):Re):=by
 rcases Int.lt_trichotomy z 0 with h|h|h
 ·rw[if_pos h,bQ];show q (z:Rat)<q ((0:Nat):Rat);rw[cR];exact Rat.intCast_lt_intCast.mpr h
 ·rw[if_neg (by lia),if_neg (by lia),h];have:((0:Int):Re)=0:=Ring.intCast_zero;rw[this,aW]
 ·rw[if_neg (by lia),if_pos h,bA];show q ((0:Nat):Rat)<q (z:Rat);rw[cR];exact Rat.intCast_lt_intCast.mpr h
theorem oV(a:Int):∀n:Nat,((a^n:Int):Re)=((a:Int):Re)^n
 |0=>by
  rw[Int.pow_zero];have e:((a:Int):Re)^0=1:=Semiring.pow_zero _;rw[e];exact Ring.intCast_one
 |n+1=>by
  have e:((a:Int):Re)^(n+1)=((a:Int):Re)^n*((a:Int):Re):=Semiring.pow_succ _ _;rw[Int.pow_succ,Ring.intCast_mul,oV a n,e]
theorem u_(a b:Re):∀n:Nat,(a*b)^n=a^n*b^n
 |0=>by
  have e1:(a*b)^0=1:=Semiring.pow_zero _;have e2:a^0=1:=Semiring.pow_zero _;have e3:b^0=1:=Semiring.pow_zero _;rw[e1,e2,e3];grind
 |n+1=>by
  have e1:(a*b)^(n+1)=(a*b)^n*(a*b):=Semiring.pow_succ _ _;have e2:a^(n+1)=a^n*a:=Semiring.pow_succ _ _;have e3:b^(n+1)=b^n*b:=Semiring.pow_succ _ _;rw[e1,e2,e3,u_ a b n];grind
theorem Kr{t u:Int}(hu:0<u)(xs:List Int):(if hv t u xs<0 then -1 else if 0<hv t u xs then 1 else 0:Int)=aP (at' (q ((t:Rat)/(u:Rat))) (ao xs)):=by
 rw[zN];have ZQ:(u:Rat)≠0:=fun z=>by
  have:=Rat.intCast_inj.mp (show(u:Rat)=((0:Int):Rat) from z);lia
 have qi:(0:Re)<(u:Re):=by
  show q ((0:Nat):Rat)<q (u:Rat);rw[cR];exact Rat.intCast_lt_intCast.mpr hu
 generalize hx:q ((t:Rat)/(u:Rat))=x;have Xm:x*(u:Re)=(t:Re):=by
  rw[<-hx,cH,cH,<-eC];congr 1;grind
 have LC:∀n:Nat,0<((u:Int):Re)^n:=fun n=>by
  induction n with
  |zero=>
   have e:((u:Int):Re)^0=1:=Semiring.pow_zero _;rw[e];grind
  |succ n ih=>
   have e:((u:Int):Re)^(n+1)=((u:Int):Re)^n*((u:Int):Re):=Semiring.pow_succ _ _;rw[e];exact Re.mul_pos ih qi
 have key:((hv t u xs:Int):Re)=((u:Int):Re)^(xs.length-1)*at' x (ao xs):=by
  rw[qg x (f:=ao xs) (n:=xs.length) (cS fun i hi=>by rw[bJ];exact cz hi)];unfold hv;rw[oN,<-cO];refine aQ fun i hi=>?_;rw[Ring.intCast_mul,Ring.intCast_mul,oV,oV,<-Xm,u_,bJ];have e:xs.length-1=i+(xs.length-1-i):=by lia
  have e2:((u:Int):Re)^(xs.length-1)=((u:Int):Re)^i*((u:Int):Re)^(xs.length-1-i):=by rw[<-pow_add',<-e]
  rw[e2];grind
 rw[key,dH,bA (LC _)];lia
end Po
end SF
namespace SF
open Lean.Grind
namespace Po
open Re
theorem Ks{y:Re}(h:aP y=-1):y<0:=by
 rcases aO y with w|w|w
 ·exact w.1
 ·rw[h] at w;lia
 ·rw[h] at w;lia
theorem Kt{y:Re}(h:aP y=1):0<y:=by
 rcases aO y with w|w|w
 ·rw[h] at w;lia
 ·rw[h] at w;lia
 ·exact w.1
inductive Gb:List Int->Prop
 |NC (t u:Int) (hu:0<u) (hc:Int.gcd t u=1):Gb [0-t,u]
 |Dg (a n:Int) (hn:UJ n):Gb [a*a-n,0-2*a,1]
 |UL (a m:Int) (hm:0<m):Gb [a*a+m,0-2*a,1]
 |UM (n:Int) (hn:UK n):Gb [0-n,0,0,1]
theorem jW{xs:List Int}{l:Int}(h:l≠0):Tr (xs++[l]):=by
 intro x hx;rw[List.getLast?_append] at hx;have:l=x:=by simpa using hx
 rw[<-this];exact h
theorem Gb.tr{g:List Int}(h:Gb g):Tr g/\g≠[]/\2<=g.length/\g.length<=4:=by
 cases h with
 |NC t u hu hc=>exact⟨jW (xs:=[0-t]) (Int.ne_of_gt hu),by simp,by simp,by simp⟩
 |Dg a n hn=>exact⟨jW (xs:=[a*a-n,0-2*a]) (by decide),by simp,by simp,by simp⟩
 |UL a m hm=>exact⟨jW (xs:=[a*a+m,0-2*a]) (by decide),by simp,by simp,by simp⟩
 |UM n hn=>exact⟨jW (xs:=[0-n,0,0]) (by decide),by simp,by simp,by simp⟩
theorem dM(a:Int):((-a:Int):Re)=-((a:Int):Re):=Ring.intCast_neg a
theorem c0:((0:Int):Re)=0:=Ring.intCast_zero
theorem c1:((1:Int):Re)=1:=Ring.intCast_one
theorem c2:((2:Int):Re)=2:=by
 have e:(2:Int)=1+1:=rfl;rw[e,Ring.intCast_add,c1];grind
theorem gR(a b:Int):((a-b:Int):Re)=(a:Re)-(b:Re):=by
 rw[Int.sub_eq_add_neg,Ring.intCast_add,dM];grind
theorem Ge(x:Re)(a n:Int):at' x (ao [a*a-n,0-2*a,1])=(x-(a:Re))*(x-(a:Re))-(n:Re):=by
 rw[LB,gR,gR,Ring.intCast_mul,Ring.intCast_mul,c0,c1,c2];grind
theorem Ku(x:Re)(a m:Int):at' x (ao [a*a+m,0-2*a,1])=(x-(a:Re))*(x-(a:Re))+(m:Re):=by
 rw[LB,Ring.intCast_add,gR,Ring.intCast_mul,Ring.intCast_mul,c0,c1,c2];grind
theorem Kv(x:Re)(n:Int):at' x (ao [0-n,0,0,1])=x*x*x-(n:Re):=by
 rw[Xg,gR,c0,c1];grind
theorem Dh(x:Re)(t u:Int):at' x (ao [0-t,u])=x*(u:Re)-(t:Re):=by
 rw[at2,gR,c0];grind
theorem bX{n:Int}(h:0<n):(0:Re)<(n:Re):=by
 show q ((0:Nat):Rat)<q (n:Rat);rw[cR];exact Rat.intCast_lt_intCast.mpr h
theorem sq_nonneg(x:Re):0<=x*x:=by
 rcases p_ x 0 with h|h|h
 ·have:=Re.mul_pos (x:=-x) (y:=-x) (by grind) (by grind);grind
 ·rw[h];grind
 ·have:=Re.mul_pos h h;grind
theorem H_(a b:Int):(ao [a,b,1]).c (len (ao [a,b,1])-1)=1:=by
 have t:Tr [a,b,1]:=jW (xs:=[a,b]) (by decide);rw[bq t];rfl
theorem mw{f:Po}{i:Nat}(h:f.c i=1):Pr f:=fun p hp=>by
 have:=hp i;rw[h] at this;exact Nat.eq_one_of_dvd_one (Int.ofNat_dvd.mp this)
theorem Gb.fk{g:List Int}(h:Gb g):Fk (ao g):=by
 have ht:=h.tr.1;cases h with
 |NC t u hu hc=>
  have hl:len (ao [0-t,u])=2:=bq ht;refine⟨R9 hl,fun p hp=>?_,by rw[hl];exact hu⟩;have h1:(p:Int)∣u:=hp 1;have h0:(p:Int)∣0-t:=hp 0;have h2:(p:Int)∣t:=by
   have e:t=-(0-t):=by lia
   rw[e];exact Int.dvd_neg.mpr h0
  have:=Int.dvd_coe_gcd h2 h1;rw[hc] at this;exact Nat.eq_one_of_dvd_one (Int.ofNat_dvd.mp this)
 |Dg a n hn=>
  refine⟨zL (.inl (bq ht)) fun r z=>?_,mw (i:=2) rfl,by rw[H_];decide⟩;rw[Ge,cH,cH] at z;have e:q ((r-(a:Rat))*(r-(a:Rat)))=q (n:Rat):=by
   rw[eC];have e2:r-(a:Rat)=r+-(a:Rat):=by grind
   rw[e2,ke,ll];grind
  obtain⟨k,hk⟩:=De (kg e);exact Kp hn k hk
 |UL a m hm=>
  refine⟨zL (.inl (bq ht)) fun r z=>?_,mw (i:=2) rfl,by rw[H_];decide⟩;rw[Ku] at z;have h1:=sq_nonneg (q r-(a:Re));have h2:=bX hm;grind
 |UM n hn=>
  have hl:len (ao [0-n,0,0,1])=4:=bq ht;refine⟨zL (.inr hl) fun r z=>?_,mw (i:=3) rfl,by rw[hl];show(0:Int)<1;decide⟩;rw[Kv,cH] at z;have e:q (r*r*r)=q (n:Rat):=by rw[eC,eC];grind
  obtain⟨k,hk⟩:=Df (kg e);exact Kq hn k hk
end Po
end SF
namespace SF
open Lean.Grind
namespace Po
open Re
open Classical in
theorem Di{φ:Rat->Int}(loc:∀x:Re,∃d:Rat,0<d/\∀s t:Rat,s<=t->Re.ab (q s-x)<q d->Re.ab (q t-x)<q d->φ t<=φ s){a b:Rat}(ji:a<=b):φ b<=φ a:=by
 let ψ:Rat->Int:=fun t=>if ∀u,a<=u->u<=t->φ u<=φ a then 0 else 1;have h:ψ a=ψ b:=by
  refine iC (φ:=ψ) (fun x=>?_) ji;obtain⟨d,hd,h⟩:=loc x;have key:∀s t:Rat,s<=t->Re.ab (q s-x)<q d->Re.ab (q t-x)<q d->ψ s=ψ t:=fun s t Hr hs ht=>by
   show(if _ then(0:Int) else 1)=if _ then 0 else 1;have mid:∀u,s<=u->u<=t->Re.ab (q u-x)<q d:=fun u h1 h2=>by
    have e1:=bY.mpr h1;have e2:=bY.mpr h2;rw[bK] at hs ht ⊢;constructor<;>grind
   by_cases c:∀u,a<=u->u<=s->φ u<=φ a
   ·rw[if_pos c,if_pos];intro u h1 h2;by_cases hu:u<=s
    ·exact c u h1 hu
    ·by_cases has:a<=s
     ·have g1:=c s has (by grind);have g2:=h s u (by grind) hs (mid u (by grind) h2);lia
     ·exact h a u h1 (mid a (by grind) (by grind)) (mid u (by grind) h2)
   ·rw[if_neg c,if_neg fun z=>c fun u h1 h2=>z u h1 (by grind)]
  refine⟨d,hd,fun s t hs ht=>?_⟩;by_cases Hr:s<=t
  ·exact key s t Hr hs ht
  ·exact(key t s (by grind) ht hs).symm
 have h0:ψ a=0:=if_pos fun u h1 h2=>by
  have:u=a:=by grind
  rw[this];lia
 rw[h0] at h;have h2:∀u,a<=u->u<=b->φ u<=φ a:=by
  by_cases c:∀u,a<=u->u<=b->φ u<=φ a
  ·exact c
  ·have:ψ b=1:=if_neg c;lia
 exact h2 b ji (by grind)
open Classical in
theorem zO{p0:Po}{r:List Po}(hc:∀x:Re,A' x (p0::bE p0::r))(hz:∀x:Re,at' x p0=0->at' x (bE p0)≠0)(x:Re):
 ∃d:Rat,0<d/\∃n0:Int,∀t:Rat,Re.ab (q t-x)<q d->(cg 0 (eW (q t) (p0::bE p0::r)):Int)=n0+(if at' x p0=0/\q t<x then 1 else 0):=by
 have c0:∀(s:Int)(l:List Int),s≠0->cg 0 (s::l)=cg s l:=fun s l hs=>by
  show(if s*0<0 then 1 else 0)+cg (if s≠0 then s else 0) l=_;rw[if_neg (by lia),if_pos hs];lia
 by_cases h0:at' x p0=0
 ·have h1:=hz x h0;have qh:A' x (bE p0::r):=by
   have:=hc x;cases r with
   |nil=>exact this
   |cons e r=>exact this.2
  obtain⟨e,he,hr⟩:=mr h0 h1;obtain⟨f,hf,hs⟩:=iD r.length (bE p0) r (Nat.le_refl _) h1 qh;obtain⟨m',Lx,m3,m4⟩:=gQ he hf;refine⟨m',Lx,(cg (aP (at' x (bE p0))) (eW x r):Int),fun t ht=>?_⟩;have k1:=hr (q t) (by grind);obtain⟨k2,k3⟩:=hs (q t) (by grind);have nz:aP (at' x (bE p0))≠0:=fun z=>h1 (bH z);show((cg 0 (aP (at' (q t) p0)::aP (at' (q t) (bE p0))::eW (q t) r):Nat):Int)=_;rw[k1,k2];rw[k2] at k3;generalize aP (at' x (bE p0))=s1 at nz k3 ⊢;have sq:0<s1*s1:=by
   rcases Int.lt_or_lt_of_ne nz with w|w
   ·exact Int.mul_pos_of_neg_of_neg w w
   ·exact Int.mul_pos w w
  rcases aO (q t-x) with z|z|z
  ·rw[z.2,if_pos ⟨h0,by grind⟩,c0 _ _ (by lia)];show(((if s1*(-1*s1)<0 then 1 else 0)+cg (if s1≠0 then s1 else -1*s1) (eW (q t) r):Nat):Int)=_;rw[if_pos (show s1*(-1*s1)<0 by grind),if_pos nz,k3];lia
  ·rw[z.2,if_neg (by rintro⟨_,w⟩;grind)];show(((if 0*s1*0<0 then 1 else 0)+((if s1*(if 0*s1≠0 then 0*s1 else 0)<0 then 1 else 0)+cg (if s1≠0 then s1 else(if 0*s1≠0 then 0*s1 else 0)) (eW (q t) r)):Nat):Int)=_;have e0:0*s1=0:=by lia
   rw[e0,if_neg (by lia),if_neg (c:=(0:Int)≠0) (by lia),if_neg (by lia),if_pos nz,k3];lia
  ·rw[z.2,if_neg (by rintro⟨_,w⟩;grind),c0 _ _ (by lia)];show(((if s1*(1*s1)<0 then 1 else 0)+cg (if s1≠0 then s1 else 1*s1) (eW (q t) r):Nat):Int)=_;rw[if_neg (show ¬s1*(1*s1)<0 by grind),if_pos nz,k3];lia
 ·obtain⟨e,he,hs⟩:=iD (r.length+1) p0 (bE p0::r) (Nat.le_refl _) h0 (hc x);refine⟨e,he,(cg (aP (at' x p0)) (eW x (bE p0::r)):Int),fun t ht=>?_⟩;obtain⟨k2,k3⟩:=hs (q t) (by grind);have nz:aP (at' x p0)≠0:=fun z=>h0 (bH z);show((cg 0 (aP (at' (q t) p0)::eW (q t) (bE p0::r)):Nat):Int)=_;rw[c0 _ _ (by rw[k2];exact nz),k3,if_neg (fun z=>h0 z.1)];lia
theorem Dj{p0:Po}{r:List Po}(hc:∀x:Re,A' x (p0::bE p0::r))(hz:∀x:Re,at' x p0=0->at' x (bE p0)≠0){a b:Rat}(ji:a<=b):
 cg 0 (eW (q b) (p0::bE p0::r))<=cg 0 (eW (q a) (p0::bE p0::r)):=by
 have:=Di (φ:=fun t=>(cg 0 (eW (q t) (p0::bE p0::r)):Int)) (fun x=>by
  obtain⟨d,hd,n0,h⟩:=zO hc hz x
  refine⟨d,hd,fun s t Hr hs ht=>?_⟩
  have g:=bY.mpr Hr
  show(cg 0 (eW (q t) (p0::bE p0::r)):Int)<=(cg 0 (eW (q s) (p0::bE p0::r)):Int)
  rw[h s hs,h t ht]
  by_cases c:at' x p0=0/\q t<x
  ·rw[if_pos c,if_pos ⟨c.1,by grind⟩];lia
  ·rw[if_neg c];split<;>lia) ji;have h2:(cg 0 (eW (q b) (p0::bE p0::r)):Int)<=(cg 0 (eW (q a) (p0::bE p0::r)):Int):=this;lia
open Classical in
theorem Gf{p0:Po}{r:List Po}(hc:∀x:Re,A' x (p0::bE p0::r))(hz:∀x:Re,at' x p0=0->at' x (bE p0)≠0){a b:Rat}(ji:a<=b)(h1:∀x y:Re,q a<=x->x<=q b->q a<=y->y<=q b->at' x p0=0->at' y p0=0->x=y):
 cg 0 (eW (q a) (p0::bE p0::r))<=cg 0 (eW (q b) (p0::bE p0::r))+1:=by
 have J':∃z:Re,∀x:Re,q a<=x->x<=q b->at' x p0=0->x=z:=by
  by_cases c:∃z:Re,q a<=z/\z<=q b/\at' z p0=0
  ·obtain⟨z,z1,z2,z3⟩:=c;exact⟨z,fun x x1 x2 x3=>h1 x z x1 x2 z1 z2 x3 z3⟩
  ·exact⟨0,fun x x1 x2 x3=>absurd ⟨x,x1,x2,x3⟩ c⟩
 obtain⟨z,Xn⟩:=J';let cl:Rat->Rat:=fun t=>if t<a then a else if b<t then b else t;have ZR:∀t,a<=cl t/\cl t<=b:=fun t=>by
  show a<=(if t<a then a else if b<t then b else t)/\(if t<a then a else if b<t then b else t)<=b;split
  ·exact⟨by grind,ji⟩
  ·split<;>constructor<;>grind
 have Xo:cl a=a:=by show(if a<a then a else if b<a then b else a)=a;rw[if_neg (by grind),if_neg (by grind)]
 have Xp:cl b=b:=by show(if b<a then a else if b<b then b else b)=b;rw[if_neg (by grind),if_neg (by grind)]
 let δ:Int:=if at' z p0=0 then 1 else 0;let φ:Rat->Int:=fun t=>(cg 0 (eW (q (cl t)) (p0::bE p0::r)):Int)+(if z<=q (cl t) then δ else 0);have h:φ a=φ b:=by
  refine iC (φ:=φ) (fun x=>?_) ji;by_cases xa:x<q a
  ·obtain⟨d,hd,hd2⟩:=small (sub_pos xa);refine⟨d,hd,fun s t hs ht=>?_⟩;have key:∀s:Rat,Re.ab (q s-x)<q d->cl s=a:=fun s hs=>by
    rw[bK] at hs;have:q s<q a:=by grind
    exact if_pos (cR.mp this)
   show(cg 0 (eW (q (cl s)) (p0::bE p0::r)):Int)+(if z<=q (cl s) then δ else 0)=(cg 0 (eW (q (cl t)) (p0::bE p0::r)):Int)+(if z<=q (cl t) then δ else 0);rw[key s hs,key t ht]
  ·by_cases xb:q b<x
   ·obtain⟨d,hd,hd2⟩:=small (sub_pos xb);refine⟨d,hd,fun s t hs ht=>?_⟩;have key:∀s:Rat,Re.ab (q s-x)<q d->cl s=b:=fun s hs=>by
     rw[bK] at hs;have g1:q b<q s:=by grind
     have g2:=cR.mp g1;show(if s<a then a else if b<s then b else s)=b;rw[if_neg (by grind),if_pos g2]
    show(cg 0 (eW (q (cl s)) (p0::bE p0::r)):Int)+(if z<=q (cl s) then δ else 0)=(cg 0 (eW (q (cl t)) (p0::bE p0::r)):Int)+(if z<=q (cl t) then δ else 0);rw[key s hs,key t ht]
   ·have Xq:q a<=x:=by grind
    have Xr:x<=q b:=by grind
    obtain⟨d,hd,n0,hn⟩:=zO hc hz x;have near:∀(e:Rat)(s:Rat),Re.ab (q s-x)<q e->Re.ab (q (cl s)-x)<q e:=fun e s hs=>by
     rw[bK] at hs ⊢;show -q e<q (if s<a then a else if b<s then b else s)-x/\q (if s<a then a else if b<s then b else s)-x<q e;split
     ·rename_i g;have:=cR.mpr g;constructor<;>grind
     ·split
      ·rename_i g;have:=cR.mpr g;constructor<;>grind
      ·exact hs
    by_cases xz:x=z
    ·subst xz;refine⟨d,hd,fun s t hs ht=>?_⟩;have key:∀s:Rat,Re.ab (q s-x)<q d->φ s=n0+δ:=fun s hs=>by
      show(cg 0 (eW (q (cl s)) (p0::bE p0::r)):Int)+(if x<=q (cl s) then δ else 0)=n0+δ;rw[hn _ (near d s hs)];by_cases c:q (cl s)<x
      ·rw[if_neg (c:=x<=q (cl s)) (by grind)];show n0+(if at' x p0=0/\q (cl s)<x then 1 else 0)+0=n0+(if at' x p0=0 then 1 else 0);by_cases c2:at' x p0=0
       ·rw[if_pos ⟨c2,c⟩,if_pos c2];lia
       ·rw[if_neg (fun z=>c2 z.1),if_neg c2];lia
      ·rw[if_pos (c:=x<=q (cl s)) (by grind),if_neg (fun z=>c z.2)];lia
     rw[key s hs,key t ht]
    ·have nr:¬at' x p0=0:=fun g=>xz (Xn x Xq Xr g);obtain⟨e,he,ND⟩:∃e:Rat,0<e/\∀s:Rat,Re.ab (q s-x)<q e->(z<=q s↔z<=x):=by
      rcases p_ x z with g|g|g
      ·obtain⟨e,he,h2⟩:=small (sub_pos g);refine⟨e,he,fun s hs=>?_⟩;rw[bK] at hs;constructor<;>intro w<;>grind
      ·exact absurd g xz
      ·obtain⟨e,he,h2⟩:=small (sub_pos g);refine⟨e,he,fun s hs=>?_⟩;rw[bK] at hs;constructor<;>intro w<;>grind
     obtain⟨m,hm,m1,m2⟩:=gQ hd he;refine⟨m,hm,fun s t hs ht=>?_⟩;have key:∀s:Rat,Re.ab (q s-x)<q m->φ s=n0+(if z<=x then δ else 0):=fun s hs=>by
      have g:=near m s hs;show(cg 0 (eW (q (cl s)) (p0::bE p0::r)):Int)+(if z<=q (cl s) then δ else 0)=_;rw[hn _ (by grind),if_neg (fun w=>nr w.1)];have g2:=ND (cl s) (by grind);by_cases c:z<=x
      ·rw[if_pos c,if_pos (g2.mpr c)];lia
      ·rw[if_neg c,if_neg (fun w=>c (g2.mp w))];lia
     rw[key s hs,key t ht]
 have h2:(cg 0 (eW (q (cl a)) (p0::bE p0::r)):Int)+(if z<=q (cl a) then δ else 0)=(cg 0 (eW (q (cl b)) (p0::bE p0::r)):Int)+(if z<=q (cl b) then δ else 0):=h;rw[Xo,Xp] at h2;have d1:0<=δ/\δ<=1:=by
  show 0<=(if at' z p0=0 then(1:Int) else 0)/\(if at' z p0=0 then(1:Int) else 0)<=1;split<;>lia
 split at h2<;>split at h2<;>lia
end Po
end SF
namespace SF
open Lean.Grind
namespace Po
open Re
noncomputable def va(M ρ:Rat):Nat->Rat
 |0=>0
 |n+1=>M+ρ*va M ρ n
noncomputable def xI(M ρ:Rat):Nat->Rat
 |0=>0
 |n+1=>va M ρ n+ρ*xI M ρ n
noncomputable def B0(M ρ:Rat):Nat->Rat
 |0=>0
 |n+1=>ρ*B0 M ρ n+xI M ρ n
theorem Gg(a:Rat):Re.ab (q a)=q (RR.ra a):=by
 unfold Re.ab RR.ra;by_cases h:a<0
 ·have h2:q a<0:=cR (r:=a) (t:=0) |>.mpr h;rw[if_pos h,if_pos h2,ll]
 ·have h2:¬q a<0:=fun z=>h (cR (r:=a) (t:=0) |>.mp z);rw[if_neg h,if_neg h2]
theorem xJ{x:Re}{M ρ:Rat}(kc:0<=ρ)(hx:Re.ab x<=q ρ):∀xs:List Int,(∀a∈xs,RR.ra (a:Rat)<=M)->Re.ab (at' x (ao xs))<=q (va M ρ xs.length)/\0<=va M ρ xs.length
 |[],_=>by
  rw[dF,iX];exact⟨by show Re.ab 0<=q 0;rw[eE];unfold Re.ab;split<;>grind,by show(0:Rat)<=0;grind⟩
 |a::r,h=>by
  obtain⟨i1,i2⟩:=xJ kc hx r fun b hb=>h b (List.mem_cons_of_mem _ hb);have ha:=h a List.mem_cons_self;have hM:0<=M:=by have:=RR.fF (a:Rat);grind
  rw[fi];have e1:=Re.gy ((a:Int):Re) (x*at' x (ao r));rw[Re.cw] at e1;have e2:=mul_le_mul hx i1 (bY (r:=0) (t:=ρ) |>.mpr kc) (Re.aM _);have e3:Re.ab ((a:Int):Re)<=q M:=by rw[cH,Gg,bY];exact ha
  have e4:q (va M ρ (a::r).length)=q M+q ρ*q (va M ρ r.length):=by
   show q (M+ρ*va M ρ r.length)=_;rw[ke,eC]
  refine⟨by rw[e4];grind,?_⟩;show 0<=M+ρ*va M ρ r.length;have:=Rat.mul_nonneg kc i2;grind
theorem Dk{x:Re}{M ρ:Rat}(kc:0<=ρ)(hx:Re.ab x<=q ρ):∀xs:List Int,(∀a∈xs,RR.ra (a:Rat)<=M)->Re.ab (at' x (bE (ao xs)))<=q (xI M ρ xs.length)/\0<=xI M ρ xs.length
 |[],_=>by
  have:bE (ao [])=0:=by rw[<-fh];exact dF
  rw[this,iX];exact⟨by show Re.ab 0<=q 0;rw[eE];unfold Re.ab;split<;>grind,by show(0:Rat)<=0;grind⟩
 |a::r,h=>by
  obtain⟨i1,i2⟩:=Dk kc hx r fun b hb=>h b (List.mem_cons_of_mem _ hb);obtain⟨j1,j2⟩:=xJ kc hx r fun b hb=>h b (List.mem_cons_of_mem _ hb);rw[oO,iW,dW,F8];have e1:=Re.gy (at' x (ao r)) (x*at' x (bE (ao r)));rw[Re.cw] at e1;have e2:=mul_le_mul hx i1 (bY (r:=0) (t:=ρ) |>.mpr kc) (Re.aM _);have e4:q (xI M ρ (a::r).length)=q (va M ρ r.length)+q ρ*q (xI M ρ r.length):=by
   show q (va M ρ r.length+ρ*xI M ρ r.length)=_;rw[ke,eC]
  refine⟨by rw[e4];grind,?_⟩;show 0<=va M ρ r.length+ρ*xI M ρ r.length;have:=Rat.mul_nonneg kc i2;grind
theorem Dl{x t:Re}{M ρ:Rat}(kc:0<=ρ)(hx:Re.ab x<=q ρ)(ht:Re.ab t<=q ρ):∀xs:List Int,(∀a∈xs,RR.ra (a:Rat)<=M)->
 Re.ab (at' t (ao xs)-at' x (ao xs)-(t-x)*at' x (bE (ao xs)))<=q (B0 M ρ xs.length)*(Re.ab (t-x)*Re.ab (t-x))/\0<=B0 M ρ xs.length
 |[],_=>by
  have:bE (ao [])=0:=by rw[<-fh];exact dF
  rw[this,dF];simp only[iX];have e:(0:Re)-0-(t-x)*0=0:=by grind
  rw[e];refine⟨?_,by show(0:Rat)<=0;grind⟩;show Re.ab 0<=q 0*_;rw[eE];have:Re.ab (0:Re)=0:=by unfold Re.ab;split<;>grind
  rw[this];grind
 |a::r,h=>by
  obtain⟨i1,i2⟩:=Dl kc hx ht r fun b hb=>h b (List.mem_cons_of_mem _ hb);obtain⟨j1,j2⟩:=Dk kc hx r fun b hb=>h b (List.mem_cons_of_mem _ hb);rw[fi,fi,oO,iW,dW,F8];have e0:(a:Re)+t*at' t (ao r)-((a:Re)+x*at' x (ao r))-(t-x)*(at' x (ao r)+x*at' x (bE (ao r)))=
   t*(at' t (ao r)-at' x (ao r)-(t-x)*at' x (bE (ao r)))+at' x (bE (ao r))*((t-x)*(t-x)):=by grind
  rw[e0];have e1:=Re.gy (t*(at' t (ao r)-at' x (ao r)-(t-x)*at' x (bE (ao r)))) (at' x (bE (ao r))*((t-x)*(t-x)));rw[Re.cw,Re.cw,Re.cw] at e1;have e2:=mul_le_mul ht i1 (bY (r:=0) (t:=ρ) |>.mpr kc) (Re.aM _);have n2:0<=Re.ab (t-x)*Re.ab (t-x):=mul_nonneg (Re.aM _) (Re.aM _);have e3:=mul_le_mul j1 (Std.le_refl (a:=Re.ab (t-x)*Re.ab (t-x))) (bY (r:=0) (t:=xI M ρ r.length) |>.mpr j2) n2;have e4:q (B0 M ρ (a::r).length)=q ρ*q (B0 M ρ r.length)+q (xI M ρ r.length):=by
   show q (ρ*B0 M ρ r.length+xI M ρ r.length)=_;rw[ke,eC]
  refine⟨by rw[e4];grind,?_⟩;show 0<=ρ*B0 M ρ r.length+xI M ρ r.length;have:=Rat.mul_nonneg kc i2;grind
theorem Be{f g u0 v0:Po}{c0:Int}{M:Nat}(hf:f≠0)(hg:g≠0)(eb:u0*f+v0*g=K c0)(BY:c0≠0)(EX:∀i,ab (f.c i)<=M)(FX:∀i,ab (g.c i)<=M){A:Nat}(hA:len f+len g=A+2)(Ng:0<A):
 ∃(U V:Po)(r:Int),r≠0/\U*f+V*g=K r/\len V<=len f-1/\∀i,ab (V.c i)<=(((2*A*M+1)^(A-1):Nat):Int):=by
 have mZ:=len_pos hf;have sD:=len_pos hg;obtain⟨U,V,lU,lV,fK,bU,bV,hz,CV⟩:=qW (f:=f) (g:=g) EX FX (n:=len g-1) (m:=len f-1) (A:=A) (by lia) Ng 1;have lR:len (U*f+V*g)<=1:=cS fun i hi=>by
  by_cases Lz:i<1+A-1
  ·have:=hz (i-1) (by lia);have ei:1+(i-1)=i:=by lia
   rw[ei] at this;exact this
  ·show(U*f+V*g).c i=0;rw[j_,jT (W:=U) (z:=f) (b:=1+A-1) lU (by lia) (by lia),jT (W:=V) (z:=g) (b:=1+A-1) lV (by lia) (by lia)];rfl
 have er:=cG lR;refine⟨U,V,(U*f+V*g).c 0,?_,er,lV,bV⟩;intro z;rw[z,c_] at er;have dv:D f V:=⟨c0,BY,u0*V-v0*U,by
  rw[<-eb]
  have:V*g=-(U*f):=by grind
  have e2:(u0*f+v0*g)*V=u0*f*V+v0*(V*g):=by grind
  rw[e2,this];grind⟩;have du:D g U:=⟨c0,BY,v0*U-u0*V,by
  rw[<-eb]
  have:U*f=-(V*g):=by grind
  have e2:(u0*f+v0*g)*U=u0*(U*f)+v0*g*U:=by grind
  rw[e2,this];grind⟩;rcases fK with hU|hV
 ·have:=du.len hU;lia
 ·have:=dv.len hV;lia
theorem Dm{f U V:Po}{r:Int}(hr:r≠0)(e:U*f+V*bE f=K r){x y:Re}(hx:at' x f=0)(hy:at' y f=0){VB TB:Rat}(h1:Re.ab (at' x V)<=q VB)(h2:Re.ab (at' y f-at' x f-(y-x)*at' x (bE f))<=q TB*(Re.ab (y-x)*Re.ab (y-x)))(hV:0<=VB)(hT:0<=TB)(h3:Re.ab (y-x)*q (VB*TB)<1):x=y:=by
 by_cases fK:y-x=0
 ·grind
 exfalso;have e1:at' x V*at' x (bE f)=((r:Int):Re):=by
  have:=congrArg (at' x) e;rw[iW,dW,dW,hx,C4] at this;rw[<-this];grind
 have e2:(1:Re)<=Re.ab ((r:Int):Re):=by
  rw[cH,Gg,<-oK,bY];unfold RR.ra;split
  ·rename_i c;have c2:r<0:=by
    have:((r:Int):Rat)<((0:Int):Rat):=c;exact Rat.intCast_lt_intCast.mp this
   have:((1:Int):Rat)<=((-r:Int):Rat):=Rat.intCast_le_intCast.mpr (by lia);rw[Rat.intCast_neg] at this;exact this
  ·rename_i c;have c2:¬r<0:=fun z=>c (by
    have:((r:Int):Rat)<((0:Int):Rat):=Rat.intCast_lt_intCast.mpr z
    exact this);exact Rat.intCast_le_intCast (a:=1).mpr (by lia)
 rw[<-e1,Re.cw] at e2;have nd:=Re.aM (at' x (bE f));have e3:=mul_le_mul h1 (Std.le_refl (a:=Re.ab (at' x (bE f)))) (bY (r:=0) (t:=VB) |>.mpr hV) nd;rw[hx,hy] at h2;have e4:(0:Re)-0-(y-x)*at' x (bE f)=-((y-x)*at' x (bE f)):=by grind
 rw[e4,Re.xE,Re.cw] at h2;have hp:0<Re.ab (y-x):=by
  have g:=Re.aM (y-x);rcases p_ (Re.ab (y-x)) 0 with g1|g1|g1
  ·grind
  ·exfalso;apply fK;unfold Re.ab at g1;split at g1<;>grind
  ·exact g1
 have e5:Re.ab (at' x (bE f))<=q TB*Re.ab (y-x):=by
  by_cases c:Re.ab (at' x (bE f))<=q TB*Re.ab (y-x)
  ·exact c
  ·exfalso;have c':0<Re.ab (at' x (bE f))-q TB*Re.ab (y-x):=by grind
   have:=mul_pos hp c';grind
 have e6:=mul_le_mul (Std.le_refl (a:=q VB)) e5 (bY (r:=0) (t:=VB) |>.mpr hV) nd;rw[eC] at h3;grind
end Po
end SF
namespace SF
open Lean.Grind
namespace Po
open Re
theorem dz{a:Rat}(h:1<=a):∀n:Nat,1<=a^n
 |0=>by rw[Rat.pow_zero];grind
 |n+1=>by
  have i:=dz h n;rw[Rat.pow_succ];have:=Rat.mul_le_mul_of_nonneg_left (c:=a^n) (show(1:Rat)<=a from h) (by grind);grind
theorem gz(a:Rat)(m:Nat):∀n:Nat,a^(m+n)=a^m*a^n
 |0=>by rw[Nat.add_zero,Rat.pow_zero];grind
 |n+1=>by rw[<-Nat.add_assoc,Rat.pow_succ,Rat.pow_succ,gz a m n];grind
theorem my(a:Rat)(m:Nat):∀n:Nat,a^(m*n)=(a^m)^n
 |0=>by rw[Nat.mul_zero,Rat.pow_zero,Rat.pow_zero]
 |n+1=>by rw[Nat.mul_succ,gz,Rat.pow_succ,my a m n]
theorem mB{a:Rat}(h:1<=a){m n:Nat}(hm:m<=n):a^m<=a^n:=by
 obtain⟨k,rfl⟩:=Nat.exists_eq_add_of_le hm;rw[gz];have h1:=dz h m;have h2:=dz h k;have:=Rat.mul_le_mul_of_nonneg_left (c:=a^m) h2 (by grind);grind
theorem oW{a b:Rat}(ha:0<=a)(h:a<=b):∀n:Nat,0<=a^n/\a^n<=b^n
 |0=>by rw[Rat.pow_zero,Rat.pow_zero];constructor<;>grind
 |n+1=>by
  obtain⟨i1,i2⟩:=oW ha h n;rw[Rat.pow_succ,Rat.pow_succ];exact⟨Rat.mul_nonneg i1 ha,RR.sF i2 h (by grind) ha⟩
theorem Dn{M ρ:Rat}(hM:0<=M)(kc:1<=ρ):∀n:Nat,va M ρ n<=M*(2*ρ)^n
 |0=>by show 0<=M*(2*ρ)^0;rw[Rat.pow_zero];grind
 |n+1=>by
  have i:=Dn hM kc n;show M+ρ*va M ρ n<=M*(2*ρ)^(n+1);have h1:=dz (a:=2*ρ) (by grind) n;rw[Rat.pow_succ];have g1:=Rat.mul_le_mul_of_nonneg_left (c:=ρ) i (by grind);have g2:1<=(2*ρ)^n*ρ:=by
   have:=RR.sF h1 kc (by grind) (by grind);grind
  have g3:=Rat.mul_le_mul_of_nonneg_left (c:=M) g2 hM;grind
theorem Ia{M ρ:Rat}(hM:0<=M)(kc:1<=ρ):∀n:Nat,xI M ρ n<=M*(4*ρ)^n
 |0=>by show 0<=M*(4*ρ)^0;rw[Rat.pow_zero];grind
 |n+1=>by
  have i:=Ia hM kc n;have j:=Dn hM kc n;show va M ρ n+ρ*xI M ρ n<=M*(4*ρ)^(n+1);have h1:=dz (a:=4*ρ) (by grind) n;have h2:=(oW (a:=2*ρ) (b:=4*ρ) (by grind) (by grind) n).2;rw[Rat.pow_succ];have g0:=Rat.mul_le_mul_of_nonneg_left (c:=M) h2 hM;have g1:=Rat.mul_le_mul_of_nonneg_left (c:=ρ) i (by grind);have g2:(4*ρ)^n<=(4*ρ)^n*ρ:=by
   have:=Rat.mul_le_mul_of_nonneg_left (c:=(4*ρ)^n) kc (by grind);grind
  have g3:=Rat.mul_le_mul_of_nonneg_left (c:=M) g2 hM;have g4:0<=M*((4*ρ)^n*ρ):=Rat.mul_nonneg hM (by grind);grind
theorem Ib{M ρ:Rat}(hM:0<=M)(kc:1<=ρ):∀n:Nat,B0 M ρ n<=M*(8*ρ)^n
 |0=>by show 0<=M*(8*ρ)^0;rw[Rat.pow_zero];grind
 |n+1=>by
  have i:=Ib hM kc n;have j:=Ia hM kc n;show ρ*B0 M ρ n+xI M ρ n<=M*(8*ρ)^(n+1);have h1:=dz (a:=8*ρ) (by grind) n;have h2:=(oW (a:=4*ρ) (b:=8*ρ) (by grind) (by grind) n).2;rw[Rat.pow_succ];have g0:=Rat.mul_le_mul_of_nonneg_left (c:=M) h2 hM;have g1:=Rat.mul_le_mul_of_nonneg_left (c:=ρ) i (by grind);have g2:(8*ρ)^n<=(8*ρ)^n*ρ:=by
   have:=Rat.mul_le_mul_of_nonneg_left (c:=(8*ρ)^n) kc (by grind);grind
  have g3:=Rat.mul_le_mul_of_nonneg_left (c:=M) g2 hM;have g4:0<=M*((8*ρ)^n*ρ):=Rat.mul_nonneg hM (by grind);grind
theorem Ic{b:Nat}{a:Int}(h:Bd b a):RR.ra (a:Rat)<=(2:Rat)^b:=by
 unfold Bd at h;have e:((2:Rat)^b)=(((2^b:Nat):Int):Rat):=by
  rw[Int.natCast_pow,Rat.intCast_pow];rfl
 rw[e,RR.HS];rw[<-Rat.intCast_neg];constructor
 ·exact Rat.intCast_le_intCast.mpr (by lia)
 ·exact Rat.intCast_le_intCast.mpr (by lia)
theorem sep{xs:List Int}(tx:Tr xs)(hn:2<=xs.length)(Xs:xs.length<=13)(bx:∀a∈xs,Bd 100 a)(hs:CW (ao xs) (ao xs)){x y:Re}(hx:at' x (ao xs)=0)(hy:at' y (ao xs)=0)(rx:Re.ab x<=q ((2:Rat)^110))(ry:Re.ab y<=q ((2:Rat)^110))(h:Re.ab (y-x)<=q (1/(2:Rat)^5500)):x=y:=by
 have lf:len (ao xs)=xs.length:=bq tx;have Ln:ao xs≠0:=cD (by lia);have lg:len (bE (ao xs))=xs.length-1:=by rw[zq,lf]
 have PL:bE (ao xs)≠0:=cD (by lia);have gc:=cY (xs:=xs) (ys:=cF xs) (.inl Ln);have g1:=xw tx hs;have o1:ao [1]=1:=Po.ext fun i=>by
  rw[bJ,qS];cases i with
  |zero=>rfl
  |succ i=>rfl
 rw[g1,o1,fh] at gc;obtain⟨bu,bv,ba,JY,NF⟩:=gc.bz;have Dp:bu*ao xs+bv*bE (ao xs)=K ba:=by rw[NF];grind
 have UN:∀i,Bd 100 (co xs i):=fun i=>by
  by_cases hi:i<xs.length
  ·rw[cy hi];exact bx _ (List.getElem_mem _)
  ·rw[cz (by lia)];show(0:Int).natAbs<2^100;decide
 have m1:∀i,ab ((ao xs).c i)<=((2^104:Nat):Int):=fun i=>by
  have:=UN i;unfold Bd at this;rw[bJ];unfold ab;have e:(2:Nat)^100<=2^104:=Nat.pow_le_pow_right (by decide) (by decide);lia
 have m2:∀i,ab ((bE (ao xs)).c i)<=((2^104:Nat):Int):=fun i=>by
  rw[<-fh,bJ];by_cases hi:i<xs.length-1
  ·have e0:co (cF xs) i=((i+1:Nat):Int)*co xs (i+1):=by rw[kS];rfl
   rw[e0];have h1:Bd 4 (((i+1:Nat):Int)):=Bd.of_two (by lia) (by lia);have:=h1.mul (UN (i+1));unfold Bd at this;unfold ab;lia
  ·rw[cz (by unfold cF;rw[aR];lia)];show(0:Int)<=_;lia
 obtain⟨U,V,r,hr,e,lV,bV⟩:=Be (M:=2^104) (A:=2*xs.length-3) Ln PL Dp JY m1 m2 (by rw[lf,lg];lia) (by lia);have hH:(2*(2*xs.length-3)*2^104+1)^(2*xs.length-3-1)<=2^2420:=by
  have a1:2*(2*xs.length-3)*2^104+1<=2^110:=by lia
  have a2:=Nat.pow_le_pow_left a1 (2*xs.length-3-1);have a3:(2^110)^(2*xs.length-3-1)<=(2^110)^22:=Nat.pow_le_pow_right (by decide) (by lia);have a4:((2:Nat)^110)^22=2^2420:=by rw[<-Nat.pow_mul]
  lia
 have Xt:∀a∈lst V,Bd 2421 a:=fun a ha=>by
  obtain⟨i,hi,ea⟩:=List.getElem_of_mem ha;have:=bV i;rw[<-jt,cy hi,ea] at this;unfold ab at this;unfold Bd;have e2:(2:Nat)^2420<2^2421:=Nat.pow_lt_pow_right (by decide) (by decide);lia
 have UO:(1:Rat)<=2^110:=dz (by grind) _;obtain⟨v1,v2⟩:=xJ (M:=(2:Rat)^2421) (ρ:=2^110) (by grind) rx (lst V) fun a ha=>Ic (Xt a ha);obtain⟨t1,t2⟩:=Dl (M:=(2:Rat)^100) (ρ:=2^110) (by grind) rx ry xs fun a ha=>Ic (bx a ha);rw[dE] at v1;refine Dm hr e hx hy v1 t1 v2 t2 ?_;have Xu:(lst V).length<=13:=by
  have:(lst V).length=len V:=rfl;lia
 have b1:va ((2:Rat)^2421) (2^110) (lst V).length<=2^2421*(2*2^110)^13:=by
  have:=Dn (M:=(2:Rat)^2421) (ρ:=2^110) (Rat.le_of_lt (Rat.pow_pos (by grind))) UO (lst V).length;have g:=mB (a:=2*(2:Rat)^110) (by grind) Xu;have g2:=Rat.mul_le_mul_of_nonneg_left (c:=(2:Rat)^2421) g (Rat.le_of_lt (Rat.pow_pos (by grind)));grind
 have b2:B0 ((2:Rat)^100) (2^110) xs.length<=2^100*(8*2^110)^13:=by
  have:=Ib (M:=(2:Rat)^100) (ρ:=2^110) (Rat.le_of_lt (Rat.pow_pos (by grind))) UO xs.length;have g:=mB (a:=8*(2:Rat)^110) (by grind) Xs;have g2:=Rat.mul_le_mul_of_nonneg_left (c:=(2:Rat)^100) g (Rat.le_of_lt (Rat.pow_pos (by grind)));grind
 have c1:(2:Rat)*2^110=2^111:=by rw[Rat.pow_succ];grind
 have c2:(8:Rat)*2^110=2^113:=by rw[Rat.pow_succ,Rat.pow_succ,Rat.pow_succ];grind
 rw[c1,<-my,<-gz] at b1;rw[c2,<-my,<-gz] at b2;have b3:=RR.sF b1 b2 (Rat.le_of_lt (Rat.pow_pos (by grind))) t2;rw[<-gz] at b3;have b4:va ((2:Rat)^2421) (2^110) (lst V).length*B0 ((2:Rat)^100) (2^110) xs.length<2^5500:=by
  have g:(2:Rat)^(2421+111*13+(100+113*13))<=2^5499:=mB (by grind) (by decide);have g2:(2:Rat)^5500=2^5499*2:=Rat.pow_succ ..;have g3:(0:Rat)<2^5499:=Rat.pow_pos (by grind);grind
 generalize va ((2:Rat)^2421) (2^110) (lst V).length*B0 ((2:Rat)^100) (2^110) xs.length=W at b4 b3 ⊢;have p0:(0:Rat)<2^5500:=Rat.pow_pos (by grind);generalize (2:Rat)^5500=Z at b4 p0 h ⊢;by_cases hW:0<=W
 ·have f1:=mul_le_mul h (Std.le_refl (a:=q W)) (bY (r:=0) (t:=1/Z) |>.mpr (Rat.le_of_lt (RR.xD (by grind) p0))) (bY (r:=0) (t:=W) |>.mpr hW);have f2:q (1/Z)*q W<1:=by
   rw[<-eC,<-oK,cR,Rat.div_def,Rat.one_mul];have:=(Rat.mul_lt_mul_left (Rat.inv_pos.mpr p0)).mpr b4;rw[Rat.inv_mul_cancel _ (by grind)] at this;exact this
  grind
 ·have f1:q W<=0:=bY (r:=W) (t:=0) |>.mpr (by grind);have f2:0<=Re.ab (y-x)*(-q W):=mul_nonneg (Re.aM _) (by grind);grind
end Po
end SF
namespace SF
open Lean.Grind
namespace Po
open Re
theorem Kw(t u:Int):hv t u []=0:=by simp[hv,aF]
theorem zP(t u:Int):∀xs:List Int,xs≠[]->∃w,hv t u xs=co xs (xs.length-1)*t^(xs.length-1)+u*w
 |[],h=>absurd rfl h
 |[x],_=>⟨0,by
  rw[r_,Kw]
  show 0*t+x*u^0=x*t^0+u*0
  rw[Int.pow_zero,Int.pow_zero];lia⟩
 |x::y::r,_=>by
  obtain⟨w,e⟩:=zP t u (y::r) (by simp);refine⟨w*t+x*u^r.length,?_⟩;rw[r_,e];have e1:(y::r).length-1=r.length:=by simp
  have e2:(x::y::r).length-1=r.length+1:=by simp
  have e3:co (x::y::r) (r.length+1)=co (y::r) r.length:=rfl;have e4:(y::r).length=r.length+1:=by simp
  rw[e1,e2,e3,e4,Int.pow_succ,Int.pow_succ];generalize co (y::r) r.length=l;generalize t^r.length=a;generalize u^r.length=b;grind
theorem jX{a b c:Int}(d:a∣b*c)(h:Int.gcd a b=1):a∣c:=by
 have d1:a.natAbs∣b.natAbs*c.natAbs:=by rw[<-Int.natAbs_mul];exact Int.natAbs_dvd_natAbs.mpr d
 have hc:Nat.Coprime a.natAbs b.natAbs:=h;exact Int.natAbs_dvd_natAbs.mp (hc.dvd_of_dvd_mul_left d1)
theorem zQ{u t:Int}(h:Int.gcd u t=1){l:Int}:∀k:Nat,u∣l*t^k->u∣l
 |0,d=>by rw[Int.pow_zero,Int.mul_one] at d;exact d
 |k+1,d=>by
  rw[Int.pow_succ,<-Int.mul_assoc] at d;exact zQ h k (jX (by rw[Int.mul_comm] at d;exact d) h)
theorem zR{xs:List Int}(hx:xs≠[]){t u o:Int}(hg:Int.gcd t u=1)(ho:o∣u)(hn:¬o∣co xs (xs.length-1)):hv t u xs≠0:=fun z=>by
 obtain⟨w,e⟩:=zP t u xs hx;rw[z] at e;have d:u∣co xs (xs.length-1)*t^(xs.length-1):=⟨-w,by rw[Int.mul_neg];lia⟩;exact hn (Int.dvd_trans ho (zQ (by rw[Int.gcd_comm];exact hg) _ d))
noncomputable def Pt(o:Int)(k:Nat)(m t u:Int):Prop:=t*(o*2^k)=(2^k+o*m)*u
theorem m8{o:Int}(h:Int.gcd o 2=1):∀k:Nat,Int.gcd o (2^k)=1
 |0=>by rw[Int.pow_zero];exact Int.gcd_one_right _
 |k+1=>by
  have i:=m8 h k;rw[Int.pow_succ];rw[Int.gcd_eq_one_iff] at*
  ·intro c EY qh;have g:Int.gcd c 2=1:=by
    have:(Int.gcd c 2:Int)∣1:=h _ (Int.dvd_trans (Int.gcd_dvd_left ..) EY) (Int.gcd_dvd_right ..);have h2:=Int.le_of_dvd (by decide) this;have h3:0<Int.gcd c 2:=Int.gcd_pos_of_ne_zero_right _ (by decide);lia
   exact i c EY (jX (by rw[Int.mul_comm] at qh;exact qh) g)
theorem Pt.odd{o:Int}{k:Nat}{m t u:Int}(h:Pt o k m t u)(ho:Int.gcd o 2=1):o∣u:=by
 have d:o∣(2^k+o*m)*u:=⟨t*2^k,by rw[<-h];grind⟩;have g:Int.gcd o (2^k+o*m)=1:=by
  rw[Int.gcd_comm,Int.add_comm,Int.gcd_mul_left_add_left,Int.gcd_comm];exact m8 ho k
 exact jX d g
theorem Pt.up{o:Int}{k:Nat}{m t u:Int}(h:Pt o k m t u):Pt o (k+1) (2*m) t u:=by
 unfold Pt at*;rw[Int.pow_succ];generalize (2:Int)^k=z at*;grind
theorem Pt.mid{o:Int}{k:Nat}{m t u m' t' u' c d:Int}(h:Pt o k m t u)(h':Pt o k m' t' u')(hu:0<u)(eD:0<u')(e:c*(2*u*u')=(t*u'+t'*u)*d):Pt o (k+1) (m+m') c d:=by
 unfold Pt at*;rw[Int.pow_succ];generalize (2:Int)^k=z at*;have hp:=Int.mul_pos hu eD;refine Int.eq_of_mul_eq_mul_right (Int.ne_of_gt hp) ?_;grind
theorem Pt.bits{o:Int}{k:Nat}{m t u b:Int}(h:Pt o k m t u)(ho:0<o)(hu:0<u)(hg:Int.gcd t u=1)(bo:Bd 102 o)(bb:0<b/\b<=2^102)(h1:-(b*2^k)<=m)(h2:m<=b*2^k):Bd (k+210) t/\Bd (k+210) u:=by
 have hz:(0:Int)<2^k:=Int.pow_pos (by decide);have Xv:0<o*2^k:=Int.mul_pos ho hz;have d:u∣o*2^k:=by
  have:u∣t*(o*2^k):=⟨2^k+o*m,by rw[show t*(o*2^k)=_ from h];grind⟩;exact jX this (by rw[Int.gcd_comm];exact hg)
 have hle:=Int.le_of_dvd Xv d;have bz:Bd (k+1) ((2:Int)^k):=by
  unfold Bd;rw[Int.natAbs_pow];exact Nat.pow_lt_pow_right (by decide) (by lia)
 have Xw:=bo.mul bz;have bu:Bd (k+103) u:=by
  unfold Bd at*;have e:102+(k+1)=k+103:=by lia
  rw[e] at Xw;lia
 refine⟨?_,bu.mono (by lia)⟩;have bm:Bd (k+105) m:=by
  have b3:Bd 103 b:=by unfold Bd;lia
  have:=b3.mul bz;unfold Bd at*;have e:103+(k+1)=k+104:=by lia
  rw[e] at this;have e2:(2:Nat)^(k+105)=2^(k+104)*2:=Nat.pow_succ ..;lia
 have bom:=bo.mul bm;have bs:Bd (k+209) (2^k+o*m):=((bz.mono (n:=k+207) (by lia)).add (bom.mono (n:=k+207) (by lia))).mono (by lia);have key:t.natAbs<=(2^k+o*m).natAbs:=by
  have e:t.natAbs*(o*2^k).natAbs=(2^k+o*m).natAbs*u.natAbs:=by rw[<-Int.natAbs_mul,<-Int.natAbs_mul,show t*(o*2^k)=_ from h]
  have h3:u.natAbs<=(o*2^k).natAbs:=by lia
  have h4:(2^k+o*m).natAbs*u.natAbs<=(2^k+o*m).natAbs*(o*2^k).natAbs:=Nat.mul_le_mul_left _ h3;have h5:t.natAbs*(o*2^k).natAbs<=(2^k+o*m).natAbs*(o*2^k).natAbs:=Nat.le_trans (Nat.le_of_eq e) h4;exact Nat.le_of_mul_le_mul_right h5 (by lia)
 unfold Bd at*;have e2:(2:Nat)^(k+210)=2^(k+209)*2:=Nat.pow_succ ..;lia
theorem Pt.val{o:Int}{k:Nat}{m t u:Int}(h:Pt o k m t u)(ho:0<o)(hu:0<u):(t:Rat)/(u:Rat)=1/(o:Rat)+(m:Rat)/2^k:=by
 have B9:(o:Rat)≠0:=fun z=>by
  have:=Rat.intCast_inj.mp (show(o:Rat)=((0:Int):Rat) from z);lia
 have eD:(u:Rat)≠0:=fun z=>by
  have:=Rat.intCast_inj.mp (show(u:Rat)=((0:Int):Rat) from z);lia
 have hz:(2:Rat)^k≠0:=fun z=>by
  have:(0:Rat)<2^k:=Rat.pow_pos (by grind);grind
 have e:(t:Rat)*((o:Rat)*2^k)=(2^k+(o:Rat)*(m:Rat))*(u:Rat):=by
  have:=congrArg (fun z:Int=>(z:Rat)) h;simp only[Rat.intCast_mul,Rat.intCast_add,Rat.intCast_pow] at this;exact this
 generalize (2:Rat)^k=z at*;generalize (o:Rat)=o' at*;generalize (u:Rat)=u' at*;generalize (t:Rat)=t' at*;generalize (m:Rat)=m' at*;grind
theorem oX:∀(l:List Int)(b:Int),b=1\/b=-1->(∀x∈l,x=0\/x=1\/x=-1)->(-1)^cg b l=b*l.foldl (fun b s=>if s≠0 then s else b) b
 |[],b,hb,_=>by
  show(-1:Int)^0=b*b;rcases hb with rfl|rfl<;>rfl
 |x::r,b,hb,h=>by
  have hx:=h x List.mem_cons_self;have hr:=fun y hy=>h y (List.mem_cons_of_mem _ hy);show(-1:Int)^((if x*b<0 then 1 else 0)+cg (if x≠0 then x else b) r)=b*r.foldl (fun b s=>if s≠0 then s else b) (if x≠0 then x else b);rcases hx with rfl|hx
  ·rw[if_neg (by lia),if_neg (by lia),Nat.zero_add];exact oX r b hb hr
  ·have Ie:x≠0:=by lia
   rw[if_pos Ie,Int.pow_add];rw[oX r x hx hr];have:(-1:Int)^(if x*b<0 then 1 else 0)=b*x:=by
    rcases hb with rfl|rfl<;>rcases hx with rfl|rfl<;>rfl
   rw[this];have:x*x=1:=by rcases hx with rfl|rfl<;>rfl
   generalize List.foldl _ x r=z;grind
theorem Bf{l:List Int}{s:Int}(hs:s≠0)(b:Int):(l++[s]).foldl (fun b s=>if s≠0 then s else b) b=s:=by
 rw[List.foldl_append];show(if s≠0 then s else _)=s;rw[if_pos hs]
theorem zS(x:Re):aP x=0\/aP x=1\/aP x=-1:=by
 rcases aO x with z|z|z
 ·exact .inr (.inr z.2)
 ·exact .inl z.2
 ·exact .inr (.inl z.2)
theorem vb{x:Re}:∀{ps:List Po}{l:Po},A' x (ps++[l])->at' x l≠0
 |[],l,h=>h
 |[a],l,h=>h
 |a::b::[],l,h=>h.2
 |a::b::c::r,l,h=>vb (ps:=b::c::r) h.2
theorem Gh{p0 l:Po}{r:List Po}(hc:∀x:Re,A' x (p0::(r++[l]))){a b:Rat}(ji:a<=b)(ha:at' (q a) p0≠0)(hb:at' (q b) p0≠0):
 aP (at' (q a) p0)*aP (at' (q b) p0)=(-1)^cg 0 (eW (q a) (p0::(r++[l])))*(-1)^cg 0 (eW (q b) (p0::(r++[l]))):=by
 have hl:∀x:Re,at' x l≠0:=fun x=>vb (ps:=p0::r) (hc x);have zT:aP (at' (q a) l)=aP (at' (q b) l):=by
  refine iC (φ:=fun t=>aP (at' (q t) l)) (fun x=>?_) ji;obtain⟨d,hd,h⟩:=gP (hl x);exact⟨d,hd,fun s t hs ht=>by rw[h _ hs,h _ ht]⟩
 have key:∀c:Rat,at' (q c) p0≠0->(-1)^cg 0 (eW (q c) (p0::(r++[l])))=aP (at' (q c) p0)*aP (at' (q c) l):=fun c BY=>by
  have h1:=mn BY;have e:eW (q c) (p0::(r++[l]))=aP (at' (q c) p0)::(eW (q c) r++[aP (at' (q c) l)]):=by
   unfold eW;rw[List.map_cons,List.map_append];rfl
  rw[e];have e2:cg 0 (aP (at' (q c) p0)::(eW (q c) r++[aP (at' (q c) l)]))=cg (aP (at' (q c) p0)) (eW (q c) r++[aP (at' (q c) l)]):=by
   show(if aP (at' (q c) p0)*0<0 then 1 else 0)+cg (if aP (at' (q c) p0)≠0 then aP (at' (q c) p0) else 0) _=_;rw[if_neg (by lia),if_pos (fun z=>BY (bH z))];lia
  rw[e2,oX _ _ (h1.symm) (fun x hx=>?_),Bf (fun z=>hl _ (bH z))];rcases List.mem_append.mp hx with z|z
  ·obtain⟨y,_,rfl⟩:=List.mem_map.mp z;exact zS _
  ·rw[List.mem_singleton.mp z];exact zS _
 rw[key a ha,key b hb,zT];have:=mn (hl (q b));have h2:aP (at' (q b) l)*aP (at' (q b) l)=1:=by rcases this with z|z<;>rw[z]<;>rfl
 generalize aP (at' (q b) l)=z at*;grind
end Po
end SF
namespace SF
open Lean.Grind
namespace Po
open Re
theorem Dq{x:Re}{L r:Rat}(hL:0<L)(hr:0<r)(hx:q (2*r)<=Re.ab x){e:Int}(he:RR.ra (e:Rat)=L):∀l:List Int,(∀k,k<l.length->RR.ra ((co l (l.length-1-k):Int):Rat)<=L*r^(k+1))->q (L*r^l.length)<=Re.ab (at' x (ao (l++[e])))
 |[],_=>by
  show q (L*r^0)<=Re.ab (at' x (ao [e]));have e1:at' x (ao [e])=(e:Re):=by rw[fi,dF,iX];grind
  have e2:L*r^0=L:=by rw[Rat.pow_zero];grind
  rw[e1,cH,Gg,he,e2];exact Re.bY.mpr Rat.le_refl
 |a::l,h=>by
  have ih:=Dq hL hr hx he l fun k hk=>by
   have:=h k (by rw[List.length_cons];lia);have e1:(a::l).length-1-k=(l.length-1-k)+1:=by rw[List.length_cons];lia
   rw[e1] at this;exact this
  have ha:=h l.length (by rw[List.length_cons];lia);have e0:(a::l).length-1-l.length=0:=by rw[List.length_cons];lia
  rw[e0] at ha;have ZS:Re.ab (a:Re)<=q (L*r^(l.length+1)):=by
   rw[cH,Gg];exact Re.bY.mpr ha
  show q (L*r^(l.length+1))<=Re.ab (at' x (ao (a::(l++[e]))));rw[fi];generalize at' x (ao (l++[e]))=A at ih ⊢;have hp:0<=L*r^l.length:=Rat.le_of_lt (Rat.mul_pos hL (Rat.pow_pos hr));have sD:0<=2*r:=by grind
  have m1:q (2*r)*q (L*r^l.length)<=Re.ab x*Re.ab A:=Re.mul_le_mul hx ih (Re.aM x) (by rw[<-Re.eE];exact Re.bY.mpr hp);rw[<-Re.eC,<-Re.cw] at m1;have e3:2*r*(L*r^l.length)=L*r^(l.length+1)+L*r^(l.length+1):=by rw[Rat.pow_succ];grind
  rw[e3,Re.ke] at m1;have m2:=Re.gy ((a:Re)+x*A) (-(a:Re));rw[Re.xE] at m2;have e4:(a:Re)+x*A+-(a:Re)=x*A:=by grind
  rw[e4] at m2;grind
theorem Kx{xs:List Int}(hn:xs≠[]){r:Int}(hr:0<r)(hl:co xs (xs.length-1)≠0)(W:∀k,k<xs.length-1->ab (co xs (xs.length-2-k))<=ab (co xs (xs.length-1))*r^(k+1)){x:Re}(hx:q (2*(r:Rat))<=Re.ab x):at' x (ao xs)≠0:=by
 have Ih:∀a:Int,RR.ra (a:Rat)=((ab a:Int):Rat):=fun a=>by
  unfold RR.ra ab;split
  ·rename_i h;have h2:a<0:=Rat.intCast_lt_intCast.mp h;have e:((a.natAbs:Nat):Int)=-a:=by lia
   rw[e,Rat.intCast_neg]
  ·rename_i h;have h2:¬a<0:=fun z=>h (Rat.intCast_lt_intCast.mpr z);have e:((a.natAbs:Nat):Int)=a:=by lia
   rw[e]
 have Fw:(0:Rat)<(r:Rat):=Rat.intCast_pos.mpr hr;have gL:=List.length_pos_iff.mpr hn;have R_:xs=xs.dropLast++[co xs (xs.length-1)]:=by
  have h1:=(List.dropLast_concat_getLast hn).symm;have h2:xs.getLast hn=co xs (xs.length-1):=by
   rw[List.getLast_eq_getElem,<-cy]
  rw[h2] at h1;exact h1
 have Xx:xs.dropLast.length=xs.length-1:=List.length_dropLast;have hL:(0:Rat)<((ab (co xs (xs.length-1)):Int):Rat):=Rat.intCast_pos.mpr (fW hl);have key:=Dq (x:=x) hL Fw hx (e:=co xs (xs.length-1)) (Ih _) xs.dropLast fun k hk=>by
  rw[Xx] at hk ⊢;have hi:xs.length-1-1-k<xs.length-1:=by lia
  have e1:co xs.dropLast (xs.length-1-1-k)=co xs (xs.length-2-k):=by
   have e2:xs.length-1-1-k=xs.length-2-k:=by lia
   rw[e2];have h3:xs.length-2-k<xs.dropLast.length:=by lia
   rw[cy h3,cy (by lia),List.getElem_dropLast]
  rw[e1,Ih];have:=Rat.intCast_le_intCast.mpr (W k hk);rw[Rat.intCast_mul,Rat.intCast_pow] at this;exact this
 rw[<-R_] at key;intro z;rw[z] at key;have h0:Re.ab (0:Re)=0:=by unfold Re.ab;rw[if_neg (by grind)]
 rw[h0,<-Re.eE] at key;have h2:=Re.bY.mp key;have h3:(0:Rat)<((ab (co xs (xs.length-1)):Int):Rat)*(r:Rat)^xs.dropLast.length:=Rat.mul_pos hL (Rat.pow_pos Fw);grind
theorem Xy{z:Rat}(h:0<z):aP (q z)=1:=bA (by rw[<-Re.eE];exact Re.cR.mpr h)
theorem sJ(a b:Rat):q (a-b)=q a-q b:=by
 have e:a-b=a+-b:=by grind
 rw[e,Re.ke,Re.ll];grind
theorem Ky{z n:Rat}(h1:1<=n)(h:n+1<=z\/z<=-(n+1)):n<z*z:=by
 rcases h with h|h
 ·have:=Rat.mul_le_mul_of_nonneg_left h (show(0:Rat)<=z by grind);have:=Rat.mul_le_mul_of_nonneg_left (show 1<=z by grind) (show(0:Rat)<=n+1 by grind);grind
 ·have:=Rat.mul_le_mul_of_nonneg_left (show n+1<=-z by grind) (show(0:Rat)<=-z by grind);have:=Rat.mul_le_mul_of_nonneg_left (show 1<=-z by grind) (show(0:Rat)<=n+1 by grind);grind
end Po
theorem oY{t u t' u':Int}(hu:0<u)(eD:0<u')(g:Int.gcd t u=1)(g':Int.gcd t' u'=1)(e:t*u'=t'*u):t=t'/\u=u':=by
 have d1:u∣u':=Po.jX (b:=t) ⟨t',by rw[e];grind⟩ (by rw[Int.gcd_comm];exact g);have d2:u'∣u:=Po.jX (b:=t') ⟨t,by rw[<-e];grind⟩ (by rw[Int.gcd_comm];exact g');have ed:u=u':=Int.le_antisymm (Int.le_of_dvd eD d1) (Int.le_of_dvd hu d2);subst ed;exact⟨Int.eq_of_mul_eq_mul_right (Int.ne_of_gt hu) e,rfl⟩
noncomputable abbrev Q4:=Int×Int×Int×Int
noncomputable def vc(t u t' u':Int):Int:=rt (t*u'+t'*u) (2*u*u')
noncomputable def sL(t u t' u':Int):Int:=ru (t*u'+t'*u) (2*u*u')
theorem Kz{t u t' u':Int}(hu:0<u)(eD:0<u'):0<sL t u t' u'/\Int.gcd (vc t u t' u') (sL t u t' u')=1/\vc t u t' u'*(2*u*u')=(t*u'+t'*u)*sL t u t' u':=by
 have hb:2*u*u'≠0:=Int.ne_of_gt (Int.mul_pos (by lia) eD);exact⟨CA hb,HG hb,zi hb⟩
theorem Dr{t u t' u' c d:Int}(hu:0<u)(eD:0<u')(hd:0<d)(hg:Int.gcd c d=1)(e:c*(2*u*u')=(t*u'+t'*u)*d):c=vc t u t' u'/\d=sL t u t' u':=by
 obtain⟨h1,h2,h3⟩:=Kz (t:=t) (t':=t') hu eD;refine oY hd h1 hg h2 ?_;have hb:2*u*u'≠0:=Int.ne_of_gt (Int.mul_pos (by lia) eD);generalize 2*u*u'=b at*;generalize t*u'+t'*u=a at*;generalize vc t u t' u'=c' at*;generalize sL t u t' u'=d' at*;refine Int.eq_of_mul_eq_mul_right hb ?_;have:c*d'*b=c*b*d':=by grind
 rw[this,e];have:c'*d*b=c'*b*d:=by grind
 rw[this,h3];grind
noncomputable def km(δ:Int->Int->Int->Int->Int):Nat->Int->Int->Int->Int->List Q4
 |0,_,_,_,_=>[]
 |n+1,t,u,t',u'=>
  if δ t u t' u'=1 then[(t,u,t',u')]
  else if 1<δ t u t' u' then km δ n t u (vc t u t' u') (sL t u t' u')++km δ n (vc t u t' u') (sL t u t' u') t' u'
  else[]
theorem Ds{δ:Int->Int->Int->Int->Int}{n:Nat}{t u t' u':Int}(h:δ t u t' u'=1):km δ (n+1) t u t' u'=[(t,u,t',u')]:=if_pos h
theorem Dt{δ:Int->Int->Int->Int->Int}{n:Nat}{t u t' u':Int}(h:1<δ t u t' u'):km δ (n+1) t u t' u'=km δ n t u (vc t u t' u') (sL t u t' u')++km δ n (vc t u t' u') (sL t u t' u') t' u':=
 (if_neg (by lia)).trans (if_pos h)
theorem Gi{δ:Int->Int->Int->Int->Int}{n:Nat}{t u t' u':Int}(h:¬δ t u t' u'=1)(h2:¬1<δ t u t' u'):km δ (n+1) t u t' u'=[]:=(if_neg h).trans (if_neg h2)
end SF
namespace SF
open Lean.Grind
namespace Po
open Re
open Classical in
noncomputable def nR:List Re->Rat->Int
 |[],_=>0
 |x::r,t=>(if x<=q t then 1 else 0)+nR r t
open Classical in
theorem Ii(x:Re):∀{rs:List Re},rs.Nodup->∃d:Rat,0<d/\∃n0:Int,∀t:Rat,Re.ab (q t-x)<q d->nR rs t=n0+(if x∈rs/\x<=q t then 1 else 0)
 |[],_=>⟨1,by decide,0,fun t _=>by
  rw[if_neg (fun z=>nomatch z.1)];rfl⟩
 |y::r,nd=>by
  rw[List.nodup_cons] at nd;obtain⟨d,hd,n0,h⟩:=Ii x nd.2;by_cases e:y=x
  ·subst e;refine⟨d,hd,n0,fun t ht=>?_⟩;show(if y<=q t then 1 else 0)+nR r t=_;rw[h t ht,if_neg (c:=y∈r/\y<=q t) (fun z=>nd.1 z.1)];by_cases c:y<=q t
   ·rw[if_pos c,if_pos ⟨List.mem_cons_self,c⟩];lia
   ·rw[if_neg c,if_neg (fun z=>c z.2)];lia
  ·have hp:0<Re.ab (x-y):=by
    have:x-y≠0:=fun z=>e (by grind);unfold Re.ab;rcases aO (x-y) with w|w|w
    ·rw[if_pos w.1];grind
    ·exact absurd w.1 this
    ·rw[if_neg (by grind)];exact w.1
   obtain⟨e1,RZ,UD⟩:=Re.small hp;obtain⟨m,hm,m1,m2⟩:=gQ hd RZ;refine⟨m,hm,n0+(if y<=x then 1 else 0),fun t ht=>?_⟩;show(if y<=q t then 1 else 0)+nR r t=_;have k:(y<=q t)↔(y<=x):=by
    have g1:=bK.mp ht;have g2:q m<Re.ab (x-y):=by grind
    unfold Re.ab at g2;split at g2<;>constructor<;>intro h<;>grind
   have k2:(x∈y::r/\x<=q t)↔(x∈r/\x<=q t):=by
    rw[List.mem_cons];constructor
    ·rintro⟨z|z,z2⟩
     ·exact absurd z.symm e
     ·exact⟨z,z2⟩
    ·rintro⟨z,z2⟩;exact⟨.inr z,z2⟩
   rw[h t (by grind)];simp only[k,k2];lia
open Classical in
theorem Gj{f:Po}{rs:List Re}(nd:rs.Nodup)(hr:∀x,at' x f=0↔x∈rs)(x:Re):∃d:Rat,0<d/\∃n0:Int,∀t:Rat,Re.ab (q t-x)<q d->nR rs t=n0+(if at' x f=0/\x<=q t then 1 else 0):=by
 obtain⟨d,hd,n0,h⟩:=Ii x nd;refine⟨d,hd,n0,fun t ht=>?_⟩;rw[h t ht];simp only[hr]
theorem sM{f:Po}{a b:Rat}(ji:a<=b)(h:aP (at' (q a) f)≠aP (at' (q b) f)):∃x:Re,at' x f=0:=by
 by_cases ex:∃x:Re,at' x f=0
 ·exact ex
 ·exfalso;refine h (iC (φ:=fun t=>aP (at' (q t) f)) (fun x=>?_) ji);obtain⟨d,hd,hn⟩:=gP (x:=x) (f:=f) (fun z=>ex ⟨x,z⟩);exact⟨d,hd,fun s t hs ht=>by rw[hn _ hs,hn _ ht]⟩
theorem zU{m:Int}(hm:0<m):∃s:Re,0<s/\s*s=(m:Re):=by
 have ev:∀x:Re,at' x (ao [0-m,0,1])=x*x-(m:Re):=fun x=>by
  rw[LB,gR,c0,c1];grind
 have NG:(1:Rat)<=(m:Rat):=by
  have:((1:Int):Rat)<=(m:Rat):=Rat.intCast_le_intCast.mpr (by lia);exact this
 have Lx:=bX hm;have v0:aP (at' (q 0) (ao [0-m,0,1]))=-1:=by
  rw[ev,Re.eE];exact bQ (by grind)
 have v1:aP (at' (q ((m:Rat)+1)) (ao [0-m,0,1]))=1:=by
  have e:at' (q ((m:Rat)+1)) (ao [0-m,0,1])=q (((m:Rat)+1)*((m:Rat)+1)-(m:Rat)):=by rw[ev,sJ,Re.eC,cH]
  rw[e];exact Xy (by have:=Ky (z:=(m:Rat)+1) NG (.inl Rat.le_refl);grind)
 obtain⟨x,hx⟩:=sM (f:=ao [0-m,0,1]) (a:=0) (b:=(m:Rat)+1) (by grind) (by rw[v0,v1];decide);rw[ev] at hx;have Bg:x*x=(m:Re):=by grind
 rcases aO x with w|w|w
 ·exact⟨-x,by grind,by grind⟩
 ·exfalso;rw[w.1] at Bg;grind
 ·exact⟨x,w.1,Bg⟩
end Po
end SF
namespace SF
open Lean.Grind
namespace Po
open Re
noncomputable def mC(m:Int):Prop:=0<m/\∀k:Int,k*k≠m
theorem NH{m n:Int}(hn:0<=n)(h1:n*n<m)(h2:m<(n+1)*(n+1)):mC m:=by
 refine⟨Int.lt_of_le_of_lt (Int.mul_nonneg hn hn) h1,fun k e=>?_⟩;have e2:((k.natAbs:Nat):Int)*((k.natAbs:Nat):Int)=m:=by rw[<-e];exact Int.natAbs_mul_self
 have h0:0<=((k.natAbs:Nat):Int):=Int.natCast_nonneg _;generalize ((k.natAbs:Nat):Int)=j at*;rcases Int.lt_or_le n j with z|z
 ·have:=Int.mul_le_mul (show n+1<=j from z) (show n+1<=j from z) (by lia) h0;lia
 ·have:=Int.mul_le_mul z z h0 hn;lia
noncomputable def qd(p m d:Int):List Int:=[p*p-m,0-2*p*d,d*d]
theorem Ij(x:Re)(p m d:Int):at' x (ao (qd p m d))=(x*(d:Re)-(p:Re))*(x*(d:Re)-(p:Re))-(m:Re):=by
 unfold qd;rw[LB,gR,gR,Ring.intCast_mul,Ring.intCast_mul,Ring.intCast_mul,Ring.intCast_mul,c0,c2];grind
theorem fj{p m d:Int}(hd:0<d):Tr (qd p m d):=jW (xs:=[p*p-m,0-2*p*d]) (Int.ne_of_gt (Int.mul_pos hd hd))
theorem iF(p m d:Int):qd p m d≠[]:=by unfold qd;simp
theorem Du{p m d:Int}(hm:mC m)(r:Rat):at' (q r) (ao (qd p m d))≠0:=fun z=>by
 have e0:at' (q r) (ao (qd p m d))=q ((r*(d:Rat)-(p:Rat))*(r*(d:Rat)-(p:Rat))-(m:Rat)):=by
  rw[Ij,cH,cH,cH,sJ,Re.eC,sJ,Re.eC]
 rw[e0,<-Re.eE] at z;have z2:=kg z;obtain⟨k,hk⟩:=De (s:=r*(d:Rat)-(p:Rat)) (n:=m) (by grind);exact hm.2 k hk
theorem zV{xs:List Int}(h:Tr xs)(x:Re):at' x (ao xs)=((cont xs:Int):Re)*at' x (ao (aC xs)):=by
 rw[<-gO];congr 1;refine ext fun i=>?_;rw[bC,bJ,bJ];by_cases hi:i<xs.length
 ·rw[<-iz hi];exact Int.mul_comm _ _
 ·rw[cz (by lia),cz (by rw[aY];lia)];lia
theorem Dw{xs:List Int}(h:Tr xs)(hn:xs≠[])(hl:0<co xs (xs.length-1)):0<cont xs:=by
 have hp:=List.length_pos_iff.mpr hn;have h1:=iS h hn;have h2:=iz (xs:=xs) (i:=xs.length-1) (by lia);rw[<-h2] at hl;exact Int.pos_of_mul_pos_right hl h1
section
variable {p m d:Int}
theorem sN(hd:0<d):0<cont (qd p m d):=Dw (fj hd) (iF _ _ _) (Int.mul_pos hd hd)
theorem Gk(hd:0<d)(x:Re):at' x (ao (aC (qd p m d)))=0↔at' x (ao (qd p m d))=0:=by
 rw[zV (fj hd)];have hc:=bX (sN (p:=p) (m:=m) hd);constructor
 ·intro z;rw[z];grind
 ·intro z;by_cases w:at' x (ao (aC (qd p m d)))=0
  ·exact w
  ·exact absurd z (Re.bT (by grind) w)
theorem KA(hd:0<d)(x:Re):aP (at' x (ao (aC (qd p m d))))=aP (at' x (ao (qd p m d))):=by
 rw[zV (fj hd),dH,bA (bX (sN hd))];lia
theorem Dx(hd:0<d)(hm:mC m):Fk (ao (aC (qd p m d))):=by
 have ht:=cA (fj (p:=p) (m:=m) hd);refine⟨zL (.inl ?_) fun r z=>?_,di (fj hd) (iF _ _ _),fD (fj hd) (iF _ _ _)⟩
 ·rw[bq ht,aY];rfl
 ·exact Du hm r ((Gk hd _).mp z)
theorem Ik(hd:0<d)(hm:mC m):iL (qd p m d)=aC (qd p m d):=by
 refine gN (xv _) (cA (fj hd)) ?_;have e1:dc [ao (aC (qd p m d))]=ao (aC (qd p m d)):=by
  show ao (aC (qd p m d))*1=_;grind
 have ez:ao (qd p m d)=K (cont (qd p m d))*ao (aC (qd p m d)):=ext fun i=>by
  rw[bC,bJ,bJ];by_cases hi:i<(qd p m d).length
  ·rw[<-iz hi];exact Int.mul_comm _ _
  ·rw[cz (by lia),cz (by rw[aY];lia)];lia
 have hc:cont (qd p m d)≠0:=Int.ne_of_gt (sN hd);have:=kl (fj hd) (iF p m d) (gs:=[ao (aC (qd p m d))]) (fun g hg=>by rw[List.mem_singleton.mp hg];exact Dx hd hm) (List.nodup_cons.mpr ⟨by simp,List.nodup_nil⟩) (fun π Bh=>by
  rw[e1,ez]
  exact⟨fun z=>z.uQ hc,fun z=>z.mulL _⟩);rw[this,e1]
theorem KC(hd:0<d)(hm:mC m):CW (ao (aC (qd p m d))) (ao (aC (qd p m d))):=by
 have e1:dc [ao (aC (qd p m d))]=ao (aC (qd p m d)):=by
  show ao (aC (qd p m d))*1=_;grind
 have:=lq (gs:=[ao (aC (qd p m d))]) (fun g hg=>by rw[List.mem_singleton.mp hg];exact Dx hd hm) (List.nodup_cons.mpr ⟨by simp,List.nodup_nil⟩);rw[e1] at this;exact this
end
noncomputable def ov(y:Re)(d:Int):Re:=y*q (1/(d:Rat))
theorem gA{d:Int}(hd:0<d)(y:Re):ov y d*(d:Re)=y:=by
 have ue:(0:Rat)<(d:Rat):=Rat.intCast_pos.mpr hd;have e:q (1/(d:Rat))*(d:Re)=1:=by
  rw[cH,<-Re.eC,Rat.div_mul_cancel (by grind)];rfl
 unfold ov;have:y*q (1/(d:Rat))*(d:Re)=y*(q (1/(d:Rat))*(d:Re)):=by grind
 rw[this,e];grind
theorem xK{d:Int}(hd:0<d)(y t:Re):aP (t*(d:Re)-y)=aP (t-ov y d):=by
 have e:t*(d:Re)-y=(t-ov y d)*(d:Re):=by
  have:=gA hd y;grind
 rw[e,dH,bA (bX hd)];lia
theorem NI{d:Int}(hd:0<d){y z:Re}(h:y<z):ov y d<ov z d:=by
 have h1:=xK hd z (ov y d);rw[gA hd,bQ (show y-z<0 by grind)] at h1;have:=Ks h1.symm;grind
section
variable {p m d:Int} {s:Re}
theorem Gm(hd:0<d)(hs:s*s=(m:Re))(t:Re):aP (at' t (ao (aC (qd p m d))))=aP (t-ov ((p:Re)-s) d)*aP (t-ov ((p:Re)+s) d):=by
 rw[KA hd,Ij,<-xK hd,<-xK hd,<-dH];congr 1;rw[<-hs];grind
theorem Dy(hd:0<d)(hs:s*s=(m:Re))(t:Re):at' t (ao (aC (qd p m d)))=0↔t∈[ov ((p:Re)-s) d,ov ((p:Re)+s) d]:=by
 have h:=Gm (p:=p) hd hs t;constructor
 ·intro z;rw[z,aW] at h;rcases Int.mul_eq_zero.mp h.symm with w|w
  ·have:=bH w;rw[show t=ov ((p:Re)-s) d by grind];exact List.mem_cons_self
  ·have:=bH w;rw[show t=ov ((p:Re)+s) d by grind];exact List.mem_cons_of_mem _ List.mem_cons_self
 ·intro z;refine bH ?_;rw[h];rcases List.mem_cons.mp z with w|w
  ·have:t-ov ((p:Re)-s) d=0:=by rw[w];grind
   rw[this,aW,Int.zero_mul]
  ·have:t-ov ((p:Re)+s) d=0:=by rw[List.mem_singleton.mp w];grind
   rw[this,aW,Int.mul_zero]
end
structure gB(zs:List Int)(x:Re)(lo hi:Rat):Prop where
 ge:q lo<=x
 le:x<=q hi
 st:lo<hi->q lo<x/\x<q hi
 sn:∃c:Int,(c=1\/c=-1)/\∀t:Rat,lo<=t->t<=hi->aP (at' (q t) (ao zs))=c*aP (q t-x)
theorem gB.ratio{t u:Int}(hu:0<u):gB [-t,u] (q ((t:Rat)/(u:Rat))) ((t:Rat)/(u:Rat)) ((t:Rat)/(u:Rat)):=by
 refine⟨Re.bY.mpr Rat.le_refl,Re.bY.mpr Rat.le_refl,fun z=>?_,1,.inl rfl,fun z _ _=>?_⟩
 ·exfalso;grind
 ·have eD:(0:Rat)<(u:Rat):=Rat.intCast_pos.mpr hu;have e:-t=0-t:=by lia
  rw[e,Dh];have e2:(t:Re)=q ((t:Rat)/(u:Rat))*(u:Re):=by
   rw[cH,cH,<-Re.eC,Rat.div_mul_cancel (by grind)]
  have e3:q z*(u:Re)-(t:Re)=(q z-q ((t:Rat)/(u:Rat)))*(u:Re):=by
   generalize q ((t:Rat)/(u:Rat))=y at*;rw[e2];grind
  rw[e3,dH,bA (bX hu)];lia
theorem gB.part{zs:List Int}{x:Re}{lo hi sO xM:Rat}(h:gB zs x lo hi)(h1:lo<=sO)(h2:xM<=hi)(ab:(sO<xM/\aP (at' (q sO) (ao zs))*aP (at' (q xM) (ao zs))=-1)\/(sO=xM/\at' (q sO) (ao zs)=0)):gB zs x sO xM:=by
 obtain⟨c,hc,hs⟩:=h.sn;have cc:c*c=1:=by rcases hc with rfl|rfl<;>decide
 rcases ab with⟨a1,a2⟩|⟨a1,a2⟩
 ·rw[hs sO h1 (by grind),hs xM (by grind) h2] at a2;have e:c*aP (q sO-x)*(c*aP (q xM-x))=c*c*(aP (q sO-x)*aP (q xM-x)):=by grind
  rw[e,cc,Int.one_mul] at a2;have hq:=Re.cR.mpr a1;have k:q sO<x/\x<q xM:=by
   rcases aO (q sO-x) with w|w|w<;>rcases aO (q xM-x) with v|v|v<;>rw[w.2,v.2] at a2<;>first|(exfalso;revert a2;decide)|(constructor<;>grind)|(exfalso;grind)
  exact⟨by grind,by grind,fun _=>k,c,hc,fun t t1 t2=>hs t (by grind) (by grind)⟩
 ·subst a1;have z:=hs sO h1 h2;rw[a2,aW] at z;have z2:aP (q sO-x)=0:=by
   rcases hc with rfl|rfl<;>lia
  have z3:=bH z2;exact⟨by grind,by grind,fun w=>by exfalso;grind,c,hc,fun t t1 t2=>hs t (by grind) (by grind)⟩
end Po
end SF
namespace SF
namespace Po
open Re
open Classical in
noncomputable def sq(m:Int):Re:=if h:0<m then Classical.choose (zU h) else 0
theorem iG{m:Int}(h:0<m):0<sq m/\sq m*sq m=(m:Re):=by
 unfold sq;rw[dif_pos h];exact Classical.choose_spec (zU h)
noncomputable def ms:List Int:=[2,3,5,6,7,8,10,18,99,1000003]
theorem NJ:∀m∈ms,mC m/\Bd 24 m:=by
 intro m hm;unfold ms at hm;simp only[List.mem_cons,List.not_mem_nil,or_false] at hm;have one:∀n j:Int,0<=j->j*j<n->n<(j+1)*(j+1)->n<2^24->mC n/\Bd 24 n:=fun n j h1 h2 h3 h4=>⟨NH h1 h2 h3,by
  have:=(NH h1 h2 h3).1
  unfold Bd;lia⟩;rcases hm with rfl|rfl|rfl|rfl|rfl|rfl|rfl|rfl|rfl|rfl
 ·exact one 2 1 (by decide) (by decide) (by decide) (by decide)
 ·exact one 3 1 (by decide) (by decide) (by decide) (by decide)
 ·exact one 5 2 (by decide) (by decide) (by decide) (by decide)
 ·exact one 6 2 (by decide) (by decide) (by decide) (by decide)
 ·exact one 7 2 (by decide) (by decide) (by decide) (by decide)
 ·exact one 8 2 (by decide) (by decide) (by decide) (by decide)
 ·exact one 10 3 (by decide) (by decide) (by decide) (by decide)
 ·exact one 18 4 (by decide) (by decide) (by decide) (by decide)
 ·exact one 99 9 (by decide) (by decide) (by decide) (by decide)
 ·exact one 1000003 1000 (by decide) (by decide) (by decide) (by decide)
end Po
end SF
namespace SF
namespace Po
open Re
theorem about(x:Re){e:Re}(he:0<e):∃s t:Rat,x-e<q s/\q s<x/\x<q t/\q t<x+e:=by
 obtain⟨b,_,h1⟩:=great (x+e);obtain⟨a,_,h2⟩:=great (-(x-e));have key:∀y z:Re,y<z->∃r:Rat,y<q r/\q r<z:=fun y z h=>by
  refine Classical.byContradiction fun no=>?_;obtain⟨hi,_,k1⟩:=great z;obtain⟨lo,_,k2⟩:=great (-y);obtain⟨r,r0,k3⟩:=small (x:=z-y) (by grind);have e1:q (-lo)<y:=by rw[ll];grind
  have up:∀n:Nat,q (-lo+(n:Rat)*r)<z:=fun n=>by
   induction n with
   |zero=>
    have:-lo+((0:Nat):Rat)*r=-lo:=by grind
    rw[this];grind
   |succ n ih=>
    have e2:-lo+((n+1:Nat):Rat)*r=(-lo+(n:Rat)*r)+r:=by
     have:((n+1:Nat):Rat)=(n:Rat)+1:=by rw[Rat.natCast_add];rfl
     rw[this];grind
    rw[e2,ke];have:¬y<q (-lo+(n:Rat)*r):=fun w=>no ⟨_,w,ih⟩;grind
  obtain⟨N,hN⟩:∃N:Nat,hi+lo<=(N:Rat)*r:=by
   refine⟨((hi+lo)/r).ceil.toNat,?_⟩;have c1:(hi+lo)/r<=(((hi+lo)/r).ceil:Rat):=Rat.le_ceil;have c2:(((hi+lo)/r).ceil:Rat)<=((((hi+lo)/r).ceil.toNat:Nat):Rat):=by
    have:((hi+lo)/r).ceil<=((((hi+lo)/r).ceil.toNat:Nat):Int):=by lia
    have:=Rat.intCast_le_intCast.mpr this;rw[Rat.intCast_natCast] at this;exact this
   have c3:=Rat.mul_le_mul_of_nonneg_right (c:=r) (show(hi+lo)/r<=((((hi+lo)/r).ceil.toNat:Nat):Rat) by grind) (Rat.le_of_lt r0);rw[Rat.div_mul_cancel (by grind)] at c3;exact c3
  have h3:=up N;have h4:q hi<=q (-lo+(N:Rat)*r):=bY.mpr (by grind);grind
 obtain⟨s,s1,s2⟩:=key (x-e) x (by grind);obtain⟨t,t1,t2⟩:=key x (x+e) (by grind);exact⟨s,t,s1,s2,t1,t2⟩
theorem gS{f:Po}{a b:Rat}(ji:a<=b)(h:aP (at' (q a) f)≠aP (at' (q b) f)):∃x:Re,q a<=x/\x<=q b/\at' x f=0:=by
 refine Classical.byContradiction fun no=>?_;have hq:=bY.mpr ji;have ea:(if a<a then aP (at' (q a) f) else if b<a then aP (at' (q b) f) else aP (at' (q a) f))=aP (at' (q a) f):=by rw[if_neg (by grind),if_neg (by grind)]
 have eb:(if b<a then aP (at' (q a) f) else if b<b then aP (at' (q b) f) else aP (at' (q b) f))=aP (at' (q b) f):=by rw[if_neg (by grind),if_neg (by grind)]
 refine h (ea.symm.trans (Eq.trans (iC (φ:=fun t=>if t<a then aP (at' (q a) f) else if b<t then aP (at' (q b) f) else aP (at' (q t) f)) (fun x=>?_) ji) eb));by_cases h1:x<q a
 ·obtain⟨r,r0,k⟩:=small (x:=q a-x) (by grind);refine⟨r,r0,fun s t hs ht=>?_⟩;have g:∀s:Rat,Re.ab (q s-x)<q r->s<a:=fun s hs=>cR.mp (by have:=(bK.mp hs).2;grind);show(if s<a then _ else _)=(if t<a then _ else _);rw[if_pos (g s hs),if_pos (g t ht)]
 ·by_cases h2:q b<x
  ·obtain⟨r,r0,k⟩:=small (x:=x-q b) (by grind);refine⟨r,r0,fun s t hs ht=>?_⟩;have g:∀s:Rat,Re.ab (q s-x)<q r->b<s:=fun s hs=>cR.mp (by have:=(bK.mp hs).1;grind);show(if s<a then _ else if b<s then _ else _)=(if t<a then _ else if b<t then _ else _);have g1:=g s hs;have g2:=g t ht;rw[if_neg (show ¬s<a by grind),if_neg (show ¬t<a by grind),if_pos g1,if_pos g2]
  ·obtain⟨d,hd,hn⟩:=gP (x:=x) (f:=f) (fun z=>no ⟨x,by grind,by grind,z⟩);refine⟨d,hd,fun s t hs ht=>?_⟩;have g:∀s:Rat,Re.ab (q s-x)<q d->(if s<a then aP (at' (q a) f) else if b<s then aP (at' (q b) f) else aP (at' (q s) f))=aP (at' x f):=fun s hs=>by
    have xl:=bK.mp hs;by_cases c1:s<a
    ·rw[if_pos c1];have:=cR.mpr c1;exact hn _ (bK.mpr (by constructor<;>grind))
    ·rw[if_neg c1];by_cases c2:b<s
     ·rw[if_pos c2];have:=cR.mpr c2;exact hn _ (bK.mpr (by constructor<;>grind))
     ·rw[if_neg c2];exact hn _ hs
   show(if s<a then _ else if b<s then _ else _)=(if t<a then _ else if b<t then _ else _);rw[g s hs,g t ht]
noncomputable def Plain(f:Po):Prop:=∀r:Re,at' r f=0->at' r (bE f)≠0
theorem gB.root{zs:List Int}{x:Re}{lo hi:Rat}(h:gB zs x lo hi)(lt:lo<hi):at' x (ao zs)=0:=by
 refine Classical.byContradiction fun ne=>?_;obtain⟨k1,k2⟩:=h.st lt;obtain⟨c,hc,hs⟩:=h.sn;obtain⟨d,hd,hn⟩:=gP ne;have ue:(0:Re)<q d:=by rw[<-eE];exact cR.mpr hd
 obtain⟨r,r0,r1⟩:=small (x:=x-q lo) (by grind);obtain⟨r',Xz,R'⟩:=small (x:=q hi-x) (by grind);obtain⟨m,m0,m1,m2⟩:=gQ r0 Xz;obtain⟨m',NK,UP,UQ⟩:=gQ m0 hd;obtain⟨s,t,s1,s2,t1,t2⟩:=about x (e:=q m') (by rw[<-eE];exact cR.mpr NK);have e1:=hn (q s) (bK.mpr (by constructor<;>grind));have e2:=hn (q t) (bK.mpr (by constructor<;>grind));rw[hs s (Rat.le_of_lt (cR.mp (by grind))) (Rat.le_of_lt (cR.mp (by grind))),bQ (by grind)] at e1;rw[hs t (Rat.le_of_lt (cR.mp (by grind))) (Rat.le_of_lt (cR.mp (by grind))),bA (by grind)] at e2;rw[<-e2] at e1;rcases hc with rfl|rfl<;>lia
theorem gB.only{zs:List Int}{x r:Re}{lo hi:Rat}(h:gB zs x lo hi)(lt:lo<hi)(hp:Plain (ao zs))(h1:q lo<=r)(h2:r<=q hi)(hr:at' r (ao zs)=0):r=x:=by
 refine Classical.byContradiction fun ne=>?_;obtain⟨k1,k2⟩:=h.st lt;obtain⟨c,hc,hs⟩:=h.sn;have n1:q lo<r:=by
  rcases p_ (q lo) r with w|w|w
  ·exact w
  ·exfalso;have:=hs lo Rat.le_refl (Rat.le_of_lt lt);rw[w,hr,aW,<-w,bQ (by grind)] at this;rcases hc with rfl|rfl<;>lia
  ·exfalso;grind
 have n2:r<q hi:=by
  rcases p_ r (q hi) with w|w|w
  ·exact w
  ·exfalso;have:=hs hi (Rat.le_of_lt lt) Rat.le_refl;rw[<-w,hr,aW,w,bA (by grind)] at this;rcases hc with rfl|rfl<;>lia
  ·exfalso;grind
 obtain⟨d,hd,hn⟩:=mr hr (hp r hr);obtain⟨a1,a10,a11⟩:=small (x:=r-q lo) (by grind);obtain⟨a2,a20,a21⟩:=small (x:=q hi-r) (by grind);obtain⟨a3,a30,a31⟩:=small (x:=Re.ab (r-x)) (by
  unfold Re.ab
  rcases p_ r x with w|w|w
  ·rw[if_pos (by grind)];grind
  ·exact absurd w ne
  ·rw[if_neg (by grind)];grind);obtain⟨m,m0,m1,m2⟩:=gQ a10 a20;obtain⟨m',NK,UP,UQ⟩:=gQ m0 hd;obtain⟨m3,XC,ZT,ZU⟩:=gQ NK a30;obtain⟨s,t,s1,s2,t1,t2⟩:=about r (e:=q m3) (by rw[<-eE];exact cR.mpr XC);have e1:=hn (q s) (bK.mpr (by constructor<;>grind));have e2:=hn (q t) (bK.mpr (by constructor<;>grind));rw[hs s (Rat.le_of_lt (cR.mp (by grind))) (Rat.le_of_lt (cR.mp (by grind))),bQ (x:=q s-r) (by grind)] at e1;rw[hs t (Rat.le_of_lt (cR.mp (by grind))) (Rat.le_of_lt (cR.mp (by grind))),bA (x:=q t-r) (by grind)] at e2;have side:aP (q s-x)=aP (q t-x):=by
  unfold Re.ab at a31;rcases p_ r x with w|w|w
  ·rw[if_pos (by grind)] at a31;rw[bQ (by grind),bQ (by grind)]
  ·exact absurd w ne
  ·rw[if_neg (by grind)] at a31;rw[bA (by grind),bA (by grind)]
 rw[side,e2] at e1;rcases mn (hp r hr) with w|w<;>rw[w] at e1<;>lia
theorem NL{d f:Po}(h:D d f){r:Re}(hr:at' r d=0):at' r f=0:=by
 obtain⟨a,ha,p,e⟩:=h;have e2:=congrArg (at' r) e;rw[gO,dW,hr] at e2;have e3:(a:Re)*at' r f=0:=by grind
 refine Classical.byContradiction fun z=>?_;refine Re.bT (x:=(a:Re)) (fun w=>ha ?_) z e3;have w':q (a:Rat)=q 0:=w;exact Rat.intCast_inj.mp (kg w')
theorem Bi{f g:List Int}{d:Po}{x y:Re}{lo hi sO xM low high:Rat}(If:gB f x lo hi)(Ig:gB g y sO xM)(l1:lo<hi)(l2:sO<xM)(pf:Plain (ao f))(pg:Plain (ao g))(gc:GC (ao f) (ao g) d)(m1:lo<=low)(m2:sO<=low)(m3:low=lo\/low=sO)(n1:high<=hi)(n2:high<=xM)(n3:high=hi\/high=xM)(lt:low<high):aP (at' (q low) d)*aP (at' (q high) d)<0↔x=y:=by
 have q1:=bY.mpr m1;have q2:=bY.mpr m2;have q3:=bY.mpr n1;have q4:=bY.mpr n2;obtain⟨a1,a2⟩:=If.st l1;obtain⟨b1,b2⟩:=Ig.st l2;constructor
 ·intro h;obtain⟨r,r1,r2,hr⟩:=gS (f:=d) (Rat.le_of_lt lt) (fun e=>by
   rw[e] at h
   rcases aO (at' (q high) d) with w|w|w<;>rw[w.2] at h<;>lia);have e1:=If.only l1 pf (show q lo<=r by grind) (by grind) (NL gc.df hr);have e2:=Ig.only l2 pg (show q sO<=r by grind) (by grind) (NL gc.dg hr);exact e1.symm.trans e2
 ·rintro rfl;have fx:=If.root l1;have gx:=Ig.root l2;obtain⟨u,v,a,ha,e⟩:=gc.bz;have dx:at' x d=0:=by
   have e2:=congrArg (at' x) e;rw[gO,iW,dW,dW,fx,gx] at e2;have e3:(a:Re)*at' x d=0:=by grind
   refine Classical.byContradiction fun z=>?_;refine Re.bT (x:=(a:Re)) (fun w=>ha ?_) z e3;have w':q (a:Rat)=q 0:=w;exact Rat.intCast_inj.mp (kg w')
  have lx:q low<x:=by rcases m3 with w|w<;>rw[w]<;>assumption
  have hx:x<q high:=by rcases n3 with w|w<;>rw[w]<;>assumption
  obtain⟨b,hb,h,eh⟩:=gc.df;have Sa:(b:Re)≠0:=fun w=>hb (by
   have w':q (b:Rat)=q 0:=w
   exact Rat.intCast_inj.mp (kg w'));have eT:at' x h≠0:=fun w=>by
   have e2:=congrArg (fun p=>at' x (bE p)) eh;rw[oz,jQ,gO,iW,dW,dW,dx,w] at e2;exact Re.bT Sa (pf x fx) (by grind)
  have ev:∀t:Re,(b:Re)*at' t (ao f)=at' t d*at' t h:=fun t=>by
   have e2:=congrArg (at' t) eh;rw[gO,dW] at e2;exact e2
  have hs:aP (at' (q low) h)=aP (at' (q high) h):=Classical.byContradiction fun ne=>by
   obtain⟨r,r1,r2,hr⟩:=gS (f:=h) (Rat.le_of_lt lt) ne;have fr:at' r (ao f)=0:=Classical.byContradiction fun z=>Re.bT Sa z (by rw[ev r,hr];grind);have e1:=If.only l1 pf (show q lo<=r by grind) (by grind) fr;rw[e1] at hr;exact eT hr
  obtain⟨c,hc,PQ⟩:=If.sn;have s1:=PQ low m1 (by grind);have s2:=PQ high (by grind) n1;rw[bQ (x:=q low-x) (by grind)] at s1;rw[bA (x:=q high-x) (by grind)] at s2;have t1:=congrArg aP (ev (q low));have t2:=congrArg aP (ev (q high));rw[dH,dH,s1] at t1;rw[dH,dH,s2,<-hs] at t2;have Sd:=mn Sa;generalize aP (b:Re)=β at*;generalize aP (at' (q low) h)=η at*;generalize aP (at' (q high) d)=ZV at*;rcases aO (at' (q low) d) with w|w|w<;>rw[w.2] at t1 ⊢<;>rcases hc with rfl|rfl<;>rcases Sd with rfl|rfl<;>(try lia)<;>(have:η=1\/η=-1:=by lia)<;>rcases this with rfl|rfl<;>lia
end Po
end SF
namespace SF
open Lean.Grind
namespace Po
open Re
structure Dz(p σ m d:Int)(x:Re):Prop where
 sg:σ=1\/σ=-1
 hm:mC m
 bm:m<=1002001
 d1:1<=d
 d2:d<=50
 ex:x=ov ((p:Re)+(σ:Re)*sq m) d
theorem gT{a b:Int}(h:a<=b):(a:Re)<=(b:Re):=bY.mpr (Rat.intCast_le_intCast.mpr h)
theorem Bj{a b:Int}(h:(a:Re)=(b:Re)):a=b:=Rat.intCast_inj.mp (kg h)
theorem KD{m j k:Int}(hm:mC m)(h:k*k=m*(j*j)):j=0:=by
 refine Classical.byContradiction fun hj=>?_;have Se:(j:Rat)≠0:=fun z=>hj (Rat.intCast_inj.mp z);refine Du (p:=0) (d:=1) hm ((k:Rat)/(j:Rat)) ?_;unfold qd;rw[LB];have e1:q ((k:Rat)/(j:Rat))*(j:Re)=(k:Re):=by rw[cH,cH,<-eC,Rat.div_mul_cancel Se]
 have e2:(k:Re)*(k:Re)=(m:Re)*((j:Re)*(j:Re)):=by rw[<-Ring.intCast_mul,h,Ring.intCast_mul,Ring.intCast_mul]
 have UR:(j:Re)≠0:=fun z=>hj (Bj (z.trans c0.symm));generalize q ((k:Rat)/(j:Rat))=z at*;have e3:(z*z-(m:Re))*((j:Re)*(j:Re))=0:=by rw[<-e1] at e2;grind
 have e4:z*z-(m:Re)=0:=Classical.byContradiction fun w=>Re.bT w (Re.bT UR UR) e3;have x1:((0*0-m:Int):Re)=-(m:Re):=by rw[<-dM];congr 1;lia
 have x2:((0-2*0*1:Int):Re)=0:=by rw[<-c0];rfl
 have x3:((1*1:Int):Re)=1:=by rw[<-c1];rfl
 rw[x1,x2,x3];grind
theorem Gn{m:Int}(hm:0<m)(h:m<=1002001):sq m<=((1001:Int):Re):=by
 obtain⟨s0,ss⟩:=iG hm;rcases p_ (sq m) ((1001:Int):Re) with z|z|z
 ·grind
 ·grind
 ·exfalso;have h1:(0:Re)<((1001:Int):Re):=bX (by decide);have h2:=Re.mul_pos (x:=sq m-((1001:Int):Re)) (y:=sq m+((1001:Int):Re)) (by grind) (by grind);have h3:((m:Int):Re)<=((1001*1001:Int):Re):=gT h;rw[Ring.intCast_mul] at h3;grind
theorem Dz.root{p σ m d:Int}{x:Re}(h:Dz p σ m d x):∃s:Re,s*s=(m:Re)/\x*(d:Re)=(p:Re)+s/\-((1001:Int):Re)<=s/\s<=((1001:Int):Re):=by
 obtain⟨s0,ss⟩:=iG h.hm.1;have hb:=Gn h.hm.1 h.bm;have k:(0:Re)<((1001:Int):Re):=bX (by decide);have hd:0<d:=h.d1;rcases h.sg with e|e
 ·refine⟨sq m,ss,?_,by grind,hb⟩;rw[h.ex,gA hd,e,c1];grind
 ·refine⟨-sq m,by grind,?_,by grind,by grind⟩;rw[h.ex,gA hd,e,dM,c1];grind
theorem Il{x:Re}{e:Re}(h:¬e<=Re.ab x):-e<x/\x<e:=bK.mp (by
 rcases p_ (Re.ab x) e with z|z|z
 ·exact z
 ·exact absurd (by rw[z];grind) h
 ·exact absurd (by grind) h)
theorem gf{x y a b:Re}(hx:Re.ab x<=a)(hy:Re.ab y<=b)(ha:0<=a):Re.ab (x*y)<=a*b:=by
 rw[Re.cw];exact Re.mul_le_mul hx hy ha (Re.aM y)
theorem Gp(a e m:Int):4*(a*a*(e*e*m))=m*((2*a*e)*(2*a*e)):=by grind
theorem NM{a M N:Int}{u v:Re}(hu:u*u=(M:Re))(hv:v*v=(N:Re)):((a:Re)+u-v)*(((a:Re)+u+v)*(((a:Re)-u-v)*((a:Re)-u+v)))=(((a*a+M-N)*(a*a+M-N)-4*(a*a*M):Int):Re):=by
 rw[gR,Ring.intCast_mul,gR,Ring.intCast_add,Ring.intCast_mul a a,Ring.intCast_mul 4,Ring.intCast_mul (a*a),Ring.intCast_mul a a,<-hu,<-hv];have e4:((4:Int):Re)=4:=by
  have:(4:Int)=2+2:=rfl;rw[this,Ring.intCast_add,c2];grind
 rw[e4];grind
theorem Dz.apart{p σ m d p' bN m' d':Int}{x y:Re}(hx:Dz p σ m d x)(hy:Dz p' bN m' d' y)(ne:x≠y):q (1/2^63)<Re.ab (x-y):=by
 obtain⟨s,ss,sx,s1,s2⟩:=hx.root;obtain⟨t,tt,ty,t1,t2⟩:=hy.root;have hd:0<d:=hx.d1;have ue:0<d':=hy.d1;have US:=gT hx.d2;have NN:=gT hy.d2;have dp:=bX hd;have XD:=bX ue;obtain⟨u,hu⟩:∃u:Re,u=(d':Re)*s:=⟨_,rfl⟩;obtain⟨v,hv⟩:∃v:Re,v=(d:Re)*t:=⟨_,rfl⟩;obtain⟨a,ha⟩:∃a:Int,a=p*d'-p'*d:=⟨_,rfl⟩;have ka:(1001:Re)=((1001:Int):Re):=rfl;have kb:((50050:Int):Re)=((50:Int):Re)*((1001:Int):Re):=by rw[<-Ring.intCast_mul];rfl
 have k50:(0:Re)<((50:Int):Re):=bX (by decide);have UT:∀{c z:Re},0<c->c<=((50:Int):Re)->-((1001:Int):Re)<=z->z<=((1001:Int):Re)->Re.ab (c*z)<=((50050:Int):Re):=fun{c z} c0 c5 z1 z2=>by
  rw[kb];exact gf (by unfold Re.ab;rw[if_neg (by grind)];exact c5) (cU.mpr ⟨z1,z2⟩) (by grind)
 have bu:Re.ab u<=((50050:Int):Re):=by rw[hu];exact UT XD NN s1 s2
 have bv:Re.ab v<=((50050:Int):Re):=by rw[hv];exact UT dp US t1 t2
 have uu:u*u=((d'*d'*m:Int):Re):=by rw[hu,Ring.intCast_mul,Ring.intCast_mul,<-ss];grind
 have vv:v*v=((d*d*m':Int):Re):=by rw[hv,Ring.intCast_mul,Ring.intCast_mul,<-tt];grind
 have eA:(x-y)*((d:Re)*(d':Re))=(a:Re)+u-v:=by
  rw[ha,hu,hv,gR,Ring.intCast_mul,Ring.intCast_mul];grind
 have c4:=NM (a:=a) uu vv;obtain⟨z,hz⟩:∃z:Int,z=(a*a+d'*d'*m-d*d*m')*(a*a+d'*d'*m-d*d*m')-4*(a*a*(d'*d'*m)):=⟨_,rfl⟩;rw[<-hz] at c4;have small:q (1/2^51)<=Re.ab ((a:Re)+u-v):=by
  by_cases z0:z=0
  ·
   have e1:(a*a+d'*d'*m-d*d*m')*(a*a+d'*d'*m-d*d*m')=m*((2*a*d')*(2*a*d')):=by
    have k:4*(a*a*(d'*d'*m))=m*((2*a*d')*(2*a*d')):=Gp a d' m;rw[<-k];lia
   have a0:2*a*d'=0:=KD hx.hm e1;have a0:a=0:=by
    rcases Int.mul_eq_zero.mp a0 with w|w
    ·lia
    ·lia
   have e1:(d'*d'*m-d*d*m')*(d'*d'*m-d*d*m')=0:=by rw[a0] at e1;simpa using e1
   have e2:d'*d'*m-d*d*m'=0:=by
    rcases Int.mul_eq_zero.mp e1 with w|w<;>exact w
   have e3:u*u=v*v:=by rw[uu,vv];congr 1;exact Int.eq_of_sub_eq_zero e2
   have e4:(u-v)*(u+v)=0:=by grind
   have e5:u+v=0:=Classical.byContradiction fun w=>Re.bT (x:=u-v) (fun w2=>ne ?_) w e4
   ·have e6:v=-u:=by grind
    have e7:(a:Re)+u-v=u+u:=by rw[e6,a0,c0];grind
    rw[e7];have e8:(1:Re)<=u*u:=by
     rw[uu,<-c1];refine gT ?_;have:=Int.mul_pos (Int.mul_pos ue ue) hx.hm.1;lia
    have q1:q (1/2^51)<=1:=by rw[<-oK];exact bY.mpr (by decide +kernel)
    have e9:(1:Re)<=Re.ab u:=by
     refine Classical.byContradiction fun w=>?_;obtain⟨w1,w2⟩:=Il w;have:=Re.mul_pos (x:=1-u) (y:=1+u) (by grind) (by grind);grind
    unfold Re.ab at e9 ⊢;split at e9<;>split<;>grind
   ·have e6:(x-y)*((d:Re)*(d':Re))=0:=by rw[eA,a0,c0];grind
    have e7:x-y=0:=Classical.byContradiction fun w=>Re.bT w (Re.bT (x:=(d:Re)) (y:=(d':Re)) (by grind) (by grind)) e6;grind
  ·refine Classical.byContradiction fun w=>?_;obtain⟨w1,w2⟩:=Il w;have q1:q (1/2^51)<=1:=by rw[<-oK];exact bY.mpr (by decide +kernel)
   obtain⟨ZW,PR⟩:=cU.mp bu;obtain⟨ZX,ZY⟩:=cU.mp bv;have g1:((100101:Int):Re)=((50050:Int):Re)+((50050:Int):Re)+1:=by rw[<-c1,<-Ring.intCast_add,<-Ring.intCast_add];rfl
   have g2:((200201:Int):Re)=((50050:Int):Re)+((50050:Int):Re)+((50050:Int):Re)+((50050:Int):Re)+1:=by rw[<-c1,<-Ring.intCast_add,<-Ring.intCast_add,<-Ring.intCast_add,<-Ring.intCast_add];rfl
   have h1:Re.ab ((a:Re)+u+v)<=((100101:Int):Re):=cU.mpr (by rw[g1];constructor<;>grind);have h2:Re.ab ((a:Re)-u-v)<=((100101:Int):Re):=cU.mpr (by rw[g1];constructor<;>grind);have h3:Re.ab ((a:Re)-u+v)<=((200201:Int):Re):=cU.mpr (by rw[g2];constructor<;>grind);have p1:(0:Re)<=((100101:Int):Re):=by have:=bX (n:=100101) (by decide);grind
   have h5:=gf h2 h3 p1;have h6:=gf h1 h5 p1;rw[<-Ring.intCast_mul,<-Ring.intCast_mul] at h6;have qn:(0:Re)<=q (1/2^51):=by rw[<-eE];exact bY.mpr (by decide +kernel)
   have h7:=gf (x:=(a:Re)+u-v) (a:=q (1/2^51)) (cU.mpr ⟨by grind,by grind⟩) h6 qn;rw[c4,cH (100101*(100101*200201)),<-eC] at h7;have h8:q (1/2^51*((100101*(100101*200201):Int):Rat))<1:=by rw[<-oK];exact cR.mpr (by decide +kernel)
   have h9:(1:Re)<=Re.ab (z:Re):=by
    unfold Re.ab;rcases Int.lt_or_lt_of_ne z0 with y|y
    ·have:(z:Re)<=((-1:Int):Re):=gT (by lia);rw[dM,c1] at this;rw[if_pos (by grind)];grind
    ·have:((1:Int):Re)<=(z:Re):=gT (by lia);rw[c1] at this;rw[if_neg (by grind)];exact this
   exact Re.lt_irrefl _ (Std.lt_of_le_of_lt (Std.le_trans h9 h7) h8)
 refine Classical.byContradiction fun w=>?_;have w':Re.ab (x-y)<=q (1/2^63):=by
  rcases p_ (Re.ab (x-y)) (q (1/2^63)) with v|v|v
  ·grind
  ·grind
  ·exact absurd v w
 have dd:Re.ab ((d:Re)*(d':Re))<=((2500:Int):Re):=by
  have e:((2500:Int):Re)=((50:Int):Re)*((50:Int):Re):=by rw[<-Ring.intCast_mul];rfl
  rw[e];exact gf (by unfold Re.ab;rw[if_neg (by grind)];exact US) (by unfold Re.ab;rw[if_neg (by grind)];exact NN) (by grind)
 have qn:(0:Re)<=q (1/2^63):=by rw[<-eE];exact bY.mpr (by decide +kernel)
 have fin:=gf w' dd qn;rw[eA,cH 2500,<-eC] at fin;have h8:q (1/2^63*((2500:Int):Rat))<q (1/2^51):=cR.mpr (by decide +kernel);exact Re.lt_irrefl _ (Std.lt_of_le_of_lt (Std.le_trans small fin) h8)
end Po
end SF
namespace SF
open Lean.Grind
namespace Po
open Re
theorem rr{zs:List Int}{t u:Int}(hn:zs≠[])(g:Int.gcd t u=1)(h:hv t u zs=0):u∣co zs (zs.length-1):=by
 have hp:=List.length_pos_iff.mpr hn;obtain⟨n,en⟩:∃n,zs.length=n+1:=⟨zs.length-1,by lia⟩;unfold hv at h;rw[en] at h;have e1:aF (fun i=>co zs i*(t^i*u^(n+1-1-i))) (n+1)=aF (fun i=>co zs i*(t^i*u^(n+1-1-i))) n+co zs n*(t^n*u^(n+1-1-n)):=rfl;rw[e1] at h;have e2:n+1-1-n=0:=by lia
 rw[e2,Int.pow_zero,Int.mul_one] at h;have d1:u∣aF (fun i=>co zs i*(t^i*u^(n+1-1-i))) n:=ju fun i hi=>by
  have e3:n+1-1-i=(n-1-i)+1:=by lia
  rw[e3,Int.pow_succ];exact⟨co zs i*(t^i*u^(n-1-i)),by grind⟩
 have d2:u∣co zs n*t^n:=by
  have e3:co zs n*t^n=0-aF (fun i=>co zs i*(t^i*u^(n+1-1-i))) n:=by lia
  rw[e3];exact Int.dvd_sub (Int.dvd_zero u) d1
 have g2:∀k:Nat,Int.gcd u (t^k)=1:=fun k=>by
  have e4:Int.gcd u (t^k)=Nat.gcd u.natAbs (t.natAbs^k):=by unfold Int.gcd;rw[Int.natAbs_pow]
  rw[e4];have e5:Nat.Coprime u.natAbs t.natAbs:=by rw[Nat.coprime_comm];exact g
  exact Nat.Coprime.pow_right k e5
 rw[en];show u∣co zs n;rw[<-Int.natAbs_dvd_natAbs] at d2 ⊢;rw[Int.natAbs_mul] at d2;exact Nat.Coprime.dvd_of_dvd_mul_right (g2 n) d2
theorem oZ(u v:Re):aP (u+v)=aP (u*Re.ab u+v*Re.ab v):=by
 have key:∀{a b:Re},a<b->a*Re.ab a<b*Re.ab b:=fun{a b} h=>by
  by_cases ha:a<0
  ·by_cases hb:b<0
   ·have e1:Re.ab a=-a:=if_pos ha;have e2:Re.ab b=-b:=if_pos hb;rw[e1,e2];have:=Re.mul_pos (x:=b-a) (y:=-a+-b) (by grind) (by grind);grind
   ·have e1:Re.ab a=-a:=if_pos ha;have e2:Re.ab b=b:=if_neg hb;rw[e1,e2];have h1:=Re.mul_pos (x:=-a) (y:=-a) (by grind) (by grind);have h2:=sq_nonneg b;grind
  ·have e1:Re.ab a=a:=if_neg ha;have e2:Re.ab b=b:=if_neg (by grind);rw[e1,e2];have:=Re.mul_pos (x:=b-a) (y:=a+b) (by grind) (by grind);grind
 have en:-u*Re.ab (-u)=-(u*Re.ab u):=by rw[Re.xE];grind
 rcases p_ (-u) v with h|h|h
 ·have:=key h;rw[en] at this;rw[bA (by grind),bA (by grind)]
 ·have e1:u+v=0:=by rw[<-h];grind
  have e2:u*Re.ab u+v*Re.ab v=0:=by rw[<-h,en];grind
  rw[e1,e2]
 ·have:=key h;rw[en] at this;rw[bQ (by grind),bQ (by grind)]
noncomputable def lr(z:Int):Int:=if z<0 then -z else z
theorem vd(z:Int):((lr z:Int):Re)=Re.ab (z:Re):=by
 unfold Re.ab lr;by_cases h:z<0
 ·have h2:(z:Re)<0:=by have:=bX (n:=-z) (by lia);rw[dM] at this;grind
  rw[if_pos h,if_pos h2,dM]
 ·have h2:¬(z:Re)<0:=fun w=>by
   rcases Int.lt_or_eq_of_le (show 0<=z by lia) with k|k
   ·have:=bX k;grind
   ·rw[<-k,c0] at w;exact Re.lt_irrefl _ w
  rw[if_neg h,if_neg h2]
theorem xN{m:Int}(hm:0<m)(s:Int):(s:Re)*sq m*Re.ab ((s:Re)*sq m)=((s*lr s*m:Int):Re):=by
 obtain⟨s0,ss⟩:=iG hm;have e:Re.ab (sq m)=sq m:=if_neg (by grind);rw[Re.cw,e,Ring.intCast_mul,Ring.intCast_mul,vd,<-ss];grind
theorem Gr(z:Int):(z:Re)*Re.ab (z:Re)=((z*lr z:Int):Re):=by rw[Ring.intCast_mul,vd]
theorem Gs{m:Int}(hm:0<m)(a s:Int):aP ((a:Re)+(s:Re)*sq m)=aP ((a*lr a+s*lr s*m:Int):Re):=by
 rw[oZ,Gr,xN hm,<-Ring.intCast_add]
theorem Gu{m n:Int}(hm:0<m)(hn:0<n)(s t:Int):aP ((s:Re)*sq m+(t:Re)*sq n)=aP ((s*lr s*m+t*lr t*n:Int):Re):=by
 rw[oZ,xN hm,xN hn,<-Ring.intCast_add]
theorem Bl{u v:Re}(h:aP u*aP v=-1):aP (u+v)=aP v*aP (v*v-u*u):=by
 rcases aO u with a|a|a<;>rcases aO v with b|b|b<;>rw[a.2,b.2] at h<;>first|(exfalso;revert h;decide)|skip
 ·have e:v*v-u*u=(v+u)*(v-u):=by grind
  rw[b.2,e,dH,bA (x:=v-u) (by grind),show u+v=v+u by grind];lia
 ·have e:v*v-u*u=-((v+u)*(u-v)):=by grind
  rw[b.2,e,oP,dH,bA (x:=u-v) (by grind),show u+v=v+u by grind];lia
theorem Gv{m n:Int}(hm:0<m)(hn:0<n)(a s t:Int):aP (((s:Re)*sq m+(t:Re)*sq n)*((s:Re)*sq m+(t:Re)*sq n)-(a:Re)*(a:Re))=aP (((s*s*m+t*t*n-a*a)*lr (s*s*m+t*t*n-a*a)+2*s*t*lr (2*s*t)*(m*n):Int):Re):=by
 obtain⟨s0,ss⟩:=iG hm;obtain⟨t0,tt⟩:=iG hn;have Lw:=Int.mul_pos hm hn;obtain⟨r0,rr⟩:=iG Lw;have er:sq (m*n)=sq m*sq n:=by
  have p:=Re.mul_pos s0 t0;have e:(sq (m*n)-sq m*sq n)*(sq (m*n)+sq m*sq n)=0:=by
   have:(sq m*sq n)*(sq m*sq n)=sq (m*n)*sq (m*n):=by rw[rr,Ring.intCast_mul,<-ss,<-tt];grind
   grind
  have e2:sq (m*n)-sq m*sq n=0:=Classical.byContradiction fun w=>Re.bT w (by grind) e;grind
 rw[<-Gs Lw,er];congr 1;rw[gR,Ring.intCast_add,Ring.intCast_mul,Ring.intCast_mul,Ring.intCast_mul,Ring.intCast_mul,Ring.intCast_mul,Ring.intCast_mul,Ring.intCast_mul,c2,<-ss,<-tt];grind
end Po
end SF
namespace SF
open Lean.Grind
namespace Po
open Re
theorem gB.KG{zs:List Int}{x:Re}{lo hi:Rat}(h1:q lo<x)(h2:x<q hi)(hx:at' x (ao zs)=0)(only:∀y:Re,q lo<=y->y<=q hi->at' y (ao zs)=0->y=x)(hs:aP (at' (q lo) (ao zs))*aP (at' (q hi) (ao zs))=-1):gB zs x lo hi:=by
 have lt:lo<hi:=cR.mp (by grind);obtain⟨c,hc,e1,e2⟩:∃c:Int,(c=1\/c=-1)/\aP (at' (q lo) (ao zs))=-c/\aP (at' (q hi) (ao zs))=c:=by
  rcases aO (at' (q lo) (ao zs)) with a|a|a<;>rcases aO (at' (q hi) (ao zs)) with b|b|b<;>rw[a.2,b.2] at hs<;>first|(exfalso;revert hs;decide)|exact⟨_,by first|exact .inl rfl|exact .inr rfl,by rw[a.2,b.2];rfl,rfl⟩|skip
  ·exact⟨1,.inl rfl,a.2,b.2⟩
  ·exact⟨-1,.inr rfl,a.2,b.2⟩
 refine⟨by grind,by grind,fun _=>⟨h1,h2⟩,c,hc,fun t t1 t2=>?_⟩;have q1:=bY.mpr t1;have q2:=bY.mpr t2;rcases p_ (q t) x with w|w|w
 ·have e:aP (at' (q lo) (ao zs))=aP (at' (q t) (ao zs)):=Classical.byContradiction fun ne=>by
   obtain⟨y,y1,y2,hy⟩:=gS t1 ne;have:=only y y1 (by grind) hy;grind
  rw[<-e,e1,bQ (by grind)];lia
 ·have e:q t-x=0:=by grind
  rw[e,w,hx,aW,Int.mul_zero]
 ·have e:aP (at' (q t) (ao zs))=aP (at' (q hi) (ao zs)):=Classical.byContradiction fun ne=>by
   obtain⟨y,y1,y2,hy⟩:=gS t2 ne;have:=only y (by grind) y2 hy;grind
  rw[e,e2,bA (by grind)];lia
theorem oC{α:Type}:∀{l m:List α},l.Nodup->(∀x∈l,x∈m)->m.length<=l.length->∀x∈m,x∈l
 |[],m,_,_,hl,x,hx=>by
  have:m=[]:=List.eq_nil_of_length_eq_zero (by simpa using hl);rw[this] at hx;exact hx
 |a::l,m,nd,sub,hl,x,hx=>by
  obtain⟨m1,m2,e⟩:=List.append_of_mem (sub a List.mem_cons_self);subst e;have we:=List.nodup_cons.mp nd;have ih:=oC (l:=l) (m:=m1++m2) we.2 (fun y hy=>by
   have:=sub y (List.mem_cons_of_mem _ hy)
   rcases List.mem_append.mp this with z|z
   ·exact List.mem_append.mpr (.inl z)
   ·rcases List.mem_cons.mp z with z|z
    ·rw[z] at hy;exact absurd hy we.1
    ·exact List.mem_append.mpr (.inr z)) (by rw[List.length_append] at hl ⊢;simp at hl;lia);rcases List.mem_append.mp hx with z|z
  ·exact List.mem_cons_of_mem _ (ih x (List.mem_append.mpr (.inl z)))
  ·rcases List.mem_cons.mp z with z|z
   ·rw[z];exact List.mem_cons_self
   ·exact List.mem_cons_of_mem _ (ih x (List.mem_append.mpr (.inr z)))
open Classical in
theorem gU(x:Re)(r:List Re)(t:Rat):nR (x::r) t=(if x<=q t then 1 else 0)+nR r t:=rfl
theorem sP{lo hi:Rat}(h:lo<=hi):∀rs:List Re,nR rs lo<=nR rs hi
 |[]=>Int.le_refl _
 |x::r=>by
  have:=sP h r;have hq:=bY.mpr h;rw[gU,gU];by_cases c1:x<=q lo
  ·rw[if_pos c1,if_pos (by grind)];lia
  ·rw[if_neg c1];split<;>lia
theorem sQ{lo hi:Rat}(h:lo<=hi):∀{rs:List Re},nR rs hi=nR rs lo->∀y∈rs,q lo<y->¬y<=q hi
 |[],_,y,hy,_=>nomatch hy
 |x::r,e,y,hy,hl=>by
  have m:=sP h r;have hq:=bY.mpr h;rw[gU,gU] at e;by_cases c1:x<=q lo
  ·rw[if_pos c1,if_pos (show x<=q hi by grind)] at e;rcases List.mem_cons.mp hy with z|z
   ·exfalso;rw[z] at hl;grind
   ·exact sQ h (by lia) y z hl
  ·rw[if_neg c1] at e;by_cases c2:x<=q hi
   ·rw[if_pos c2] at e;exfalso;lia
   ·rw[if_neg c2] at e;rcases List.mem_cons.mp hy with z|z
    ·rw[z];exact c2
    ·exact sQ h (by lia) y z hl
theorem xO{lo hi:Rat}(h:lo<=hi):∀{rs:List Re},nR rs hi=nR rs lo+1->∃x∈rs,q lo<x/\x<=q hi/\∀y∈rs,q lo<y->y<=q hi->y=x
 |[],e=>by
  exfalso;have e1:nR [] hi=0:=rfl;have e2:nR [] lo=0:=rfl;lia
 |x::r,e=>by
  have m:=sP h r;have hq:=bY.mpr h;rw[gU,gU] at e;by_cases c1:x<=q lo
  ·rw[if_pos c1,if_pos (show x<=q hi by grind)] at e;obtain⟨z,hz,z1,z2,z3⟩:=xO h (rs:=r) (by lia);refine⟨z,List.mem_cons_of_mem _ hz,z1,z2,fun y hy y1 y2=>?_⟩;rcases List.mem_cons.mp hy with w|w
   ·exfalso;rw[w] at y1;grind
   ·exact z3 y w y1 y2
  ·rw[if_neg c1] at e;by_cases c2:x<=q hi
   ·rw[if_pos c2] at e;refine⟨x,List.mem_cons_self,by grind,c2,fun y hy y1 y2=>?_⟩;rcases List.mem_cons.mp hy with w|w
    ·exact w
    ·exact absurd y2 (sQ h (by lia) y w y1)
   ·rw[if_neg c2] at e;obtain⟨z,hz,z1,z2,z3⟩:=xO h (rs:=r) (by lia);refine⟨z,List.mem_cons_of_mem _ hz,z1,z2,fun y hy y1 y2=>?_⟩;rcases List.mem_cons.mp hy with w|w
    ·rw[w] at y2;exact absurd y2 c2
    ·exact z3 y w y1 y2
theorem DA{t:Rat}:∀{rs:List Re},(∀x∈rs,x<=q t)->nR rs t=(rs.length:Int)
 |[],_=>rfl
 |x::r,h=>by
  rw[gU,if_pos (h x List.mem_cons_self),DA fun y hy=>h y (List.mem_cons_of_mem _ hy),List.length_cons];lia
theorem zW{t:Rat}:∀{rs:List Re},(∀x∈rs,¬x<=q t)->nR rs t=0
 |[],_=>rfl
 |x::r,h=>by
  rw[gU,if_neg (h x List.mem_cons_self),zW fun y hy=>h y (List.mem_cons_of_mem _ hy)];rfl
end Po
end SF
namespace SF
open Lean.Grind
namespace Po
open Re
theorem ve{α:Type}:∀(r s:List α),s.Nodup->∃l:List α,l.Nodup/\∀x,x∈l↔x∈r\/x∈s
 |[],s,hs=>⟨s,hs,fun x=>⟨.inr,fun h=>h.resolve_left (fun z=>nomatch z)⟩⟩
 |a::r,s,hs=>by
  obtain⟨l,nd,hl⟩:=ve r s hs;by_cases h:a∈l
  ·refine⟨l,nd,fun x=>?_⟩;rw[hl,List.mem_cons];constructor
   ·rintro(z|z)
    ·exact .inl (.inr z)
    ·exact .inr z
   ·rintro((z|z)|z)
    ·rw[z];exact(hl a).mp h
    ·exact .inl z
    ·exact .inr z
  ·refine⟨a::l,List.nodup_cons.mpr ⟨h,nd⟩,fun x=>?_⟩;rw[List.mem_cons,List.mem_cons,hl];constructor
   ·rintro(z|z|z)
    ·exact .inl (.inl z)
    ·exact .inl (.inr z)
    ·exact .inr z
   ·rintro((z|z)|z)
    ·exact .inl z
    ·exact .inr (.inl z)
    ·exact .inr (.inr z)
structure Gq(A g:List Int)(rs:List Re):Prop where
 tA:Tr A
 nA:A≠[]
 tr:Tr g
 ne:g≠[]
 fk:Fk (ao g)
 dv:∀π,kX π->(D π (ao A)↔D π (ao g))
 rt:∀x,at' x (ao g)=0↔x∈rs
 nd:rs.Nodup
theorem Bm{xs:List Int}(h:Tr xs)(hn:xs≠[])(π:Po):D π (ao xs)↔D π (ao (aC xs)):=by
 have e:=eK h hn;have hc:=ff h hn;rw[e];exact⟨fun z=>z.uQ hc,fun z=>z.mulL _⟩
theorem Gq.Dg{p m d:Int}(hd:0<d)(hm:mC m):Gq (qd p m d) (aC (qd p m d)) [ov ((p:Re)-sq m) d,ov ((p:Re)+sq m) d]:=by
 obtain⟨s0,ss⟩:=iG hm.1;refine⟨fj hd,iF _ _ _,cA (fj hd),fun z=>?_,Dx hd hm,fun π _=>Bm (fj hd) (iF _ _ _) π,fun x=>Dy hd ss x,?_⟩
 ·have:=congrArg List.length z;rw[aY] at this;cases this
 ·refine List.nodup_cons.mpr ⟨fun z=>?_,List.nodup_cons.mpr ⟨by simp,List.nodup_nil⟩⟩;have e:=List.mem_singleton.mp z;have e1:=gA hd ((p:Re)-sq m);have e2:=gA hd ((p:Re)+sq m);rw[e,e2] at e1;grind
theorem Gq.NC{p d t u:Int}(hd:0<d)(hu:0<u)(hg:Int.gcd t u=1)(e:t*d=p*u):Gq (qd p 0 d) [0-t,u] [q ((p:Rat)/(d:Rat))]:=by
 have fl:=Gb.NC t u hu hg;have ed:K (u*u)*ao (qd p 0 d)=K (d*d)*(ao [0-t,u]*ao [0-t,u]):=by
  rw[<-iV];refine ext fun i=>?_;rw[bC,bC,bJ,bJ];have em:mulL [0-t,u] [0-t,u]=[(0-t)*(0-t),(0-t)*u+u*(0-t),u*u]:=by
   rw[uI (by simp) (by simp)];simp[fv,cv,co,aF,List.range,List.range.loop]
   try grind
  rw[em];unfold qd
  match i with
  |0=>
   show u*u*(p*p-0)=d*d*((0-t)*(0-t));have:u*u*(p*p-0)=(p*u)*(p*u):=by grind
   rw[this,<-e];grind
  |1=>
   show u*u*(0-2*p*d)=d*d*((0-t)*u+u*(0-t));have:u*u*(0-2*p*d)=0-2*(p*u)*(u*d):=by grind
   rw[this,<-e];grind
  |2=>
   show u*u*(d*d)=d*d*(u*u);grind
  |i+3=>
   show u*u*co [_,_,_] (i+3)=d*d*co [_,_,_] (i+3);rw[cz (by simp),cz (by simp)];lia
 have ue:(0:Rat)<(d:Rat):=Rat.intCast_pos.mpr hd;have eD:(0:Rat)<(u:Rat):=Rat.intCast_pos.mpr hu;have dd:d*d≠0:=Int.ne_of_gt (Int.mul_pos hd hd);have uu:u*u≠0:=Int.ne_of_gt (Int.mul_pos hu hu);refine⟨fj hd,iF _ _ _,fl.tr.1,fl.tr.2.1,fl.fk,fun π Bh=>⟨fun z=>?_,fun z=>?_⟩,fun x=>?_,List.nodup_cons.mpr ⟨by simp,List.nodup_nil⟩⟩
 ·have z1:=z.mulL (K (u*u));rw[ed] at z1;rcases Bh.prime (z1.uQ dd) with w|w<;>exact w
 ·have z1:D π (K (d*d)*(ao [0-t,u]*ao [0-t,u])):=(z.mulL _).mulL _;rw[<-ed] at z1;exact z1.uQ uu
 ·rw[Dh,List.mem_singleton];have e1:q ((p:Rat)/(d:Rat))*(u:Re)=(t:Re):=by
   rw[cH,cH,<-eC];congr 1;have e2:(t:Rat)*(d:Rat)=(p:Rat)*(u:Rat):=by rw[<-Rat.intCast_mul,e,Rat.intCast_mul]
   have e3:(p:Rat)/(d:Rat)*(d:Rat)=(p:Rat):=Rat.div_mul_cancel (by grind);generalize (p:Rat)/(d:Rat)=y at*;have:(y*(u:Rat)-(t:Rat))*(d:Rat)=0:=by grind
   rcases Rat.mul_eq_zero.mp this with w|w
   ·grind
   ·grind
  have PU:=bX hu;constructor
  ·intro z;have z2:(x-q ((p:Rat)/(d:Rat)))*(u:Re)=0:=by grind
   have z3:x-q ((p:Rat)/(d:Rat))=0:=Classical.byContradiction fun w=>Re.bT w (by grind) z2;grind
  ·intro z;rw[z,e1];grind
theorem DB(g:Po):dc [g]=g:=by show g*1=g;grind
theorem DC(g h:Po):dc [g,h]=g*h:=by show g*(h*1)=g*h;grind
theorem Gq.two{A B g h:List Int}{r s:List Re}(a:Gq A g r)(b:Gq B h s):∃rs:List Re,rs.Nodup/\(∀x,x∈rs↔x∈r\/x∈s)/\((g=h/\iL (mulL A B)=g)\/(g≠h/\iL (mulL A B)=mulL g h))/\(∀x,at' x (ao (iL (mulL A B)))=0↔x∈rs)/\CW (ao (iL (mulL A B))) (ao (iL (mulL A B))):=by
 obtain⟨rs,nd,Sf⟩:=ve r s b.nd;have tm:=nL a.tA b.tA;have em:ao (mulL A B)=ao A*ao B:=iV _ _;have nm:mulL A B≠[]:=fun z=>by
  have z2:=em;rw[z,dF] at z2;exact bT (fE a.tA a.nA) (fE b.tA b.nA) z2.symm
 have dv:∀π,kX π->(D π (ao (mulL A B))↔D π (ao g)\/D π (ao h)):=fun π Bh=>by
  rw[em];constructor
  ·intro z;rcases Bh.prime z with w|w
   ·exact .inl ((a.dv π Bh).mp w)
   ·exact .inr ((b.dv π Bh).mp w)
  ·rintro(z|z)
   ·exact((a.dv π Bh).mpr z).mulR (ao B)
   ·exact((b.dv π Bh).mpr z).mulL (ao A)
 refine⟨rs,nd,Sf,?_⟩;by_cases e:g=h
 ·subst e;have k:=kl tm nm (gs:=[ao g]) (fun x hx=>by rw[List.mem_singleton.mp hx];exact a.fk) (List.nodup_cons.mpr ⟨by simp,List.nodup_nil⟩) (fun π Bh=>by rw[DB,dv π Bh];exact⟨fun z=>z.elim id id,.inl⟩);rw[DB] at k;have k2:iL (mulL A B)=g:=gN (xv _) a.tr k;have k3:=lq (gs:=[ao g]) (fun x hx=>by rw[List.mem_singleton.mp hx];exact a.fk) (List.nodup_cons.mpr ⟨by simp,List.nodup_nil⟩);rw[DB] at k3;refine⟨.inl ⟨rfl,k2⟩,fun x=>?_,by rw[k2];exact k3⟩;rw[k2,a.rt,Sf];refine⟨.inl,fun z=>?_⟩;rcases z with z|z
  ·exact z
  ·exact(a.rt x).mp ((b.rt x).mpr z)
 ·have UU:∀x∈[ao g,ao h],Fk x:=fun x hx=>by
   rcases List.mem_cons.mp hx with z|z
   ·rw[z];exact a.fk
   ·rw[List.mem_singleton.mp z];exact b.fk
  have UW:[ao g,ao h].Nodup:=List.nodup_cons.mpr ⟨fun z=>e (gN a.tr b.tr (List.mem_singleton.mp z)),List.nodup_cons.mpr ⟨by simp,List.nodup_nil⟩⟩;have k:=kl tm nm (gs:=[ao g,ao h]) UU UW (fun π Bh=>by
   rw[DC,dv π Bh]
   constructor
   ·rintro(z|z)
    ·exact z.mulR (ao h)
    ·exact z.mulL (ao g)
   ·exact Bh.prime);rw[DC] at k;have k2:iL (mulL A B)=mulL g h:=gN (xv _) (nL a.tr b.tr) (by rw[k,iV]);have k3:=lq UU UW;rw[DC,<-iV] at k3;refine⟨.inr ⟨e,k2⟩,fun x=>?_,by rw[k2];exact k3⟩;rw[k2,iV,dW,Sf,<-a.rt,<-b.rt];constructor
  ·intro z;refine Classical.byContradiction fun w=>?_;exact Re.bT (fun y=>w (.inl y)) (fun y=>w (.inr y)) z
  ·rintro(z|z)<;>rw[z]<;>grind
end Po
end SF
namespace SF
open PySem PySem.Spec PyProof.Rows L2 PySem.W
section
variable {X:Cx}
noncomputable def sR(k:Int):Value->Bool
 |.int i _=>i==k
 |_=>false
theorem zX(k:Int)(tk:Tok):∀{ns:List Int}{us:List Value},Vals (ns.map V.int) us->∀y,y∈us->∀(A:Around)(s:Shared),SeqAt.EqAt A s y (.int k tk) (sR k y)
 |[],_,.nil,_,hy,_,_=>absurd hy (by simp)
 |b::bs,_,.cons r t,y,hy,A,s=>by
  rcases List.mem_cons.mp hy with e|hy
  ·subst e;obtain⟨u,rfl⟩:=r;exact SeqAt.EqAt.int_int b u k tk
  ·exact zX k tk t y hy A s
theorem o5(k:Int):∀{ns:List Int}{us:List Value},Vals (ns.map V.int) us->us.countP (sR k)=ns.countP (·==k)
 |[],_,.nil=>rfl
 |b::bs,_,.cons r t=>by
  obtain⟨u,rfl⟩:=r;rw[List.countP_cons,List.countP_cons,o5 k t];rfl
noncomputable def NO(K:Frag):V->List V->Hp->VK->Prop:=fun x vs H Q=>∃(p:Addr)(ns:List Int)(k:Int),x=.ref p/\vs=[.int k]/\a_ K H p (ns.map V.int)/\Q (.int (ns.countP (·==k):Nat)) H
theorem zY:Q0 X "list.count" (NO X.K):=by
 intro pins s σ H x xs v us Q I rx r h;obtain⟨p,ns,k,rfl,rfl,hs,q⟩:=h;cases rx;obtain⟨u,rfl,ru⟩:=Vals.one r;obtain⟨tk,rfl⟩:=ru;obtain⟨aZ,rv,⟨o,n,e1,e2,e3,e4⟩,hz⟩:=I.list hs;obtain⟨cls,dd,data,sl⟩:=o;simp only at e2 e3 e4;subst e2 e3 e4;refine call_meets PySem.F.slot_list_count ⟨_,e1,rfl⟩ PySem.F.entry_list_count (PySem.F.args_list_count_2 _ _) (SeqAt.list_countAt p aZ.toArray n none sl (.int k tk) (sR k)) ⟨e1,fun y hy=>zX k tk rv y (by simpa using hy) _ _,?_⟩;rw[show aZ.toArray.toList=aZ from rfl,o5 k rv];exact⟨.int _,H,I.tok _,⟨_,rfl⟩,q⟩
end
end SF
local macro_rules|`(tactic| walk_at "sf")=>`(tactic| (repeat first
 |((with_reducible apply L2.MI);exact rfl)
 |with_reducible apply L2.Ww|with_reducible apply L2.ME|with_reducible apply L2.MF|with_reducible apply L2.MH|with_reducible apply L2.Rg|with_reducible apply L2.Rh
 |with_reducible apply L2.Ri|with_reducible apply L2.Wx|with_reducible apply L2.JF|with_reducible apply L2.Rj|with_reducible apply L2.Rk|with_reducible apply L2.MK|with_reducible apply L2.ML
 |with_reducible apply L2.MM|with_reducible apply L2.MN|with_reducible apply L2.MO|with_reducible apply L2.Rl|with_reducible apply L2.MP|with_reducible apply L2.JG|with_reducible apply L2.MQ|with_reducible apply L2.JH
 |with_reducible apply L2.MR|with_reducible apply L2.JI|with_reducible apply L2.JJ|with_reducible apply L2.Rn|with_reducible apply L2.MS|with_reducible apply L2.MT|with_reducible apply L2.JB|with_reducible apply L2.JC
 |with_reducible apply L2.MU|with_reducible apply L2.MJ|with_reducible apply L2.JD|with_reducible apply L2.Ft|with_reducible apply L2.Fu|with_reducible apply L2.JE|with_reducible apply L2.MG
 |with_reducible apply L2.Fy|with_reducible apply L2.JL|with_reducible apply L2.JM|with_reducible apply L2.Fz|with_reducible apply L2.JN|with_reducible apply L2.JO|with_reducible apply L2.Cw|with_reducible apply L2.FA|with_reducible apply L2.M0
 |((with_reducible show(_<=PySem.sizeLine)/\_);refine And.intro (L2.fb (Nat.le_of_ble_eq_true rfl)) ?_)))
namespace dA
open PySem PyProof.Rows L2 SF
noncomputable def top(i:Nat):Stmt:=PySem.Challenge.pw_surefoot_k18_whole_numbers_compared.main.body.getD i (.Pass ⟨0,0,0,0⟩)
noncomputable abbrev fG:Stmt:=top 5
theorem cE:aH ["one","other","greater","lesser","rest"] ["one","other"] (ar fG):=⟨rfl,rfl,rfl,by decide +kernel,rfl,by decide +kernel,by decide +kernel⟩
noncomputable abbrev xP:Stmt:=top 6
theorem Gw:aH ["number"] ["number"] (ar xP):=⟨rfl,rfl,rfl,by decide +kernel,rfl,by decide +kernel,by decide +kernel⟩
noncomputable abbrev sS:Stmt:=top 7
theorem gC:aH ["number","many","product","square","left"] ["number","many"] (ar sS):=⟨rfl,rfl,rfl,by decide +kernel,rfl,by decide +kernel,by decide +kernel⟩
noncomputable abbrev sT:Stmt:=top 8
theorem o6:aH ["top","under","shared"] ["top","under"] (ar sT):=⟨rfl,rfl,rfl,by decide +kernel,rfl,by decide +kernel,by decide +kernel⟩
noncomputable abbrev sU:Stmt:=top 9
theorem DE:aH ["one","other"] ["one","other"] (ar sU):=⟨rfl,rfl,rfl,by decide +kernel,rfl,by decide +kernel,by decide +kernel⟩
noncomputable abbrev o7:Stmt:=top 10
theorem Bn:aH ["one","other"] ["one","other"] (ar o7):=⟨rfl,rfl,rfl,by decide +kernel,rfl,by decide +kernel,by decide +kernel⟩
noncomputable abbrev ko:Stmt:=top 11
theorem vf:aH ["one","other"] ["one","other"] (ar ko):=⟨rfl,rfl,rfl,by decide +kernel,rfl,by decide +kernel,by decide +kernel⟩
noncomputable abbrev mD:Stmt:=top 13
theorem kq:aH ["row","length"] ["row"] (ar mD):=⟨rfl,rfl,rfl,by decide +kernel,rfl,by decide +kernel,by decide +kernel⟩
noncomputable abbrev o8:Stmt:=top 14
theorem Bo:aH ["poly"] ["poly"] (ar o8):=⟨rfl,rfl,rfl,by decide +kernel,rfl,by decide +kernel,by decide +kernel⟩
noncomputable abbrev iZ:Stmt:=top 15
theorem qj:aH ["poly"] ["poly"] (ar iZ):=⟨rfl,rfl,rfl,by decide +kernel,rfl,by decide +kernel,by decide +kernel⟩
noncomputable abbrev mE:Stmt:=top 16
theorem i4:aH ["poly","shared","number"] ["poly"] (ar mE):=⟨rfl,rfl,rfl,by decide +kernel,rfl,by decide +kernel,by decide +kernel⟩
noncomputable abbrev jz:Stmt:=top 17
theorem lC:aH ["poly","shared"] ["poly"] (ar jz):=⟨rfl,rfl,rfl,by decide +kernel,rfl,by decide +kernel,by decide +kernel⟩
noncomputable abbrev kr:Stmt:=top 18
theorem gW:aH ["poly","point","value","number"] ["poly","point"] (ar kr):=⟨rfl,rfl,rfl,by decide +kernel,rfl,by decide +kernel,by decide +kernel⟩
noncomputable abbrev o9:Stmt:=top 19
theorem gi:aH ["value","point","poly","rest","number"] ["value","point"] (ar o9):=⟨rfl,rfl,rfl,by decide +kernel,rfl,by decide +kernel,by decide +kernel⟩
noncomputable abbrev mF:Stmt:=top 20
theorem eO:aH ["poly","divisor","rest","factors","factor","shift","power","number"] ["poly","divisor"] (ar mF):=⟨rfl,rfl,rfl,by decide +kernel,rfl,by decide +kernel,by decide +kernel⟩
noncomputable abbrev mG:Stmt:=top 21
theorem xQ:aH ["poly"] ["poly"] (ar mG):=⟨rfl,rfl,rfl,by decide +kernel,rfl,by decide +kernel,by decide +kernel⟩
noncomputable abbrev i7:Stmt:=top 22
theorem da:aH ["one","other","first","second","point","shared","found"] ["one","other"] (ar i7):=⟨rfl,rfl,rfl,by decide +kernel,rfl,by decide +kernel,by decide +kernel⟩
noncomputable abbrev ku:Stmt:=top 23
theorem vg:aH ["one","other"] ["one","other"] (ar ku):=⟨rfl,rfl,rfl,by decide +kernel,rfl,by decide +kernel,by decide +kernel⟩
noncomputable abbrev g_:Stmt:=top 24
theorem o_:aH ["poly"] ["poly"] (ar g_):=⟨rfl,rfl,rfl,by decide +kernel,rfl,by decide +kernel,by decide +kernel⟩
noncomputable abbrev jA:Stmt:=top 25
theorem d7:aH ["poly","top","under","height","scale","number"] ["poly","top","under"] (ar jA):=⟨rfl,rfl,rfl,by decide +kernel,rfl,by decide +kernel,by decide +kernel⟩
noncomputable abbrev mH:Stmt:=top 26
theorem xR:aH ["poly","given"] ["poly","given"] (ar mH):=⟨rfl,rfl,rfl,by decide +kernel,rfl,by decide +kernel,by decide +kernel⟩
noncomputable abbrev i8:Stmt:=top 28
theorem dN:aH ["row","many","before","number"] ["row"] (ar i8):=⟨rfl,rfl,rfl,by decide +kernel,rfl,by decide +kernel,by decide +kernel⟩
noncomputable abbrev jB:Stmt:=top 29
theorem cJ:aH ["one","other","size","turn","rest","shift","factor","power_of_x","number"] ["one","other"] (ar jB):=⟨rfl,rfl,rfl,by decide +kernel,rfl,by decide +kernel,by decide +kernel⟩
noncomputable abbrev kv:Stmt:=top 30
theorem cL:aH ["free","chain","size","scale","one","other","gap","shared"] ["free"] (ar kv):=⟨rfl,rfl,rfl,by decide +kernel,rfl,by decide +kernel,by decide +kernel⟩
noncomputable abbrev i9:Stmt:=top 31
theorem qk:aH ["chain","given"] ["chain","given"] (ar i9):=⟨rfl,rfl,rfl,by decide +kernel,rfl,by decide +kernel,by decide +kernel⟩
noncomputable abbrev jC:Stmt:=top 34
theorem f9:aH ["free","reach","bound","number"] ["free","reach"] (ar jC):=⟨rfl,rfl,rfl,by decide +kernel,rfl,by decide +kernel,by decide +kernel⟩
noncomputable abbrev kx:Stmt:=top 35
theorem jD:aH ["free","reach"] ["free"] (ar kx):=⟨rfl,rfl,rfl,by decide +kernel,rfl,by decide +kernel,by decide +kernel⟩
noncomputable abbrev fo:Stmt:=top 36
theorem dI:aH ["free","odd","bound"] ["free"] (ar fo):=⟨rfl,rfl,rfl,by decide +kernel,rfl,by decide +kernel,by decide +kernel⟩
noncomputable abbrev pb:Stmt:=top 37
theorem Bp:aH ["chain","given"] ["chain","given"] (ar pb):=⟨rfl,rfl,rfl,by decide +kernel,rfl,by decide +kernel,by decide +kernel⟩
noncomputable abbrev ky:Stmt:=top 38
theorem cB:aH ["poly","free","chain","around","waiting","found","stretch","low","high","many","cut"] ["poly"] (ar ky):=⟨rfl,rfl,rfl,by decide +kernel,rfl,by decide +kernel,by decide +kernel⟩
noncomputable abbrev i_:Stmt:=top 39
theorem h_:aH ["pair","low","high"] ["pair"] (ar i_):=⟨rfl,rfl,rfl,by decide +kernel,rfl,by decide +kernel,by decide +kernel⟩
noncomputable abbrev gD:Stmt:=top 40
theorem jg:aH ["stretch","width","room"] ["stretch","width"] (ar gD):=⟨rfl,rfl,rfl,by decide +kernel,rfl,by decide +kernel,by decide +kernel⟩
noncomputable abbrev gE:Stmt:=top 41
theorem dJ:aH ["free","stretch","parts","near","far","under","start","at_near","at_far"] ["free","stretch","parts","near","far"] (ar gE):=⟨rfl,rfl,rfl,by decide +kernel,rfl,by decide +kernel,by decide +kernel⟩
noncomputable abbrev mI:Stmt:=top 42
theorem fH:aH ["free","stretch","parts","step","at_low","at_high","part","near"] ["free","stretch","parts"] (ar mI):=⟨rfl,rfl,rfl,by decide +kernel,rfl,by decide +kernel,by decide +kernel⟩
noncomputable abbrev pe:Stmt:=top 43
theorem mJ:aH ["free","stretch","cut","lower"] ["free","stretch"] (ar pe):=⟨rfl,rfl,rfl,by decide +kernel,rfl,by decide +kernel,by decide +kernel⟩
noncomputable abbrev kz:Stmt:=top 44
theorem dB:aH ["free","pair","width","stretch","parts","needed","found"] ["free","pair","width"] (ar kz):=⟨rfl,rfl,rfl,by decide +kernel,rfl,by decide +kernel,by decide +kernel⟩
noncomputable abbrev kA:Stmt:=top 47
theorem vh:aH ["given"] ["given"] (ar kA):=⟨rfl,rfl,rfl,by decide +kernel,rfl,by decide +kernel,by decide +kernel⟩
noncomputable abbrev jE:Stmt:=top 48
theorem d8:aH ["free","pair","weight","last","narrow","low","high","given"] ["free","pair","weight"] (ar jE):=⟨rfl,rfl,rfl,by decide +kernel,rfl,by decide +kernel,by decide +kernel⟩
noncomputable abbrev sV:Stmt:=top 49
theorem pj:aH ["poly","pairs","free"] ["poly"] (ar sV):=⟨rfl,rfl,rfl,by decide +kernel,rfl,by decide +kernel,by decide +kernel⟩
noncomputable abbrev kB:Stmt:=top 50
theorem vi:aH ["number"] ["number"] (ar kB):=⟨rfl,rfl,rfl,by decide +kernel,rfl,by decide +kernel,by decide +kernel⟩
noncomputable abbrev mK:Stmt:=top 51
theorem kC:aH ["number","given","low","side"] ["number","given"] (ar mK):=⟨rfl,rfl,rfl,by decide +kernel,rfl,by decide +kernel,by decide +kernel⟩
noncomputable abbrev kD:Stmt:=top 52
theorem gX:aH ["one","other","low","high","shared"] ["one","other"] (ar kD):=⟨rfl,rfl,rfl,by decide +kernel,rfl,by decide +kernel,by decide +kernel⟩
noncomputable abbrev pk:Stmt:=top 53
theorem iH:aH ["one","other","pair","width"] ["one","other"] (ar pk):=⟨rfl,rfl,rfl,by decide +kernel,rfl,by decide +kernel,by decide +kernel⟩
noncomputable abbrev kE:Stmt:=top 54
theorem vj:aH ["one","other"] ["one","other"] (ar kE):=⟨rfl,rfl,rfl,by decide +kernel,rfl,by decide +kernel,by decide +kernel⟩
noncomputable abbrev kF:Stmt:=top 56
theorem vk:aH ["_law_script","_law_k"] ["_law_script","_law_k"] (ar kF):=⟨rfl,rfl,rfl,by decide +kernel,rfl,by decide +kernel,by decide +kernel⟩
noncomputable abbrev jF:Stmt:=top 57
theorem lD:aH ["_law_cell_here","_law_k","_law_more"] ["_law_cell_here","_law_k"] (ar jF):=⟨rfl,rfl,rfl,by decide +kernel,rfl,by decide +kernel,by decide +kernel⟩
noncomputable abbrev i':Stmt:=top 58
theorem dO:aH ["_law_one","_law_other","_law_left"] ["_law_one","_law_other"] (ar i'):=⟨rfl,rfl,rfl,by decide +kernel,rfl,by decide +kernel,by decide +kernel⟩
noncomputable abbrev jG:Stmt:=top 59
theorem lE:aH ["_law_top","_law_under","_law_divisor"] ["_law_top","_law_under"] (ar jG):=⟨rfl,rfl,rfl,by decide +kernel,rfl,by decide +kernel,by decide +kernel⟩
noncomputable abbrev ie:Stmt:=top 61
theorem fq:aH ["_law_one","_law_other","_law_made","_law_k","_law_j"] ["_law_one","_law_other"] (ar ie):=⟨rfl,rfl,rfl,by decide +kernel,rfl,by decide +kernel,by decide +kernel⟩
noncomputable abbrev kG:Stmt:=top 64
theorem fT:aH ["_law_cell_here","_law_k","_law_more","_law_m","_law_p","_law_d"] ["_law_cell_here","_law_k"] (ar kG):=⟨rfl,rfl,rfl,by decide +kernel,rfl,by decide +kernel,by decide +kernel⟩
noncomputable abbrev ja:Stmt:=top 65
theorem dP:aH ["_law_surd_here","_law_p","_law_s","_law_m","_law_d","_law_pair"] ["_law_surd_here"] (ar ja):=⟨rfl,rfl,rfl,by decide +kernel,rfl,by decide +kernel,by decide +kernel⟩
noncomputable abbrev ig:Stmt:=top 67
theorem gF:aH ["_law_a","_law_s","_law_m","_law_left","_law_right"] ["_law_a","_law_s","_law_m"] (ar ig):=⟨rfl,rfl,rfl,by decide +kernel,rfl,by decide +kernel,by decide +kernel⟩
noncomputable abbrev kH:Stmt:=top 68
theorem cM:aH ["_law_a","_law_s","_law_m","_law_t","_law_n","_law_first","_law_second","_law_top","_law_side_here","_law_gap","_law_cross","_law_bigger"] ["_law_a","_law_s","_law_m","_law_t","_law_n"] (ar kH):=⟨rfl,rfl,rfl,by decide +kernel,rfl,by decide +kernel,by decide +kernel⟩
noncomputable abbrev gG:Stmt:=top 69
theorem bW:aH ["_law_one","_law_other","_law_p","_law_s","_law_m","_law_d","_law_q","_law_t","_law_n","_law_e"] ["_law_one","_law_other"] (ar gG):=⟨rfl,rfl,rfl,by decide +kernel,rfl,by decide +kernel,by decide +kernel⟩
noncomputable abbrev m9:Stmt:=top 70
theorem eH:aH ["_law_script","_law_k","_law_one","_law_other","_law_more","_law_first","_law_second","_law_due","_law_factors","_law_p","_law_s","_law_m","_law_d","_law_both_here"] ["_law_script"] (ar m9):=⟨rfl,rfl,rfl,by decide +kernel,rfl,by decide +kernel,by decide +kernel⟩
structure Nm(mg:Str->Option Value):Prop where
 fz:mg "abs"=none
 ft:mg "len"=none
 gY:mg "int"=none
 Im:mg "max"=none
 DF:mg "min"=none
 UX:mg "sum"=none
 NP:mg "any"=none
 NQ:mg "all"=none
 xT:mg "list"=none
 lH:mg "range"=none
 jH:mg "enumerate"=none
 jb:mg "reversed"=none
noncomputable abbrev IL(H:Hp)(a:Addr)(xs:List Int):Prop:=H a=some (.lst (xs.map V.int))
noncomputable def Ab(n:Nat)(xs:List Int):Prop:=∀x∈xs,Bd n x
theorem Ab.co{n:Nat}{xs:List Int}(h:Ab n xs)(i:Nat):Bd n (SF.co xs i):=by
 by_cases hi:i<xs.length
 ·rw[cy hi];exact h _ (List.getElem_mem _)
 ·rw[cz (by lia)];show(0:Int).natAbs<2^n;exact Nat.two_pow_pos n
theorem Ab.mono{m n:Nat}{xs:List Int}(h:Ab m xs)(hm:m<=n):Ab n xs:=fun x hx=>(h x hx).mono hm
theorem aJ{i j:Int}{m n:Nat}(hi:Bd m i)(hj:Bd n j)(h:m+n<=134217728):IntMulOk i j:=by
 have bits:∀{k:Nat}{x:Int},Bd k x->Builtin.Int.intBits x<=k:=fun{k x} hx=>PySem.intBits_le_iff.mpr hx;exact PySem.IntMulOk.of_le (bits hi) (bits hj) (by lia)
theorem pz{xs:List Int}{n:Nat}(h:n<xs.length):mU (xs.map V.int) (n:Int)=some (.int (SF.co xs n)):=
 nH (by rw[List.getElem?_map,List.getElem?_eq_getElem h,cy h]<;>rfl)
theorem mL{xs:List Int}{n:Nat}{x:V}(h:(xs.map V.int)[n]?=some x):n<xs.length/\x=.int (SF.co xs n):=by
 have hn:n<xs.length:=by
  have:=(List.getElem?_eq_some_iff.mp h).1
  rwa [List.length_map] at this
 rw[List.getElem?_map,List.getElem?_eq_getElem hn] at h;rw[cy hn];exact⟨hn,(Option.some.inj h).symm⟩
theorem DG(xs:List Int)(n:Nat):ip (xs.map V.int) none (some (n:Int))=(xs.take n).map V.int:=by
 unfold ip;rw[HT.n9,HT.y_,List.length_map,List.drop_zero,Nat.sub_zero,List.map_take];rcases Nat.le_total n xs.length with h|h
 ·rw[Nat.min_eq_left h]
 ·rw[Nat.min_eq_right h,List.take_of_length_le (by simp),List.take_of_length_le (by simpa using h)]
theorem DH(xs:List Int)(k:Nat):ip (xs.map V.int) (some (k:Int)) none=(xs.drop k).map V.int:=by
 unfold ip;rw[HT.n9,HT.y_,List.length_map,List.map_drop];rcases Nat.le_total k xs.length with h|h
 ·rw[Nat.min_eq_left h,List.take_of_length_le (by simp)]
 ·rw[Nat.min_eq_right h,Nat.sub_self,List.take_zero,List.drop_of_length_le (by simpa using h)]
theorem vm(xs:List Int):ip (xs.map V.int) none (some (-1))=xs.dropLast.map V.int:=by
 unfold ip;rw[HT.n9,List.drop_zero,Nat.sub_zero,List.length_map,List.dropLast_eq_take,List.map_take];have e:HT.ua xs.length xs.length (some (-1))=xs.length-1:=by
  show(if(-1:Int)<0 then((-1:Int)+(xs.length:Int)).toNat else min (-1:Int).toNat xs.length)=xs.length-1;rw[if_pos (by decide)];lia
 rw[e]
theorem vn{α:Type}(x:α):∀n:Nat,(List.replicate n [x]).flatten=List.replicate n x
 |0=>rfl
 |n+1=>by
  rw[List.replicate_succ,List.flatten_cons,vn x n,List.replicate_succ];rfl
theorem Gx(n:Nat)(x:Int):(List.replicate n x).map V.int=List.replicate n (V.int x):=List.map_replicate
theorem xU{n i:Nat}(h:i<n):wV n (i:Int)=some i:=by
 unfold wV;rw[if_pos (by lia),if_pos (by lia)];simp
theorem f_{xs:List Int}(h:xs≠[]):mU (xs.map V.int) (-1)=some (.int (SF.co xs (xs.length-1))):=by
 have hl:0<xs.length:=List.length_pos_iff.mpr h;unfold mU;have e:wV (xs.map V.int).length (-1)=some (xs.length-1):=by
  unfold wV;rw[List.length_map,if_neg (by decide),if_pos (by lia)];congr 1;lia
 rw[e];show(xs.map V.int)[xs.length-1]?=_;rw[List.getElem?_map,List.getElem?_eq_getElem (by lia),cy (by lia)];rfl
noncomputable def zZ:Sp:=fun vs H Q _=>∃a b:Int,vs=[.int a,.int b]/\Q (.int ((Int.gcd a b:Nat):Int)) H
noncomputable def DI(f:List Int->List Int)(Pr:List Int->Prop):Sp:=fun vs H Q _=>∃(a:Addr)(xs:List Int),vs=[.ref a]/\IL H a xs/\Pr xs/\∀(p:Addr)(H':Hp),au H H'->IL H' p (f xs)->Q (.ref p) H'
noncomputable def xV(f:List Int->List Int->List Int)(Pr:List Int->List Int->Prop):Sp:=fun vs H Q _=>∃(a b:Addr)(xs ys:List Int),vs=[.ref a,.ref b]/\IL H a xs/\IL H b ys/\Pr xs ys/\∀(p:Addr)(H':Hp),au H H'->IL H' p (f xs ys)->Q (.ref p) H'
noncomputable def UY(f:List Int->Int)(Pr:List Int->Prop):Sp:=fun vs H Q _=>∃(a:Addr)(xs:List Int),vs=[.ref a]/\IL H a xs/\Pr xs/\Q (.int (f xs)) H
noncomputable abbrev DJ(xs:List Int):Prop:=xs.length<=1000
noncomputable abbrev jj:Nat:=60000000
noncomputable abbrev UZ(xs ys:List Int):Prop:=(xs.length<=100/\ys.length<=100)/\Ab jj xs/\Ab jj ys
section
variable {P:Program} {w:World} {K:PySem.W.Frag} {mg:Str->Option Value} {base:Heap}
theorem lI(T:Nm mg)(D:aS K mg "common_divisor" fG ["one","other"]):bI P w K mg base 1 "common_divisor" ["one","other"] zZ:=by
 refine D.ok cE (fun vs H Q E h=>?_) (fun f cQ A outer s H vs Q E hr h=>?_)
 ·obtain⟨a,b,rfl,_⟩:=h;rfl
 obtain⟨a,b,rfl,q⟩:=h;refine⟨_,(ae (aj (i:=2) cE.nd rfl (Or.inl rfl) (aK cm rfl T.fz boot_abs (aa (pv 0) ag)))
  (ae (aj (i:=3) cE.nd rfl (Or.inl rfl) (aK cm rfl T.fz boot_abs (aa (pv 1) ag)))
  (ae (dj PassesOwn.never (fN (pv 3) (fun _=>rfl))
  (ae (aj (i:=4) cE.nd rfl (Or.inl rfl) (ai de (pv 2) (pv 3)))
  (ae (aj (i:=2) cE.nd rfl (Or.inl rfl) (pv 3))
  (ah (aj (i:=3) cE.nd rfl (Or.inl rfl) (pv 4))))))
  (ah (aE (pv 2)))))),?_⟩;walk_at "sf";refine⟨_,rfl,?_⟩;walk_at "sf";refine⟨_,rfl,?_⟩;walk_at "sf";refine cX (fun m σ H'=>∃(g l:Int)(r:Option V),m=l.toNat/\σ=[some (.int a),some (.int b),some (.int g),some (.int l),r]/\H'=H/\0<=g/\0<=l/\Int.gcd g l=Int.gcd a b)
  ⟨_,_,_,_,rfl,rfl,rfl,by split<;>lia,by split<;>lia,zg⟩ ?_
 rintro m σ H' ⟨g,l,r,rfl,rfl,rfl,hg,hl,e⟩;walk_at "sf";refine cZ (fun c=>?_) (fun c=>?_)
 ·have xy:l≠0:=by simpa using c
  have hp:0<l:=by lia
  refine⟨_,fun bN H' h=>h,?_⟩;walk_at "sf";refine bP xy ?_;walk_at "sf";have h1:=Int.emod_nonneg g xy;have h2:=Int.emod_lt_of_pos g hp;rw[fQ hp];exact⟨_,by lia,_,_,_,rfl,rfl,rfl,hl,h1,by rw[uC hg hp,e]⟩
 ·have xy:l=0:=by simpa using c
  subst xy;walk_at "sf";have e':((Int.gcd a b:Nat):Int)=g:=by rw[<-e];exact zh hg
  rw[e'] at q;exact q
theorem Bq(xs:List Int):aC xs=fv (fun i=>(co xs i).fdiv (cont xs)) xs.length:=by
 unfold aC;refine List.ext_getElem (by rw[List.length_map,aR]) fun i h1 h2=>?_;simp only[fv,List.getElem_map,List.getElem_range];rw[cy (by simpa using h1)]
theorem ql(T:Nm mg)(D:aS K mg "derivative" iZ ["poly"]):bI P w K mg base 1 "derivative" ["poly"] (DI cF (fun xs=>DJ xs/\Ab jj xs)):=by
 refine D.ok qj (fun vs H Q E h=>?_) (fun f cQ A outer s H vs Q E hr h=>?_)
 ·obtain⟨a,xs,rfl,_⟩:=h;rfl
 obtain⟨a,xs,rfl,ha,⟨hx,bx⟩,q⟩:=h;refine⟨_,(ah (aE (kP nI (fZ rfl rfl (g9 (own:=["power","number"]) (fr:=[]) (fs:=[]) (by with_unfolding_all rfl) rfl (by decide +kernel) (by decide +kernel) (by exact trivial) (by with_unfolding_all rfl) (by exact trivial)) (rR rfl T.jH (aa (pv 0) ag)) (fun _ _ _ _ _=>(FG (K:=K) (n:=2) rfl rfl (bO (aU (i:=0) (show List.Nodup (["power","number"]:List Str) by decide +kernel) rfl (Or.inl rfl) (Or.inr rfl)) (bO (aU (i:=1) (show List.Nodup (["power","number"]:List Str) by decide +kernel) rfl (Or.inl rfl) (Or.inr rfl)) iN)) rfl rfl)) (fun _ _ _ _ _=>(ai aq (pv 0) (pv 1)))) (nG af) nF))),?_⟩;walk_at "sf";refine f6 (H1:=H) (Cs K a) (fun R hR=>?_) (xk (xs:=xs) (a_.of ha) (fun i=>(i:Int)*co xs i) hx ?_ ?_)
 ·walk_at "sf";exact⟨a,rfl,⟨_,a_.of ha⟩,hR⟩
 ·intro i p r H2 hi hr dZ hp Z hZ;obtain⟨x0,x1,rfl⟩:=RH hr;refine jq (cj.of hp) rfl ?_;walk_at "sf";refine bP (aJ (m:=10) (Bd.gr (by lia) (by have:xs.length<=1000:=hx;lia)) (bx.co i) (by decide)) ?_;exact hZ _ _ (au.refl _) ⟨[_,_],rfl,rfl⟩
 ·intro D H2 hD dZ h2;walk_at "sf";refine⟨_,rfl,?_⟩;walk_at "sf";refine⟨D,_,rfl,a_.of h2,fun p hp=>q p _ (dZ.trans (au.new hp _)) ?_⟩;show upd H2 p _ p=_;rw[ak];have e:ip ((fv (fun i=>(i:Int)*co xs i) xs.length).map V.int) (some 1) none=((fv (fun i=>(i:Int)*co xs i) xs.length).drop 1).map V.int:=DH _ 1;rw[e,AV]
theorem xW{xs:List Int}{i:Nat}(h:i<xs.length):kT 0 (xs.take (i+1))=Int.gcd ((kT 0 (xs.take i):Nat):Int) (co xs i):=by
 rw[List.take_add_one,List.getElem?_eq_getElem h,Option.toList_some];unfold kT;rw[List.foldl_append,cy h];rfl
theorem xX(dw:bI P w K mg base 1 "common_divisor" ["one","other"] zZ)(D:aS K mg "content" mE ["poly"]):bI P w K mg base 2 "content" ["poly"] (UY cont DJ):=by
 refine D.ok i4 (fun vs H Q E h=>?_) (fun f cQ A outer s H vs Q E hr h=>?_)
 ·obtain⟨a,xs,rfl,_⟩:=h;rfl
 obtain⟨a,xs,rfl,ha,hx,q⟩:=h;refine⟨_,(ae (aj (i:=1) i4.nd rfl (Or.inl rfl) af)
  (ae (fV PassesOwn.never rfl (eZ (pv 0)) (aU (i:=2) i4.nd rfl (Or.inl rfl))
  (ah (aj (i:=1) i4.nd rfl (Or.inl rfl) (aw dw hr (aa (pv 1) (aa (pv 2) ag))))))
  (ah (aE (eI (PW.pt (lW (fN (pv 0) (fun _=>rfl)) (jO (aG jo (ax bB (pv 0) (cW bZ af) (fun _ _=>rfl)) af (aD _))))) (cW bZ (pv 1)) (pv 1)))))),?_⟩;walk_at "sf";refine⟨a,rfl,⟨_,a_.of ha⟩,?_⟩;refine nW (xs:=xs.map V.int) (fun i σ H'=>(∃r,σ=[some (.ref a),some (.int ((kT 0 (xs.take i):Nat):Int)),r])/\H'=H) ⟨⟨_,rfl⟩,rfl⟩ (fun i σ H' _ z=>by rw[z.2];exact a_.of ha) ?_ ?_
 ·rintro i x σ H' hi ⟨⟨r,rfl⟩,rfl⟩;obtain⟨Io,rfl⟩:=mL hi;walk_at "sf";refine⟨_,_,rfl,?_⟩;walk_at "sf";exact⟨⟨_,by rw[xW Io];rfl⟩,rfl⟩
 ·rintro σ H' ⟨⟨r,rfl⟩,rfl⟩;have e:kT 0 (xs.take (xs.map V.int).length)=fy xs:=by rw[List.length_map,List.take_length];rfl
  rw[e];walk_at "sf";refine xg (a_.of ha) ?_
  dsimp only
  unfold cont at q;by_cases Ie:xs=[]
  ·subst Ie;rw[if_neg (by decide),if_neg (by decide)];walk_at "sf";exact q
  ·have e1:(!(xs.map V.int).isEmpty)=true:=by
    cases xs with
    |nil=>exact absurd rfl Ie
    |cons x r=>rfl
   rw[e1,if_pos rfl];walk_at "sf";refine cx (a_.of ha) (f_ Ie) ?_;walk_at "sf";refine cZ (fun c=>?_) (fun c=>?_)
   ·rw[if_pos (by simpa using c)] at q;walk_at "sf";exact q
   ·rw[if_neg (by simpa using c)] at q;walk_at "sf";exact q
theorem sW(hT:P.given.tree=none)(Br:bI P w K mg base 33 "content" ["poly"] (UY cont DJ))(D:aS K mg "primitive" jz ["poly"]):bI P w K mg base 34 "primitive" ["poly"] (DI aC (fun xs=>DJ xs/\Tr xs)):=by
 refine D.ok lC (fun vs H Q E h=>?_) (fun f cQ A outer s H vs Q E hr h=>?_)
 ·obtain⟨a,xs,rfl,_⟩:=h;rfl
 obtain⟨a,xs,rfl,ha,⟨hx,tx⟩,q⟩:=h;refine⟨_,(ae (aj (i:=1) lC.nd rfl (Or.inr rfl) (aw Br hr (aa (pv 0) ag)))
  (ah (aE (fZ rfl rfl (g9 (own:=["number"]) (fr:=[1]) (fs:=["shared"]) (by with_unfolding_all rfl) rfl (by decide +kernel) (by decide +kernel) (by exact⟨rfl,trivial⟩) (by with_unfolding_all rfl) (by exact⟨⟨rfl,rfl,rfl,Or.inl rfl⟩,trivial⟩)) (eZ (pv 0)) (fun _ _ _ _ _=>(aU (i:=0) (show List.Nodup (["number","shared"]:List Str) by decide +kernel) rfl (Or.inl rfl) (Or.inr rfl))) (fun _ _ _ _ _=>(ai (eJ ⟨hT,⟨_,_,rfl,rfl,rfl,rfl,rfl⟩,hr.py⟩) (pv 0) (pv 1))))))),?_⟩;walk_at "sf";refine⟨a,xs,rfl,ha,hx,?_⟩;walk_at "sf";refine f6 (H1:=H) (qF K a) (fun R hR=>?_) (iT (xs:=xs) (a_.of ha) (fun i=>(co xs i).fdiv (cont xs)) hx ?_ ?_)
 ·walk_at "sf";exact⟨a,rfl,⟨_,a_.of ha⟩,hR⟩
 ·intro i r H2 hi hr dZ Z hZ;have hn:xs≠[]:=by rintro rfl;exact absurd hi (Nat.not_lt_zero _)
  obtain⟨x0,rfl⟩:=sf hr;walk_at "sf";refine bP (ff tx hn) ?_;exact hZ _ _ (au.refl _) ⟨[_],rfl,rfl⟩
 ·intro D H2 hD dZ h2;refine q D H2 dZ ?_;show H2 D=some (.lst ((aC xs).map V.int));rw[Bq];exact h2
end
end dA
namespace dA
open PySem PyProof.Rows L2 SF
noncomputable def DK(K:PySem.W.Frag):Sp:=fun vs H Q _=>∃(a:Addr)(ns:List Int)(k:Int),vs=[.ref a,.int k]/\a_ K H a (ns.map V.int)/\ns.length<=63/\0<=k/\∀(c:Int)(H':Hp),au H H'->Q (.int c) H'
noncomputable def sX:Sp:=fun vs H Q _=>∃c k:Int,vs=[.int c,.int k]/\∀m:Int,0<=m->Bd 128 m->Q (.int m) H
theorem fm{x:Int}{m:Int}(hm:0<m):x.fmod m=x%m/\0<=x%m/\x%m<m:=⟨fQ hm,Int.emod_nonneg x (Int.ne_of_gt hm),Int.emod_lt_of_pos x hm⟩
theorem LD(n:Int)(h1:0<n)(h2:n<2^64):(n≠0/\n.natAbs.log2<9000):=⟨Int.ne_of_gt h1,(Bd.gr (n:=64) (by lia) h2).log2 (by decide)⟩
section
variable {P:Program} {w:World} {K:PySem.W.Frag} {mg:Str->Option Value} {base:Heap}
theorem vo(T:Nm mg)(D:aS K mg "_law_cell" kF ["_law_script","_law_k"]):bI P w K mg base 1 "_law_cell" ["_law_script","_law_k"] (DK K):=by
 refine D.ok vk (fun vs H Q E h=>?_) (fun f cQ A outer s H vs Q E hr h=>?_)
 ·obtain⟨a,ns,k,rfl,_⟩:=h;rfl
 obtain⟨a,ns,k,rfl,hS,hl,hk,q⟩:=h;refine⟨_,(ae (ck (aG (JA hr.wQ) (pv 0) (dr ag) (aD _))
  (ah (aE (ai aq (pv 1) af)))
  aX)
  (ah (aE (ai bL (ax bB (pv 0) (ai de (pv 1) (aK aV rfl T.ft boot_len (aa (pv 0) ag))) (fun _ _=>rfl)) (ai aq (ai dS (pv 1) (aK aV rfl T.ft boot_len (aa (pv 0) ag))) af))))),?_⟩;walk_at "sf";intro p hp;have g1:au H (upd H p (.lst [])):=au.new hp _;refine⟨a,p,ns,[],rfl,rfl,g1.seq hS,a_.of ak,?_⟩;walk_at "sf";refine cZ (fun c=>?_) (fun c=>?_)
 ·walk_at "sf";refine bP (IntMulOk.of_right (by decide)) ?_;exact q _ _ g1
 ·have fK:ns≠[]:=by simpa using c
  have mZ:0<ns.length:=List.length_pos_iff.mpr fK;have em:(ns.map V.int).length=ns.length:=List.length_map _;have NR:(0:Int)<((ns.map V.int).length:Nat):=by rw[em];lia
  walk_at "sf";refine⟨a,_,rfl,.inl (g1.seq hS),?_⟩;refine bP (Int.ne_of_gt NR) ?_;rw[fQ NR];have h1:=Int.emod_nonneg k (Int.ne_of_gt NR);have h2:=Int.emod_lt_of_pos k NR;obtain⟨j,ej⟩:=Int.eq_ofNat_of_zero_le h1;rw[ej] at h2 ⊢;have hj:j<ns.length:=by rw[em] at h2;lia
  refine cx (g1.seq hS) (nH (v:=V.int ns[j]) (by rw[List.getElem?_map,List.getElem?_eq_getElem hj]<;>rfl)) ?_;walk_at "sf";refine⟨a,_,rfl,.inl (g1.seq hS),?_⟩;refine bP ⟨Int.ne_of_gt NR,(Bd.gr (n:=64) (by lia) (by rw[em];lia)).log2 (by decide)⟩ ?_;walk_at "sf";refine bP (IntMulOk.of_right (by decide)) ?_;walk_at "sf";exact q _ _ g1
theorem sY(D:aS K mg "_law_drawn" jF ["_law_cell_here","_law_k"]):bI P w K mg base 1 "_law_drawn" ["_law_cell_here","_law_k"] sX:=by
 refine D.ok lD (fun vs H Q E h=>?_) (fun f cQ A outer s H vs Q E hr h=>?_)
 ·obtain⟨c,k,rfl,_⟩:=h;rfl
 obtain⟨c,k,rfl,q⟩:=h;refine⟨_,(ae (aj (i:=2) lD.nd rfl (Or.inl rfl) (ai de (ai bL (ai aq (pv 0) af) (ai aq (ai bL (pv 1) af) af)) af))
  (ah (aE (ai de (ai aq (pv 2) (pv 2)) af)))),?_⟩;walk_at "sf";refine bP (IntMulOk.of_right (by decide)) ?_;walk_at "sf";refine bP (IntMulOk.of_right (by decide)) ?_;walk_at "sf";refine bP (by decide) ?_;rw[fQ (by decide)];generalize hm:(c*6364136223846793005+(k+1)*1442695040888963407)%340282366920938463463374607431768211507=m;have m1:0<=m:=by rw[<-hm];exact Int.emod_nonneg _ (by decide)
 have m2:m<340282366920938463463374607431768211507:=by rw[<-hm];exact Int.emod_lt_of_pos _ (by decide)
 have mz:Bd 129 m:=Bd.gr m1 (Int.lt_of_lt_of_le m2 (by decide));walk_at "sf";refine bP (aJ mz mz (by decide)) ?_;walk_at "sf";refine bP (by decide) ?_;rw[fQ (by decide)];exact q _ (Int.emod_nonneg _ (by decide)) (Bd.gr (Int.emod_nonneg _ (by decide)) (Int.lt_of_lt_of_le (Int.emod_lt_of_pos _ (by decide)) (by decide)))
theorem pA(T:Nm mg)(D:aS K mg "_law_product" ie ["_law_one","_law_other"]):bI P w K mg base 1 "_law_product" ["_law_one","_law_other"] (xV mulL (fun xs ys=>UZ xs ys/\xs≠[]/\ys≠[])):=by
 refine D.ok fq (fun vs H Q E h=>?_) (fun f cQ A outer s H vs Q E hr h=>?_)
 ·obtain⟨a,b,xs,ys,rfl,_⟩:=h;rfl
 obtain⟨a,b,xs,ys,rfl,ha,hb,⟨⟨⟨hx,hy⟩,bx,Gy⟩,Ie,U0⟩,q⟩:=h;have ex:(xs.map V.int).length=xs.length:=List.length_map _;have ey:(ys.map V.int).length=ys.length:=List.length_map _;have lx:=List.length_pos_iff.mpr Ie;have ly:=List.length_pos_iff.mpr U0;refine⟨_,(ae (aj (i:=2) fq.nd rfl (Or.inl rfl) (ai Jw (dr (aa af ag)) (ai bM (ai bL (aK aV rfl T.ft boot_len (aa (pv 0) ag)) (aK aV rfl T.ft boot_len (aa (pv 1) ag))) af)))
  (ae (fV PassesOwn.never rfl (lZ rfl T.lH (aa (aK aV rfl T.ft boot_len (aa (pv 0) ag)) ag)) (aU (i:=3) fq.nd rfl (Or.inl rfl))
  (ah (fV PassesOwn.never rfl (lZ rfl T.lH (aa (aK aV rfl T.ft boot_len (aa (pv 1) ag)) ag)) (aU (i:=4) fq.nd rfl (Or.inl rfl))
  (ah (lX (ai bL (ax bB (pv 2) (ai bL (pv 3) (pv 4)) (fun _ _=>rfl)) (ai aq (ax bB (pv 0) (pv 3) (fun _ _=>rfl)) (ax bB (pv 1) (pv 4) (fun _ _=>rfl)))) (wC (pv 2) (ai bL (pv 3) (pv 4)) set_list))))))
  (ah (aE (pv 2))))),?_⟩;walk_at "sf";intro p1 mZ;walk_at "sf";have s1:=au.new mZ (.lst [V.int 0]);refine⟨a,_,rfl,.inl (a_.of (s1 _ _ ha)),?_⟩;walk_at "sf";refine⟨b,_,rfl,.inl (a_.of (s1 _ _ hb)),?_⟩;walk_at "sf";rw[ex,ey];refine⟨p1,_,_,rfl,rfl,ak,by lia,by lia,by show 1*((xs.length:Int)+(ys.length:Int)-1).toNat<=sizeLine;exact fb (by lia),fun p2 sD=>?_⟩;have s2:=s1.trans (au.new sD (.lst (List.replicate ((xs.length:Int)+(ys.length:Int)-1).toNat [V.int 0]).flatten));have h2:upd (upd H p1 (.lst [V.int 0])) p2 (.lst (List.replicate ((xs.length:Int)+(ys.length:Int)-1).toNat [V.int 0]).flatten) p2=some (.lst ((fv (cv xs ys 0) (xs.length+ys.length-1)).map V.int)):=by
  rw[ak,show fv (cv xs ys 0) (xs.length+ys.length-1)=fv (fun _=>0) _ from dt fun j _=>rfl,CF,Gx,vn];have e:((xs.length:Int)+(ys.length:Int)-1).toNat=xs.length+ys.length-1:=by lia
  rw[e]
 have n2:H p2=none:=s1.free sD;revert s2 h2;generalize upd (upd H p1 (.lst [V.int 0])) p2 (.lst (List.replicate ((xs.length:Int)+(ys.length:Int)-1).toNat [V.int 0]).flatten)=H2;intro s2 h2;walk_at "sf";refine⟨a,_,rfl,.inl (a_.of (s2 _ _ ha)),?_⟩;walk_at "sf";rw[ex];refine⟨_,rfl,by lia,by lia,?_⟩;rw[Int.toNat_natCast];refine qG (fun i σ H'=>(∃r1 r2,σ=[some (.ref a),some (.ref b),some (.ref p2),r1,r2])/\au H H'/\IL H' p2 (fv (cv xs ys i) (xs.length+ys.length-1)))
  ⟨⟨_,_,rfl⟩,s2,h2⟩ ?_ ?_
 ·rintro i σ H' Io ⟨⟨r1,r2,rfl⟩,s4,h4⟩;have e0:(0:Int)+(i:Int)=(i:Int):=by lia
  rw[e0];walk_at "sf";refine⟨b,_,rfl,.inl (a_.of (s4 _ _ hb)),?_⟩;walk_at "sf";rw[ey];refine⟨_,rfl,by lia,by lia,?_⟩;rw[Int.toNat_natCast];refine qG (fun k σ H'=>(∃r2,σ=[some (.ref a),some (.ref b),some (.ref p2),some (.int (i:Int)),r2])/\au H H'/\IL H' p2 (fv (fun j=>cv xs ys i j+if i<=j/\j<i+k then SF.co xs i*SF.co ys (j-i) else 0) (xs.length+ys.length-1)))
   ⟨⟨_,rfl⟩,s4,?_⟩ ?_ ?_
  ·show H' p2=_;rw[h4];refine congrArg (fun l=>some (HO.lst (l.map V.int))) (dt fun j hj=>?_);rw[if_neg (by lia)];lia
  ·rintro k σ H6 XE ⟨⟨r2,rfl⟩,s6,h6⟩;have e0:(0:Int)+(k:Int)=(k:Int):=by lia
   rw[e0];have ei:(i:Int)+(k:Int)=((i+k:Nat):Int):=by lia
   walk_at "sf";rw[ei];refine cx (a_.of h6) (pz (by rw[aR];lia)) ?_;walk_at "sf";refine cx (a_.of (s6 _ _ ha)) (pz Io) ?_;walk_at "sf";refine cx (a_.of (s6 _ _ hb)) (pz XE) ?_;refine bP (aJ (bx.co i) (Gy.co k) (by decide)) ?_;walk_at "sf";rw[ei];refine⟨p2,_,_,i+k,rfl,rfl,h6,xU (by rw[List.length_map,aR];lia),?_⟩;refine⟨⟨_,rfl⟩,fun c o z=>?_,?_⟩
   ·rw[aI (aN z n2)];exact s6 _ _ z
   ·show upd _ p2 _ p2=_;rw[ak,jr,if_pos (by lia),<-List.map_set,rZ (by lia)];refine congrArg (fun l=>some (HO.lst (l.map V.int))) (dt fun j hj=>?_);show(if j=i+k then _ else _)=_;by_cases e:j=i+k
    ·subst e;have e3:i+k-i=k:=by lia
     rw[if_pos rfl,if_neg (by lia),if_pos ⟨by lia,by lia⟩,e3];lia
    ·rw[if_neg e];by_cases e4:i<=j/\j<i+k
     ·rw[if_pos e4,if_pos ⟨e4.1,by lia⟩]
     ·rw[if_neg e4,if_neg (by lia)]
  ·rintro σ H6 ⟨⟨r2,rfl⟩,s6,h6⟩;refine⟨⟨_,_,rfl⟩,s6,?_⟩;show H6 p2=_;rw[h6];exact congrArg (fun l=>some (HO.lst (l.map V.int))) (dt fun j hj=>CD xs ys i j)
 ·rintro σ H' ⟨⟨r1,r2,rfl⟩,s4,h4⟩;walk_at "sf";refine q p2 H' s4 ?_;rw[uI Ie U0];exact h4
end
end dA
namespace dA
open PySem PyProof.Rows L2 SF SF.Po
theorem DL{p:Int}{P b:Nat}(hb:Bd P p){xs:List Int}(hx:Ab b xs):∀i,i<=xs.length->Bd (b+(P+1)*i) (eY p (xs.drop (xs.length-i)))
 |0,_=>by rw[uW];show(0:Int).natAbs<_;exact Nat.two_pow_pos _
 |i+1,h=>by
  rw[uV p xs (by lia)];have ih:=DL hb hx i (by lia);have h1:Bd (b+(P+1)*i+P) (eY p (xs.drop (xs.length-i))*p):=ih.mul hb;have h2:Bd (b+(P+1)*i+P) (co xs (xs.length-1-i)):=(hx.co _).mono (by lia);have e:b+(P+1)*(i+1)=b+(P+1)*i+P+1:=by rw[Nat.mul_add];lia
  rw[e];exact h1.add h2
noncomputable def Ip:Sp:=fun vs H Q _=>∃(a:Addr)(xs:List Int)(p:Int)(P:Nat),vs=[.ref a,.int p]/\IL H a xs/\(∃b,xs.length<=40/\Ab b xs/\Bd P p/\P<=1400000/\b<=1000000)/\Q (.int (eY p xs)) H
noncomputable def vp:Sp:=fun vs H Q _=>∃(v p:Int)(n:Nat),vs=[.int v,.int p]/\(3<=p/\0<=v/\v<=p^n/\n<=50)/\∀(a:Addr)(xs:List Int)(H':Hp),au H H'->IL H' a xs->HQ p v xs->xs.length<=n+1->Q (.ref a) H'
noncomputable def rf:Sp:=fun vs H Q _=>∃(a:Addr)(xs:List Int),vs=[.ref a]/\IL H a xs/\(xs≠[]/\DJ xs)/\∀(m:Int)(H':Hp),au H H'->(∃x∈xs,m=ab x)->(∀x∈xs,ab x<=m)->Q (.int m) H'
section
variable {P:Program} {w:World} {K:PySem.W.Frag} {mg:Str->Option Value} {base:Heap}
theorem vq(T:Nm mg)(D:aS K mg "value_at" kr ["poly","point"]):bI P w K mg base 1 "value_at" ["poly","point"] Ip:=by
 refine D.ok gW (fun vs H Q E h=>?_) (fun f cQ A outer s H vs Q E hr h=>?_)
 ·obtain⟨a,xs,p,P,rfl,_⟩:=h;rfl
 obtain⟨a,xs,p,P,rfl,ha,⟨b,hx,Sg,hb,hP,Sd⟩,q⟩:=h;refine⟨_,(ae (aj (i:=2) gW.nd rfl (Or.inl rfl) af)
  (ae (fV PassesOwn.never rfl (w_ rfl T.jb (aa (pv 0) ag)) (aU (i:=3) gW.nd rfl (Or.inl rfl))
  (ah (aj (i:=2) gW.nd rfl (Or.inl rfl) (ai bL (ai aq (pv 2) (pv 1)) (pv 3)))))
  (ah (aE (pv 2))))),?_⟩;walk_at "sf";refine⟨a,_,rfl,a_.of ha,?_⟩;refine rT (xs:=xs.map V.int) (fun i σ H'=>(∃r,σ=[some (.ref a),some (.int p),some (.int (eY p (xs.drop (xs.length-i)))),r])/\H'=H) ⟨⟨_,by rw[uW];rfl⟩,rfl⟩ (fun i σ H' _ z=>by rw[z.2];exact a_.of ha) ?_ ?_
 ·rintro i x σ H' hi Bg ⟨⟨r,rfl⟩,rfl⟩;rw[List.length_map] at hi Bg;obtain⟨Io,rfl⟩:=mL Bg;have h1:=DL hb Sg i (by lia);have h2:(P+1)*i<=1400001*40:=Nat.mul_le_mul (by lia) (by lia);walk_at "sf";refine bP (aJ h1 hb (by lia)) ?_;walk_at "sf";exact⟨⟨_,by rw[uV p xs hi];rfl⟩,rfl⟩
 ·rintro σ H' ⟨⟨r,rfl⟩,rfl⟩;rw[List.length_map,C0];walk_at "sf";exact q
theorem Bs(hT:P.given.tree=none)(D:aS K mg "spread" o9 ["value","point"]):bI P w K mg base 33 "spread" ["value","point"] vp:=by
 refine D.ok gi (fun vs H Q E h=>?_) (fun f cQ A outer s H vs Q E hr h=>?_)
 ·obtain⟨v,p,n,rfl,_⟩:=h;rfl
 obtain⟨v,p,n,rfl,⟨DM,hv,KH,hn⟩,q⟩:=h;have hp:0<p:=by lia
 have FP:p≠0:=by lia
 refine⟨_,(ae (aj (i:=2) gi.nd rfl (Or.inl rfl) (dr ag))
  (ae (aj (i:=3) gi.nd rfl (Or.inl rfl) (pv 0))
  (ae (dj PassesOwn.never (fN (pv 3) (fun _=>rfl))
  (ae (aj (i:=4) gi.nd rfl (Or.inl rfl) (ai de (pv 3) (pv 1)))
  (ae (ck (aG eP (ai aq af (pv 4)) (pv 1) (aD _))
  (ah (aj (i:=4) gi.nd rfl (Or.inl rfl) (ai bM (pv 4) (pv 1))))
  aX)
  (ae (iM (kR PySem.F.plainAttrs_list PySem.F.slot_list_append PySem.F.type_list_append eQ (pv 2) (aa (pv 4) ag)))
  (ah (aj (i:=3) gi.nd rfl (Or.inl rfl) (ai (eJ ⟨hT,⟨_,_,rfl,rfl,rfl,rfl,rfl⟩,hr.py⟩) (ai bM (pv 3) (pv 4)) (pv 1))))))))
  (ah (aE (pv 2)))))),?_⟩;walk_at "sf";intro p1 mZ;walk_at "sf";refine cX (fun m σ H'=>∃(xs:List Int)(r:Int)(z:Option V),m=r.toNat/\σ=[some (.int v),some (.int p),some (.ref p1),some (.int r),z]/\au H H'/\IL H' p1 xs/\0<=r/\
  eY p xs+p^xs.length*r=v/\(∀x∈xs,-p<2*x/\2*x<=p)/\(r=0->Tr xs)/\((xs.length<=n/\r<=p^(n-xs.length))\/(xs.length<=n+1/\r=0)))
  ⟨_,[],v,_,rfl,rfl,au.new mZ _,ak,hv,by show 0+p^0*v=v;rw[Int.pow_zero];lia,fun x hx=>by simp at hx,fun _=>Tr.nil,.inl ⟨Nat.zero_le _,KH⟩⟩ ?_
 rintro m σ H' ⟨xs,r,z,rfl,rfl,s1,h1,LF,e,J9,XF,wJ⟩;walk_at "sf";refine cZ (fun c=>?_) (fun c=>?_)
 ·have DN:r≠0:=by simpa using c
  have U1:0<r:=by lia
  have hlen:xs.length<=n/\r<=p^(n-xs.length):=by
   rcases wJ with h|h
   ·exact h
   ·exact absurd h.2 DN
  have fin:∀d:Int,d=digit p r->∀H2:Hp,au H H2->IL H2 p1 (xs++[d])->∃m',m'<r.toNat/\∃(xs:List Int)(t:Int)(z:Option V),m'=t.toNat/\[some (.int v),some (.int p),some (.ref p1),some (.int ((jy p r))),some (V.int d)]=[some (.int v),some (.int p),some (.ref p1),some (.int t),z]/\au H H2/\IL H2 p1 xs/\0<=t/\
   eY p xs+p^xs.length*t=v/\(∀x∈xs,-p<2*x/\2*x<=p)/\(t=0->Tr xs)/\((xs.length<=n/\t<=p^(n-xs.length))\/(xs.length<=n+1/\t=0)):=by
   intro d hd H2 s2 h2;have q0:=uU hp LF;have q1:=F7 DM U1;refine⟨_,by lia,xs++[d],jy p r,_,rfl,rfl,s2,h2,q0,?_,?_,?_,?_⟩
   ·rw[zD,List.length_append,List.length_singleton,Int.pow_succ];show eY p xs+p^xs.length*(d+p*0)+p^xs.length*p*jy p r=v;have e2:=oG (v:=r) hp;rw[<-e,hd]
    conv=>rhs;rw[<-e2]
    grind
   ·intro x hx;rcases List.mem_append.mp hx with hx|hx
    ·exact J9 x hx
    ·rw[List.mem_singleton.mp hx,hd];exact nP hp
   ·intro hz y hy;rw[List.getLast?_append,List.getLast?_singleton] at hy;have:d=y:=by simpa using hy
    rw[<-this,hd];exact xA hp DN hz
   ·rw[List.length_append,List.length_singleton];by_cases hl:xs.length=n
    ·right;have h3:=hlen.2;rw[hl,Nat.sub_self,Int.pow_zero] at h3;have h4:r=1:=by lia
     rw[h4];exact⟨by lia,(CZ (by lia)).1⟩
    ·left;refine⟨by lia,F6 hp ?_⟩;have e3:n-xs.length=n-(xs.length+1)+1:=by lia
     have h3:=hlen.2;rw[e3,Int.pow_succ] at h3;rw[Int.mul_comm];exact h3
  have NS:∀d:Int,IL (upd H' p1 (.lst (xs.map V.int++[V.int d]))) p1 (xs++[d]):=fun d=>by
   show upd H' p1 _ p1=_;rw[ak,List.map_append];rfl
  have zT:∀o:HO,au H (upd H' p1 o):=fun o c u z=>by
   rw[aI (aN z mZ)];exact s1 _ _ z
  refine⟨_,fun bN H' h=>h,?_⟩;walk_at "sf";refine bP FP ?_;rw[fQ hp];walk_at "sf";have b1:IntMulOk 2 (r%p):=IntMulOk.of_left (by decide);refine bP b1 ?_;walk_at "sf";refine cZ (fun c2=>?_) (fun c2=>?_)
  ·have h2:2*(r%p)>p:=by simpa using c2
   have ed:r%p-p=digit p r:=by unfold digit;rw[if_pos h2]
   walk_at "sf";refine⟨_,rfl,.inl ⟨rfl,_,a_.of h1⟩,?_⟩;walk_at "sf";refine⟨p1,_,_,rfl,rfl,h1,?_,?_⟩
   ·rw[List.length_map];exact Nat.lt_of_lt_of_le (Nat.lt_of_le_of_lt hlen.1 (by lia:n<1000)) (fb (Nat.le_refl _))
   ·walk_at "sf";refine bP FP ?_;rw[ed,fR hp];exact fin _ rfl _ (zT _) (NS _)
  ·have h2:¬2*(r%p)>p:=by simpa using c2
   have ed:r%p=digit p r:=by unfold digit;rw[if_neg h2]
   walk_at "sf";refine⟨_,rfl,.inl ⟨rfl,_,a_.of h1⟩,?_⟩;walk_at "sf";refine⟨p1,_,_,rfl,rfl,h1,?_,?_⟩
   ·rw[List.length_map];exact Nat.lt_of_lt_of_le (Nat.lt_of_le_of_lt hlen.1 (by lia:n<1000)) (fb (Nat.le_refl _))
   ·walk_at "sf";refine bP FP ?_;rw[ed,fR hp];exact fin _ rfl _ (zT _) (NS _)
 ·have DN:r=0:=by simpa using c
  subst DN;walk_at "sf";refine q p1 xs H' s1 h1 ⟨by rw[<-e];lia,J9,XF rfl⟩ ?_;rcases wJ with h|h<;>lia
theorem xY(T:Nm mg)(D:aS K mg "largest" mG ["poly"]):bI P w K mg base 1 "largest" ["poly"] rf:=by
 refine D.ok xQ (fun vs H Q E h=>?_) (fun f cQ A outer s H vs Q E hr h=>?_)
 ·obtain⟨a,xs,rfl,_⟩:=h;rfl
 obtain⟨a,xs,rfl,ha,⟨hn,hf⟩,q⟩:=h;have EZ:∀i,(if co xs i<0 then-co xs i else co xs i)=ab (co xs i):=fun i=>by unfold ab;split<;>lia
 refine⟨_,(ah (aE (aK (AZ rfl) rfl T.Im boot_max (aa (fZ rfl rfl (g9 (own:=["number"]) (fr:=[]) (fs:=[]) (by with_unfolding_all rfl) rfl (by decide +kernel) (by decide +kernel) (by exact trivial) (by with_unfolding_all rfl) (by exact trivial)) (eZ (pv 0)) (fun _ _ _ _ _=>(aU (i:=0) (show List.Nodup (["number"]:List Str) by decide +kernel) rfl (Or.inl rfl) (Or.inr rfl))) (fun _ _ _ _ _=>(aK cm rfl T.fz boot_abs (aa (pv 0) ag)))) ag)))),?_⟩;walk_at "sf";refine f6 (H1:=H) (qF K a) (fun R hR=>?_) (iT (xs:=xs) (a_.of ha) (fun i=>ab (co xs i)) hf ?_ ?_)
 ·walk_at "sf";exact⟨a,rfl,⟨_,a_.of ha⟩,hR⟩
 ·intro i r H2 hi hr dZ Z hZ;obtain⟨x0,rfl⟩:=sf hr;walk_at "sf";refine⟨_,rfl,?_⟩;rw[EZ];exact hZ _ _ (au.refl _) ⟨[_],rfl,rfl⟩
 ·intro D H2 hD dZ h2;walk_at "sf";have hl:=List.length_pos_iff.mpr hn;refine⟨D,_,rfl,a_.of h2,fun z=>?_,fun m hm Sh=>q m H2 dZ ?_ fun x hx=>?_⟩
  ·have:=congrArg List.length z;rw[aR] at this;simp at this;exact hn this
  ·obtain⟨i,hi,e⟩:=List.mem_map.mp hm;have hi:=List.mem_range.mp hi;exact⟨co xs i,by rw[cy hi];exact List.getElem_mem hi,e.symm⟩
  ·obtain⟨i,hi,e⟩:=List.getElem_of_mem hx;refine Sh _ (List.mem_map.mpr ⟨i,List.mem_range.mpr hi,?_⟩);rw[cy hi,e]
end
end dA
namespace dA
open PySem PyProof.Rows L2 SF SF.Po
noncomputable def xZ:Sp:=fun vs H Q _=>∃(a d:Addr)(xs ds:List Int)(b c:Nat),vs=[.ref a,.ref d]/\IL H a xs/\IL H d ds/\(ds≠[]/\Tr ds/\xs.length<=40/\ds.length<=60/\Ab b xs/\Ab c ds/\b+41*(c+1)<=jj)/\
 (∀H',au H H'->(∀s,ao xs≠ao ds*s)->Q .fB H')/\
 (∀(a':Addr)(qs:List Int)(H':Hp),au H H'->IL H' a' qs->ao xs=ao ds*ao qs->(ds.length<=xs.length->qs.length+ds.length=xs.length+1)->Q (.ref a') H')
theorem Gz{rs ds:List Int}{t:Int}{k r c:Nat}(hk:k+ds.length<=rs.length)(b1:Ab r rs)(b2:Ab c ds)(bt:Bd r t):Ab (r+(c+1)) (jx rs ds t k):=fun x hx=>by
 obtain⟨j,e⟩:=mj hx;rw[<-e,oF hk];have h1:Bd (r+c) (co rs j):=(b1.co j).mono (by lia);have h2:Bd (r+c) (if k<=j then t*co ds (j-k) else 0):=by
  split
  ·exact bt.mul (b2.co _)
  ·show(0:Int).natAbs<_;exact Nat.two_pow_pos _
 exact h1.sub h2
theorem vt{xs:List Int}(h:xs≠[]):(xs.map V.int)[(xs.map V.int).length-1]?=some (.int (SF.co xs (xs.length-1))):=by
 have hl:0<xs.length:=List.length_pos_iff.mpr h;rw[List.length_map,List.getElem?_map,List.getElem?_eq_getElem (by lia),cy (by lia)];rfl
section
variable {P:Program} {w:World} {K:PySem.W.Frag} {mg:Str->Option Value} {base:Heap}
theorem x5(T:Nm mg)(hT:P.given.tree=none)(D:aS K mg "divided" mF ["poly","divisor"]):bI P w K mg base 33 "divided" ["poly","divisor"] xZ:=by
 refine D.ok eO (fun vs H Q E h=>?_) (fun f cQ A outer s H vs Q E hr h=>?_)
 ·obtain⟨a,d,xs,ds,b,c,rfl,_⟩:=h;rfl
 obtain⟨a,d,xs,ds,b,c,rfl,ha,hd,⟨xx,td,hx,ZZ,bx,bd,wJ⟩,qn,qs⟩:=h;have ed:(ds.map V.int).length=ds.length:=List.length_map _;have Z0:=List.length_pos_iff.mpr xx;have Iq:=td.last xx;have iI:jj=60000000:=rfl;refine⟨_,(ae (aj (i:=2) eO.nd rfl (Or.inl rfl) (b_ kQ rfl T.xT boot_list (aa (pv 0) ag)))
  (ae (aj (i:=3) eO.nd rfl (Or.inl rfl) (dr ag))
  (ae (dj PassesOwn.never (aG yZ (aK aV rfl T.ft boot_len (aa (pv 2) ag)) (aK aV rfl T.ft boot_len (aa (pv 1) ag)) (aD _))
  (ae (aj (i:=4) eO.nd rfl (Or.inl rfl) (ai (eJ ⟨hT,⟨_,_,rfl,rfl,rfl,rfl,rfl⟩,hr.py⟩) (ax bB (pv 2) (cW bZ af) (fun _ _=>rfl)) (ax bB (pv 1) (cW bZ af) (fun _ _=>rfl))))
  (ae (aj (i:=5) eO.nd rfl (Or.inl rfl) (ai bM (aK aV rfl T.ft boot_len (aa (pv 2) ag)) (aK aV rfl T.ft boot_len (aa (pv 1) ag))))
  (ae (fV PassesOwn.never rfl (rR rfl T.jH (aa (pv 1) ag)) (kh rfl (bO (aU (i:=6) eO.nd rfl (Or.inl rfl)) (bO (aU (i:=7) eO.nd rfl (Or.inl rfl)) iN)))
  (ah (lX (ai bM (ax bB (pv 2) (ai bL (pv 5) (pv 6)) (fun _ _=>rfl)) (ai aq (pv 4) (pv 7))) (wC (pv 2) (ai bL (pv 5) (pv 6)) set_list))))
  (ae (ck (aG jn (wX PySem.F.plainAttrs_list PySem.F.slot_list_pop PySem.F.type_list_pop wZ (pv 2)) af (aD _))
  (ah (aE gp))
  aX)
  (ah (iM (kR PySem.F.plainAttrs_list PySem.F.slot_list_append PySem.F.type_list_append eQ (pv 3) (aa (pv 4) ag)))))))))
  (ae (ck (rL (aK (AX rfl) rfl T.NP boot_any (aa (pv 2) ag)))
  (ah (aE gp))
  aX)
  (ah (aE (FJ rfl rfl T.jb rfl T.xT (aa (pv 3) ag)))))))),?_⟩;walk_at "sf";refine⟨a,_,rfl,.inl (a_.of ha),fun p1 mZ=>?_⟩;have s1:=au.new mZ (.lst (xs.map V.int));walk_at "sf";intro p2 sD;have s2:=s1.trans (au.new sD (.lst []));have Si:H p2=none:=s1.free sD;have PV:p1≠p2:=fun z=>by rw[<-z,ak] at sD;cases sD
 walk_at "sf";refine cX (fun m σ H'=>∃(rs fs:List Int)(z1 z2 z3 z4:Option V),m=rs.length/\σ=[some (.ref a),some (.ref d),some (.ref p1),some (.ref p2),z1,z2,z3,z4]/\au H H'/\IL H' p1 rs/\IL H' p2 fs/\
  ao xs=ao rs+ao ds*(X (rs.length+1-ds.length)*ao fs.reverse)/\rs.length+fs.length=xs.length/\(ds.length<=rs.length+1\/fs=[])/\Ab (b+fs.length*(c+1)) rs)
  ⟨_,xs,[],_,_,_,_,rfl,rfl,s2,by show upd _ p2 _ p1=_;rw[aI PV,ak],ak,?_,by simp,.inr rfl,bx.mono (by simp)⟩ ?_
 ·rw[List.reverse_nil,dF];grind
 rintro m σ H' ⟨rs,fs,z1,z2,z3,z4,rfl,rfl,s3,h1,h2,e,hlen,XG,GA⟩;have er:(rs.map V.int).length=rs.length:=List.length_map _;have PX:fs.length*(c+1)<=40*(c+1):=Nat.mul_le_mul_right _ (by lia);walk_at "sf";refine⟨p1,_,rfl,.inl (a_.of h1),?_⟩;walk_at "sf";refine⟨d,_,rfl,.inl (a_.of (s3 _ _ hd)),?_⟩;walk_at "sf";rw[er,ed];refine cZ (fun cc=>?_) (fun cc=>?_)
 ·have U2:ds.length<=rs.length:=by simpa using cc
  have DN:rs≠[]:=List.length_pos_iff.mp (by lia);refine⟨_,fun bN H' h=>h,?_⟩;walk_at "sf";refine cx (a_.of h1) (f_ DN) ?_;walk_at "sf";refine cx (a_.of (s3 _ _ hd)) (f_ xx) ?_;refine bP Iq ?_;generalize ht:(co rs (rs.length-1)).fdiv (co ds (ds.length-1))=t;have bt:Bd (b+fs.length*(c+1)) t:=(GA.co (rs.length-1)).of_le (by rw[<-ht];exact zC _ _);walk_at "sf";refine⟨p1,_,rfl,.inl (a_.of h1),?_⟩;walk_at "sf";refine⟨d,_,rfl,.inl (a_.of (s3 _ _ hd)),?_⟩;walk_at "sf";rw[er,ed];have ek:(rs.length:Int)-(ds.length:Int)=((rs.length-ds.length:Nat):Int):=by lia
  rw[ek];generalize hk:rs.length-ds.length=k;have Z1:k+ds.length=rs.length:=by lia
  refine⟨d,rfl,⟨_,a_.of (s3 _ _ hd)⟩,?_⟩;refine uA (xs:=ds.map V.int) (fun i σ H'=>(∃r1 r2,σ=[some (.ref a),some (.ref d),some (.ref p1),some (.ref p2),some (.int t),some (.int (k:Int)),r1,r2])/\au H H'/\IL H' p2 fs/\
   IL H' p1 (fv (fun j=>co rs j-if k<=j/\j<k+i then t*co ds (j-k) else 0) rs.length))
   ⟨⟨_,_,rfl⟩,s3,h2,?_⟩ (fun i σ H' _ z=>a_.of (z.2.1 _ _ hd)) ?_ ?_
  ·show H' p1=_;rw[h1];refine congrArg (fun l:List Int=>some (HO.lst (l.map V.int))) ?_
   conv=>lhs;rw[<-JT rs]
   exact dt fun j _=>by rw[if_neg (by lia)];lia
  ·rintro i x pp σ H4 hi si ⟨⟨r1,r2,rfl⟩,s4,h4,h5⟩;obtain⟨RI,rfl⟩:=mL hi;have s5:=au.new si (.tup [.int (i:Int),.int (co ds i)]);have h6:=s5 _ _ h5;have ei:(k:Int)+(i:Int)=((k+i:Nat):Int):=by lia
   refine jq (cj.of ak) rfl ?_;walk_at "sf";rw[ei];refine cx (a_.of h6) (pz (by rw[aR];lia)) ?_;walk_at "sf";refine bP (aJ bt (bd.co i) (by lia)) ?_;walk_at "sf";rw[ei];refine⟨p1,_,_,k+i,rfl,rfl,h6,xU (by rw[List.length_map,aR];lia),?_⟩;refine⟨⟨_,_,rfl⟩,fun c o z=>?_,?_,?_⟩
   ·rw[aI (aN z mZ)];exact s5 _ _ (s4 _ _ z)
   ·show upd _ p1 _ p2=_;rw[aI PV.symm];exact s5 _ _ h4
   ·show upd _ p1 _ p1=_;rw[ak,jr,if_pos (by lia),<-List.map_set,rZ (by lia)];refine congrArg (fun l=>some (HO.lst (l.map V.int))) (dt fun j hj=>?_);show(if j=k+i then _ else _)=_;by_cases e:j=k+i
    ·subst e;have e3:k+i-k=i:=by lia
     rw[if_pos rfl,if_neg (by lia),if_pos ⟨by lia,by lia⟩,e3];lia
    ·rw[if_neg e];by_cases e4:k<=j/\j<k+i
     ·rw[if_pos e4,if_pos ⟨e4.1,by lia⟩]
     ·rw[if_neg e4,if_neg (by lia)]
  ·rintro σ H4 ⟨⟨r1,r2,rfl⟩,s4,h4,h5⟩;rw[ed] at h5;have es:fv (fun j=>co rs j-if k<=j/\j<k+ds.length then t*co ds (j-k) else 0) rs.length=jx rs ds t k:=dt fun j hj=>by
    by_cases e:k<=j
    ·rw[if_pos e,if_pos ⟨e,by lia⟩]
    ·rw[if_neg e,if_neg (fun z=>e z.1)]
   rw[es] at h5;have LG:=A4 rs ds t k;have PQ:jx rs ds t k≠[]:=List.length_pos_iff.mp (by rw[LG];lia);have etop:co (jx rs ds t k) ((jx rs ds t k).length-1)=co rs (rs.length-1)-t*co ds (ds.length-1):=by
    rw[LG,oF (by lia),if_pos (by lia)];have e3:rs.length-1-k=ds.length-1:=by lia
    rw[e3]
   have s6:∀o:HO,au H (upd H4 p1 o):=fun o c u z=>by
    rw[aI (aN z mZ)];exact s4 _ _ z
   walk_at "sf";refine⟨_,rfl,.inl ⟨rfl,_,a_.of h5⟩,p1,_,_,rfl,rfl,h5,vt PQ,?_⟩;walk_at "sf";rw[etop];refine cZ (fun c2=>?_) (fun c2=>?_)
   ·have fK:co rs (rs.length-1)-t*co ds (ds.length-1)≠0:=by simpa using c2
    walk_at "sf";refine qn _ (s6 _) fun s hs=>fK ?_;have e2:ao rs=ao ds*(s-X (rs.length+1-ds.length)*ao fs.reverse):=by
     rw[e] at hs;grind
    have:=A6 td xx U2 e2;rw[ht] at this;exact this
   ·have hz:co rs (rs.length-1)-t*co ds (ds.length-1)=0:=by simpa using c2
    walk_at "sf";have h7:upd H4 p1 (.lst ((jx rs ds t k).map V.int).dropLast) p2=some (.lst (fs.map V.int)):=by rw[aI PV.symm];exact h4
    refine⟨_,rfl,.inl ⟨rfl,_,a_.of h7⟩,?_⟩;walk_at "sf";refine⟨p2,_,_,rfl,rfl,h7,?_,?_⟩
    ·rw[List.length_map];exact Nat.lt_of_lt_of_le (by lia:fs.length<1000) (fb (Nat.le_refl _))
    ·refine⟨_,?_,(jx rs ds t k).dropLast,fs++[t],_,_,_,_,rfl,rfl,fun c o z=>?_,?_,?_,?_,?_,?_,?_⟩
     ·rw[List.length_dropLast,LG];lia
     ·rw[aI (aN z Si)];exact s6 _ _ _ z
     ·show upd _ p2 _ p1=_;rw[aI PV,ak,List.map_dropLast]
     ·show upd _ p2 _ p2=_;rw[ak,List.map_append];rfl
     ·rw[CY (by rw[etop];exact hz),A5 (by lia),List.length_dropLast,LG,List.reverse_append,List.reverse_singleton,List.singleton_append,oB];have e3:rs.length+1-ds.length=k+1:=by lia
      have e4:rs.length-1+1-ds.length=k:=by lia
      rw[e3] at e;rw[e4,e,HR];grind
     ·rw[List.length_dropLast,LG,List.length_append,List.length_singleton];lia
     ·left;rw[List.length_dropLast,LG];lia
     ·rw[List.length_append,List.length_singleton];have:=Gz (k:=k) (by lia) GA bd bt;have e5:b+(fs.length+1)*(c+1)=b+fs.length*(c+1)+(c+1):=by rw[Nat.add_mul];lia
      rw[e5];exact fun x hx=>this x (List.mem_of_mem_take (by rw[List.dropLast_eq_take] at hx;exact hx))
 ·have gb:rs.length<ds.length:=by
   have:¬ds.length<=rs.length:=by simpa using cc
   lia
  have e0:rs.length+1-ds.length=0:=by lia
  rw[e0,sv] at e;have e1:ao xs=ao rs+ao ds*ao fs.reverse:=by rw[e];grind
  walk_at "sf";refine⟨p1,_,rfl,a_.of h1,?_⟩;walk_at "sf";cases NT:rs.any (·!=0) with
  |true=>
   rw[if_pos rfl];walk_at "sf";refine qn H' s3 fun s hs=>?_;have e2:ao rs=ao ds*(s-ao fs.reverse):=by rw[e1] at hs;grind
   have:=any_zero.mpr (A7 td gb e2);rw[NT] at this;cases this
  |false=>
   have hz:=any_zero.mp NT;rw[hz] at e1;have e2:ao xs=ao ds*ao fs.reverse:=by rw[e1];grind
   rw[if_neg (by decide)];walk_at "sf";refine⟨_,rfl,p2,_,rfl,a_.of h2,fun l hl=>?_⟩;refine qs l fs.reverse _ (s3.trans (au.new hl _)) ?_ e2 fun U2=>?_
   ·show upd H' l _ l=_;rw[ak,List.map_reverse]
   ·rw[List.length_reverse];rcases XG with h|h
    ·lia
    ·rw[h,List.length_nil] at hlen;lia
end
end dA
namespace dA
open PySem PyProof.Rows L2 SF SF.Po
theorem dX{xs:List Int}{n:Nat}(h:Tr xs)(hn:xs≠[])(b:Ab n xs):Ab n (aC xs):=fun x hx=>by
 obtain⟨i,hi,e⟩:=List.getElem_of_mem hx;rw[aY] at hi;have e2:=iz hi;have hc:=ff h hn;rw[<-e,<-cy];refine(b.co i).of_le ?_;rw[<-e2,Int.natAbs_mul];exact Nat.le_mul_of_pos_right _ (Int.natAbs_pos.mpr hc)
theorem vw{b:Nat}{x:Int}(h:Bd b x):ab x<=((2^b:Nat):Int):=by
 unfold Bd at h;unfold ab;lia
theorem NU{b:Nat}{x:Int}{B:Nat}(h:ab x<=(B:Int))(hB:B<2^b):Bd b x:=by
 unfold Bd;unfold ab at h;lia
noncomputable def KI(xs ys:List Int):Prop:=Tr xs/\Tr ys/\xs.length<=40/\ys.length<=40/\xs.length+ys.length<=62/\∃b,b<=10000/\Ab b xs/\Ab b ys
theorem NV{xs:List Int}:(!(xs.map V.int).isEmpty)=decide (xs≠[]):=by cases xs<;>rfl
theorem z_{xs ys:List Int}{b:Nat}(hx:Tr xs)(hy:Tr ys)(hl:xs.length+ys.length<=62)(b1:Ab b xs)(b2:Ab b ys):Ab (61*b+427) (dG xs ys):=by
 by_cases eT:xs=[]
 ·subst eT;rw[qY,k_ hy];by_cases iK:ys=[]
  ·subst iK;intro x hx;exact absurd hx (by simp[aC])
  ·exact(dX hy iK b2).mono (by lia)
 by_cases iK:ys=[]
 ·subst iK;rw[k_ hx];exact(dX hx eT b1).mono (by lia)
 intro x Bg;obtain⟨i,e⟩:=mj Bg;have h1:=F5 hx hy eT iK (A:=60) (M:=2^b) (by lia) (fun i=>vw ((dX hx eT b1).co i)) (fun i=>vw ((dX hy iK b2).co i)) i;rw[e] at h1;have h2:=zE b;exact NU h1 (by lia)
section
variable {P:Program} {w:World} {K:PySem.W.Frag} {mg:Str->Option Value} {base:Heap}
theorem qm(T:Nm mg)(dw:bI P w K mg base 34 "common_divisor" ["one","other"] zZ)(eU:bI P w K mg base 34 "primitive" ["poly"] (DI aC (fun xs=>DJ xs/\Tr xs)))(pB:bI P w K mg base 34 "value_at" ["poly","point"] Ip)(DO:bI P w K mg base 34 "spread" ["value","point"] vp)(rj:bI P w K mg base 34 "largest" ["poly"] rf)(jY:bI P w K mg base 34 "divided" ["poly","divisor"] xZ)(D:aS K mg "divisor_of" i7 ["one","other"]):bI P w K mg base 35 "divisor_of" ["one","other"] (xV dG KI):=by
 refine D.ok da (fun vs H Q E h=>?_) (fun f cQ A outer s H vs Q E hr h=>?_)
 ·obtain⟨a,b,xs,ys,rfl,_⟩:=h;rfl
 obtain⟨a,b,xs,ys,rfl,ha,hb,⟨tx,ty,lx,ly,Z2,bb,Pm,bx,Gy⟩,q⟩:=h;refine⟨_,(ae (aj (i:=2) da.nd rfl (Or.inl rfl) (aw eU hr (aa (pv 0) ag)))
  (ae (aj (i:=3) da.nd rfl (Or.inl rfl) (aw eU hr (aa (pv 1) ag)))
  (ae (ck (rM (fN (pv 2) (fun _=>rfl)))
  (ah (aE (pv 3)))
  aX)
  (ae (ck (rM (fN (pv 3) (fun _=>rfl)))
  (ah (aE (pv 2)))
  aX)
  (ae (aj (i:=4) da.nd rfl (Or.inl rfl) (ai aq (ai aq af (ai bL (aK (l0 rfl) rfl T.DF boot_min (aa (aw rj hr (aa (pv 2) ag)) (aa (aw rj hr (aa (pv 3) ag)) ag))) af)) (ai Jl af af)))
  (ah (dj PassesOwn.never (fN j9 (fun _=>rfl))
  (ae (aj (i:=5) da.nd rfl (Or.inl rfl) (aw dw hr (aa (aw pB hr (aa (pv 2) (aa (pv 4) ag))) (aa (aw pB hr (aa (pv 3) (aa (pv 4) ag))) ag))))
  (ae (aj (i:=6) da.nd rfl (Or.inl rfl) (aw eU hr (aa (aw DO hr (aa (pv 5) (aa (pv 4) ag))) ag)))
  (ae (ck (PW.pt (lW (aG nE (aw jY hr (aa (pv 2) (aa (pv 6) ag))) gp (aD _)) (jO (aG nE (aw jY hr (aa (pv 3) (aa (pv 6) ag))) gp (aD _)))))
  (ah (aE (pv 6)))
  aX)
  (ah (aj (i:=4) da.nd rfl (Or.inl rfl) (ai aq (pv 4) (pv 4)))))))))))))),?_⟩;walk_at "sf";refine⟨a,xs,rfl,ha,⟨by show xs.length<=1000;lia,tx⟩,fun p1 H1 s1 h1=>?_⟩;walk_at "sf";refine⟨b,ys,rfl,s1 _ _ hb,⟨by show ys.length<=1000;lia,ty⟩,fun p2 H2 s2 h2=>?_⟩;have dZ:=s1.trans s2;walk_at "sf";refine xg (a_.of (s2 _ _ h1)) ?_
 dsimp only
 rw[NV];by_cases eT:xs=[]
 ·subst eT;have e1:aC []=[]:=rfl;rw[if_pos (by rw[e1];rfl)];walk_at "sf";refine q p2 H2 dZ ?_;rw[qY,k_ ty];exact h2
 have PY:aC xs≠[]:=fun z=>eT (by have:=congrArg List.length z;rw[aY] at this;exact List.length_eq_zero_iff.mp this);rw[if_neg (by simpa using PY)];walk_at "sf";refine xg (a_.of h2) ?_
 dsimp only
 rw[NV];by_cases iK:ys=[]
 ·subst iK;have e1:aC []=[]:=rfl;rw[if_pos (by rw[e1];rfl)];walk_at "sf";refine q p1 H2 dZ ?_;rw[k_ tx];exact s2 _ _ h1
 have PZ:aC ys≠[]:=fun z=>iK (by have:=congrArg List.length z;rw[aY] at this;exact List.length_eq_zero_iff.mp this);rw[if_neg (by simpa using PZ)];have Sj:=s2 _ _ h1;have XH:=aY xs;have XI:=aY ys;have P0:=dX tx eT bx;have Sk:=dX ty iK Gy;walk_at "sf";refine⟨p1,_,rfl,Sj,⟨PY,by show(aC xs).length<=1000;lia⟩,fun m1 H3 s3⟨x1,sZ,U3⟩ NG=>?_⟩;walk_at "sf";refine⟨p2,_,rfl,s3 _ _ h2,⟨PZ,by show(aC ys).length<=1000;lia⟩,fun m2 H4 s4⟨x2,LH,XJ⟩ Sl=>?_⟩;walk_at "sf";refine⟨_,_,rfl,?_⟩;walk_at "sf";have KJ:=s3.trans s4;have NW:=dZ.trans KJ;have Sm:ab m1<=((2^bb:Nat):Int):=by
  rw[U3,mY (aM _)];exact vw (P0 _ sZ)
 have NX:0<=m1:=by rw[U3];exact aM _
 have So:0<=m2:=by rw[XJ];exact aM _
 have key:∀M:Int,M=(if m2<m1 then m2 else m1)->0<=M/\M<=((2^bb:Nat):Int)/\((∀x∈aC xs,ab x<=M)\/(∀y∈aC ys,ab y<=M)):=fun M e=>by
  rw[mY NX] at Sm;rw[e];split
  ·exact⟨So,by lia,.inr Sl⟩
  ·exact⟨NX,by lia,.inl NG⟩
 generalize hM:(if m2<m1 then m2 else m1)=M at*;obtain⟨J4,Z3,NY⟩:=key M rfl;refine bP (IntMulOk.of_left (by decide)) ?_;walk_at "sf";refine bP ⟨by decide,by decide,by decide⟩ ?_;refine bP (IntMulOk.of_right (by decide)) ?_;walk_at "sf";have XM:(2:Int)^(32:Int).toNat=4294967296:=by decide
 rw[XM]
 dsimp only
 let PB:Nat:=122*bb+860;have Z4:PB=122*bb+860:=rfl;have Z5:=zE bb;have P1:Pr (ao (aC xs)):=di tx eT;have Sq:Pr (ao (aC ys)):=di ty iK;have NZ:(∀i,ab ((ao (aC xs)).c i)<=M)\/(∀i,ab ((ao (aC ys)).c i)<=M):=by
  rcases NY with h|h
  ·exact .inl fun i=>mem_co h J4 i
  ·exact .inr fun i=>mem_co h J4 i
 have FP:Bd PB (2*(M+1)*4294967296):=by
  unfold Bd;have e3:(2*(M+1)*4294967296).natAbs=(2*(M+1)*4294967296).toNat:=by lia
  have e4:2^(bb+35)=2^bb*34359738368:=by rw[Nat.pow_add]
  have e5:2^(bb+35)<=2^PB:=Nat.pow_le_pow_right (by decide) (by lia);have e6:0<2^bb:=Nat.two_pow_pos bb;lia
 refine cX (fun m σ H'=>∃(p:Int)(z1 z2:Option V),m=(2*((NB 60 (2^bb):Nat):Int)+1-p).toNat/\σ=[some (.ref a),some (.ref b),some (.ref p1),some (.ref p2),some (.int p),z1,z2]/\au H2 H'/\2*(M+1)<p/\Bd PB p)
  ⟨_,_,_,_,rfl,rfl,KJ,by lia,FP⟩ ?_
 rintro m σ H5 ⟨p,z1,z2,rfl,rfl,s5,hp,bp⟩;have N0:=A8 P1.ne Sq.ne NY J4 hp 40 (by lia) (by lia);have Iu:=dZ.trans s5;walk_at "sf";refine⟨true,rfl,?_⟩
 dsimp only
 rw[if_pos rfl];refine⟨_,fun bN H' h=>h,?_⟩;walk_at "sf";refine⟨p1,_,p,PB,rfl,s5 _ _ Sj,⟨bb,by lia,P0,bp,by lia,by lia⟩,?_⟩;walk_at "sf";refine⟨p2,_,p,PB,rfl,s5 _ _ h2,⟨bb,by lia,Sk,bp,by lia,by lia⟩,?_⟩;walk_at "sf";refine⟨_,_,rfl,?_⟩;walk_at "sf";refine⟨_,_,40,rfl,⟨by lia,by lia,N0.2,by decide⟩,fun p6 G H6 s6 h6 LI Z6=>?_⟩;walk_at "sf";refine⟨p6,G,rfl,h6,⟨by show G.length<=1000;lia,LI.tr⟩,fun p7 H7 s7 h7=>?_⟩;have Sr:=(s5.trans s6).trans s7;have FY:G≠[]:=by
  rintro rfl;have:=LI.val;have e0:eY p []=0:=rfl;rw[e0] at this;lia
 have U4:aC G≠[]:=fun z=>FY (by have:=congrArg List.length z;rw[aY] at this;exact List.length_eq_zero_iff.mp this);have Z7:=aY G;have bG:Ab PB G:=fun x hx=>by
  have h8:=LI.J9 x hx;unfold Bd at bp ⊢;lia
 have U5:=dX LI.tr FY bG;have Ss:=cA LI.tr;have N1:HQ p ((Int.gcd (ev p (ao (aC xs))) (ev p (ao (aC ys))):Nat):Int) G:=by rw[jw,jw];exact LI
 have small:(∀s,ao (aC xs)≠ao (aC G)*s)\/(∀s,ao (aC ys)≠ao (aC G)*s)->p<=2*((NB 60 (2^bb):Nat):Int):=fun GB=>by
  rcases Int.lt_or_le (2*((NB 60 (2^bb):Nat):Int)) p with gb|hle
  ·exfalso;have gc:=cY (xs:=aC xs) (ys:=aC ys) (.inl P1.ne);have ef:=A0 P1 Sq (fun i=>vw (P0.co i)) (fun i=>vw (Sk.co i)) gc (A:=60) (by rw[bq (cA tx),bq (cA ty)];lia) gb N1 (by rw[jw,jw];exact N0.1);obtain⟨f1,e1⟩:=gc.pr.div gc.df;obtain⟨g1,e2⟩:=gc.pr.div gc.dg;rcases GB with h|h
   ·exact h f1 (by rw[ef];exact e1)
   ·exact h g1 (by rw[ef];exact e2)
  ·exact hle
 have again:∀H8:Hp,au H2 H8->p<=2*((NB 60 (2^bb):Nat):Int)->IntMulOk p p/\∃m',m'<(2*((NB 60 (2^bb):Nat):Int)+1-p).toNat/\∃(p':Int)(z1 z2:Option V),m'=(2*((NB 60 (2^bb):Nat):Int)+1-p').toNat/\
  [some (V.ref a),some (V.ref b),some (V.ref p1),some (V.ref p2),some (V.int (p*p)),some (V.int ((Int.gcd (eY p (aC xs)) (eY p (aC ys)):Nat):Int)),some (V.ref p7)]=[some (.ref a),some (.ref b),some (.ref p1),some (.ref p2),some (.int p'),z1,z2]/\au H2 H8/\2*(M+1)<p'/\Bd PB p':=fun H8 s8 hle=>by
  have si:p*2<=p*p:=Int.mul_le_mul_of_nonneg_left (by lia) (by lia);refine⟨aJ bp bp (by lia),_,?_,p*p,_,_,rfl,rfl,s8,by lia,?_⟩
  ·lia
  ·have h9:Bd (61*bb+427) p:=by unfold Bd;lia
   exact(h9.mul h9).mono (by lia)
 walk_at "sf";refine⟨p1,p7,_,_,bb,PB,rfl,Sr _ _ Sj,h7,⟨U4,Ss,by lia,by lia,P0,U5,by show bb+41*(PB+1)<=60000000;lia⟩,fun H8 s8 GB=>?_,fun p8 q1 H8 s8 h8 e8 _=>?_⟩
 ·obtain⟨Su,fin⟩:=again H8 (Sr.trans s8) (small (.inl GB));walk_at "sf";refine⟨rfl,false,rfl,?_⟩;rw[if_neg (by decide),if_neg (by decide)];walk_at "sf";refine bP Su ?_;walk_at "sf";exact fin
 ·walk_at "sf";refine⟨rfl,true,rfl,?_⟩;rw[if_pos rfl];walk_at "sf";have Sv:=Sr.trans s8;refine⟨p2,p7,_,_,bb,PB,rfl,Sv _ _ h2,s8 _ _ h7,⟨U4,Ss,by lia,by lia,Sk,U5,by show bb+41*(PB+1)<=60000000;lia⟩,fun H9 s9 GB=>?_,fun p9 q2 H9 s9 h9 e9 _=>?_⟩
  ·obtain⟨Su,fin⟩:=again H9 (Sv.trans s9) (small (.inr GB));walk_at "sf";refine⟨rfl,false,rfl,?_⟩;rw[if_neg (by decide)];walk_at "sf";refine bP Su ?_;walk_at "sf";exact fin
  ·walk_at "sf";refine⟨rfl,true,rfl,?_⟩;rw[if_pos rfl];walk_at "sf";refine q p7 H9 (dZ.trans (Sv.trans s9)) ?_;have gc:GC (ao (aC xs)) (ao (aC ys)) (ao (aC G)):=gcd_right P1 Sq NZ hp N1 (by rw[e8];exact Po.D.mul _ _) (by rw[e9];exact Po.D.mul _ _);rw[<-oE tx ty eT iK,<-nO Ss gc];exact s9 _ _ (s8 _ _ h7)
noncomputable def N2(xs ys:List Int):Prop:=Tr xs/\Tr ys/\xs≠[]/\ys≠[]/\xs.length<=40/\ys.length<=40/\Po.D (ao ys) (ao xs)/\∃b c,b<=1000000/\c<=1000000/\Ab b xs/\Ab c ys
theorem vy(eU:bI P w K mg base 34 "primitive" ["poly"] (DI aC (fun xs=>DJ xs/\Tr xs)))(jY:bI P w K mg base 34 "divided" ["poly","divisor"] xZ)(D:aS K mg "quotient" ku ["one","other"]):bI P w K mg base 35 "quotient" ["one","other"] (xV lj N2):=by
 refine D.ok vg (fun vs H Q E h=>?_) (fun f cQ A outer s H vs Q E hr h=>?_)
 ·obtain⟨a,b,xs,ys,rfl,_⟩:=h;rfl
 obtain⟨a,b,xs,ys,rfl,ha,hb,⟨tx,ty,eT,iK,lx,ly,hd,bb,cc,Pm,QJ,bx,Gy⟩,q⟩:=h;have PY:aC xs≠[]:=fun z=>eT (by have:=congrArg List.length z;rw[aY] at this;exact List.length_eq_zero_iff.mp this);have PZ:aC ys≠[]:=fun z=>iK (by have:=congrArg List.length z;rw[aY] at this;exact List.length_eq_zero_iff.mp this);have XH:=aY xs;have XI:=aY ys;have eq:=sE tx ty eT iK hd;refine⟨_,(ah (aE (aw jY hr (aa (aw eU hr (aa (pv 0) ag)) (aa (aw eU hr (aa (pv 1) ag)) ag))))),?_⟩;walk_at "sf";refine⟨a,xs,rfl,ha,⟨by show xs.length<=1000;lia,tx⟩,fun p1 H1 s1 h1=>?_⟩;walk_at "sf";refine⟨b,ys,rfl,s1 _ _ hb,⟨by show ys.length<=1000;lia,ty⟩,fun p2 H2 s2 h2=>?_⟩;have dZ:=s1.trans s2;walk_at "sf";refine⟨p1,p2,_,_,bb,cc,rfl,s2 _ _ h1,h2,⟨PZ,cA ty,by lia,by lia,dX tx eT bx,dX ty iK Gy,by show bb+41*(cc+1)<=60000000;lia⟩,fun H3 s3 GB=>?_,fun p3 qs H3 s3 h3 e3 hl=>?_⟩
 ·exact absurd eq (GB _)
 ·refine q p3 H3 (dZ.trans s3) ?_;have qR:(aC ys).length<=(aC xs).length:=by
   have h0:=(di tx eT).ne;rw[eq] at h0;have:=len_mul (su h0) (iA h0);rw[<-eq,bq (cA tx),bq (cA ty)] at this;have:=len_pos (iA h0);lia
  have tq:Tr qs:=Ka (cA tx) PY (cA ty) e3 (hl qR);rw[<-FZ ty iK tq e3];exact h3
noncomputable def x6(xs:List Int):Prop:=Tr xs/\xs≠[]/\xs.length<=31/\∃b,b<=9990/\Ab b xs
theorem Aa{xs:List Int}{b:Nat}(h:Ab b xs)(hl:xs.length<=31):Ab (b+5) (cF xs):=fun x hx=>by
 obtain⟨i,hi,e⟩:=List.getElem_of_mem hx;have Lz:i<xs.length-1:=by rw[show(cF xs).length=xs.length-1 from aR _ _] at hi;exact hi
 rw[<-e,<-cy,kS];show Bd (b+5) (((i+1:Nat):Int)*co xs (i+1));have h1:Bd 5 (((i+1:Nat):Int)):=Bd.gr (by lia) (by lia);have h2:=h1.mul (h.co (i+1));rw[Nat.add_comm] at h2;exact h2
theorem vz(xs:List Int):(cF xs).length=xs.length-1:=aR _ _
theorem pC(x8:bI P w K mg base 35 "quotient" ["one","other"] (xV lj N2))(jc:bI P w K mg base 35 "divisor_of" ["one","other"] (xV dG KI))(jd:bI P w K mg base 35 "derivative" ["poly"] (DI cF (fun xs=>DJ xs/\Ab jj xs)))(D:aS K mg "square_free" g_ ["poly"]):bI P w K mg base 36 "square_free" ["poly"] (DI iL x6):=by
 refine D.ok o_ (fun vs H Q E h=>?_) (fun f cQ A outer s H vs Q E hr h=>?_)
 ·obtain⟨a,xs,rfl,_⟩:=h;rfl
 obtain⟨a,xs,rfl,ha,⟨tx,eT,lx,bb,Pm,bx⟩,q⟩:=h;have iI:jj=60000000:=rfl;have ld:=vz xs;have td:=zj tx;have bd:=Aa bx lx;have h0:ao xs≠0\/ao (cF xs)≠0:=.inl (fE tx eT);refine⟨_,(ah (aE (aw x8 hr (aa (pv 0) (aa (aw jc hr (aa (pv 0) (aa (aw jd hr (aa (pv 0) ag)) ag))) ag))))),?_⟩;walk_at "sf";refine⟨a,xs,rfl,ha,⟨by show xs.length<=1000;lia,bx.mono (by lia)⟩,fun p1 H1 s1 h1=>?_⟩;walk_at "sf";refine⟨a,p1,xs,_,rfl,s1 _ _ ha,h1,⟨tx,td,by lia,by lia,by lia,bb+5,by lia,bx.mono (by lia),bd⟩,fun p2 H2 s2 h2=>?_⟩;have dZ:=s1.trans s2;have Z8:(dG xs (cF xs)).length<=xs.length:=by
  have:=(cY h0).df.len (fE tx eT);rw[bq (f7 _ _),bq tx] at this;exact this
 walk_at "sf";refine⟨a,p2,xs,_,rfl,dZ _ _ ha,h2,⟨tx,f7 _ _,eT,zA h0,by lia,by lia,Nj tx eT,bb,61*(bb+5)+427,by lia,by lia,bx,z_ tx td (by lia) (bx.mono (by lia)) bd⟩,fun p3 H3 s3 h3=>?_⟩;exact q p3 H3 (dZ.trans s3) h3
end
end dA
namespace dA
open PySem PyProof.Rows L2 SF
noncomputable def sg(a:Int):Int:=if a<0 then -1 else if 0<a then 1 else 0
noncomputable def mM:Sp:=fun vs H Q _=>∃a:Int,vs=[.int a]/\Q (.int (sg a)) H
noncomputable def lJ:Sp:=fun vs H Q _=>∃(a:Addr)(xs:List Int)(t u:Int)(b p:Nat),vs=[.ref a,.int t,.int u]/\IL H a xs/\(xs.length<=100/\Ab b xs/\Bd p t/\Bd p u/\(b+(p+1)*101<=jj\/(xs.length<=13/\b+(p+1)*14<=jj)))/\Q (.int (hv t u xs)) H
noncomputable def Bt:Sp:=fun vs H Q _=>∃(a g:Addr)(xs:List Int)(t u:Int)(b p:Nat),vs=[.ref a,.ref g]/\IL H a xs/\H g=some (.tup [.int t,.int u])/\(xs.length<=100/\Ab b xs/\Bd p t/\Bd p u/\(b+(p+1)*101<=jj\/(xs.length<=13/\b+(p+1)*14<=jj)))/\Q (.int (sg (hv t u xs))) H
theorem x9{t u:Int}{xs:List Int}{j b p:Nat}(bt:Bd p t)(bu:Bd p u)(hb:Ab b xs):j<=xs.length->Bd (b+(p+1)*j+1) (CG t u xs j).1/\Bd (p*j+1) (CG t u xs j).2:=by
 induction j with
 |zero=>
  intro _;rw[CH];exact⟨by show(0:Int).natAbs<_;exact Nat.two_pow_pos _,Bd.mono (m:=1) (by show(1:Int).natAbs<2^1;decide) (by lia)⟩
 |succ j ih=>
  intro hj;obtain⟨h1,h2⟩:=ih (by lia);rw[uJ t u xs j (by lia)];unfold js;have e1:(p+1)*(j+1)=(p+1)*j+(p+1):=by rw[Nat.mul_add];lia
  have e2:p*(j+1)=p*j+p:=by rw[Nat.mul_add];lia
  have e3:(p+1)*j=p*j+j:=by rw[Nat.add_mul];lia
  refine⟨?_,(h2.mul bu).mono (by lia)⟩;have z1:=(h1.mul bt);have z2:=((hb.co (xs.length-1-j)).mul h2);exact((z1.mono (by lia:b+(p+1)*j+1+p<=b+(p+1)*j+1+p)).add (z2.mono (by lia))).mono (by lia)
section
variable {P:Program} {w:World} {K:PySem.W.Frag} {mg:Str->Option Value} {base:Heap}
theorem GD(D:aS K mg "sign" xP ["number"]):bI P w K mg base 1 "sign" ["number"] mM:=by
 refine D.ok Gw (fun vs H Q E h=>?_) (fun f cQ A outer s H vs Q E hr h=>?_)
 ·obtain⟨a,rfl,_⟩:=h;rfl
 obtain⟨a,rfl,q⟩:=h;refine⟨_,(ae (ck (aG jo (pv 0) af (aD _))
  (ah (aE (cW bZ af)))
  aX)
  (ah (aE (eI (aG eP (pv 0) af (aD _)) af af)))),?_⟩;walk_at "sf";unfold sg at q;refine cZ (fun c=>?_) (fun c=>?_)
 ·walk_at "sf";rw[if_pos (by simpa using c)] at q;exact q
 ·rw[if_neg (by simpa using c)] at q;walk_at "sf";refine cZ (fun c2=>?_) (fun c2=>?_)
  ·walk_at "sf";rw[if_pos (by simpa using c2)] at q;exact q
  ·walk_at "sf";rw[if_neg (by simpa using c2)] at q;exact q
theorem x_(T:Nm mg)(D:aS K mg "trimmed" mD ["row"]):bI P w K mg base 1 "trimmed" ["row"] (DI dU DJ):=by
 refine D.ok kq (fun vs H Q E h=>?_) (fun f cQ A outer s H vs Q E hr h=>?_)
 ·obtain⟨a,xs,rfl,_⟩:=h;rfl
 obtain⟨a,xs,rfl,ha,hl,q⟩:=h;have em:(xs.map V.int).length=xs.length:=List.length_map _;refine⟨_,(ae (aj (i:=1) kq.nd rfl (Or.inl rfl) (aK aV rfl T.ft boot_len (aa (pv 0) ag)))
  (ae (dj PassesOwn.never (PW.pt (lW (aG eP (pv 1) af (aD _)) (jO (aG d_ (ax bB (pv 0) (ai bM (pv 1) af) (fun _ _=>rfl)) af (aD _)))))
  (ah (aj (i:=1) kq.nd rfl (Or.inl rfl) (ai bM (pv 1) af))))
  (ah (aE (kP nI (pv 0) nF (nG (pv 1))))))),?_⟩;walk_at "sf";refine⟨a,_,rfl,.inl (a_.of ha),?_⟩;walk_at "sf";rw[em];refine cX (fun m σ H'=>∃n:Nat,n=m/\σ=[some (.ref a),some (.int (n:Int))]/\H'=H/\n<=xs.length/\dU (xs.take n)=dU xs) ⟨_,xs.length,rfl,rfl,rfl,Nat.le_refl _,by rw[List.take_length]⟩ ?_;rintro m σ H' ⟨n,rfl,rfl,rfl,hn,e⟩;have fin:(n=0\/SF.co xs (n-1)≠0)->∀p,H' p=none->Q (.ref p) (upd H' p (.lst (ip (xs.map V.int) none (some (n:Int))))):=fun hz p hp=>by
  have e2:dU xs=xs.take n:=by rw[<-e];exact CB (FD hn hz)
  exact q p _ (au.new hp _) (by show upd H' p _ p=_;rw[ak,DG,e2])
 walk_at "sf";refine cZ (fun c=>?_) (fun c=>?_)
 ·have hp:0<n:=by simpa using c
  have ei:((n:Int)-1)=((n-1:Nat):Int):=by lia
  walk_at "sf";rw[ei];refine cx (a_.of ha) (pz (by lia)) ?_;walk_at "sf";refine cZ (fun c2=>?_) (fun c2=>?_)
  ·have hz:SF.co xs (n-1)=0:=by simpa using c2
   refine⟨_,fun bN H' h=>h,?_⟩;walk_at "sf";rw[ei];refine⟨n-1,by lia,n-1,rfl,rfl,rfl,by lia,?_⟩;have:=xj (xs:=xs) hz;rw[Nat.sub_add_cancel hp] at this;rw[<-this,e]
  ·have hz:SF.co xs (n-1)≠0:=by simpa using c2
   walk_at "sf";refine⟨_,rfl,?_⟩;exact⟨a,_,rfl,a_.of ha,fin (.inr hz)⟩
 ·have hp:n=0:=by simpa using c
  rw[if_neg (by decide)];walk_at "sf";refine⟨_,rfl,?_⟩;exact⟨a,_,rfl,a_.of ha,fin (.inl hp)⟩
theorem s_(T:Nm mg)(D:aS K mg "height_at" jA ["poly","top","under"]):bI P w K mg base 1 "height_at" ["poly","top","under"] lJ:=by
 refine D.ok d7 (fun vs H Q E h=>?_) (fun f cQ A outer s H vs Q E hr h=>?_)
 ·obtain⟨a,xs,t,u,b,p,rfl,_⟩:=h;rfl
 obtain⟨a,xs,t,u,b,p,rfl,ha,⟨hx,bx,bt,bu,wJ⟩,q⟩:=h;have iI:jj=60000000:=rfl;refine⟨_,(ae (aj (i:=3) d7.nd rfl (Or.inl rfl) af)
  (ae (aj (i:=4) d7.nd rfl (Or.inl rfl) af)
  (ae (fV PassesOwn.never rfl (w_ rfl T.jb (aa (pv 0) ag)) (aU (i:=5) d7.nd rfl (Or.inl rfl))
  (ae (aj (i:=3) d7.nd rfl (Or.inl rfl) (ai bL (ai aq (pv 3) (pv 1)) (ai aq (pv 5) (pv 4))))
  (ah (aj (i:=4) d7.nd rfl (Or.inl rfl) (ai aq (pv 4) (pv 2))))))
  (ah (aE (pv 3)))))),?_⟩;walk_at "sf";refine⟨a,_,rfl,a_.of ha,?_⟩;refine rT (xs:=xs.map V.int) (fun i σ H'=>(∃r,σ=[some (.ref a),some (.int t),some (.int u),some (.int (CG t u xs i).1),some (.int (CG t u xs i).2),r])/\H'=H) ⟨⟨_,rfl⟩,rfl⟩ (fun i σ H' _ z=>by rw[z.2];exact a_.of ha) ?_ ?_
 ·rintro i x σ H' hi Bg ⟨⟨r,rfl⟩,rfl⟩;rw[List.length_map] at hi Bg;obtain⟨Io,rfl⟩:=mL Bg;obtain⟨b1,b2⟩:=x9 bt bu bx (j:=i) (by lia);have k1:b+((p+1)*i+(p+1))<=jj:=by
   rcases wJ with z|⟨z1,z2⟩
   ·have:=Nat.mul_le_mul_left (p+1) (show i<=100 by lia);lia
   ·have:=Nat.mul_le_mul_left (p+1) (show i<=13 by lia);lia
  have k2:p*i<=(p+1)*i:=Nat.mul_le_mul_right _ (by lia);walk_at "sf";refine bP (aJ b1 bt (by lia)) ?_;walk_at "sf";refine bP (aJ (bx.co _) b2 (by lia)) ?_;walk_at "sf";refine bP (aJ b2 bu (by lia)) ?_;walk_at "sf";exact⟨⟨_,by rw[uJ t u xs i hi];rfl⟩,rfl⟩
 ·rintro σ H' ⟨⟨r,rfl⟩,rfl⟩;rw[List.length_map];walk_at "sf";rw[ou];exact q
theorem yb(gH:bI P w K mg base 1 "sign" ["number"] mM)(dC:bI P w K mg base 1 "height_at" ["poly","top","under"] lJ)(D:aS K mg "sign_at" mH ["poly","given"]):bI P w K mg base 2 "sign_at" ["poly","given"] Bt:=by
 refine D.ok xR (fun vs H Q E h=>?_) (fun f cQ A outer s H vs Q E hr h=>?_)
 ·obtain⟨a,g,xs,t,u,b,p,rfl,_⟩:=h;rfl
 obtain⟨a,g,xs,t,u,b,p,rfl,ha,hg,AM,q⟩:=h;refine⟨_,(ah (aE (aw gH hr (aa (aw dC hr (aa (pv 0) (aa (ax ay (pv 1) af (fun _ _=>rfl)) (aa (ax ay (pv 1) af (fun _ _=>rfl)) ag)))) ag)))),?_⟩;walk_at "sf";refine aL (cj.of hg) rfl ?_;walk_at "sf";refine aL (cj.of hg) rfl ?_;walk_at "sf";refine⟨a,xs,t,u,b,p,rfl,ha,AM,?_⟩;walk_at "sf";exact⟨_,rfl,q⟩
end
end dA
namespace dA
open PySem PyProof.Rows L2 SF SF.Po
theorem Bd.pow{b:Nat}{x:Int}(h:Bd b x):∀k:Nat,Bd (b*k+1) (x^k)
 |0=>Bd.mono (m:=1) (by rw[Int.pow_zero];show(1:Int).natAbs<2^1;decide) (by lia)
 |k+1=>by
  rw[Int.pow_succ];have e:b*(k+1)=b*k+b:=by rw[Nat.mul_add];lia
  exact((Bd.pow h k).mul h).mono (by lia)
noncomputable def Iv:Sp:=fun vs H Q _=>∃(x:Int)(k b:Nat),vs=[.int x,.int (k:Int)]/\(Bd b x/\k<=100/\b*k<=jj/\b<=jj)/\Q (.int (x^k)) H
noncomputable def Iw:Sp:=fun vs H Q _=>∃(a d:Addr)(xs ys:List Int)(b c:Nat),vs=[.ref a,.ref d]/\IL H a xs/\IL H d ys/\(ys≠[]/\Tr ys/\ys.length<=xs.length/\xs.length<=60/\Ab b xs/\Ab c ys/\b+(xs.length-ys.length+1)*(c+1)<=jj)/\
 ∀(p:Addr)(rs:List Int)(H':Hp),au H H'->IL H' p rs->UI xs ys rs->Ab (b+(xs.length-ys.length+1)*(c+1)) rs->Q (.ref p) H'
theorem XN{d:Nat}(h:d<=60):Builtin.Range.small (d:Int) (-1) (-1)=true:=by
 revert d;decide
theorem Sw{d:Nat}:Builtin.Range.rangeSize (d:Int) (-1) (-1)=((d+1:Nat):Int):=by
 unfold Builtin.Range.rangeSize;rw[if_neg (by decide),if_pos (by lia)];have:((d:Int)- -1-1)=(d:Int):=by lia
 rw[this];simp
section
variable {P:Program} {w:World} {K:PySem.W.Frag} {mg:Str->Option Value} {base:Heap}
theorem DP(T:Nm mg)(D:aS K mg "power" sS ["number","many"]):bI P w K mg base 1 "power" ["number","many"] Iv:=by
 refine D.ok gC (fun vs H Q E h=>?_) (fun f cQ A outer s H vs Q E hr h=>?_)
 ·obtain⟨x,k,b,rfl,_⟩:=h;rfl
 obtain⟨x,k,b,rfl,⟨bx,hk,Z9,hb⟩,q⟩:=h;have iI:jj=60000000:=rfl;refine⟨_,(ae (aj (i:=2) gC.nd rfl (Or.inl rfl) af)
  (ae (aj (i:=3) gC.nd rfl (Or.inl rfl) (pv 0))
  (ae (aj (i:=4) gC.nd rfl (Or.inl rfl) (pv 1))
  (ae (dj PassesOwn.never (aG eP (pv 4) af (aD _))
  (ae (ck (aG d_ (ai de (pv 4) af) af (aD _))
  (ah (aj (i:=2) gC.nd rfl (Or.inl rfl) (ai aq (pv 2) (pv 3))))
  aX)
  (ae (aj (i:=4) gC.nd rfl (Or.inl rfl) (ai dS (pv 4) af))
  (ah (ck (aG eP (pv 4) af (aD _))
  (ah (aj (i:=3) gC.nd rfl (Or.inl rfl) (ai aq (pv 3) (pv 3))))
  aX)))))
  (ah (aE (pv 2))))))),?_⟩;walk_at "sf";refine cX (fun m σ H'=>∃(j s:Nat),σ=[some (.int x),some (.int (k:Int)),some (.int (x^j)),some (.int (x^s)),some (.int (m:Int))]/\H'=H/\j+s*m=k)
  ⟨k,0,1,by rw[Int.pow_zero,Int.pow_succ,Int.pow_zero,Int.one_mul];rfl,rfl,by lia⟩ ?_
 rintro m σ H' ⟨j,s,rfl,rfl,e⟩;walk_at "sf";refine cZ (fun c=>?_) (fun c=>?_)
 ·have hm:0<m:=by
   have:(0:Int)<(m:Int):=by simpa using c
   lia
  have hs:s<=k:=by
   have:=Nat.mul_le_mul_left s hm;lia
  have h1:b*j<=b*k:=Nat.mul_le_mul_left _ (by lia);have h2:b*s<=b*k:=Nat.mul_le_mul_left _ hs;have ef:(m:Int).fmod 2=((m%2:Nat):Int):=by rw[fQ (by decide)];rfl
  have ed:(m:Int).fdiv 2=((m/2:Nat):Int):=by rw[Int.fdiv_eq_ediv_of_nonneg _ (by decide)];rfl
  have XO:=Nat.div_add_mod m 2;have U6:s*m=s*(2*(m/2))+s*(m%2):=by rw[<-Nat.mul_add,XO]
  have XQ:s*(2*(m/2))=(s+s)*(m/2):=by rw[<-Nat.mul_assoc,Nat.mul_two]
  refine⟨_,fun bN H' h=>h,?_⟩;walk_at "sf";refine bP (by decide) ?_;rw[ef];walk_at "sf";refine cZ (fun c1=>?_) (fun c1=>?_)
  case' refine_1=>
   have e1:m%2=1:=by
    have:((m%2:Nat):Int)=1:=by simpa using c1
    lia
   walk_at "sf";refine bP (aJ (Bd.pow bx j) (Bd.pow bx s) (by lia)) ?_;rw[<-Int.pow_add];have e2:(j+s)+(s+s)*(m/2)=k:=by
    rw[e1,Nat.mul_one] at U6;lia
   generalize Se:j+s=j' at e2 ⊢
  case' refine_2=>
   have e1:m%2=0:=by
    have:¬((m%2:Nat):Int)=1:=by simpa using c1
    lia
   have e2:j+(s+s)*(m/2)=k:=by
    rw[e1,Nat.mul_zero] at U6;lia
   generalize Se:j=j' at e2 ⊢
  all_goals
   walk_at "sf";refine bP ⟨by decide,by decide⟩ ?_;rw[ed];have gb:m/2<m:=Nat.div_lt_self hm (by decide);walk_at "sf";generalize m/2=d at e2 gb ⊢;refine cZ (fun c2=>?_) (fun c2=>?_)
   ·have hd:0<d:=by
     have:(0:Int)<(d:Int):=by simpa using c2
     lia
    have h3:(s+s)<=k:=by
     have:=Nat.mul_le_mul_left (s+s) hd;lia
    have h4:b*(s+s)<=b*k:=Nat.mul_le_mul_left _ h3;rw[Nat.mul_add] at h4;walk_at "sf";refine bP (aJ (Bd.pow bx s) (Bd.pow bx s) (by lia)) ?_;rw[<-Int.pow_add];walk_at "sf";exact⟨d,gb,j',s+s,rfl,rfl,e2⟩
   ·have hd:d=0:=by
     have:¬(0:Int)<(d:Int):=by simpa using c2
     lia
    walk_at "sf";exact⟨d,gb,j',s,rfl,rfl,by rw[hd,Nat.mul_zero] at e2 ⊢;exact e2⟩
 ·have hm:m=0:=by
   have:¬(0:Int)<(m:Int):=by simpa using c
   lia
  subst hm;have ej:j=k:=by lia
  subst ej;walk_at "sf";exact q
theorem tf(T:Nm mg)(gH:bI P w K mg base 1 "sign" ["number"] mM)(Bu:bI P w K mg base 1 "trimmed" ["row"] (DI dU DJ))(D:aS K mg "remainder" jB ["one","other"]):
 bI P w K mg base 2 "remainder" ["one","other"] Iw:=by
 refine D.ok cJ (fun vs H Q E h=>?_) (fun f cQ A outer s H vs Q E hr h=>?_)
 ·obtain⟨a,d,xs,ys,b,c,rfl,_⟩:=h;rfl
 obtain⟨a,d,xs,ys,b,c,rfl,ha,hd,⟨iK,ty,hl,hx,bx,Gy,wJ⟩,q⟩:=h;have iI:jj=60000000:=rfl;have ex:(xs.map V.int).length=xs.length:=List.length_map _;have ey:(ys.map V.int).length=ys.length:=List.length_map _;have hyp:=List.length_pos_iff.mpr iK;have Iq:=ty.last iK;refine⟨_,(ae (aj (i:=2) cJ.nd rfl (Or.inr rfl) (aK cm rfl T.fz boot_abs (aa (ax bB (pv 1) (cW bZ af) (fun _ _=>rfl)) ag)))
  (ae (aj (i:=3) cJ.nd rfl (Or.inl rfl) (aw gH hr (aa (ax bB (pv 1) (cW bZ af) (fun _ _=>rfl)) ag)))
  (ae (aj (i:=4) cJ.nd rfl (Or.inl rfl) (b_ kQ rfl T.xT boot_list (aa (pv 0) ag)))
  (ae (fV PassesOwn.never rfl (qM rfl T.lH (aa (ai bM (aK aV rfl T.ft boot_len (aa (pv 0) ag)) (aK aV rfl T.ft boot_len (aa (pv 1) ag))) (aa (cW bZ af) (aa (cW bZ af) ag)))) (aU (i:=5) cJ.nd rfl (Or.inl rfl))
  (ae (aj (i:=6) cJ.nd rfl (Or.inl rfl) (ai aq (wX PySem.F.plainAttrs_list PySem.F.slot_list_pop PySem.F.type_list_pop wZ (pv 4)) (pv 3)))
  (ae (Fv (i:=4) cJ.nd rfl rfl rfl (g9 (own:=["number"]) (fr:=[2]) (fs:=["size"]) (by with_unfolding_all rfl) rfl (by decide +kernel) (by decide +kernel) (by exact⟨rfl,trivial⟩) (by with_unfolding_all rfl) (by exact⟨⟨rfl,rfl,rfl,Or.inl rfl⟩,trivial⟩)) (eZ (pv 4)) (fun _ _ _ _ _=>(aU (i:=0) (show List.Nodup (["number","size"]:List Str) by decide +kernel) rfl (Or.inl rfl) (Or.inr rfl))) (fun _ _ _ _ _=>(ai aq (pv 0) (pv 1))) rfl)
  (ah (fV PassesOwn.never rfl (rR rfl T.jH (aa (kP nI (pv 1) nF (nG (cW bZ af))) ag)) (kh rfl (bO (aU (i:=7) cJ.nd rfl (Or.inl rfl)) (bO (aU (i:=8) cJ.nd rfl (Or.inl rfl)) iN)))
  (ah (lX (ai bM (ax bB (pv 4) (ai bL (pv 5) (pv 7)) (fun _ _=>rfl)) (ai aq (pv 6) (pv 8))) (wC (pv 4) (ai bL (pv 5) (pv 7)) set_list))))))))
  (ah (aE (aw Bu hr (aa (pv 4) ag)))))))),?_⟩;walk_at "sf";refine cx (a_.of hd) (f_ iK) ?_;walk_at "sf";refine⟨_,rfl,?_⟩;walk_at "sf";refine cx (a_.of hd) (f_ iK) ?_;walk_at "sf";refine⟨_,rfl,?_⟩;walk_at "sf";have EZ:(if co ys (ys.length-1)<0 then -co ys (ys.length-1) else co ys (ys.length-1))=ab (co ys (ys.length-1)):=by unfold ab;split<;>lia
 rw[EZ];have Nz:sg (co ys (ys.length-1))*co ys (ys.length-1)=ab (co ys (ys.length-1)):=NA _;have P2:Bd 1 (sg (co ys (ys.length-1))):=by unfold sg Bd;split<;>(try split)<;>decide
 have bl:Bd c (ab (co ys (ys.length-1))):=by
  have:=Gy.co (ys.length-1);unfold Bd at*;unfold ab;lia
 generalize sg (co ys (ys.length-1))=σs at Nz P2 ⊢;generalize hle:ab (co ys (ys.length-1))=l at Nz bl ⊢;refine⟨a,_,rfl,.inl (a_.of ha),fun p1 mZ=>?_⟩;have s1:=au.new mZ (.lst (xs.map V.int));walk_at "sf";refine⟨a,_,rfl,.inl (a_.of (s1 _ _ ha)),?_⟩;walk_at "sf";refine⟨d,_,rfl,.inl (a_.of (s1 _ _ hd)),?_⟩;walk_at "sf";rw[ex,ey];have ek:(xs.length:Int)-(ys.length:Int)=((xs.length-ys.length:Nat):Int):=by lia
 rw[ek];generalize HZ:xs.length-ys.length=δ at wJ ⊢;refine⟨_,_,_,δ+1,rfl,by decide,by decide,XN (by lia),Sw,?_⟩;refine oa (fun i σ H'=>∃(p:Addr)(rs:List Int)(q:Po)(z5 z6 z7 z8:Option V),σ=[some (.ref a),some (.ref d),some (.int l),some (.int σs),some (.ref p),z5,z6,z7,z8]/\au H H'/\IL H' p rs/\H p=none/\
  rs.length+i=xs.length/\Po.K (l^i)*ao xs=q*ao ys+ao rs/\len q<=δ+1/\Ab (b+i*(c+1)) rs)
  ⟨p1,xs,0,_,_,_,_,rfl,s1,ak,mZ,by lia,by rw[Int.pow_zero,Po.cK];grind,by rw[fS];lia,bx.mono (by lia)⟩ ?_ ?_
 ·rintro i σ H2 hi ⟨p,rs,qq,z5,z6,z7,z8,rfl,s2,h2,yc,hlen,eq,hq,GA⟩;have U7:ys.length<=rs.length:=by lia
  have DN:rs≠[]:=List.length_pos_iff.mp (by lia);have hk:rs.length-ys.length=δ-i:=by lia
  have Z_:i*(c+1)<=(δ+1)*(c+1):=Nat.mul_le_mul_right _ (by lia);have XR:(i+1)*(c+1)<=(δ+1)*(c+1):=Nat.mul_le_mul_right _ (by lia);have XS:(i+1)*(c+1)=i*(c+1)+(c+1):=by rw[Nat.add_mul];lia
  walk_at "sf";refine⟨_,rfl,.inl ⟨rfl,_,a_.of h2⟩,p,_,_,rfl,rfl,h2,vt DN,?_⟩;walk_at "sf";refine bP (aJ (GA.co _) P2 (by lia)) ?_;walk_at "sf";have em:(rs.map V.int).dropLast=rs.dropLast.map V.int:=(List.map_dropLast ..).symm;have h3:IL (upd H2 p (.lst (rs.map V.int).dropLast)) p rs.dropLast:=by show upd _ p _ p=_;rw[ak,em]
  have s3:au H (upd H2 p (.lst (rs.map V.int).dropLast)):=fun c o z=>by
   rw[aI (aN z yc)];exact s2 _ _ z
  generalize upd H2 p (.lst (rs.map V.int).dropLast)=H3 at h3 s3 ⊢;have ld:rs.dropLast.length=rs.length-1:=List.length_dropLast;have cd:∀j,j<rs.length-1->co rs.dropLast j=co rs j:=fun j hj=>by rw[List.dropLast_eq_take,iR,if_pos hj]
  refine f6 (H1:=H3) (qF K p) (fun R hR=>?_) (iT (xs:=rs.dropLast) (a_.of h3) (fun i=>co rs.dropLast i*l) (by lia) ?_ ?_)
  ·walk_at "sf";exact⟨p,rfl,⟨_,a_.of h3⟩,hR⟩
  ·intro j r H4 hj hr KJ Z hZ;obtain⟨x0,rfl⟩:=sf hr;walk_at "sf";have bj:Bd (b+i*(c+1)) (co rs.dropLast j):=by rw[cd j (by lia)];exact GA.co j
   refine bP (aJ bj bl (by lia)) ?_;exact hZ _ _ (au.refl _) ⟨[_],rfl,rfl⟩
  ·intro D2 H4 N3 KJ h4;have s4:=s3.trans KJ;have Sy:H D2=none:=s3.free N3;have e4:fv (fun i=>co rs.dropLast i*l) rs.dropLast.length=fv (fun j=>co rs j*l) (rs.length-1):=by
    rw[ld];exact dt fun j hj=>by rw[cd j hj]
   rw[e4] at h4;walk_at "sf";refine⟨_,rfl,?_⟩;walk_at "sf";refine⟨d,_,rfl,a_.of (s4 _ _ hd),fun p5 KL=>?_⟩;have e5:ip (ys.map V.int) none (some (-1))=ys.dropLast.map V.int:=vm ys;have N4:=au.new KL (.lst (ip (ys.map V.int) none (some (-1))));have h5:IL (upd H4 p5 (.lst (ip (ys.map V.int) none (some (-1))))) p5 ys.dropLast:=by show upd _ p5 _ p5=_;rw[ak,e5]
   have U8:=N4 _ _ h4;have s5:=s4.trans N4;have XT:p5≠D2:=fun z=>by rw[z,h4] at KL;cases KL
   generalize upd H4 p5 (.lst (ip (ys.map V.int) none (some (-1))))=H5 at h5 U8 s5 ⊢;have U9:ys.dropLast.length=ys.length-1:=List.length_dropLast;have U_:∀j,j<ys.length-1->co ys.dropLast j=co ys j:=fun j hj=>by rw[List.dropLast_eq_take,iR,if_pos hj]
   have XU:(ys.dropLast.map V.int).length=ys.length-1:=by rw[List.length_map,U9]
   generalize RB:rs.length-ys.length=kk at hk;have XW:(δ:Int)+(i:Int)*-1=(kk:Int):=by lia
   rw[XW];generalize ht:co rs (rs.length-1)=t;have bt:Bd (b+i*(c+1)) t:=by rw[<-ht];exact GA.co _
   walk_at "sf";refine⟨p5,rfl,⟨_,a_.of h5⟩,?_⟩;refine uA (xs:=ys.dropLast.map V.int) (fun e σ H'=>(∃r1 r2,σ=[some (.ref a),some (.ref d),some (.int l),some (.int σs),some (.ref D2),some (.int (kk:Int)),some (.int (t*σs)),r1,r2])/\au H H'/\IL H' p5 ys.dropLast/\
    IL H' D2 (fv (fun j=>co rs j*l-if kk<=j/\j<kk+e then t*σs*co ys (j-kk) else 0) (rs.length-1)))
    ⟨⟨_,_,rfl⟩,s5,h5,?_⟩ (fun e σ H' _ z=>a_.of z.2.2.1) ?_ ?_
   ·show H5 D2=_;rw[U8];exact congrArg (fun l:List Int=>some (HO.lst (l.map V.int))) (dt fun j _=>by rw[if_neg (by lia)];lia)
   ·rintro e x pp σ H6 XX si ⟨⟨r1,r2,rfl⟩,s6,h6,h7⟩;obtain⟨Sz,rfl⟩:=mL XX;rw[U9] at Sz;have SA:=au.new si (.tup [.int (e:Int),.int (co ys.dropLast e)]);have h8:=SA _ _ h7;have ei:(kk:Int)+(e:Int)=((kk+e:Nat):Int):=by lia
    refine jq (cj.of ak) rfl ?_;walk_at "sf";rw[ei];refine cx (a_.of h8) (pz (by rw[aR];lia)) ?_;walk_at "sf";have be:Bd c (co ys.dropLast e):=by rw[U_ e Sz];exact Gy.co e
    refine bP (aJ (bt.mul P2) be (by lia)) ?_;walk_at "sf";rw[ei];refine⟨D2,_,_,kk+e,rfl,rfl,h8,xU (by rw[List.length_map,aR];lia),?_⟩;refine⟨⟨_,_,rfl⟩,fun c o z=>?_,?_,?_⟩
    ·rw[aI (aN z Sy)];exact SA _ _ (s6 _ _ z)
    ·show upd _ D2 _ p5=_;rw[aI XT];exact SA _ _ h6
    ·show upd _ D2 _ D2=_;rw[ak,jr,if_pos (by lia),U_ e Sz,<-List.map_set,rZ (by lia)];refine congrArg (fun l=>some (HO.lst (l.map V.int))) (dt fun j hj=>?_);show(if j=kk+e then _ else _)=_;by_cases e2:j=kk+e
     ·subst e2;have e3:kk+e-kk=e:=by lia
      rw[if_pos rfl,if_neg (by lia),if_pos ⟨by lia,by lia⟩,e3];lia
     ·rw[if_neg e2];by_cases e4:kk<=j/\j<kk+e
      ·rw[if_pos e4,if_pos ⟨e4.1,by lia⟩]
      ·rw[if_neg e4,if_neg (by lia)]
   ·rintro σ H6 ⟨⟨r1,r2,rfl⟩,s6,h6,h7⟩;rw[XU] at h7;have es:=Dd (rs:=rs) iK U7 Nz;rw[RB,ht] at es;have Nc:Ab (b+(i+1)*(c+1)) (fv (fun j=>co rs j*l-if kk<=j/\j<kk+(ys.length-1) then t*σs*co ys (j-kk) else 0) (rs.length-1)):=fun x hx=>by
     obtain⟨j,hj,rfl⟩:=List.mem_map.mp hx;have g1:Bd (b+i*(c+1)+c) (co rs j*l):=(GA.co j).mul bl;have g2:Bd (b+i*(c+1)+c) (if kk<=j/\j<kk+(ys.length-1) then t*σs*co ys (j-kk) else 0):=by
      split
      ·have e5:(t*σs*co ys (j-kk)).natAbs<=(t*co ys (j-kk)).natAbs:=by
        rw[Int.natAbs_mul,Int.natAbs_mul,Int.natAbs_mul];have:σs.natAbs<=1:=by unfold Bd at P2;lia
        have h9:t.natAbs*σs.natAbs<=t.natAbs*1:=Nat.mul_le_mul_left _ this;rw[Nat.mul_one] at h9;exact Nat.mul_le_mul_right _ h9
       exact(bt.mul (Gy.co (j-kk))).of_le e5
      ·show(0:Int).natAbs<_;exact Nat.two_pow_pos _
     have e6:b+(i+1)*(c+1)=b+i*(c+1)+c+1:=by lia
     rw[e6];exact g1.sub g2
    refine⟨D2,_,Po.K l*qq+Po.K (t*σs)*X kk,_,_,_,_,rfl,s6,h7,Sy,by rw[aR];lia,?_,?_,Nc⟩
    ·rw[es,Int.pow_succ,Po.cb];have e7:Po.K (l^i)*Po.K l*ao xs=Po.K l*(Po.K (l^i)*ao xs):=by grind
     rw[e7,eq];grind
    ·refine Nat.le_trans (sr _ _) (Nat.max_le.mpr ⟨?_,Nat.le_trans (Ko _ _) (by lia)⟩);refine Nat.le_trans (cS fun j hj=>?_) hq;rw[bC,eM hj];grind
 ·rintro σ H2 ⟨p,rs,qq,z5,z6,z7,z8,rfl,s2,h2,yc,hlen,eq,hq,GA⟩;walk_at "sf";refine⟨p,_,rfl,h2,by show rs.length<=1000;lia,fun p3 H3 s3 h3=>?_⟩;refine q p3 _ H3 (s2.trans s3) h3 ⟨iy _,Ga (by lia),qq,?_,by rw[HZ];exact hq⟩ ?_
  ·rw[HZ,hle,CM];exact eq
  ·intro x hx;obtain⟨j,e⟩:=mj hx;rw[<-e,gv,HZ];exact GA.co j
end
end dA
namespace dA
open PySem PyProof.Rows L2 SF SF.Po
noncomputable def rk(H:Hp):List Addr->List (List Int)->Prop
 |[],[]=>True
 |a::as,p::ps=>IL H a p/\rk H as ps
 |_,_=>False
theorem rk.len{H:Hp}:∀{as:List Addr}{ps:List (List Int)},rk H as ps->as.length=ps.length
 |[],[],_=>rfl
 |_::_,_::_,h=>by rw[List.length_cons,List.length_cons,h.2.len]
theorem rk.map{H H':Hp}(f:∀a(p:List Int),IL H a p->IL H' a p):∀{as:List Addr}{ps:List (List Int)},rk H as ps->rk H' as ps
 |[],[],_=>trivial
 |_::_,_::_,h=>⟨f _ _ h.1,h.2.map f⟩
theorem rk.snoc{H:Hp}{a:Addr}{p:List Int}(ha:IL H a p):∀{as:List Addr}{ps:List (List Int)},rk H as ps->rk H (as++[a]) (ps++[p])
 |[],[],_=>⟨ha,trivial⟩
 |_::_,_::_,h=>⟨h.1,h.2.snoc ha⟩
theorem rk.get{H:Hp}:∀{as:List Addr}{ps:List (List Int)}(i:Nat){a:Addr},rk H as ps->as[i]?=some a->∃p,ps[i]?=some p/\IL H a p
 |[],[],i,a,_,e=>by simp at e
 |b::as,p::ps,0,a,h,e=>by
  have:b=a:=by simpa using e
  subst this;exact⟨p,rfl,h.1⟩
 |b::as,p::ps,i+1,a,h,e=>rk.get i h.2 (by simpa using e)
theorem mN{as:List Addr}{u v:Addr}:mU ((as++[u,v]).map V.ref) (-1)=some (.ref v):=by
 unfold mU;have e:wV ((as++[u,v]).map V.ref).length (-1)=some (as.length+1):=by
  unfold wV;rw[List.length_map,List.length_append,if_neg (by decide),if_pos (by simp;lia)];congr 1;simp;lia
 rw[e];show((as++[u,v]).map V.ref)[as.length+1]?=_;rw[List.getElem?_map,List.getElem?_append_right (by lia)];have e2:as.length+1-as.length=1:=by lia
 rw[e2];rfl
theorem yd{as:List Addr}{u v:Addr}:mU ((as++[u,v]).map V.ref) (-2)=some (.ref u):=by
 unfold mU;have e:wV ((as++[u,v]).map V.ref).length (-2)=some as.length:=by
  unfold wV;rw[List.length_map,List.length_append,if_neg (by decide),if_pos (by simp;lia)];congr 1;simp;lia
 rw[e];show((as++[u,v]).map V.ref)[as.length]?=_;rw[List.getElem?_map,List.getElem?_append_right (by lia)];have e2:as.length-as.length=0:=by lia
 rw[e2];rfl
theorem GF{H:Hp}{c a:Addr}{as:List Addr}{p:List Int}(hc:H c=some (.lst (as.map V.ref)))(hn:as≠[])(ha:IL H a p):a≠c:=fun z=>by
 subst z;have:some (HO.lst (as.map V.ref))=some (HO.lst (p.map V.int)):=hc.symm.trans ha;injection this with e;injection e with e;cases as with
 |nil=>exact hn rfl
 |cons x r=>
  cases p with
  |nil=>simp at e
  |cons y t=>simp at e
noncomputable abbrev BM:Nat:=56332746
structure E1(xs:List Int)(ps:List (List Int)):Prop where
 shape:∃rest,ps=xs::cF xs::rest
 Km:2<=xs.length->∀x:Re,A' x (ps.map ao)
 one:xs.length=1->ps=[xs,[]]
 E2:∀p∈ps,p.length<=13/\Ab BM p
 cnt:ps.length<=60
noncomputable def mO(xs:List Int):Prop:=Tr xs/\xs≠[]/\xs.length<=13/\Ab 100 xs/\CW (ao xs) (ao xs)
noncomputable def Ac:Sp:=fun vs H Q _=>∃(a:Addr)(xs:List Int),vs=[.ref a]/\IL H a xs/\mO xs/\∀(c:Addr)(as:List Addr)(ps:List (List Int))(H':Hp),au H H'->H' c=some (.lst (as.map V.ref))->rk H' as ps->E1 xs ps->Q (.ref c) H'
theorem SD{δ:Nat}(h:1<=δ):δ+2<=3^δ:=by
 induction δ with
 |zero=>lia
 |succ δ ih=>
  by_cases h0:δ=0
  ·subst h0;decide
  ·have:=ih (by lia);rw[Nat.pow_succ];lia
theorem Iy{k:Nat}(h:k<=12):3^k*106<=BM:=by
 have:3^k<=3^12:=Nat.pow_le_pow_right (by decide) h;have e:3^12*106=BM:=by decide
 lia
theorem DQ{k δ:Nat}(h:1<=δ):3^k*106-2+(δ+1)*(3^k*106-2+1)<=3^(k+δ)*106-2/\δ*(3^k*106)<=3^(k+δ)*106/\106<=3^k*106:=by
 have h1:=SD h;have h2:0<3^k:=Nat.pow_pos (by decide);have h3:(δ+2)*(3^k*106)<=3^δ*(3^k*106):=Nat.mul_le_mul_right _ h1;have h4:3^(k+δ)*106=3^δ*(3^k*106):=by rw[Nat.pow_add];grind
 have h5:(δ+2)*(3^k*106)=δ*(3^k*106)+2*(3^k*106):=by rw[Nat.add_mul]
 have h6:(δ+1)*(3^k*106-2+1)<=(δ+1)*(3^k*106)-(δ+1):=by
  have:3^k*106-2+1=3^k*106-1:=by lia
  rw[this,Nat.mul_sub,Nat.mul_one];exact Nat.le_refl _
 have h7:(δ+1)*(3^k*106)=δ*(3^k*106)+3^k*106:=by rw[Nat.add_mul];lia
 refine⟨?_,?_,?_⟩<;>lia
theorem GG{σ:L2.St}{H:Hp}{Q:VK}{own:List Str}{fr:List Nat}{wi:TI}{g:TG}{te:TE}(Pj:It->Hp->Prop)(h:∀R:It->Hp->Prop,(∀J H1,Pj J H1->R J H1)->wi σ H R)(h2:∀J H1,Pj J H1->kj J own fr σ g te H1 Q):ze own fr wi g te σ H Q:=h _ h2
section
variable {P:Program} {w:World} {K:PySem.W.Frag} {mg:Str->Option Value} {base:Heap}
theorem vA(T:Nm mg)(hT:P.given.tree=none)(jd:bI P w K mg base 33 "derivative" ["poly"] (DI cF (fun xs=>DJ xs/\Ab jj xs)))(tj:bI P w K mg base 33 "power" ["number","many"] Iv)(vB:bI P w K mg base 33 "remainder" ["one","other"] Iw)(D:aS K mg "chain_of" kv ["free"]):bI P w K mg base 34 "chain_of" ["free"] Ac:=by
 refine D.ok cL (fun vs H Q E h=>?_) (fun f cQ A outer s H vs Q E hr h=>?_)
 ·obtain⟨a,xs,rfl,_⟩:=h;rfl
 obtain⟨a,xs,rfl,ha,⟨tx,eT,lx,bx,U'⟩,q⟩:=h;have iI:jj=60000000:=rfl;have XY:BM=56332746:=rfl;have ld:=vz xs;have bd:=Aa bx (by lia);have td:=zj tx;refine⟨_,(ae (aj (i:=1) cL.nd rfl (Or.inl rfl) (dr (aa (pv 0) (aa (aw jd hr (aa (pv 0) ag)) ag))))
  (ae (aj (i:=2) cL.nd rfl (Or.inl rfl) af)
  (ae (aj (i:=3) cL.nd rfl (Or.inl rfl) af)
  (ae (dj PassesOwn.never (aG eP (aK aV rfl T.ft boot_len (aa (ax bB (pv 1) (cW bZ af) (fun _ _=>rfl)) ag)) af (aD _))
  (ae (aj (i:=4) cL.nd rfl (Or.inl rfl) (ax bB (pv 1) (cW bZ af) (fun _ _=>rfl)))
  (ae (aj (i:=5) cL.nd rfl (Or.inl rfl) (ax bB (pv 1) (cW bZ af) (fun _ _=>rfl)))
  (ae (aj (i:=6) cL.nd rfl (Or.inl rfl) (ai bM (aK aV rfl T.ft boot_len (aa (pv 4) ag)) (aK aV rfl T.ft boot_len (aa (pv 5) ag))))
  (ae (aj (i:=7) cL.nd rfl (Or.inr rfl) (ai aq (pv 2) (aw tj hr (aa (pv 3) (aa (pv 6) ag)))))
  (ae (iM (kR PySem.F.plainAttrs_list PySem.F.slot_list_append PySem.F.type_list_append eQ (pv 1) (aa (fZ rfl rfl (g9 (own:=["number"]) (fr:=[7]) (fs:=["shared"]) (by with_unfolding_all rfl) rfl (by decide +kernel) (by decide +kernel) (by exact⟨rfl,trivial⟩) (by with_unfolding_all rfl) (by exact⟨⟨rfl,rfl,rfl,Or.inl rfl⟩,trivial⟩)) (eZ (aw vB hr (aa (pv 4) (aa (pv 5) ag)))) (fun _ _ _ _ _=>(aU (i:=0) (show List.Nodup (["number","shared"]:List Str) by decide +kernel) rfl (Or.inl rfl) (Or.inr rfl))) (fun _ _ _ _ _=>(ai (eJ ⟨hT,⟨_,_,rfl,rfl,rfl,rfl,rfl⟩,hr.py⟩) (cW bZ (pv 0)) (pv 1)))) ag)))
  (ae (aj (i:=2) cL.nd rfl (Or.inl rfl) (aK cm rfl T.fz boot_abs (aa (ax bB (pv 5) (cW bZ af) (fun _ _=>rfl)) ag)))
  (ah (aj (i:=3) cL.nd rfl (Or.inl rfl) (ai (eJ ⟨hT,⟨_,_,rfl,rfl,rfl,rfl,rfl⟩,hr.py⟩) (aw tj hr (aa (pv 2) (aa (pv 6) ag))) (aw tj hr (aa (pv 3) (aa (ai bM (pv 6) af) ag)))))))))))))
  (ah (aE (pv 1))))))),?_⟩;walk_at "sf";refine⟨a,xs,rfl,ha,⟨by show xs.length<=1000;lia,bx.mono (by lia)⟩,fun p1 H1 s1 h1=>?_⟩;walk_at "sf";intro pc SE;have SG:H pc=none:=s1.free SE;have s2:=s1.trans (au.new SE (.lst [.ref a,.ref p1]));have qh:upd H1 pc (.lst [.ref a,.ref p1]) pc=some (.lst (([]++[a,p1]).map V.ref)):=ak;have i2:rk (upd H1 pc (.lst [.ref a,.ref p1])) ([]++[a,p1]) ([]++[xs,cF xs]):=⟨s2 _ _ ha,(au.new SE _) _ _ h1,trivial⟩;generalize upd H1 pc (.lst [.ref a,.ref p1])=H2 at s2 qh i2 ⊢;walk_at "sf";have Va:Ab 104 (cF xs):=fun x hx=>by
  obtain⟨i,hi,e⟩:=List.getElem_of_mem hx;have Lz:i<xs.length-1:=by rw[ld] at hi;exact hi
  rw[<-e,<-cy,kS];show Bd 104 (((i+1:Nat):Int)*co xs (i+1));have h1:Bd 4 (((i+1:Nat):Int)):=Bd.gr (by lia) (by lia);exact(h1.mul (bx.co (i+1))).mono (by lia)
 by_cases LH:2<=xs.length
 ·
  have xx:cF xs≠[]:=List.length_pos_iff.mp (by lia);obtain⟨n',QH⟩:∃n',xs.length=n'+2:=⟨xs.length-2,by lia⟩;have lF:len (ao xs)=n'+2:=by rw[bq tx];exact QH
  have lG:len (ao (cF xs))=n'+1:=by rw[bq td,ld];lia
  have gc:=cY (xs:=xs) (ys:=cF xs) (.inl U'.pr.ne);have g1:=xw tx U';have o1:ao [1]=1:=Po.ext fun i=>by
   rw[bJ,qS];cases i with
   |zero=>rfl
   |succ i=>rfl
  rw[g1,o1] at gc;obtain⟨bu,bv,ba,JY,NF⟩:=gc.bz;have Dp:bu*ao xs+bv*ao (cF xs)=Po.K ba:=by rw[NF];grind
  refine cX (fun m σ H'=>∃(hs:List (List Int))(us vs:List Int)(has:List Addr)(pu pv:Addr)(g0 h0:Int)(k:Nat)(z4 z5 z6 z7:Option V),m=vs.length/\
   σ=[some (.ref a),some (.ref pc),some (.int g0),some (.int h0),z4,z5,z6,z7]/\au H H'/\H' pc=some (.lst ((has++[pu,pv]).map V.ref))/\rk H' (has++[pu,pv]) (hs++[us,vs])/\(∃rest,hs++[us,vs]=xs::cF xs::rest)/\
   Tr us/\Tr vs/\us≠[]/\vs≠[]/\IL H' pu us/\IL H' pv vs/\us.length<=xs.length/\us.length+k=xs.length/\wc (ao xs) (ao (cF xs)) (ao us) (ao vs) (n'+1) n' (us.length-1) (vs.length-1) g0 h0/\
   (∀x:Re,nv x ((hs++[us,vs]).map ao))/\(∀x:Re,¬(at' x (ao us)=0/\at' x (ao vs)=0))/\(∀d,Po.D d (ao us)->Po.D d (ao vs)->Po.D d (ao xs)/\Po.D d (ao (cF xs)))/\
   Ab (3^k*106-2) us/\Ab (3^k*106-2) vs/\Bd (3^k*106) g0/\Bd (3^k*106) h0/\(∀p∈hs++[us,vs],p.length<=13/\Ab BM p)/\hs.length+vs.length<=xs.length)
   ⟨_,[],xs,cF xs,[],a,p1,1,1,0,_,_,_,_,rfl,rfl,s2,qh,i2,⟨[],rfl⟩,tx,td,eT,xx,i2.1,i2.2.1,Nat.le_refl _,rfl,?_,fun x=>trivial,fun x=>q_ JY Dp,fun d h1 h2=>⟨h1,h2⟩,bx.mono (by decide),Va.mono (by decide),?_,?_,?_,by show 0+(cF xs).length<=xs.length;lia⟩ ?_
  ·have e1:xs.length-1=n'+1:=by lia
   have e2:(cF xs).length-1=n':=by lia
   rw[e1,e2];exact wc.start lF lG
  ·exact Bd.mono (m:=1) (by show(1:Int).natAbs<2^1;decide) (by decide)
  ·exact Bd.mono (m:=1) (by show(1:Int).natAbs<2^1;decide) (by decide)
  ·intro p hp;rcases List.mem_cons.mp hp with z|z
   ·rw[z];exact⟨lx,bx.mono (by lia)⟩
   ·rw[List.mem_singleton.mp z];exact⟨by lia,Va.mono (by lia)⟩
  rintro m σ H' ⟨hs,us,vs,has,pu,pv,g0,h0,k,z4,z5,z6,z7,rfl,rfl,s3,BZ,i3,Pl,tu,tv,SH,KH,hu,hv,lu,lk,Iz,N5,nz,ic,ub,SI,bg,bh,E2,hlen⟩;have eu:(us.map V.int).length=us.length:=List.length_map _;have ev:(vs.map V.int).length=vs.length:=List.length_map _;have qi:=List.length_pos_iff.mpr SH;have CG:=List.length_pos_iff.mpr KH;have HX:=Iz.nm;walk_at "sf";refine cx (a_.of BZ) mN ?_;refine⟨pv,_,rfl,.inl (a_.of hv),?_⟩;walk_at "sf";rw[ev];refine cZ (fun cc=>?_) (fun cc=>?_)
  ·have SJ:2<=vs.length:=by
    have:(1:Int)<(vs.length:Int):=by simpa using cc
    lia
   refine⟨_,fun bN H' h=>h,?_⟩;walk_at "sf";refine cx (a_.of BZ) yd ?_;walk_at "sf";refine cx (a_.of BZ) mN ?_;walk_at "sf";refine⟨pu,_,rfl,.inl (a_.of hu),?_⟩;walk_at "sf";refine⟨pv,_,rfl,.inl (a_.of hv),?_⟩;walk_at "sf";rw[eu,ev];generalize HZ:us.length-vs.length=δ;have SK:1<=δ:=by lia
   have ek:(us.length:Int)-(vs.length:Int)=(δ:Int):=by lia
   rw[ek];obtain⟨XZ,Z',p3c⟩:=DQ (k:=k) SK;have p3d:=Iy (k:=k+δ) (by lia);have p3e:=Iy (k:=k) (by lia);have P4:δ*(3^k*106)=3^k*106*δ:=Nat.mul_comm _ _;refine⟨h0,δ,3^k*106,rfl,⟨bh,by lia,by lia,by lia⟩,?_⟩;have SM:=Bd.pow bh δ;refine bP (aJ bg SM (by lia)) ?_;have dd:us.length-1-(vs.length-1)=δ:=by lia
   have Kn:0<g0*h0^δ:=Int.mul_pos Iz.PN (cI Iz.LA _);walk_at "sf";refine⟨_,rfl,.inl ⟨rfl,_,a_.of BZ⟩,?_⟩;walk_at "sf";refine GG (fun J H4=>∃(p:Addr)(rs:List Int),J=qF K p/\au H' H4/\IL H4 p rs/\UI us vs rs/\Ab (3^k*106-2+(us.length-vs.length+1)*(3^k*106-2+1)) rs) (fun R hR=>?_) ?_
   ·walk_at "sf";refine⟨pu,pv,us,vs,_,_,rfl,hu,hv,⟨KH,tv,by lia,by lia,ub,SI,by rw[HZ];lia⟩,fun p rs H4 s4 h4 ye hb=>?_⟩;exact⟨p,rfl,⟨_,a_.of h4⟩,hR _ _ ⟨p,rs,rfl,s4,h4,ye,hb⟩⟩
   rintro J H4 ⟨pr,rs,rfl,s4,h4,ye,Vb⟩;rw[HZ] at Vb;obtain⟨qq,eq,hq⟩:=ye.eq;rw[HZ] at eq hq;have hl:=Iz.lead;have Ad:(ao vs).c (vs.length-1)=co vs (vs.length-1):=rfl;rw[Ad] at hl;have eq1:Po.K (ab ((ao vs).c (vs.length-1))^(us.length-1-(vs.length-1)+1))*ao us=qq*ao vs+ao rs:=by rw[dd];exact eq
   obtain⟨hh,P5⟩:=Iz.rem (by lia) eq1 (by rw[dd];exact hq) (Nat.le_trans (by rw[bq ye.tr];exact Nat.le_refl _) (by have:=ye.lt;lia));rw[dd] at P5;have U7:=ye.lt;have N6:=neg_fdiv Kn P5;refine iT (xs:=rs) (a_.of h4) (fun i=>(-(co rs i)).fdiv (g0*h0^δ)) (by lia) ?_ ?_
   ·intro i r H5 hi hr N4 Z hZ;obtain⟨x0,rfl⟩:=sf hr;walk_at "sf";refine bP (Int.ne_of_gt Kn) ?_;exact hZ _ _ (au.refl _) ⟨[_],rfl,rfl⟩
   intro D2 H5 N3 N4 h5;have xc:=s4.trans N4;have s5:=s3.trans xc;have Vc:=xc _ _ BZ;have i5:rk H5 (has++[pu,pv]) (hs++[us,vs]):=i3.map fun a p z=>xc _ _ z;have Sy:H D2=none:=(s3.trans s4).free N3;have DN:rs≠[]:=fun z=>by
    subst z;have e1:Po.K (ab (co vs (vs.length-1))^(δ+1))*ao us=ao vs*qq:=by rw[eq,dF];grind
    have d1:Po.D (ao vs) (ao us):=⟨_,Int.ne_of_gt (cI hl _),qq,e1⟩;obtain⟨d2,d3⟩:=ic _ d1 (Po.D.refl _);have d4:=gc.PJ d2 d3;have l1:len (1:Po)=1:=by rw[<-Po.cK];exact len_K (by decide)
    have:=d4.len (cD (by lia));rw[bq tv] at this;lia
   have U1:=List.length_pos_iff.mpr DN;have tw:Tr (fv (fun i=>(-(co rs i)).fdiv (g0*h0^δ)) rs.length):=by
    refine Tr.jR fun _=>?_;rw[aR];have e1:(ao (fv (fun i=>(-(co rs i)).fdiv (g0*h0^δ)) rs.length)).c (rs.length-1)=(-hh).c (rs.length-1):=by rw[N6]
    rw[bJ,HL] at e1;rw[e1];have e2:(ao rs).c (rs.length-1)=(Po.K (g0*h0^δ)*hh).c (rs.length-1):=by rw[P5]
    rw[bJ,bC] at e2;have e3:=ye.tr.last DN;rw[e2] at e3;intro z;have:hh.c (rs.length-1)=0:=by lia
    rw[this] at e3;exact e3 (by simp)
   have bw:Ab (3^(k+δ)*106-2) (fv (fun i=>(-(co rs i)).fdiv (g0*h0^δ)) rs.length):=fun x hx=>by
    obtain⟨i,hi,rfl⟩:=List.mem_map.mp hx;have h6:Bd (3^(k+δ)*106-2) (co rs i):=(Vb.co i).mono XZ;refine h6.of_le ?_;have:=zC (-(co rs i)) (g0*h0^δ);rw[Int.natAbs_neg] at this;exact this
   have lw:(fv (fun i=>(-(co rs i)).fdiv (g0*h0^δ)) rs.length).length=rs.length:=aR _ _;have eqw:Po.K (ab ((ao vs).c (vs.length-1))^(us.length-1-(vs.length-1)+1))*ao us=qq*ao vs+Po.K (-(g0*h0^(us.length-1-(vs.length-1))))*ao (fv (fun i=>(-(co rs i)).fdiv (g0*h0^δ)) rs.length):=by
    rw[eq1,dd,N6,P5,Po.CL];grind
   generalize fv (fun i=>(-(co rs i)).fdiv (g0*h0^δ)) rs.length=ws at h5 tw bw lw eqw;have X1:ws≠[]:=List.length_pos_iff.mp (by lia);walk_at "sf";refine⟨pc,_,_,rfl,rfl,Vc,?_,?_⟩
   ·rw[List.length_map];have e1:=i5.len;have e2:(hs++[us,vs]).length<=200:=by rw[List.length_append];simp;lia
    exact Nat.lt_of_lt_of_le (by lia:(has++[pu,pv]).length<1000) (fb (Nat.le_refl _))
   have SN:has++[pu,pv]≠[]:=by simp
   have keep:∀(a:Addr)(p:List Int),IL H5 a p->IL (upd H5 pc (.lst ((has++[pu,pv]).map V.ref++[V.ref D2]))) a p:=fun a p z=>by
    show upd H5 pc _ a=_;rw[aI (GF Vc SN z)];exact z
   have s6:au H (upd H5 pc (.lst ((has++[pu,pv]).map V.ref++[V.ref D2]))):=fun c o z=>by
    rw[aI (aN z SG)];exact s5 _ _ z
   have Vd:upd H5 pc (.lst ((has++[pu,pv]).map V.ref++[V.ref D2])) pc=some (.lst (((has++[pu])++[pv,D2]).map V.ref)):=by
    rw[ak];simp
   have i6:rk (upd H5 pc (.lst ((has++[pu,pv]).map V.ref++[V.ref D2]))) ((has++[pu])++[pv,D2]) ((hs++[us])++[vs,ws]):=by
    have z:=(i5.map keep).snoc (keep _ _ h5);simpa using z
   have SO:=keep _ _ (xc _ _ hv);have N7:=keep _ _ h5;generalize upd H5 pc (.lst ((has++[pu,pv]).map V.ref++[V.ref D2]))=H6 at s6 Vd i6 SO N7 ⊢;walk_at "sf";refine cx (a_.of SO) (f_ KH) ?_;walk_at "sf";refine⟨_,rfl,?_⟩;have EZ:(if co vs (vs.length-1)<0 then -co vs (vs.length-1) else co vs (vs.length-1))=ab (co vs (vs.length-1)):=by unfold ab;split<;>lia
   rw[EZ];have bl:Bd (3^k*106-2) (ab (co vs (vs.length-1))):=by
    have:=SI.co (vs.length-1);unfold Bd at*;unfold ab;lia
   have PK:=Iz.scale;rw[dd,Ad] at PK;walk_at "sf";have X2:(3^k*106-2)*δ<=3^k*106*δ:=Nat.mul_le_mul_right _ (by lia);refine⟨ab (co vs (vs.length-1)),δ,3^k*106-2,rfl,⟨bl,by lia,by lia,by lia⟩,?_⟩;walk_at "sf";have X3:(δ:Int)-1=((δ-1:Nat):Int):=by lia
   have X4:3^k*106*(δ-1)<=3^k*106*δ:=Nat.mul_le_mul_left _ (by lia);refine⟨h0,δ-1,3^k*106,by rw[X3];rfl,⟨bh,by lia,by lia,by lia⟩,?_⟩;have fK:h0^(δ-1)≠0:=Int.ne_of_gt (cI Iz.LA _);refine bP fK ?_;have SQ:=Int.fdiv_mul_cancel PK;have SR:=Int.ne_of_gt (cI hl δ);generalize (ab (co vs (vs.length-1))^δ).fdiv (h0^(δ-1))=h1 at SQ ⊢;have X5:Bd (3^(k+δ)*106) h1:=by
    have:=(Bd.pow bl δ).of_dvd ⟨h0^(δ-1),SQ.symm⟩ SR;refine this.mono ?_;have:(3^k*106-2)*δ+2*δ=3^k*106*δ:=by
     rw[Nat.sub_mul];have:2*δ<=3^k*106*δ:=Nat.mul_le_mul_right _ (by lia);lia
    lia
   have SS:wc (ao xs) (ao (cF xs)) (ao vs) (ao ws) (n'+1) n' (vs.length-1) (ws.length-1) (ab (co vs (vs.length-1))) h1:=by
    refine Iz.next eqw (by rw[dd];exact hq) (by rw[bq tw];lia) (by lia) ?_
    rw[dd,Ad];exact SQ
   have Ve:∀x:Re,(at' x (ao vs)=0->aP (at' x (ao us))*aP (at' x (ao ws))<0)/\¬(at' x (ao vs)=0/\at' x (ao ws)=0):=fun x=>by
    rw[dd] at eqw;exact Bc (cI hl _) Kn eqw (nz x)
   walk_at "sf";refine⟨ws.length,by lia,hs++[us],vs,ws,has++[pu],pv,D2,_,h1,k+δ,_,_,_,_,rfl,rfl,s6,Vd,i6,?_,tv,tw,KH,X1,SO,N7,by lia,by lia,SS,fun x=>?_,fun x=>(Ve x).2,fun d d1 d2=>?_,?_,bw,?_,X5,?_,?_⟩
   ·obtain⟨rest,er⟩:=Pl;refine⟨rest++[ws],?_⟩;have e1:hs++[us]++[vs,ws]=(hs++[us,vs])++[ws]:=by simp
    rw[e1,er];rfl
   ·have t1:=N5 x;have e1:(hs++[us,vs]).map ao=hs.map ao++[ao us,ao vs]:=by simp
    have e2:(hs++[us]++[vs,ws]).map ao=hs.map ao++[ao us,ao vs,ao ws]:=by simp
    rw[e1] at t1;rw[e2];exact nv.snoc (Ve x).1 _ t1
   ·refine ic d (Po.D.uQ (Int.ne_of_gt (cI hl (δ+1))) ?_) d1;have N8:=eqw;rw[dd,Ad] at N8;rw[N8];exact(d1.mulL _).add (d2.mulL _)
   ·exact SI.mono (by lia)
   ·exact bl.mono (by lia)
   ·intro p hp;have e1:hs++[us]++[vs,ws]=(hs++[us,vs])++[ws]:=by simp
    rw[e1] at hp;rcases List.mem_append.mp hp with z|z
    ·exact E2 p z
    ·rw[List.mem_singleton.mp z];exact⟨by lia,bw.mono (by lia)⟩
   ·rw[List.length_append];simp;lia
  ·have X6:vs.length=1:=by
    have:¬(1:Int)<(vs.length:Int):=by simpa using cc
    lia
   walk_at "sf";refine q pc _ _ H' s3 BZ i3 ⟨Pl,fun _ x=>?_,fun h1=>by lia,E2,by rw[List.length_append];show hs.length+2<=60;lia⟩;have e1:(hs++[us,vs]).map ao=(hs.map ao++[ao us])++[ao vs]:=by simp
   have t1:=N5 x;rw[e1] at t1 ⊢;refine nv.Km ?_ _ t1;have ek:=cG (f:=ao vs) (by rw[bq tv];lia);have fK:(ao vs).c 0≠0:=fun z=>fE tv KH (by rw[ek,z,Po.c_]);rw[ek,C4];intro z;have z2:Re.q (((ao vs).c 0:Int):Rat)=Re.q 0:=z;have z3:(((ao vs).c 0:Int):Rat)=((0:Int):Rat):=Re.kg z2;exact fK (Rat.intCast_inj.mp z3)
 ·have sZ:xs.length=1:=by have:=List.length_pos_iff.mpr eT;lia
  have xx:cF xs=[]:=List.length_eq_zero_iff.mp (by lia);rw[xx] at i2;refine cX (fun m σ H'=>σ=[some (.ref a),some (.ref pc),some (.int 1),some (.int 1),none,none,none,none]/\H'=H2) ⟨0,rfl,rfl⟩ ?_;rintro m σ H' ⟨rfl,rfl⟩;walk_at "sf";refine cx (a_.of qh) (mN (as:=[])) ?_;refine⟨p1,_,rfl,.inl (a_.of i2.2.1),?_⟩;walk_at "sf";rw[if_neg (by decide)];walk_at "sf";refine q pc _ _ H' s2 qh i2 ⟨⟨[],by rw[xx];rfl⟩,fun h=>absurd h LH,fun _=>rfl,fun p hp=>?_,show 2<=60 by decide⟩;rcases List.mem_cons.mp hp with z|z
  ·rw[z];exact⟨lx,bx.mono (by lia)⟩
  ·rw[List.mem_singleton.mp z];exact⟨by simp,fun x hx=>nomatch hx⟩
end
end dA
namespace dA
open PySem PyProof.Rows L2 SF SF.Po
noncomputable def eX(t u:Int)(ps:List (List Int)):List Int:=ps.map fun p=>sg (hv t u p)
theorem vC(b:Int):∀(l:List Int)(s:Int),cg b (l++[s])=cg b l+(if s*(l.foldl (fun b s=>if s≠0 then s else b) b)<0 then 1 else 0)
 |[],s=>by
  show(if s*b<0 then 1 else 0)+0=0+_;simp
 |x::l,s=>by
  show(if x*b<0 then 1 else 0)+cg (if x≠0 then x else b) (l++[s])=(if x*b<0 then 1 else 0)+cg (if x≠0 then x else b) l+_;rw[vC _ l s,List.foldl_cons];lia
noncomputable def jI(l:List Int):Int:=l.foldl (fun b s=>if s≠0 then s else b) 0
theorem yf(l:List Int)(s:Int):jI (l++[s])=if s≠0 then s else jI l:=by
 unfold jI;rw[List.foldl_append];rfl
noncomputable def Ae:Sp:=fun vs H Q _=>∃(a:Addr)(xs:List Int)(b:Nat),vs=[.ref a]/\IL H a xs/\(Ab b xs/\b<=jj/\xs.length<=100)/\Q (.int ((cg 0 (xs.map sg):Nat):Int)) H
noncomputable def IA:Sp:=fun vs H Q _=>∃(c g:Addr)(as:List Addr)(ps:List (List Int))(t u:Int)(p:Nat),vs=[.ref c,.ref g]/\H c=some (.lst (as.map V.ref))/\rk H as ps/\H g=some (.tup [.int t,.int u])/\
 ((∀q∈ps,q.length<=13/\Ab BM q)/\ps.length<=60/\Bd p t/\Bd p u/\p<=30000)/\∀H',au H H'->Q (.int ((cg 0 (eX t u ps):Nat):Int)) H'
theorem kI{K:PySem.W.Frag}{own:List Str}{fr:List Nat}{g:TG}{te:TE}{σ:L2.St}{H1:Hp}{Q:VK}{a:Addr}{xs:List V}(hS:a_ K H1 a xs)(Pv:List V->Prop)(hz:xs.length<=sizeLine)(p0:Pv [])(hs:∀(i:Nat)(x:V)(r:L2.St)(ys:List V)(H2:Hp),xs[i]?=some x->r.length=own.length->ys.length=i->Pv ys->au H1 H2->∀Z:V->L2.St->Hp->Prop,(∀y dy H5,au H2 H5->Pv (ys++[y])->(∃r':L2.St,r'.length=own.length/\dy=r'++qe fr σ)->Z y dy H5)->g x (r++qe fr σ) H2 fun dy H4=>te dy H4 fun y H5=>Z y dy H5)(hq:∀D H2 ys,H1 D=none->au H1 H2->H2 D=some (.lst ys)->ys.length=xs.length->Pv ys->Q (.ref D) H2):kj (qF K a) own fr σ g te H1 Q:=qN hS Pv hz p0 hs hq
theorem pD(x:Int):Bd 2 (sg x):=by unfold sg Bd;split<;>(try split)<;>decide
theorem GH:∀(l:List Int),(∀x∈l,Bd 2 x)->Bd 2 (jI l):=by
 intro l hl;unfold jI;have key:∀(l:List Int)(b:Int),Bd 2 b->(∀x∈l,Bd 2 x)->Bd 2 (l.foldl (fun b s=>if s≠0 then s else b) b):=by
  intro l
  induction l with
  |nil=>exact fun b hb _=>hb
  |cons x l ih=>
   intro b hb h;rw[List.foldl_cons];refine ih _ ?_ fun y hy=>h y (List.mem_cons_of_mem _ hy);split
   ·exact h x List.mem_cons_self
   ·exact hb
 exact key l 0 (by show(0:Int).natAbs<2^2;decide) hl
section
variable {P:Program} {w:World} {K:PySem.W.Frag} {mg:Str->Option Value} {base:Heap}
theorem N9(x:Int):sg (sg x)=sg x:=by
 rcases Int.lt_trichotomy x 0 with h|h|h
 ·have:sg x=-1:=if_pos h;rw[this];rfl
 ·rw[h];rfl
 ·have:sg x=1:=by unfold sg;rw[if_neg (by lia),if_pos h]
  rw[this];rfl
theorem pE(x y:Int):x*y<0↔sg x*y<0:=by
 have hp:=fun a b:Int=>Int.mul_neg_of_pos_of_neg (a:=a) (b:=b);unfold sg;split
 ·rename_i h;constructor
  ·intro z;have:0<y:=by
    rcases Int.lt_trichotomy y 0 with h'|h'|h'
    ·have:=Int.mul_pos_of_neg_of_neg h h';lia
    ·rw[h',Int.mul_zero] at z;lia
    ·exact h'
   lia
  ·intro z;exact Int.mul_neg_of_neg_of_pos h (by lia)
 ·split
  ·rename_i h;constructor
   ·intro z;have:y<0:=by
     rcases Int.lt_trichotomy y 0 with h'|h'|h'
     ·exact h'
     ·rw[h',Int.mul_zero] at z;lia
     ·have:=Int.mul_pos h h';lia
    lia
   ·intro z;exact Int.mul_neg_of_pos_of_neg h (by lia)
  ·have:x=0:=by lia
   subst this;simp
theorem pG{x:Int}:sg x≠0↔x≠0:=by
 unfold sg;split<;>(try split)<;>constructor<;>intro h<;>lia
theorem qo(gH:bI P w K mg base 1 "sign" ["number"] mM)(D:aS K mg "changes_in" i8 ["row"]):bI P w K mg base 2 "changes_in" ["row"] Ae:=by
 refine D.ok dN (fun vs H Q E h=>?_) (fun f cQ A outer s H vs Q E hr h=>?_)
 ·obtain⟨a,xs,b,rfl,_⟩:=h;rfl
 obtain⟨a,xs,b,rfl,ha,⟨bx,hb,hl⟩,q⟩:=h;have iI:jj=60000000:=rfl;refine⟨_,(ae (aj (i:=1) dN.nd rfl (Or.inl rfl) af)
  (ae (aj (i:=2) dN.nd rfl (Or.inl rfl) af)
  (ae (fV PassesOwn.never rfl (eZ (pv 0)) (aU (i:=3) dN.nd rfl (Or.inl rfl))
  (ae (ck (aG jo (ai aq (pv 3) (pv 2)) af (aD _))
  (ah (aj (i:=1) dN.nd rfl (Or.inl rfl) (ai bL (pv 1) af)))
  aX)
  (ah (ck (aG jn (pv 3) af (aD _))
  (ah (aj (i:=2) dN.nd rfl (Or.inl rfl) (aw gH hr (aa (pv 3) ag))))
  aX))))
  (ah (aE (pv 1)))))),?_⟩;walk_at "sf";refine⟨a,rfl,⟨_,a_.of ha⟩,?_⟩;refine nW (xs:=xs.map V.int) (fun i σ H'=>(∃r1,σ=[some (.ref a),some (.int ((cg 0 ((xs.take i).map sg):Nat):Int)),some (.int (jI ((xs.take i).map sg))),r1])/\H'=H) ⟨⟨_,rfl⟩,rfl⟩ (fun i σ H' _ z=>by rw[z.2];exact a_.of ha) ?_ ?_
 ·rintro i x σ H' hx ⟨⟨r1,rfl⟩,rfl⟩;obtain⟨hi,rfl⟩:=sh hx;have X7:xs[i]?=some (co xs i):=by
   rw[List.getElem?_eq_getElem hi,cy hi]
  have et:(xs.take (i+1)).map sg=(xs.take i).map sg++[sg (co xs i)]:=by
   rw[List.take_add_one,X7,List.map_append];rfl
  have bl:Bd 2 (jI ((xs.take i).map sg)):=GH _ fun y hy=>by
   obtain⟨z,_,rfl⟩:=List.mem_map.mp hy;exact pD _
  have ec:cg 0 ((xs.take (i+1)).map sg)=cg 0 ((xs.take i).map sg)+(if sg (co xs i)*jI ((xs.take i).map sg)<0 then 1 else 0):=by rw[et];exact vC 0 _ _
  have el:jI ((xs.take (i+1)).map sg)=if sg (co xs i)≠0 then sg (co xs i) else jI ((xs.take i).map sg):=by rw[et];exact yf _ _
  walk_at "sf";refine bP (aJ (bx.co i) bl (by lia)) ?_;walk_at "sf";generalize jI ((xs.take i).map sg)=lb at bl ec el ⊢;generalize cg 0 ((xs.take i).map sg)=cn at ec ⊢;refine cZ (fun c1=>?_) (fun c1=>?_)
  case' refine_1=>
   have h1:co xs i*lb<0:=by simpa using c1
   rw[if_pos ((pE _ _).mp h1)] at ec
  case' refine_2=>
   have h1:¬co xs i*lb<0:=by simpa using c1
   rw[if_neg (fun z=>h1 ((pE _ _).mpr z))] at ec
  all_goals
   walk_at "sf";refine cZ (fun c2=>?_) (fun c2=>?_)
   ·have h2:co xs i≠0:=by simpa using c2
    rw[if_pos (pG.mpr h2)] at el;walk_at "sf";refine⟨_,rfl,?_⟩;walk_at "sf";refine⟨⟨some (.int (co xs i)),?_⟩,rfl⟩;rw[ec,el];rfl
   ·have h2:¬co xs i≠0:=by simpa using c2
    rw[if_neg (fun z=>h2 (pG.mp z))] at el;walk_at "sf";refine⟨⟨some (.int (co xs i)),?_⟩,rfl⟩;rw[ec,el];rfl
 ·rintro σ H' ⟨⟨r1,rfl⟩,rfl⟩;have e:xs.take (xs.map V.int).length=xs:=by rw[List.length_map,List.take_length]
  rw[e];walk_at "sf";exact q
theorem qp(tD:bI P w K mg base 2 "changes_in" ["row"] Ae)(d9:bI P w K mg base 2 "sign_at" ["poly","given"] Bt)(D:aS K mg "changes_at" i9 ["chain","given"]):bI P w K mg base 3 "changes_at" ["chain","given"] IA:=by
 refine D.ok qk (fun vs H Q E h=>?_) (fun f cQ A outer s H vs Q E hr h=>?_)
 ·obtain⟨c,g,as,ps,t,u,p,rfl,_⟩:=h;rfl
 obtain⟨c,g,as,ps,t,u,p,rfl,hc,hi,hg,⟨E2,hn,bt,bu,hp⟩,q⟩:=h;have iI:jj=60000000:=rfl;have XY:BM=56332746:=rfl;have hlen:=hi.len;refine⟨_,(ah (aE (aw tD hr (aa (fZ rfl rfl (g9 (own:=["poly"]) (fr:=[1]) (fs:=["given"]) (by with_unfolding_all rfl) rfl (by decide +kernel) (by decide +kernel) (by exact⟨rfl,trivial⟩) (by with_unfolding_all rfl) (by exact⟨⟨rfl,rfl,rfl,Or.inl rfl⟩,trivial⟩)) (eZ (pv 0)) (fun _ _ _ _ _=>(aU (i:=0) (show List.Nodup (["poly","given"]:List Str) by decide +kernel) rfl (Or.inl rfl) (Or.inr rfl))) (fun _ _ _ _ _=>(aw d9 hr (aa (pv 0) (aa (pv 1) ag))))) ag)))),?_⟩;walk_at "sf";refine f6 (H1:=H) (qF K c) (fun R hR=>?_) (kI (xs:=as.map V.ref) (a_.of hc) (fun ys=>ys=(eX t u (ps.take ys.length)).map V.int) (fb (by rw[List.length_map];lia)) rfl ?_ ?_)
 ·walk_at "sf";exact⟨c,rfl,⟨_,a_.of hc⟩,hR⟩
 ·intro i x r ys H2 hx Bv qR wg dZ Z hZ;rw[List.getElem?_map] at hx;cases ea:as[i]? with
  |none=>rw[ea] at hx;cases hx
  |some a=>
   rw[ea] at hx;have N_:V.ref a=x:=by simpa using hx
   subst N_;obtain⟨xs,Vf,R_⟩:=(hi.map fun a p z=>dZ _ _ z).get i ea;obtain⟨f1,f2⟩:=E2 xs (List.mem_of_getElem? Vf);obtain⟨x0,rfl⟩:=sf Bv;walk_at "sf";refine⟨a,g,xs,t,u,_,p,rfl,R_,dZ _ _ hg,⟨by lia,f2,bt,bu,by lia⟩,?_⟩;walk_at "sf";refine hZ _ _ _ (au.refl _) ?_ ⟨[_],rfl,rfl⟩;have el:(ys++[V.int (sg (hv t u xs))]).length=ys.length+1:=by simp
   unfold eX at wg ⊢;rw[el,List.take_add_one,qR,Vf,List.map_append,List.map_append,<-qR,<-wg];rfl
 intro D2 H2 ys N3 s2 DR X8 wg;have hE:ys=(eX t u ps).map V.int:=by
  rw[wg,X8,List.length_map,hlen,List.take_length]
 walk_at "sf";have lsg:(eX t u ps).length=ps.length:=List.length_map _;refine⟨D2,eX t u ps,2,rfl,by show H2 D2=_;rw[DR,hE],⟨?_,by lia,by lia⟩,?_⟩
 ·intro y hy;obtain⟨z,_,rfl⟩:=List.mem_map.mp hy;exact pD _
 have e2:(eX t u ps).map sg=eX t u ps:=by
  unfold eX;rw[List.map_map];exact List.map_congr_left fun z _=>N9 _
 rw[e2];walk_at "sf";exact q H2 s2
end
end dA
namespace dA
open PySem PyProof.Rows L2 SF SF.Po
noncomputable def vD:Sp:=fun vs H Q _=>∃a b:Int,vs=[.int a,.int b]/\Bd 8000 a/\Bd 8000 b/\Q (.int ((Int.gcd a b:Nat):Int)) H
noncomputable def DS:Sp:=fun vs H Q _=>∃(a b:Int)(n:Nat),vs=[.int a,.int b]/\Bd n a/\Bd n b/\n<=8000/\0<b/\∀(p:Addr)(t u:Int),H p=none->Bd n t->Bd n u->0<u->Int.gcd t u=1->t*b=a*u->Q (.ref p) (upd H p (.tup [.int t,.int u]))
theorem nT{a g:Int}{n:Nat}(hd:g∣a)(hg:g≠0)(b:Bd n a):Bd n (a.fdiv g):=by
 have e:=gu hd;refine b.of_le ?_;have h1:a.natAbs=(a.fdiv g).natAbs*g.natAbs:=by rw[<-Int.natAbs_mul,e]
 rw[h1];exact Nat.le_mul_of_pos_right _ (Int.natAbs_pos.mpr hg)
theorem N'{L:List Int}{i:Int}(h0:0<=i)(h1:i<(L.length:Int)):∃n∈L,mU (L.map V.int) i=some (.int n):=by
 obtain⟨k,rfl⟩:=Int.eq_ofNat_of_zero_le h0;have hk:k<L.length:=by lia
 exact⟨co L k,by rw[cy hk];exact List.getElem_mem hk,pz hk⟩
section
variable {P:Program} {w:World} {K:PySem.W.Frag} {mg:Str->Option Value} {base:Heap}
theorem qr(T:Nm mg)(D:aS K mg "_law_common" i' ["_law_one","_law_other"]):bI P w K mg base 1 "_law_common" ["_law_one","_law_other"] vD:=by
 refine D.ok dO (fun vs H Q E h=>?_) (fun f cQ A outer s H vs Q E hr h=>?_)
 ·obtain⟨a,b,rfl,_⟩:=h;rfl
 obtain⟨a,b,rfl,ha,hb,q⟩:=h;refine⟨_,(ae (aj (i:=0) dO.nd rfl (Or.inl rfl) (aK cm rfl T.fz boot_abs (aa (pv 0) ag)))
  (ae (aj (i:=1) dO.nd rfl (Or.inl rfl) (aK cm rfl T.fz boot_abs (aa (pv 1) ag)))
  (ae (dj PassesOwn.never (aG jn (pv 1) af (aD _))
  (ae (aj (i:=2) dO.nd rfl (Or.inl rfl) (ai bM (pv 0) (ai aq (ai dS (pv 0) (pv 1)) (pv 1))))
  (ae (aj (i:=0) dO.nd rfl (Or.inl rfl) (pv 1))
  (ah (aj (i:=1) dO.nd rfl (Or.inl rfl) (pv 2))))))
  (ah (aE (pv 0)))))),?_⟩;walk_at "sf";refine⟨_,rfl,?_⟩;walk_at "sf";refine⟨_,rfl,?_⟩;walk_at "sf";refine cX (fun m σ H'=>∃(g l:Int)(r:Option V),m=l.toNat/\σ=[some (.int g),some (.int l),r]/\H'=H/\0<=g/\0<=l/\Bd 8000 g/\Bd 8000 l/\Int.gcd g l=Int.gcd a b)
  ⟨_,_,_,_,rfl,rfl,rfl,by split<;>lia,by split<;>lia,ha.of_le (by split<;>lia),hb.of_le (by split<;>lia),zg⟩ ?_
 rintro m σ H' ⟨g,l,r,rfl,rfl,rfl,hg,hl,X9,P6,e⟩;walk_at "sf";refine cZ (fun c=>?_) (fun c=>?_)
 ·have xy:l≠0:=by simpa using c
  have hp:0<l:=by lia
  refine⟨_,fun bN H' h=>h,?_⟩;walk_at "sf";refine bP ⟨xy,P6.log2 (by decide)⟩ ?_;walk_at "sf";have h1:=Int.emod_nonneg g xy;have h2:=Int.emod_lt_of_pos g hp;have ed:g.fdiv l=g/l:=fR hp;have X_:Bd 8000 (g/l):=X9.of_le (by
   have h3:=Int.ediv_nonneg hg hl
   have h4:=Int.ediv_le_self l hg
   lia);rw[ed];refine bP (aJ X_ P6 (by decide)) ?_;walk_at "sf";have em:g-g/l*l=g%l:=by
   have:=Int.emod_add_mul_ediv g l;rw[Int.mul_comm] at this;lia
  rw[em];exact⟨_,by lia,_,_,_,rfl,rfl,rfl,hl,h1,P6,P6.of_le (by lia),by rw[uC hg hp,e]⟩
 ·have xy:l=0:=by simpa using c
  subst xy;walk_at "sf";have e':((Int.gcd a b:Nat):Int)=g:=by rw[<-e];exact zh hg
  rw[e'] at q;exact q
theorem tE(tF:bI P w K mg base 1 "_law_common" ["_law_one","_law_other"] vD)(D:aS K mg "_law_ratio" jG ["_law_top","_law_under"]):bI P w K mg base 2 "_law_ratio" ["_law_top","_law_under"] DS:=by
 refine D.ok lE (fun vs H Q E h=>?_) (fun f cQ A outer s H vs Q E hr h=>?_)
 ·obtain⟨a,b,n,rfl,_⟩:=h;rfl
 obtain⟨a,b,n,rfl,ha,hb,hn,RW,q⟩:=h;have hg:0<Int.gcd a b:=Int.gcd_pos_of_ne_zero_right a (by lia);have GI:((Int.gcd a b:Nat):Int)≠0:=by lia
 have bg:Bd n ((Int.gcd a b:Nat):Int):=hb.of_dvd (Int.gcd_dvd_right ..) (by lia);refine⟨_,(ae (aj (i:=2) lE.nd rfl (Or.inl rfl) (aw tF hr (aa (pv 0) (aa (pv 1) ag))))
  (ah (aE (dm (aa (ai dS (pv 0) (pv 2)) (aa (ai dS (pv 1) (pv 2)) ag)))))),?_⟩;walk_at "sf";refine⟨_,_,rfl,ha.mono (by lia),hb.mono (by lia),?_⟩;walk_at "sf";refine bP ⟨GI,(bg.mono (by lia:n<=9000)).log2 (by decide)⟩ ?_;walk_at "sf";refine bP ⟨GI,(bg.mono (by lia:n<=9000)).log2 (by decide)⟩ ?_;walk_at "sf";intro p hp;have e1:=gu (Int.gcd_dvd_left (a:=a) (b:=b));have e2:=gu (Int.gcd_dvd_right (a:=a) (b:=b));refine q p _ _ hp (nT (Int.gcd_dvd_left ..) GI ha) (nT (Int.gcd_dvd_right ..) GI hb) ?_ ?_ ?_
 ·have zx:(0:Int)<((Int.gcd a b:Nat):Int):=by lia
  rcases Int.lt_or_le 0 (b.fdiv ((Int.gcd a b:Nat):Int)) with z|z
  ·exact z
  ·have:=Int.mul_nonpos_of_nonpos_of_nonneg z (Int.le_of_lt zx);lia
 ·have h3:Int.gcd (a.fdiv ((Int.gcd a b:Nat):Int)*((Int.gcd a b:Nat):Int)) (b.fdiv ((Int.gcd a b:Nat):Int)*((Int.gcd a b:Nat):Int))=Int.gcd (a.fdiv ((Int.gcd a b:Nat):Int)) (b.fdiv ((Int.gcd a b:Nat):Int))*(((Int.gcd a b:Nat):Int)).natAbs:=Int.gcd_mul_right ..;rw[e1,e2,Int.natAbs_natCast] at h3;have h4:1*Int.gcd a b=Int.gcd (a.fdiv ((Int.gcd a b:Nat):Int)) (b.fdiv ((Int.gcd a b:Nat):Int))*Int.gcd a b:=by lia
  exact(Nat.eq_of_mul_eq_mul_right hg h4).symm
 ·generalize a.fdiv ((Int.gcd a b:Nat):Int)=x at*;generalize b.fdiv ((Int.gcd a b:Nat):Int)=y at*;generalize ((Int.gcd a b:Nat):Int)=z at*;rw[<-e1,<-e2];grind
end
end dA
namespace dA
open PySem PyProof.Rows L2 SF SF.Po
theorem lK{xs:List Int}(tx:Tr xs)(h:CW (ao xs) (ao xs))(x:Re):¬(at' x (ao xs)=0/\at' x (bE (ao xs))=0):=by
 have gc:=cY (xs:=xs) (ys:=cF xs) (.inl h.pr.ne);have o1:ao [1]=1:=Po.ext fun i=>by
  rw[bJ,qS];cases i with
  |zero=>rfl
  |succ i=>rfl
 rw[xw tx h,o1] at gc;obtain⟨bu,bv,ba,JY,NF⟩:=gc.bz;have Dp:bu*ao xs+bv*ao (cF xs)=Po.K ba:=by rw[NF];grind
 rw[<-fh];exact q_ JY Dp
theorem fA{t u:Int}(hu:0<u)(xs:List Int):sg (hv t u xs)=aP (at' (Re.q ((t:Rat)/(u:Rat))) (ao xs)):=Kr hu xs
theorem gZ{t u:Int}(hu:0<u)(ps:List (List Int)):eW (Re.q ((t:Rat)/(u:Rat))) (ps.map ao)=eX t u ps:=by
 unfold eW eX;rw[List.map_map];exact List.map_congr_left fun p _=>(fA hu p).symm
end dA
namespace dA
open PySem PyProof.Rows L2 SF SF.Po
noncomputable def Rt(H:Hp)(g:Addr)(t u:Int):Prop:=H g=some (.tup [.int t,.int u])/\0<u/\Int.gcd t u=1
theorem Rt.same{H H':Hp}{g:Addr}{t u:Int}(h:Rt H g t u)(s:au H H'):Rt H' g t u:=⟨s _ _ h.1,h.2⟩
noncomputable def rn:Sp:=fun vs H Q _=>∃(a b:Int)(n:Nat),vs=[.int a,.int b]/\Bd n a/\Bd n b/\n<=1000000/\0<b/\∀(p:Addr)(t u:Int),H p=none->Bd n t->Bd n u->0<u->Int.gcd t u=1->t*b=a*u->Q (.ref p) (upd H p (.tup [.int t,.int u]))
noncomputable def IB:Sp:=fun vs H Q _=>∃(g h:Addr)(t u t' u':Int)(n:Nat),vs=[.ref g,.ref h]/\H g=some (.tup [.int t,.int u])/\H h=some (.tup [.int t',.int u'])/\(Bd n t/\Bd n u/\Bd n t'/\Bd n u')/\n<=100000/\0<u/\0<u'/\
 ∀(p:Addr)(c d:Int),H p=none->0<d->Int.gcd c d=1->c*(2*u*u')=(t*u'+t'*u)*d->Q (.ref p) (upd H p (.tup [.int c,.int d]))
noncomputable def IC(xs:List Int)(r:Int):Prop:=∀k,k<xs.length-1->ab (co xs (xs.length-2-k))<=ab (co xs (xs.length-1))*r^(k+1)
noncomputable def KN(xs:List Int):Prop:=Tr xs/\xs≠[]/\xs.length<=13/\Ab 100 xs
noncomputable def vE:Sp:=fun vs H Q _=>∃(a:Addr)(xs:List Int)(r:Int),vs=[.ref a,.int r]/\IL H a xs/\KN xs/\Bd 110 r/\(IC xs r->∀H',au H H'->Q (.bl true) H')/\(¬IC xs r->∀H',au H H'->Q (.bl false) H')
noncomputable def Af:Sp:=fun vs H Q _=>∃(a:Addr)(xs:List Int),vs=[.ref a]/\IL H a xs/\KN xs/\∀(r:Int)(H':Hp),au H H'->0<r->r<=2^100->IC xs r->(∃j:Nat,r=2^j/\∀i,i<j->¬IC xs (2^i))->Q (.int (2*r)) H'
structure Ends(xs:List Int)(o b t u t' u':Int):Prop where
 odd:Int.gcd o 2=1
 three:3<=o
 nd:¬o∣co xs (xs.length-1)
 bo:Bd 102 o
 bb:0<b/\b<=2^102
 X':∃r,0<r/\b=2*r+1/\IC xs r/\∃j:Nat,r=2^j/\∀i,i<j->¬IC xs (2^i)
 lo:t*o=(1-o*b)*u
 hi:t'*o=(1+o*b)*u'
 least:∀k,3<=k->k<o->Int.gcd k 2=1->k∣co xs (xs.length-1)
theorem Ag{o:Int}(h:Int.gcd o 2=1):o%2=1:=by
 rcases Int.emod_two_eq o with z|z
 ·exfalso;have:=Int.dvd_coe_gcd (Int.dvd_of_emod_eq_zero z) (Int.dvd_refl 2);rw[h] at this;exact absurd this (by decide)
 ·exact z
noncomputable def vF:Sp:=fun vs H Q _=>∃(a:Addr)(xs:List Int),vs=[.ref a]/\IL H a xs/\KN xs/\∀(p g h:Addr)(o b t u t' u':Int)(H':Hp),au H H'->H' p=some (.tup [.ref g,.ref h])->Rt H' g t u->Rt H' h t' u'->Ends xs o b t u t' u'->Q (.ref p) H'
noncomputable def DT:Sp:=fun vs H Q _=>∃(c g:Addr)(as:List Addr)(ps:List (List Int))(t u:Int)(p:Nat),vs=[.ref c,.ref g]/\H c=some (.lst (as.map V.ref))/\rk H as ps/\H g=some (.tup [.int t,.int u])/\
 ((∀q∈ps,q.length<=13/\Ab BM q)/\ps.length<=60/\Bd p t/\Bd p u/\p<=30000)/\∀(m:Addr)(H':Hp),au H H'->H' m=some (.tup [.ref g,.int ((cg 0 (eX t u ps):Nat):Int)])->Q (.ref m) H'
section
variable {P:Program} {w:World} {K:PySem.W.Frag} {mg:Str->Option Value} {base:Heap}
theorem DU(hT:P.given.tree=none)(dw:bI P w K mg base 33 "common_divisor" ["one","other"] zZ)(D:aS K mg "ratio" sT ["top","under"]):bI P w K mg base 34 "ratio" ["top","under"] rn:=by
 refine D.ok o6 (fun vs H Q E h=>?_) (fun f cQ A outer s H vs Q E hr h=>?_)
 ·obtain⟨a,b,n,rfl,_⟩:=h;rfl
 obtain⟨a,b,n,rfl,ha,hb,hn,RW,q⟩:=h;have hg:0<Int.gcd a b:=Int.gcd_pos_of_ne_zero_right a (by lia);have GI:((Int.gcd a b:Nat):Int)≠0:=by lia
 refine⟨_,(ae (ck (aG d_ (pv 1) af (aD _))
  (ah ui)
  aX)
  (ae (aj (i:=2) o6.nd rfl (Or.inl rfl) (aw dw hr (aa (pv 0) (aa (pv 1) ag))))
  (ae (ck (aG jo (pv 1) af (aD _))
  (ah (aj (i:=2) o6.nd rfl (Or.inl rfl) (cW bZ (pv 2))))
  aX)
  (ah (aE (dm (aa (ai (eJ ⟨hT,⟨_,_,rfl,rfl,rfl,rfl,rfl⟩,hr.py⟩) (pv 0) (pv 2)) (aa (ai (eJ ⟨hT,⟨_,_,rfl,rfl,rfl,rfl,rfl⟩,hr.py⟩) (pv 1) (pv 2)) ag)))))))),?_⟩;walk_at "sf";rw[if_neg (by simp;lia)];walk_at "sf";refine⟨_,_,rfl,?_⟩;walk_at "sf";rw[if_neg (by simp;lia)];walk_at "sf";refine bP GI ?_;walk_at "sf";refine bP GI ?_;walk_at "sf";intro p hp;have e1:=gu (Int.gcd_dvd_left (a:=a) (b:=b));have e2:=gu (Int.gcd_dvd_right (a:=a) (b:=b));refine q p _ _ hp (nT (Int.gcd_dvd_left ..) GI ha) (nT (Int.gcd_dvd_right ..) GI hb) ?_ ?_ ?_
 ·have zx:(0:Int)<((Int.gcd a b:Nat):Int):=by lia
  rcases Int.lt_or_le 0 (b.fdiv ((Int.gcd a b:Nat):Int)) with z|z
  ·exact z
  ·have:=Int.mul_nonpos_of_nonpos_of_nonneg z (Int.le_of_lt zx);lia
 ·have h3:Int.gcd (a.fdiv ((Int.gcd a b:Nat):Int)*((Int.gcd a b:Nat):Int)) (b.fdiv ((Int.gcd a b:Nat):Int)*((Int.gcd a b:Nat):Int))=Int.gcd (a.fdiv ((Int.gcd a b:Nat):Int)) (b.fdiv ((Int.gcd a b:Nat):Int))*(((Int.gcd a b:Nat):Int)).natAbs:=Int.gcd_mul_right ..;rw[e1,e2,Int.natAbs_natCast] at h3;have h4:1*Int.gcd a b=Int.gcd (a.fdiv ((Int.gcd a b:Nat):Int)) (b.fdiv ((Int.gcd a b:Nat):Int))*Int.gcd a b:=by lia
  exact(Nat.eq_of_mul_eq_mul_right hg h4).symm
 ·generalize a.fdiv ((Int.gcd a b:Nat):Int)=x at*;generalize b.fdiv ((Int.gcd a b:Nat):Int)=y at*;generalize ((Int.gcd a b:Nat):Int)=z at*;rw[<-e1,<-e2];grind
theorem Bw(fu:bI P w K mg base 34 "ratio" ["top","under"] rn)(D:aS K mg "middle" o7 ["one","other"]):bI P w K mg base 35 "middle" ["one","other"] IB:=by
 refine D.ok Bn (fun vs H Q E h=>?_) (fun f cQ A outer s H vs Q E hr h=>?_)
 ·obtain⟨g,h,t,u,t',u',n,rfl,_⟩:=h;rfl
 obtain⟨g,h,t,u,t',u',n,rfl,hg,hh,⟨b1,b2,b3,b4⟩,hn,hu,eD,q⟩:=h;have iI:jj=60000000:=rfl;refine⟨_,(ah (aE (aw fu hr (aa (ai bL (ai aq (ax ay (pv 0) af (fun _ _=>rfl)) (ax ay (pv 1) af (fun _ _=>rfl))) (ai aq (ax ay (pv 1) af (fun _ _=>rfl)) (ax ay (pv 0) af (fun _ _=>rfl)))) (aa (ai aq (ai aq af (ax ay (pv 0) af (fun _ _=>rfl))) (ax ay (pv 1) af (fun _ _=>rfl))) ag))))),?_⟩;walk_at "sf";refine aL (cj.of hg) rfl ?_;walk_at "sf";refine aL (cj.of hh) rfl ?_;refine bP (aJ b1 b4 (by lia)) ?_;walk_at "sf";refine aL (cj.of hh) rfl ?_;walk_at "sf";refine aL (cj.of hg) rfl ?_;refine bP (aJ b3 b2 (by lia)) ?_;walk_at "sf";refine aL (cj.of hg) rfl ?_;have b22:Bd 3 (2:Int):=Bd.of_two (by decide) (by decide);refine bP (aJ b22 b2 (by lia)) ?_;walk_at "sf";refine aL (cj.of hh) rfl ?_;refine bP (aJ (b22.mul b2) b4 (by lia)) ?_;walk_at "sf";have p1:=Int.mul_pos (Int.mul_pos (show(0:Int)<2 by decide) hu) eD;refine⟨_,_,n+n+3,rfl,((b1.mul b4).add (b3.mul b2)).mono (by lia),((b22.mul b2).mul b4).mono (by lia),by lia,p1,fun p c d hp _ _ hd hc e=>?_⟩;walk_at "sf";exact q p c d hp hd hc e
theorem tG(T:Nm mg)(D:aS K mg "is_within" jC ["free","reach"]):bI P w K mg base 1 "is_within" ["free","reach"] vE:=by
 refine D.ok f9 (fun vs H Q E h=>?_) (fun f cQ A outer s H vs Q E hr h=>?_)
 ·obtain⟨a,xs,r,rfl,_⟩:=h;rfl
 obtain⟨a,xs,r,rfl,ha,⟨tx,eT,hx,bx⟩,br,qt,qf⟩:=h;have iI:jj=60000000:=rfl;have gL:=List.length_pos_iff.mpr eT;refine⟨_,(ae (aj (i:=2) f9.nd rfl (Or.inl rfl) (aK cm rfl T.fz boot_abs (aa (ax bB (pv 0) (cW bZ af) (fun _ _=>rfl)) ag)))
  (ae (fV PassesOwn.never rfl (w_ rfl T.jb (aa (kP nI (pv 0) nF (nG (cW bZ af))) ag)) (aU (i:=3) f9.nd rfl (Or.inl rfl))
  (ae (aj (i:=2) f9.nd rfl (Or.inl rfl) (ai aq (pv 2) (pv 1)))
  (ah (ck (aG eP (aK cm rfl T.fz boot_abs (aa (pv 3) ag)) (pv 2) (aD _))
  (ah (aE j9))
  aX))))
  (ah (aE j9)))),?_⟩;walk_at "sf";refine cx (a_.of ha) (f_ eT) ?_;walk_at "sf";refine⟨_,rfl,?_⟩;walk_at "sf";refine⟨_,rfl,?_⟩;refine⟨a,_,rfl,a_.of ha,fun p5 KL=>?_⟩;have e5:ip (xs.map V.int) none (some (-1))=xs.dropLast.map V.int:=vm xs;have s5:=au.new KL (.lst (ip (xs.map V.int) none (some (-1))));have h5:IL (upd H p5 (.lst (ip (xs.map V.int) none (some (-1))))) p5 xs.dropLast:=by show upd _ p5 _ p5=_;rw[ak,e5]
 generalize upd H p5 (.lst (ip (xs.map V.int) none (some (-1))))=H5 at h5 s5 ⊢;walk_at "sf";refine⟨p5,_,rfl,a_.of h5,?_⟩;have EZ:(if co xs (xs.length-1)<0 then -co xs (xs.length-1) else co xs (xs.length-1))=ab (co xs (xs.length-1)):=by unfold ab;split<;>lia
 rw[EZ];have ld:xs.dropLast.length=xs.length-1:=List.length_dropLast;have cd:∀j,j<xs.length-1->co xs.dropLast j=co xs j:=fun j hj=>by rw[List.dropLast_eq_take,iR,if_pos hj]
 have bl:Bd 100 (ab (co xs (xs.length-1))):=by
  have:=bx.co (xs.length-1);unfold Bd at*;unfold ab;lia
 refine rT (xs:=xs.dropLast.map V.int) (fun i σ H'=>(∃z,σ=[some (.ref a),some (.int r),some (.int (ab (co xs (xs.length-1))*r^i)),z])/\H'=H5/\∀k,k<i->ab (co xs (xs.length-2-k))<=ab (co xs (xs.length-1))*r^(k+1))
  ⟨⟨_,by rw[Int.pow_zero,Int.mul_one];rfl⟩,rfl,fun k hk=>absurd hk (Nat.not_lt_zero _)⟩ (fun i σ H' _ z=>by rw[z.2.1];exact a_.of h5) ?_ ?_
 ·rintro i x σ H' hi Bg ⟨⟨z,rfl⟩,rfl,n_⟩;rw[List.length_map] at hi Bg;obtain⟨Io,rfl⟩:=mL Bg;have ei:xs.dropLast.length-1-i=xs.length-2-i:=by lia
  rw[ei,cd _ (by lia)];have LC:=Bd.pow br i;have Ya:110*i<=110*12:=Nat.mul_le_mul_left _ (by lia);walk_at "sf";refine bP (aJ (bl.mul LC) br (by lia)) ?_;walk_at "sf";refine⟨_,rfl,?_⟩;walk_at "sf";have Yb:(if co xs (xs.length-2-i)<0 then -co xs (xs.length-2-i) else co xs (xs.length-2-i))=ab (co xs (xs.length-2-i)):=by unfold ab;split<;>lia
  rw[Yb];have ep:ab (co xs (xs.length-1))*r^i*r=ab (co xs (xs.length-1))*r^(i+1):=by rw[Int.mul_assoc,<-Int.pow_succ]
  rw[ep];refine cZ (fun c=>?_) (fun c=>?_)
  ·have gb:ab (co xs (xs.length-1))*r^(i+1)<ab (co xs (xs.length-2-i)):=by simpa using c
   walk_at "sf";refine qf (fun W=>?_) H' s5;have:=W i (by lia);lia
  ·have hle:ab (co xs (xs.length-2-i))<=ab (co xs (xs.length-1))*r^(i+1):=by simpa using c
   walk_at "sf";refine⟨⟨_,rfl⟩,rfl,fun k hk=>?_⟩;by_cases Yc:k<i
   ·exact n_ k Yc
   ·have:k=i:=by lia
    subst this;exact hle
 ·rintro σ H' ⟨⟨z,rfl⟩,rfl,n_⟩;walk_at "sf";refine qt (fun k hk=>n_ k ?_) H' s5;rw[List.length_map,ld];exact hk
theorem KO{xs:List Int}(tx:Tr xs)(eT:xs≠[])(bx:Ab 100 xs):IC xs (2^100):=fun k hk=>by
 have h1:=bx.co (xs.length-2-k);have h2:=fW (tx.last eT);have h3:(1:Int)<=(2^100)^k:=by
  rw[<-Int.pow_mul];exact Int.add_one_le_of_lt (Int.pow_pos (by decide))
 rw[Int.pow_succ];have h4:(2:Int)^100<=(2^100)^k*2^100:=by
  have:=Int.mul_le_mul_of_nonneg_right h3 (show(0:Int)<=2^100 by decide);lia
 have h5:(2^100)^k*2^100<=ab (co xs (xs.length-1))*((2^100)^k*2^100):=by
  have:=Int.mul_le_mul_of_nonneg_right (show(1:Int)<=ab (co xs (xs.length-1)) by lia) (show(0:Int)<=(2^100)^k*2^100 by lia);lia
 unfold Bd at h1;unfold ab at h5 ⊢;lia
theorem vG(vH:bI P w K mg base 1 "is_within" ["free","reach"] vE)(D:aS K mg "bound_of" kx ["free"]):bI P w K mg base 2 "bound_of" ["free"] Af:=by
 refine D.ok jD (fun vs H Q E h=>?_) (fun f cQ A outer s H vs Q E hr h=>?_)
 ·obtain⟨a,xs,rfl,_⟩:=h;rfl
 obtain⟨a,xs,rfl,ha,hp,q⟩:=h;have iI:jj=60000000:=rfl;have b22:Bd 3 (2:Int):=Bd.of_two (by decide) (by decide);refine⟨_,(ae (aj (i:=1) jD.nd rfl (Or.inl rfl) af)
  (ae (dj PassesOwn.never (rM (rL (aw vH hr (aa (pv 0) (aa (pv 1) ag)))))
  (ah (aj (i:=1) jD.nd rfl (Or.inl rfl) (ai aq af (pv 1)))))
  (ah (aE (ai aq af (pv 1)))))),?_⟩;walk_at "sf";refine cX (fun m σ H'=>∃j:Nat,m=100-j/\j<=100/\σ=[some (.ref a),some (.int ((2:Int)^j))]/\au H H'/\∀i,i<j->¬IC xs (2^i)) ⟨_,0,rfl,by decide,rfl,au.refl _,fun i hi=>absurd hi (Nat.not_lt_zero i)⟩ ?_;rintro m σ H1 ⟨j,rfl,hj,rfl,s1,FW⟩;have bj:Bd (j+1) ((2:Int)^j):=by
  unfold Bd;rw[Int.natAbs_pow];exact Nat.pow_lt_pow_right (by decide) (by lia)
 walk_at "sf";refine⟨a,xs,_,rfl,s1 _ _ ha,hp,bj.mono (by lia),fun W H2 s2=>?_,fun W H2 s2=>?_⟩
 ·walk_at "sf";rw[if_neg (by decide)];walk_at "sf";refine bP (aJ b22 bj (by lia)) ?_;walk_at "sf";refine q _ H2 (s1.trans s2) (Int.pow_pos (by decide)) ?_ W ⟨j,rfl,FW⟩;have e1:((2^j:Nat):Int)<=((2^100:Nat):Int):=Int.ofNat_le.mpr (Nat.pow_le_pow_right (by decide) hj);rw[Int.natCast_pow,Int.natCast_pow] at e1;exact e1
 ·have Vg:j≠100:=fun z=>by
   subst z;exact W (KO hp.1 hp.2.1 hp.2.2.2)
  walk_at "sf";rw[if_pos (by decide)];refine⟨_,fun bN H' h=>h,?_⟩;walk_at "sf";refine bP (aJ b22 bj (by lia)) ?_;walk_at "sf";exact⟨_,by lia,j+1,rfl,by lia,by rw[Int.pow_succ,Int.mul_comm];rfl,s1.trans s2,fun i hi=>by
   rcases Nat.lt_or_ge i j with z|z
   ·exact FW i z
   ·have e:i=j:=by lia
    rw[e];exact W⟩
theorem kJ(T:Nm mg)(yg:bI P w K mg base 34 "bound_of" ["free"] Af)(fu:bI P w K mg base 34 "ratio" ["top","under"] rn)(D:aS K mg "pair_around_all" fo ["free"]):bI P w K mg base 35 "pair_around_all" ["free"] vF:=by
 refine D.ok dI (fun vs H Q E h=>?_) (fun f cQ A outer s H vs Q E hr h=>?_)
 ·obtain⟨a,xs,rfl,_⟩:=h;rfl
 obtain⟨a,xs,rfl,ha,hp,q⟩:=h;obtain⟨tx,eT,hx,bx⟩:=id hp;have iI:jj=60000000:=rfl;have xy:=tx.last eT;have bl:=bx.co (xs.length-1);generalize hle:co xs (xs.length-1)=l at xy bl;have b1:Bd 100 ((ab l:Int)):=by
  unfold Bd at*;unfold ab;lia
 refine⟨_,(ae (aj (i:=1) dI.nd rfl (Or.inl rfl) af)
  (ae (dj PassesOwn.never (aG d_ (ai de (ax bB (pv 0) (cW bZ af) (fun _ _=>rfl)) (pv 1)) af (aD _))
  (ah (aj (i:=1) dI.nd rfl (Or.inl rfl) (ai bL (pv 1) af))))
  (ae (aj (i:=2) dI.nd rfl (Or.inl rfl) (ai bL (aw yg hr (aa (pv 0) ag)) af))
  (ah (aE (dm (aa (aw fu hr (aa (ai bM af (ai aq (pv 1) (pv 2))) (aa (pv 1) ag))) (aa (aw fu hr (aa (ai bL af (ai aq (pv 1) (pv 2))) (aa (pv 1) ag))) ag)))))))),?_⟩;walk_at "sf";refine cX (fun m σ H'=>∃o:Int,m=(ab l+3-o).toNat/\Int.gcd o 2=1/\3<=o/\o<=ab l+2/\σ=[some (.ref a),some (.int o),none]/\H'=H/\∀k,3<=k->k<o->Int.gcd k 2=1->k∣l) ⟨_,3,rfl,by decide,by decide,?_,rfl,rfl,fun k h1 h2 _=>by lia⟩ ?_
 ·have:=fW xy;lia
 rintro m σ H' ⟨o,rfl,ho,h3,hol,rfl,rfl,Oa⟩;have bo:Bd 102 o:=by
  unfold Bd at*;unfold ab at*;lia
 walk_at "sf";refine cx (a_.of ha) (f_ eT) ?_;rw[hle];walk_at "sf";refine bP (by lia) ?_;walk_at "sf";have ef:l.fmod o=l%o:=fQ (by lia);rw[ef];refine cZ (fun c=>?_) (fun c=>?_)
 ·have hz:l%o=0:=by simpa using c
  have hd:o∣l:=Int.dvd_of_emod_eq_zero hz;have Yd:o<=ab l:=by
   have:=Int.le_of_dvd (fW xy) (by unfold ab;exact Int.dvd_natAbs.mpr hd);exact this
  refine⟨_,fun bN H' h=>h,?_⟩;walk_at "sf";refine⟨_,?_,o+2,rfl,?_,by lia,by lia,rfl,rfl,fun k k1 k2 k3=>?_⟩
  ·lia
  ·rw[<-ho,Int.gcd_add_right_left_of_dvd o (Int.dvd_refl 2)]
  ·have m1:=Ag ho;have m2:=Ag k3;rcases Int.lt_trichotomy k o with z|z|z
   ·exact Oa k k1 z k3
   ·rw[z];exact hd
   ·lia
 ·have hz:¬l%o=0:=by simpa using c
  have Vh:¬o∣l:=fun z=>hz (Int.emod_eq_zero_of_dvd z);walk_at "sf";refine⟨a,xs,rfl,ha,hp,fun r H1 s1 LF Nh W hj=>?_⟩;walk_at "sf";have bb:Bd 103 (2*r+1):=by unfold Bd;lia
  generalize hb:2*r+1=b at bb;have Ye:0<b/\b<=2^102:=by lia
  refine bP (aJ bo bb (by lia)) ?_;walk_at "sf";have Vi:=bo.mul bb;have Ob:Bd (102+103) (1:Int):=Bd.mono (m:=1) (by show(1:Int).natAbs<2^1;decide) (by decide);refine⟨_,_,210,rfl,(Ob.sub Vi).mono (by decide),bo.mono (by decide),by decide,by lia,fun p1 t u mZ _ _ hu hg e1=>?_⟩;walk_at "sf";refine bP (aJ bo bb (by lia)) ?_;walk_at "sf";have s2:=au.new mZ (.tup [.int t,.int u]);have h1:upd H1 p1 (.tup [.int t,.int u]) p1=some (.tup [.int t,.int u]):=ak;generalize upd H1 p1 (.tup [.int t,.int u])=H2 at s2 h1 ⊢;refine⟨_,_,210,rfl,(Ob.add Vi).mono (by decide),bo.mono (by decide),by decide,by lia,fun p2 t' u' sD _ _ eD MV e2=>?_⟩;walk_at "sf";have s3:=au.new sD (.tup [.int t',.int u']);have h2:upd H2 p2 (.tup [.int t',.int u']) p2=some (.tup [.int t',.int u']):=ak;generalize upd H2 p2 (.tup [.int t',.int u'])=H3 at s3 h2 ⊢;intro p3 DM;have s4:=au.new DM (.tup [.ref p1,.ref p2]);refine q p3 p1 p2 o b t u t' u' _ (s1.trans (s2.trans (s3.trans s4))) ak ⟨s4 _ _ (s3 _ _ h1),hu,hg⟩ ⟨s4 _ _ h2,eD,MV⟩ ⟨ho,h3,by rw[hle];exact Vh,bo,Ye,⟨r,LF,hb.symm,W,hj⟩,e1,e2,by rw[hle];exact Oa⟩
theorem Bx(tH:bI P w K mg base 3 "changes_at" ["chain","given"] IA)(D:aS K mg "marked" pb ["chain","given"]):bI P w K mg base 4 "marked" ["chain","given"] DT:=by
 refine D.ok Bp (fun vs H Q E h=>?_) (fun f cQ A outer s H vs Q E hr h=>?_)
 ·obtain⟨c,g,as,ps,t,u,p,rfl,_⟩:=h;rfl
 obtain⟨c,g,as,ps,t,u,p,rfl,hc,hi,hg,hh,q⟩:=h;refine⟨_,(ah (aE (dm (aa (pv 1) (aa (aw tH hr (aa (pv 0) (aa (pv 1) ag))) ag))))),?_⟩;walk_at "sf";refine⟨c,g,as,ps,t,u,p,rfl,hc,hi,hg,hh,fun H1 s1=>?_⟩;walk_at "sf";intro m hm;exact q m _ (s1.trans (au.new hm _)) ak
end
end dA
namespace dA
open PySem PyProof.Rows L2 SF SF.Po
theorem jJ{a b c:Rat}(hc:0<c):a*c<=b*c↔a<=b:=by
 have:=Rat.mul_lt_mul_right (a:=b) (b:=a) hc;constructor
 ·intro h;by_cases z:a<=b
  ·exact z
  ·have z2:=this.mpr (by grind);grind
 ·intro h;by_cases z:a*c<=b*c
  ·exact z
  ·have z2:=this.mp (by grind);grind
theorem KP{t u t' u':Int}(hu:0<u)(eD:0<u'):((t:Rat)/(u:Rat)<=(t':Rat)/(u':Rat))↔t*u'<=t'*u:=by
 have h1:(0:Rat)<(u:Rat):=Rat.intCast_pos.mpr hu;have h2:(0:Rat)<(u':Rat):=Rat.intCast_pos.mpr eD;rw[<-Rat.intCast_le_intCast,Rat.intCast_mul,Rat.intCast_mul];have e1:(t:Rat)/(u:Rat)*(u:Rat)=(t:Rat):=Rat.div_mul_cancel (by grind);have e2:(t':Rat)/(u':Rat)*(u':Rat)=(t':Rat):=Rat.div_mul_cancel (by grind);generalize (t:Rat)/(u:Rat)=x at*;generalize (t':Rat)/(u':Rat)=y at*;rw[<-e1,<-e2];have hp:=Rat.mul_pos h1 h2;have g1:x*(u:Rat)*(u':Rat)=x*((u:Rat)*(u':Rat)):=by grind
 have g2:y*(u':Rat)*(u:Rat)=y*((u:Rat)*(u':Rat)):=by grind
 rw[g1,g2];exact(jJ hp).symm
theorem E1.mono{xs:List Int}{ps:List (List Int)}(h:E1 xs ps)(hp:mO xs){t u t' u':Int}(hu:0<u)(eD:0<u')(hle:(t:Rat)/(u:Rat)<=(t':Rat)/(u':Rat)):cg 0 (eX t' u' ps)<=cg 0 (eX t u ps):=by
 obtain⟨pt,pn,pl,pa,KQ⟩:=hp;by_cases h2:2<=xs.length
 ·obtain⟨rest,er⟩:=h.shape;have hc:=h.Km h2;have em:ps.map ao=ao xs::bE (ao xs)::rest.map ao:=by rw[er,List.map_cons,List.map_cons,fh]
  rw[em] at hc;have hz:=lK pt KQ;have:=Dj hc (fun x z w=>hz x ⟨z,w⟩) hle;rw[<-em,gZ hu,gZ eD] at this;exact this
 ·have l1:xs.length=1:=by have:=List.length_pos_iff.mpr pn;lia
  have e2:=h.one l1
  match xs,l1 with
  |[c],_=>
   rw[e2];have e3:∀a b:Int,eX a b [[c],[]]=[sg c,0]:=fun a b=>by
    have h1:hv a b [c]=c:=by simp[hv,aF,co]
    have h2:hv a b []=0:=by simp[hv,aF,co]
    show[sg (hv a b [c]),sg (hv a b [])]=_;rw[h1,h2];rfl
   rw[e3,e3];exact Nat.le_refl _
theorem E1.short{xs:List Int}{ps:List (List Int)}(h:E1 xs ps)(hp:mO xs){o b:Int}{k:Nat}{m t u t' u':Int}(ho:0<o)(hb:0<b/\b<=2^102)(hu:0<u)(eD:0<u')(p1:Pt o k m t u)(p2:Pt o k (m+2*b) t' u')(m1:-(b*2^k)<=m)(m2:m+2*b<=b*2^k)(hk:5700<=k):
 cg 0 (eX t u ps)<=cg 0 (eX t' u' ps)+1:=by
 obtain⟨pt,pn,pl,pa,KQ⟩:=id hp;have v1:=p1.val ho hu;have v2:=p2.val ho eD;have hz:(0:Rat)<2^k:=Rat.pow_pos (by grind);have B9:(0:Rat)<(o:Rat):=Rat.intCast_pos.mpr ho;have SU:(1:Rat)/(o:Rat)<=1/\0<(1:Rat)/(o:Rat):=by
  have:(1:Rat)<=(o:Rat):=Rat.intCast_le_intCast (a:=1).mpr (by lia);refine⟨?_,RR.xD (by grind) B9⟩;have e:(1:Rat)/(o:Rat)*(o:Rat)=1:=Rat.div_mul_cancel (by grind);generalize (1:Rat)/(o:Rat)=z at*;by_cases c:z<=1
  ·exact c
  ·exfalso;have c2:0<(z-1)*(o:Rat):=Rat.mul_pos (by grind) B9;grind
 have Yf:(0:Rat)<(b:Rat):=Rat.intCast_pos.mpr hb.1;have Nc:(b:Rat)<=2^102:=by
  have:(b:Rat)<=((2^102:Int):Rat):=Rat.intCast_le_intCast.mpr hb.2;rw[Rat.intCast_pow] at this;exact this
 have Nf:(((m+2*b:Int)):Rat)=(m:Rat)+2*(b:Rat):=by rw[Rat.intCast_add,Rat.intCast_mul];rfl
 rw[Nf] at v2;have UP:-((b:Rat)*2^k)<=(m:Rat):=by
  have:=Rat.intCast_le_intCast.mpr m1;rw[Rat.intCast_neg,Rat.intCast_mul,Rat.intCast_pow] at this;exact this
 have UQ:(m:Rat)+2*(b:Rat)<=(b:Rat)*2^k:=by
  have:=Rat.intCast_le_intCast.mpr m2;rw[Rat.intCast_add,Rat.intCast_mul,Rat.intCast_mul,Rat.intCast_pow] at this;exact this
 have d1:(m:Rat)/2^k*2^k=(m:Rat):=Rat.div_mul_cancel (by grind);have d2:((m:Rat)+2*(b:Rat))/2^k*2^k=(m:Rat)+2*(b:Rat):=Rat.div_mul_cancel (by grind);have w1:(t':Rat)/(u':Rat)-(t:Rat)/(u:Rat)<=1/2^5500:=by
  rw[v1,v2];have d3:(1:Rat)/2^5500*2^5500=1:=Rat.div_mul_cancel (by have:(0:Rat)<2^5500:=Rat.pow_pos (by grind);grind);have ek:(2:Rat)^k=2^5500*2^(k-5500):=by
   rw[<-gz];congr 1;lia
  have g1:(2:Rat)^103<=2^(k-5500):=mB (by grind) (by lia);have g2:(2:Rat)^103=2^102*2:=Rat.pow_succ ..;have p5:(0:Rat)<2^5500:=Rat.pow_pos (by grind);generalize ((m:Rat)+2*(b:Rat))/2^k=y at*;generalize (m:Rat)/2^k=x at*;have key:(y-x)*2^k<=1/2^5500*2^k:=by
   rw[ek];have:(1:Rat)/2^5500*(2^5500*2^(k-5500))=2^(k-5500):=by rw[<-Rat.mul_assoc,d3];grind
   rw[this,<-ek];grind
  have:=(jJ hz).mp key;grind
 have hle:(t:Rat)/(u:Rat)<=(t':Rat)/(u':Rat):=by
  rw[v1,v2];generalize ((m:Rat)+2*(b:Rat))/2^k=y at*;generalize (m:Rat)/2^k=x at*;have key:x*2^k<=y*2^k:=by grind
  have:=(jJ hz).mp key;grind
 have r1:-(2^110)<=(t:Rat)/(u:Rat):=by
  rw[v1];have g:(2:Rat)^102<=2^110:=mB (by grind) (by decide);generalize (m:Rat)/2^k=x at*;have key:-(b:Rat)*2^k<=x*2^k:=by grind
  have:=(jJ hz).mp key;grind
 have r2:(t':Rat)/(u':Rat)<=2^110:=by
  rw[v2];have g:(2:Rat)^103<=2^110:=mB (by grind) (by decide);have g2:(2:Rat)^103=2^102*2:=Rat.pow_succ ..;have g3:(1:Rat)<=2^102:=dz (by grind) _;generalize ((m:Rat)+2*(b:Rat))/2^k=y at*;have key:y*2^k<=(b:Rat)*2^k:=by grind
  have:=(jJ hz).mp key;grind
 by_cases h2:2<=xs.length
 ·obtain⟨rest,er⟩:=h.shape;have hc:=h.Km h2;have em:ps.map ao=ao xs::bE (ao xs)::rest.map ao:=by rw[er,List.map_cons,List.map_cons,fh]
  rw[em] at hc;have hz:=lK pt KQ;have:=Gf hc (fun x z w=>hz x ⟨z,w⟩) hle fun x y x1 x2 y1 y2 x0 y0=>by
   have q1:Re.q (-(2^110))<=Re.q ((t:Rat)/(u:Rat)):=Re.bY.mpr r1;have q2:Re.q ((t':Rat)/(u':Rat))<=Re.q (2^110):=Re.bY.mpr r2;have q3:Re.q ((t':Rat)/(u':Rat)-(t:Rat)/(u:Rat))<=Re.q (1/2^5500):=Re.bY.mpr w1;rw[Re.ll] at q1;have q4:Re.q ((t':Rat)/(u':Rat)-(t:Rat)/(u:Rat))=Re.q ((t':Rat)/(u':Rat))-Re.q ((t:Rat)/(u:Rat)):=by
    rw[Rat.sub_eq_add_neg,Re.ke,Re.ll];grind
   rw[q4] at q3;refine sep pt h2 pl pa KQ x0 y0 ?_ ?_ ?_
   ·rw[Re.cU];constructor<;>grind
   ·rw[Re.cU];constructor<;>grind
   ·rw[Re.cU];constructor<;>grind
  rw[<-em,gZ hu,gZ eD] at this;exact this
 ·have l1:xs.length=1:=by have:=List.length_pos_iff.mpr pn;lia
  have e2:=h.one l1
  match xs,l1 with
  |[c],_=>
   rw[e2];have e3:∀a b:Int,eX a b [[c],[]]=[sg c,0]:=fun a b=>by
    have h1:hv a b [c]=c:=by simp[hv,aF,co]
    have h2:hv a b []=0:=by simp[hv,aF,co]
    show[sg (hv a b [c]),sg (hv a b [])]=_;rw[h1,h2];rfl
   rw[e3,e3];lia
theorem E1.signs{xs:List Int}{ps:List (List Int)}(h:E1 xs ps)(hp:mO xs){t u t' u':Int}(hu:0<u)(eD:0<u')(hle:(t:Rat)/(u:Rat)<=(t':Rat)/(u':Rat))(n1:hv t u xs≠0)(n2:hv t' u' xs≠0)(one:cg 0 (eX t u ps)=cg 0 (eX t' u' ps)+1):sg (hv t u xs)*sg (hv t' u' xs)=-1:=by
 obtain⟨pt,pn,pl,pa,KQ⟩:=hp;by_cases h2:2<=xs.length
 ·obtain⟨rest,er⟩:=h.shape;have hc:=h.Km h2;have em:ps.map ao=ao xs::(ao (cF xs)::rest.map ao):=by rw[er,List.map_cons,List.map_cons]
  obtain⟨r,l,Yg⟩:∃r l,ao (cF xs)::rest.map ao=r++[l]:=⟨_,_,(List.dropLast_concat_getLast (List.cons_ne_nil _ _)).symm⟩;rw[Yg] at em;rw[em] at hc;have a1:at' (Re.q ((t:Rat)/(u:Rat))) (ao xs)≠0:=fun z=>n1 (by
   have:=fA (t:=t) hu xs
   rw[z,Re.aW] at this
   exact Classical.byContradiction fun w=>pG.mpr w this);have a2:at' (Re.q ((t':Rat)/(u':Rat))) (ao xs)≠0:=fun z=>n2 (by
   have:=fA (t:=t') eD xs
   rw[z,Re.aW] at this
   exact Classical.byContradiction fun w=>pG.mpr w this);have:=Gh hc hle a1 a2;rw[<-em,gZ hu,gZ eD,<-fA hu,<-fA eD,one,Int.pow_succ] at this;rw[this];have e:∀n:Nat,(-1:Int)^n*(-1)^n=1:=fun n=>by
   rw[<-Int.mul_pow];exact Int.one_pow
  have:=e (cg 0 (eX t' u' ps));grind
 ·exfalso;have l1:xs.length=1:=by have:=List.length_pos_iff.mpr pn;lia
  have e2:=h.one l1
  match xs,l1 with
  |[c],_=>
   rw[e2] at one;have e3:∀a b:Int,eX a b [[c],[]]=[sg c,0]:=fun a b=>by
    have h1:hv a b [c]=c:=by simp[hv,aF,co]
    have h2:hv a b []=0:=by simp[hv,aF,co]
    show[sg (hv a b [c]),sg (hv a b [])]=_;rw[h1,h2];rfl
   rw[e3,e3] at one;lia
end dA
namespace dA
open PySem PyProof.Rows L2 SF SF.Po
structure Sx where
 s:Addr
 ml:Addr
 mh:Addr
 gl:Addr
 gh:Addr
 k:Nat
 m:Int
 t:Int
 u:Int
 t':Int
 u':Int
structure Sx.Hx(H:Hp)(ps:List (List Int))(x:Sx):Prop where
 hs:H x.s=some (.tup [.ref x.ml,.ref x.mh])
 hl:H x.ml=some (.tup [.ref x.gl,.int ((cg 0 (eX x.t x.u ps):Nat):Int)])
 hh:H x.mh=some (.tup [.ref x.gh,.int ((cg 0 (eX x.t' x.u' ps):Nat):Int)])
 rl:Rt H x.gl x.t x.u
 rh:Rt H x.gh x.t' x.u'
structure Sx.Px(o b:Int)(x:Sx):Prop where
 pl:Pt o x.k x.m x.t x.u
 ph:Pt o x.k (x.m+2*b) x.t' x.u'
 lo:-(b*2^x.k)<=x.m
 hi:x.m+2*b<=b*2^x.k
 E2:x.k<=5700
structure Fx where
 p:Addr
 gl:Addr
 gh:Addr
 t:Int
 u:Int
 t':Int
 u':Int
structure Fx.Hx(H:Hp)(f:Fx):Prop where
 hp:H f.p=some (.tup [.ref f.gl,.ref f.gh])
 rl:Rt H f.gl f.t f.u
 rh:Rt H f.gh f.t' f.u'
structure Fx.Px(xs:List Int)(ps:List (List Int))(f:Fx):Prop where
 sgn:sg (hv f.t f.u xs)*sg (hv f.t' f.u' xs)=-1
 one:cg 0 (eX f.t f.u ps)=cg 0 (eX f.t' f.u' ps)+1
 bt:Bd 6000 f.t
 bu:Bd 6000 f.u
 wk:Bd 6000 f.t'
 ub:Bd 6000 f.u'
noncomputable def Sx.iv(x:Sx):Rat×Rat:=((x.t:Rat)/(x.u:Rat),(x.t':Rat)/(x.u':Rat))
noncomputable def Fx.iv(x:Fx):Rat×Rat:=((x.t:Rat)/(x.u:Rat),(x.t':Rat)/(x.u':Rat))
noncomputable def Fx.nums(x:Fx):Q4:=(x.t,x.u,x.t',x.u')
noncomputable def E3(ps:List (List Int))(t u t' u':Int):Int:=((cg 0 (eX t u ps):Nat):Int)-((cg 0 (eX t' u' ps):Nat):Int)
noncomputable def Sx.il(ps:List (List Int))(x:Sx):List Q4:=km (E3 ps) (5701-x.k) x.t x.u x.t' x.u'
noncomputable def Vj(l:List (Rat×Rat)):Prop:=l.Pairwise (fun p q=>p.2<=q.1)/\∀p∈l,p.1<p.2
noncomputable def wt(ws:List Sx):Nat:=(ws.map fun x=>2^(5701-x.k)-1).sum
noncomputable def ID(ps:List (List Int))(ws:List Sx):Nat:=(ws.map fun x=>cg 0 (eX x.t x.u ps)-cg 0 (eX x.t' x.u' ps)).sum
structure DV(xs:List Int)(ps:List (List Int))(o b t u t' u':Int)(fs:List Fx):Prop where
 pre:mO xs
 wm:E1 xs ps
 ends:Ends xs o b t u t' u'
 hu:0<u
 eD:0<u'
 px:∀f∈fs,f.Px xs ps
 SV:Vj (fs.map Fx.iv)
 cnt:fs.length+cg 0 (eX t' u' ps)=cg 0 (eX t u ps)
 low:Int.gcd t u=1/\Int.gcd t' u'=1
 iso:fs.map Fx.nums=km (E3 ps) 5701 t u t' u'
theorem Sx.Px.lt{o b:Int}{x:Sx}(h:x.Px o b)(ho:0<o)(hb:0<b)(hu:0<x.u)(eD:0<x.u'):(x.t:Rat)/(x.u:Rat)<(x.t':Rat)/(x.u':Rat):=by
 rw[h.pl.val ho hu,h.ph.val ho eD];have hz:(0:Rat)<2^x.k:=Rat.pow_pos (by grind);have Yf:(0:Rat)<(b:Rat):=Rat.intCast_pos.mpr hb;have Nf:(((x.m+2*b:Int)):Rat)=(x.m:Rat)+2*(b:Rat):=by rw[Rat.intCast_add,Rat.intCast_mul];rfl
 rw[Nf];have d1:(x.m:Rat)/2^x.k*2^x.k=(x.m:Rat):=Rat.div_mul_cancel (by grind);have d2:((x.m:Rat)+2*(b:Rat))/2^x.k*2^x.k=(x.m:Rat)+2*(b:Rat):=Rat.div_mul_cancel (by grind);generalize ((x.m:Rat)+2*(b:Rat))/2^x.k=y2 at*;generalize (x.m:Rat)/2^x.k=y1 at*;have key:y1*2^x.k<y2*2^x.k:=by grind
 have:=(Rat.mul_lt_mul_right hz).mp key;grind
theorem Sx.Hx.upd{H:Hp}{ps:List (List Int)}{x:Sx}(h:x.Hx H ps){l:Addr}{ys:List V}(hl:H l=some (.lst ys))(o:HO):x.Hx (L2.upd H l o) ps:=by
 have key:∀(c:Addr)(vs:List V),H c=some (.tup vs)->L2.upd H l o c=some (.tup vs):=fun c vs z=>by
  rw[aI (fun w=>by rw[w,hl] at z;cases z)];exact z
 exact⟨key _ _ h.hs,key _ _ h.hl,key _ _ h.hh,⟨key _ _ h.rl.1,h.rl.2⟩,⟨key _ _ h.rh.1,h.rh.2⟩⟩
theorem Fx.Hx.upd{H:Hp}{x:Fx}(h:x.Hx H){l:Addr}{ys:List V}(hl:H l=some (.lst ys))(o:HO):x.Hx (L2.upd H l o):=by
 have key:∀(c:Addr)(vs:List V),H c=some (.tup vs)->L2.upd H l o c=some (.tup vs):=fun c vs z=>by
  rw[aI (fun w=>by rw[w,hl] at z;cases z)];exact z
 exact⟨key _ _ h.hp,⟨key _ _ h.rl.1,h.rl.2⟩,⟨key _ _ h.rh.1,h.rh.2⟩⟩
theorem Sx.Hx.same{H H':Hp}{ps:List (List Int)}{x:Sx}(h:x.Hx H ps)(s:au H H'):x.Hx H' ps:=⟨s _ _ h.hs,s _ _ h.hl,s _ _ h.hh,h.rl.same s,h.rh.same s⟩
theorem Fx.Hx.same{H H':Hp}{x:Fx}(h:x.Hx H)(s:au H H'):x.Hx H':=⟨s _ _ h.hp,h.rl.same s,h.rh.same s⟩
theorem IE:∀(l:List Int)(b:Int),cg b l<=l.length
 |[],_=>Nat.le_refl _
 |x::r,b=>by
  have:=IE r (if x≠0 then x else b);show(if x*b<0 then 1 else 0)+cg (if x≠0 then x else b) r<=r.length+1;split<;>lia
theorem IF{n:Nat}(h:n<=10000):n<=sizeLine:=Nat.le_trans h (by unfold sizeLine;decide)
theorem lL{H3 H:Hp}{l:Addr}(s:au H3 H)(hl:H3 l=none)(o:HO):au H3 (L2.upd H l o):=fun c o' z=>by
 rw[aI (aN z hl)];exact s _ _ z
theorem tI(ws:List Sx)(x:Sx):wt (ws++[x])=wt ws+(2^(5701-x.k)-1):=by
 unfold wt;rw[List.map_append,List.sum_append];simp
theorem pH(ps:List (List Int))(ws:List Sx)(x:Sx):ID ps (ws++[x])=ID ps ws+(cg 0 (eX x.t x.u ps)-cg 0 (eX x.t' x.u' ps)):=by
 unfold ID;rw[List.map_append,List.sum_append];simp
noncomputable def IG:Sp:=fun vs H Q _=>∃(a:Addr)(xs:List Int),vs=[.ref a]/\IL H a xs/\(x6 xs/\mO (iL xs)/\xs.length<=13)/\
 ∀(r:Addr)(fs:List Fx)(ps:List (List Int))(o b t u t' u':Int)(H':Hp),au H H'->H r=none->H' r=some (.lst (fs.map fun f=>V.ref f.p))->(∀f∈fs,f.Hx H')->DV (iL xs) ps o b t u t' u' fs->fs.length<=60->Q (.ref r) H'
noncomputable def DW:Sp:=fun vs H Q _=>∃(a:Addr)(xs:List Int),vs=[.ref a]/\IL H a xs/\Q (.int ((xs.length:Int)-1)) H
section
variable {P:Program} {w:World} {K:PySem.W.Frag} {mg:Str->Option Value} {base:Heap}
theorem By(T:Nm mg)(D:aS K mg "degree" o8 ["poly"]):bI P w K mg base 1 "degree" ["poly"] DW:=by
 refine D.ok Bo (fun vs H Q E h=>?_) (fun f cQ A outer s H vs Q E hr h=>?_)
 ·obtain⟨a,xs,rfl,_⟩:=h;rfl
 obtain⟨a,xs,rfl,ha,q⟩:=h;have ex:(xs.map V.int).length=xs.length:=List.length_map _;refine⟨_,(ah (aE (ai bM (aK aV rfl T.ft boot_len (aa (pv 0) ag)) af))),?_⟩;walk_at "sf";refine⟨a,_,rfl,.inl (a_.of ha),?_⟩;walk_at "sf";rw[ex];exact q
theorem vI(T:Nm mg){uG:Value}(gI:mg "GREATEST_DEGREE"=some uG/\RelV (.int 12) uG)(pI:bI P w K mg base 36 "degree" ["poly"] DW)(ij:bI P w K mg base 36 "square_free" ["poly"] (DI iL x6))(yh:bI P w K mg base 36 "chain_of" ["free"] Ac)(lM:bI P w K mg base 36 "pair_around_all" ["free"] vF)(pJ:bI P w K mg base 36 "marked" ["chain","given"] DT)(DX:bI P w K mg base 36 "middle" ["one","other"] IB)(D:aS K mg "isolated" ky ["poly"]):bI P w K mg base 37 "isolated" ["poly"] IG:=by
 refine D.ok cB (fun vs H Q E h=>?_) (fun f cQ A outer s H vs Q E hr h=>?_)
 ·obtain⟨a,xs,rfl,_⟩:=h;rfl
 obtain⟨a,xs,rfl,ha,⟨Yh,GJ,lx⟩,q⟩:=h;refine⟨_,(ae (ck (aG eP (aw pI hr (aa (pv 0) ag)) (Ff rfl gI.1 gI.2) (aD _))
  (ah ui)
  aX)
  (ae (aj (i:=1) cB.nd rfl (Or.inl rfl) (aw ij hr (aa (pv 0) ag)))
  (ae (aj (i:=2) cB.nd rfl (Or.inl rfl) (aw yh hr (aa (pv 1) ag)))
  (ae (aj (i:=3) cB.nd rfl (Or.inl rfl) (aw lM hr (aa (pv 1) ag)))
  (ae (aj (i:=4) cB.nd rfl (Or.inl rfl) (dr (aa (dm (aa (aw pJ hr (aa (pv 2) (aa (ax ay (pv 3) af (fun _ _=>rfl)) ag))) (aa (aw pJ hr (aa (pv 2) (aa (ax ay (pv 3) af (fun _ _=>rfl)) ag))) ag))) ag)))
  (ae (aj (i:=5) cB.nd rfl (Or.inl rfl) (dr ag))
  (ae (dj PassesOwn.never (fN (pv 4) (fun _=>rfl))
  (ae (aj (i:=6) cB.nd rfl (Or.inl rfl) (wX PySem.F.plainAttrs_list PySem.F.slot_list_pop PySem.F.type_list_pop wZ (pv 4)))
  (ae (aj (i:=7) cB.nd rfl (Or.inl rfl) (ax ay (pv 6) af (fun _ _=>rfl)))
  (ae (aj (i:=8) cB.nd rfl (Or.inl rfl) (ax ay (pv 6) af (fun _ _=>rfl)))
  (ae (aj (i:=9) cB.nd rfl (Or.inl rfl) (ai bM (ax ay (pv 7) af (fun _ _=>rfl)) (ax ay (pv 8) af (fun _ _=>rfl))))
  (ae (ck (aG d_ (pv 9) af (aD _))
  (ah (iM (kR PySem.F.plainAttrs_list PySem.F.slot_list_append PySem.F.type_list_append eQ (pv 5) (aa (dm (aa (ax ay (pv 7) af (fun _ _=>rfl)) (aa (ax ay (pv 8) af (fun _ _=>rfl)) ag))) ag))))
  aX)
  (ah (ck (aG eP (pv 9) af (aD _))
  (ae (aj (i:=10) cB.nd rfl (Or.inl rfl) (aw pJ hr (aa (pv 2) (aa (aw DX hr (aa (ax ay (pv 7) af (fun _ _=>rfl)) (aa (ax ay (pv 8) af (fun _ _=>rfl)) ag))) ag))))
  (ae (iM (kR PySem.F.plainAttrs_list PySem.F.slot_list_append PySem.F.type_list_append eQ (pv 4) (aa (dm (aa (pv 10) (aa (pv 8) ag))) ag)))
  (ah (iM (kR PySem.F.plainAttrs_list PySem.F.slot_list_append PySem.F.type_list_append eQ (pv 4) (aa (dm (aa (pv 7) (aa (pv 10) ag))) ag))))))
  aX))))))))
  (ah (aE (pv 5)))))))))),?_⟩;walk_at "sf";refine⟨a,xs,rfl,ha,?_⟩;walk_at "sf";rw[if_neg (by simp;lia)];walk_at "sf";refine⟨a,xs,rfl,ha,Yh,fun p1 H1 s1 h1=>?_⟩;walk_at "sf";refine⟨p1,_,rfl,h1,GJ,fun c as ps H2 s2 hc hi wm=>?_⟩;have dZ:=s1.trans s2;walk_at "sf";generalize wg:iL xs=ys at*;obtain⟨yt,yn,yl,ya,ysf⟩:=id GJ;refine⟨p1,ys,rfl,s2 _ _ h1,⟨yt,yn,yl,ya⟩,fun pp g1 g2 o b t u t' u' H3 s3 si r1 r2 en=>?_⟩;have B3:=dZ.trans s3;have BZ:=s3 _ _ hc;have SW:rk H3 as ps:=hi.map fun a p z=>s3 _ _ z;obtain⟨e1,e2,e3,bo,bb,Yi,Yj,Yk,_⟩:=id en;have LJ:Pt o 0 (-b) t u:=by unfold Pt;rw[Int.pow_zero,Int.mul_one,Yj];grind
 have LK:Pt o 0 (-b+2*b) t' u':=by unfold Pt;rw[Int.pow_zero,Int.mul_one,Yk];grind
 obtain⟨bt,bu⟩:=LJ.bits (by lia) r1.2.1 r1.2.2 bo bb (by rw[Int.pow_zero];lia) (by rw[Int.pow_zero];lia);obtain⟨wk,ub⟩:=LK.bits (by lia) r2.2.1 r2.2.2 bo bb (by rw[Int.pow_zero];lia) (by rw[Int.pow_zero];lia);walk_at "sf";refine aL (cj.of si) rfl ?_;walk_at "sf";refine⟨c,g1,as,ps,t,u,210,rfl,BZ,SW,r1.1,⟨wm.E2,wm.cnt,bt,bu,by decide⟩,fun m1 H4 s4 NG=>?_⟩;walk_at "sf";refine aL (cj.of (s4 _ _ si)) rfl ?_;walk_at "sf";refine⟨c,g2,as,ps,t',u',210,rfl,s4 _ _ BZ,SW.map fun a p z=>s4 _ _ z,(r2.same s4).1,⟨wm.E2,wm.cnt,wk,ub,by decide⟩,fun m2 H5 s5 Sl=>?_⟩;walk_at "sf";intro s0 Yl;have s6:=au.new Yl (.tup [.ref m1,.ref m2]);have Vk:upd H5 s0 (.tup [.ref m1,.ref m2]) s0=some (.tup [.ref m1,.ref m2]):=ak;generalize upd H5 s0 (.tup [.ref m1,.ref m2])=H6 at s6 Vk ⊢;walk_at "sf";intro pw LC;walk_at "sf";intro pf P7;have Oc:=s4.trans (s5.trans s6);have KR:H3 pw=none:=Oc.free LC;have s7:=au.new LC (.lst [.ref s0]);have SX:H6 pf=none:=s7.free P7;have Od:H3 pf=none:=Oc.free SX;have Oe:pw≠pf:=fun z=>by
  rw[<-z,ak] at P7;cases P7
 have s8:=au.new P7 (.lst []);let x0:Sx:=⟨s0,m1,m2,g1,g2,0,-b,t,u,t',u'⟩;have X0:Sx.Hx (upd (upd H6 pw (.lst [.ref s0])) pf (.lst [])) ps x0:=
  ⟨s8 _ _ (s7 _ _ Vk),s8 _ _ (s7 _ _ (s6 _ _ (s5 _ _ NG))),s8 _ _ (s7 _ _ (s6 _ _ Sl)),r1.same (Oc.trans (s7.trans s8)),r2.same (Oc.trans (s7.trans s8))⟩
 have Vl:upd (upd H6 pw (.lst [.ref s0])) pf (.lst []) pw=some (.lst ([x0].map fun x=>V.ref x.s)):=by rw[aI Oe,ak];rfl
 have Vm:upd (upd H6 pw (.lst [.ref s0])) pf (.lst []) pf=some (.lst (([]:List Fx).map fun x=>V.ref x.p)):=ak;have Vn:=Oc.trans (s7.trans s8);generalize upd (upd H6 pw (.lst [.ref s0])) pf (.lst [])=H8 at X0 Vl Vm Vn ⊢;walk_at "sf";have Ym:∀k:Nat,b*2^(k+1)=2*(b*2^k):=fun k=>by rw[Int.pow_succ];grind
 refine cX (fun m σ H'=>∃(ws:List Sx)(fs:List Fx)(z6 z7 z8 z9 Vo:Option V),m=wt ws/\σ=[some (.ref a),some (.ref p1),some (.ref c),some (.ref pp),some (.ref pw),some (.ref pf),z6,z7,z8,z9,Vo]/\
  au H3 H'/\H' pw=some (.lst (ws.map fun x=>V.ref x.s))/\H' pf=some (.lst (fs.map fun x=>V.ref x.p))/\(∀x∈ws,x.Hx H' ps)/\(∀x∈ws,x.Px o b)/\(∀f∈fs,f.Hx H')/\(∀f∈fs,f.Px ys ps)/\
  (∀(i:Nat)(x:Sx),ws[i]?=some x->i<=x.k)/\fs.length+ID ps ws+cg 0 (eX t' u' ps)=cg 0 (eX t u ps)/\Vj (fs.map Fx.iv++ws.reverse.map Sx.iv)/\fs.map Fx.nums++ws.reverse.flatMap (Sx.il ps)=km (E3 ps) 5701 t u t' u')
  ⟨_,[x0],[],_,_,_,_,_,rfl,rfl,Vn,Vl,Vm,?_,?_,fun f hf=>(nomatch hf),fun f hf=>(nomatch hf),?_,?_,?_,?_⟩ ?_
 ·intro x hx;rw[List.mem_singleton.mp hx];exact X0
 ·intro x hx;rw[List.mem_singleton.mp hx];exact⟨LJ,LK,by show -(b*2^0)<=-b;rw[Int.pow_zero];lia,by show -b+2*b<=b*2^0;rw[Int.pow_zero];lia,by show 0<=5700;lia⟩
 ·intro i x Io;have:i=0:=by
   have:=(List.getElem?_eq_some_iff.mp Io).1;simp at this;exact this
  rw[this];exact Nat.zero_le _
 ·have SY:=Rat.le_of_lt (Sx.Px.lt (x:=x0) (o:=o) (b:=b) ⟨LJ,LK,by show -(b*2^0)<=-b;rw[Int.pow_zero];lia,by show -b+2*b<=b*2^0;rw[Int.pow_zero];lia,by show 0<=5700;lia⟩ (by lia) bb.1 r1.2.1 r2.2.1);have PH:cg 0 (eX t' u' ps)<=cg 0 (eX t u ps):=wm.mono GJ r1.2.1 r2.2.1 SY;show 0+((cg 0 (eX t u ps)-cg 0 (eX t' u' ps))+0)+cg 0 (eX t' u' ps)=cg 0 (eX t u ps);generalize cg 0 (eX t u ps)=q1 at PH ⊢;generalize cg 0 (eX t' u' ps)=q2 at PH ⊢;lia
 ·have SY:=(Sx.Px.lt (x:=x0) (o:=o) (b:=b) ⟨LJ,LK,by show -(b*2^0)<=-b;rw[Int.pow_zero];lia,by show -b+2*b<=b*2^0;rw[Int.pow_zero];lia,by show 0<=5700;lia⟩ (by lia) bb.1 r1.2.1 r2.2.1);refine⟨List.pairwise_singleton _ _,fun p hp=>?_⟩;rw[List.mem_singleton.mp hp];exact SY
 ·rw[List.map_nil,List.nil_append,List.reverse_singleton,List.flatMap_cons,List.flatMap_nil,List.append_nil];rfl
 rintro m σ H' ⟨ws,fs,z6,z7,z8,z9,Vo,rfl,rfl,sH,hw,hf,hX,pX,hF,pF,GK,S0,yi,LL⟩;have PM:cg 0 (eX t u ps)<=60:=by
  have h1:=IE (eX t u ps) 0;have h2:(eX t u ps).length=ps.length:=List.length_map _;have h3:=wm.cnt;lia
 walk_at "sf";refine⟨_,.inl ⟨_,a_.of hw,rfl⟩,?_⟩;rcases List.eq_nil_or_concat ws with ew|⟨eL,x,ew⟩
 ·subst ew;walk_at "sf";rw[if_neg (by decide)];walk_at "sf";subst wg;refine q pf fs ps o b t u t' u' H' (B3.trans sH) (B3.free Od) hf hF ⟨GJ,wm,en,r1.2.1,r2.2.1,pF,?_,?_,⟨r1.2.2,r2.2.2⟩,?_⟩ ?_
  ·have e:fs.map Fx.iv++([]:List Sx).reverse.map Sx.iv=fs.map Fx.iv:=by simp
   rw[e] at yi;exact yi
  ·have:ID ps []=0:=rfl;lia
  ·rw[List.reverse_nil,List.flatMap_nil,List.append_nil] at LL;exact LL
  ·have:ID ps []=0:=rfl;lia
 rw[List.concat_eq_append] at ew;subst ew;have Vp:x∈eL++[x]:=List.mem_append_right _ List.mem_cons_self;have hx:=hX x Vp;have px:=pX x Vp;have hkx:eL.length<=x.k:=GK eL.length x (by rw[List.getElem?_append_right (Nat.le_refl _)];simp);rw[tI];rw[pH] at S0;have Vq:=px.lt (by lia) bb.1 hx.rl.2.1 hx.rh.2.1;have Vr:=wm.mono GJ hx.rl.2.1 hx.rh.2.1 (Rat.le_of_lt Vq);have hk5:=px.E2;have Yn:x.m<=b*2^x.k:=by have:=px.hi;lia
 have S1:-(b*2^x.k)<=x.m+2*b:=by have:=px.lo;lia
 obtain⟨Vs,Vt⟩:=px.pl.bits (by lia) hx.rl.2.1 hx.rl.2.2 bo bb px.lo Yn;obtain⟨Of,Og⟩:=px.ph.bits (by lia) hx.rh.2.1 hx.rh.2.2 bo bb S1 px.hi;have Oh:1<=2^(5701-x.k)-1:=by
  have:2^1<=2^(5701-x.k):=Nat.pow_le_pow_right (by decide) (by lia);lia
 rw[if_pos (by simp)];refine⟨_,fun bN H' h=>h,?_⟩;walk_at "sf";have Vu:(eL++[x]).map (fun x=>V.ref x.s)=eL.map (fun x=>V.ref x.s)++[V.ref x.s]:=by rw[List.map_append];rfl
 refine⟨_,rfl,.inl ⟨rfl,_,a_.of hw⟩,pw,_,V.ref x.s,rfl,rfl,hw,by rw[Vu];simp,?_⟩;have Yo:((eL++[x]).map (fun x=>V.ref x.s)).dropLast=eL.map (fun x=>V.ref x.s):=by rw[Vu];simp
 have n1:=lL sH KR (.lst ((eL++[x]).map (fun x=>V.ref x.s)).dropLast);have IH:upd H' pw (.lst ((eL++[x]).map (fun x=>V.ref x.s)).dropLast) pw=some (.lst (eL.map (fun x=>V.ref x.s))):=by rw[ak,Yo]
 have xu:upd H' pw (.lst ((eL++[x]).map (fun x=>V.ref x.s)).dropLast) pf=some (.lst (fs.map fun x=>V.ref x.p)):=by rw[aI (Ne.symm Oe)];exact hf
 have sZ:=hx.upd hw (.lst ((eL++[x]).map (fun x=>V.ref x.s)).dropLast);have P8:∀y∈eL,y.Hx (upd H' pw (.lst ((eL++[x]).map (fun x=>V.ref x.s)).dropLast)) ps:=fun y hy=>(hX y (List.mem_append_left _ hy)).upd hw _;have P9:∀y∈fs,y.Hx (upd H' pw (.lst ((eL++[x]).map (fun x=>V.ref x.s)).dropLast)):=fun y hy=>(hF y hy).upd hw _;generalize upd H' pw (.lst ((eL++[x]).map (fun x=>V.ref x.s)).dropLast)=H9 at n1 IH xu sZ P8 P9 ⊢;walk_at "sf";refine aL (cj.of sZ.hs) rfl ?_;walk_at "sf";refine aL (cj.of sZ.hs) rfl ?_;walk_at "sf";refine aL (cj.of sZ.hl) rfl ?_;walk_at "sf";refine aL (cj.of sZ.hh) rfl ?_;walk_at "sf";generalize P_:cg 0 (eX x.t x.u ps)=cl at*;generalize wu:cg 0 (eX x.t' x.u' ps)=ch at*;have S2:(eL++[x]).reverse.map Sx.iv=x.iv::eL.reverse.map Sx.iv:=by rw[List.reverse_append];rfl
 rw[S2] at yi;have erw:(eL++[x]).reverse=x::eL.reverse:=by rw[List.reverse_append];rfl
 rw[erw,List.flatMap_cons] at LL;obtain⟨kn,Yp⟩:∃kn,5701-x.k=kn+1:=⟨5700-x.k,by lia⟩;have S3:x.il ps=km (E3 ps) (kn+1) x.t x.u x.t' x.u':=by unfold Sx.il;rw[Yp]
 have P':E3 ps x.t x.u x.t' x.u'=(cl:Int)-ch:=by unfold E3;rw[P_,wu]
 refine cZ (fun c1=>?_) (fun c1=>?_)
 ·have h1:(cl:Int)-ch=1:=by simpa using c1
  walk_at "sf";refine⟨_,rfl,.inl ⟨rfl,_,a_.of xu⟩,?_⟩;walk_at "sf";refine aL (cj.of sZ.hl) rfl ?_;walk_at "sf";refine aL (cj.of sZ.hh) rfl ?_;walk_at "sf";intro pn yc;have sn:=au.new yc (.tup [.ref x.gl,.ref x.gh]);have FV:upd H9 pn (.tup [.ref x.gl,.ref x.gh]) pn=some (.tup [.ref x.gl,.ref x.gh]):=ak;have LM:=sn _ _ xu;generalize upd H9 pn (.tup [.ref x.gl,.ref x.gh])=EW at sn FV LM ⊢;walk_at "sf";have Yq:fs.length<=60:=by lia
  refine⟨pf,_,_,rfl,rfl,LM,by rw[List.length_map];exact fb (by lia),?_⟩;let f0:Fx:=⟨pn,x.gl,x.gh,x.t,x.u,x.t',x.u'⟩;have F0:Fx.Hx EW f0:=⟨FV,sZ.rl.same sn,sZ.rh.same sn⟩;have n2:=n1.trans sn;have Qa:=sn _ _ IH;have Yr:∀y∈fs++[f0],y.Hx EW:=fun y hy=>by
   rcases List.mem_append.mp hy with z|z
   ·exact(P9 y z).same sn
   ·rw[List.mem_singleton.mp z];exact F0
  have emp:fs.map (fun x=>V.ref x.p)++[V.ref pn]=(fs++[f0]).map (fun x=>V.ref x.p):=by rw[List.map_append];rfl
  have n3:=lL n2 Od (.lst (fs.map (fun x=>V.ref x.p)++[V.ref pn]));have GL:upd EW pf (.lst (fs.map (fun x=>V.ref x.p)++[V.ref pn])) pw=some (.lst (eL.map (fun x=>V.ref x.s))):=by rw[aI Oe];exact Qa
  have Vv:upd EW pf (.lst (fs.map (fun x=>V.ref x.p)++[V.ref pn])) pf=some (.lst ((fs++[f0]).map fun x=>V.ref x.p)):=by rw[ak,emp]
  have Vw:∀y∈fs++[f0],y.Hx (upd EW pf (.lst (fs.map (fun x=>V.ref x.p)++[V.ref pn]))):=fun y hy=>(Yr y hy).upd LM _;have Vy:∀y∈eL,y.Hx (upd EW pf (.lst (fs.map (fun x=>V.ref x.p)++[V.ref pn]))) ps:=fun y hy=>((P8 y hy).same sn).upd LM _;generalize upd EW pf (.lst (fs.map (fun x=>V.ref x.p)++[V.ref pn]))=KS at n3 GL Vv Vw Vy ⊢;walk_at "sf";rw[if_neg (by simp;lia)];walk_at "sf";have one:cg 0 (eX x.t x.u ps)=cg 0 (eX x.t' x.u' ps)+1:=by rw[P_,wu];lia
  have Ys:hv x.t x.u ys≠0:=zR yn hx.rl.2.2 (px.pl.odd e1) e3;have Yt:hv x.t' x.u' ys≠0:=zR yn hx.rh.2.2 (px.ph.odd e1) e3;have Yu:=wm.signs GJ hx.rl.2.1 hx.rh.2.1 (Rat.le_of_lt Vq) Ys Yt one;refine⟨_,Nat.lt_of_lt_of_le (Nat.lt_succ_self _) (Nat.add_le_add_left Oh _),eL,fs++[f0],_,_,_,_,_,rfl,rfl,n3,GL,Vv,Vy,fun y hy=>pX y (List.mem_append_left _ hy),Vw,?_,?_,?_,?_,?_⟩
  ·intro y hy;rcases List.mem_append.mp hy with z|z
   ·exact pF y z
   ·rw[List.mem_singleton.mp z];exact⟨Yu,one,Vs.mono (by lia),Vt.mono (by lia),Of.mono (by lia),Og.mono (by lia)⟩
  ·intro i y hy;exact GK i y (by rw[List.getElem?_append_left (List.getElem?_eq_some_iff.mp hy).1];exact hy)
  ·rw[List.length_append];show fs.length+1+ID ps eL+_=_;lia
  ·have e:(fs++[f0]).map Fx.iv++eL.reverse.map Sx.iv=fs.map Fx.iv++x.iv::eL.reverse.map Sx.iv:=by rw[List.map_append,List.append_assoc];rfl
   rw[e];exact yi
  ·rw[<-LL,S3,Ds (by rw[P'];exact h1),List.map_append,List.append_assoc];rfl
 ·have h1:¬(cl:Int)-ch=1:=by simpa using c1
  walk_at "sf";refine cZ (fun c2=>?_) (fun c2=>?_)
  ·have h2:1<(cl:Int)-ch:=by simpa using c2
   have Yv:x.k<5700:=by
    rcases Nat.lt_or_ge x.k 5700 with z|z
    ·exact z
    ·exfalso;have:=wm.short GJ (by lia) bb hx.rl.2.1 hx.rh.2.1 px.pl px.ph px.lo px.hi z;rw[P_,wu] at this;lia
   walk_at "sf";refine aL (cj.of sZ.hl) rfl ?_;walk_at "sf";refine aL (cj.of sZ.hh) rfl ?_;walk_at "sf";refine⟨x.gl,x.gh,x.t,x.u,x.t',x.u',x.k+210,rfl,sZ.rl.1,sZ.rh.1,⟨Vs,Vt,Of,Og⟩,by lia,sZ.rl.2.1,sZ.rh.2.1,fun gm tm um Yw KU P4 Oi=>?_⟩;have S4:=au.new Yw (.tup [.int tm,.int um]);have KW:upd H9 gm (.tup [.int tm,.int um]) gm=some (.tup [.int tm,.int um]):=ak;generalize upd H9 gm (.tup [.int tm,.int um])=EW at S4 KW ⊢;have n2:=n1.trans S4;have S5:Pt o (x.k+1) (x.m+(x.m+2*b)) tm um:=px.pl.mid px.ph hx.rl.2.1 hx.rh.2.1 Oi;have Sd:=Ym x.k;have plo:=px.lo;have phi:=px.hi;obtain⟨Yx,Yy⟩:=S5.bits (by lia) KU P4 bo bb (by lia) (by lia);walk_at "sf";refine⟨c,gm,as,ps,tm,um,x.k+1+210,rfl,n2 _ _ BZ,SW.map fun a p z=>n2 _ _ z,KW,⟨wm.E2,wm.cnt,Yx,Yy,by lia⟩,fun mm KS sm S6=>?_⟩;have Yz:Rt KS gm tm um:=⟨sm _ _ KW,KU,P4⟩;have vJ:=S4.trans sm;have n3:=n2.trans sm;have Qa:=vJ _ _ IH;have LM:=vJ _ _ xu;have LH:=sZ.same vJ;have YA:∀y∈eL,y.Hx KS ps:=fun y hy=>(P8 y hy).same vJ;have YB:∀y∈fs,y.Hx KS:=fun y hy=>(P9 y hy).same vJ;walk_at "sf";refine⟨_,rfl,.inl ⟨rfl,_,a_.of Qa⟩,?_⟩;walk_at "sf";intro sa YC;have sn:=au.new YC (.tup [.ref mm,.ref x.mh]);have FV:upd KS sa (.tup [.ref mm,.ref x.mh]) sa=some (.tup [.ref mm,.ref x.mh]):=ak;generalize upd KS sa (.tup [.ref mm,.ref x.mh])=KY at sn FV ⊢;walk_at "sf";have lws:eL.length<=5700:=by lia
   have GL:=sn _ _ Qa;refine⟨pw,_,_,rfl,rfl,GL,by rw[List.length_map];exact IF (by lia),?_⟩;let xa:Sx:=⟨sa,mm,x.mh,gm,x.gh,x.k+1,x.m+(x.m+2*b),tm,um,x.t',x.u'⟩;have XA:xa.Hx KY ps:=⟨FV,sn _ _ S6,sn _ _ LH.hh,Yz.same sn,LH.rh.same sn⟩;have YD:x.m+(x.m+2*b)+2*b=2*(x.m+2*b):=by lia
   have S7:2*x.m+2*b=x.m+(x.m+2*b):=by lia
   have PA:xa.Px o b:=⟨S5,by show Pt o (x.k+1) (x.m+(x.m+2*b)+2*b) x.t' x.u';rw[YD];exact px.ph.up,by show -(b*2^(x.k+1))<=x.m+(x.m+2*b);lia,by show x.m+(x.m+2*b)+2*b<=b*2^(x.k+1);lia,by show x.k+1<=5700;lia⟩;have n4:=n3.trans sn;have emp:eL.map (fun x=>V.ref x.s)++[V.ref sa]=(eL++[xa]).map (fun x=>V.ref x.s):=by rw[List.map_append];rfl
   have n5:=lL n4 KR (.lst (eL.map (fun x=>V.ref x.s)++[V.ref sa]));have S8:upd KY pw (.lst (eL.map (fun x=>V.ref x.s)++[V.ref sa])) pw=some (.lst ((eL++[xa]).map (fun x=>V.ref x.s))):=by rw[ak,emp]
   have Vz:upd KY pw (.lst (eL.map (fun x=>V.ref x.s)++[V.ref sa])) pf=some (.lst (fs.map fun x=>V.ref x.p)):=by rw[aI (Ne.symm Oe)];exact sn _ _ LM
   have VA:∀y∈fs,y.Hx (upd KY pw (.lst (eL.map (fun x=>V.ref x.s)++[V.ref sa]))):=fun y hy=>((YB y hy).same sn).upd GL _;have VC:∀y∈eL++[xa],y.Hx (upd KY pw (.lst (eL.map (fun x=>V.ref x.s)++[V.ref sa]))) ps:=fun y hy=>by
    rcases List.mem_append.mp hy with z|z
    ·exact((YA y z).same sn).upd GL _
    ·rw[List.mem_singleton.mp z];exact XA.upd GL _
   have S9:=(LH.same sn).upd GL (.lst (eL.map (fun x=>V.ref x.s)++[V.ref sa]));have S_:=XA.upd GL (.lst (eL.map (fun x=>V.ref x.s)++[V.ref sa]));generalize upd KY pw (.lst (eL.map (fun x=>V.ref x.s)++[V.ref sa]))=S' at n5 S8 Vz VA VC S9 S_ ⊢;walk_at "sf";refine⟨_,rfl,.inl ⟨rfl,_,a_.of S8⟩,?_⟩;walk_at "sf";intro sb MX;have so:=au.new MX (.tup [.ref x.ml,.ref mm]);have SU:upd S' sb (.tup [.ref x.ml,.ref mm]) sb=some (.tup [.ref x.ml,.ref mm]):=ak;generalize upd S' sb (.tup [.ref x.ml,.ref mm])=E4 at so SU ⊢;walk_at "sf";have Qb:=so _ _ S8;refine⟨pw,_,_,rfl,rfl,Qb,by rw[List.length_map,List.length_append];exact IF (by show eL.length+1+1<=10000;lia),?_⟩;let xb:Sx:=⟨sb,x.ml,mm,x.gl,gm,x.k+1,2*x.m,x.t,x.u,tm,um⟩;have XB:xb.Hx E4 ps:=⟨SU,so _ _ S9.hl,so _ _ S_.hl,S9.rl.same so,S_.rl.same so⟩;have PB:xb.Px o b:=⟨px.pl.up,by show Pt o (x.k+1) (2*x.m+2*b) tm um;rw[S7];exact S5,by show -(b*2^(x.k+1))<=2*x.m;lia,by show 2*x.m+2*b<=b*2^(x.k+1);lia,by show x.k+1<=5700;lia⟩;have Ta:(eL++[xa]).map (fun x=>V.ref x.s)++[V.ref sb]=(eL++[xa]++[xb]).map (fun x=>V.ref x.s):=by rw[List.map_append (l₁:=eL++[xa])];rfl
   have n6:=lL (n5.trans so) KR (.lst ((eL++[xa]).map (fun x=>V.ref x.s)++[V.ref sb]));have N7:upd E4 pw (.lst ((eL++[xa]).map (fun x=>V.ref x.s)++[V.ref sb])) pw=some (.lst ((eL++[xa]++[xb]).map (fun x=>V.ref x.s))):=by rw[ak,Ta]
   have VD:upd E4 pw (.lst ((eL++[xa]).map (fun x=>V.ref x.s)++[V.ref sb])) pf=some (.lst (fs.map fun x=>V.ref x.p)):=by rw[aI (Ne.symm Oe)];exact so _ _ Vz
   have VE:∀y∈fs,y.Hx (upd E4 pw (.lst ((eL++[xa]).map (fun x=>V.ref x.s)++[V.ref sb]))):=fun y hy=>((VA y hy).same so).upd Qb _;have VF:∀y∈eL++[xa]++[xb],y.Hx (upd E4 pw (.lst ((eL++[xa]).map (fun x=>V.ref x.s)++[V.ref sb]))) ps:=fun y hy=>by
    rcases List.mem_append.mp hy with z|z
    ·exact((VC y z).same so).upd Qb _
    ·rw[List.mem_singleton.mp z];exact XB.upd Qb _
   generalize upd E4 pw (.lst ((eL++[xa]).map (fun x=>V.ref x.s)++[V.ref sb]))=Tb at n6 N7 VD VE VF ⊢;walk_at "sf";have VG:=PB.lt (by lia) bb.1 hx.rl.2.1 KU;have VH:=PA.lt (by lia) bb.1 KU hx.rh.2.1;have mb:cg 0 (eX tm um ps)<=cg 0 (eX x.t x.u ps):=wm.mono GJ hx.rl.2.1 KU (Rat.le_of_lt VG);have ma:cg 0 (eX x.t' x.u' ps)<=cg 0 (eX tm um ps):=wm.mono GJ KU hx.rh.2.1 (Rat.le_of_lt VH);refine⟨_,?_,eL++[xa]++[xb],fs,_,_,_,_,_,rfl,rfl,n6,N7,VD,VF,?_,VE,pF,?_,?_,?_,?_⟩
   ·rw[tI,tI];show wt eL+(2^(5701-(x.k+1))-1)+(2^(5701-(x.k+1))-1)<wt eL+(2^(5701-x.k)-1);obtain⟨j,hj⟩:∃j,5701-x.k=j+1:=⟨5700-x.k,by lia⟩;have Vg:5701-(x.k+1)=j:=by lia
    rw[hj,Vg,Nat.pow_succ];have:=Nat.two_pow_pos j;lia
   ·intro y hy;rcases List.mem_append.mp hy with z|z
    ·rcases List.mem_append.mp z with z|z
     ·exact pX y (List.mem_append_left _ z)
     ·rw[List.mem_singleton.mp z];exact PA
    ·rw[List.mem_singleton.mp z];exact PB
   ·intro i y hy;rcases Nat.lt_trichotomy i eL.length with z|z|z
    ·refine GK i y ?_;rw[List.append_assoc,List.getElem?_append_left z] at hy;rw[List.getElem?_append_left z];exact hy
    ·rw[List.append_assoc,List.getElem?_append_right (by lia)] at hy;have e0:i-eL.length=0:=by lia
     rw[e0] at hy;have:xa=y:=Option.some.inj hy;rw[<-this];show i<=x.k+1;lia
    ·rw[List.append_assoc,List.getElem?_append_right (by lia)] at hy;have qR:=(List.getElem?_eq_some_iff.mp hy).1;have e0:i-eL.length=1:=by
      simp at qR;lia
     rw[e0] at hy;have:xb=y:=Option.some.inj hy;rw[<-this];show i<=x.k+1;lia
   ·rw[pH,pH];show fs.length+(ID ps eL+(cg 0 (eX tm um ps)-cg 0 (eX x.t' x.u' ps))+(cg 0 (eX x.t x.u ps)-cg 0 (eX tm um ps)))+_=_;rw[P_] at mb ⊢;rw[wu] at ma ⊢;lia
   ·have Tc:(eL++[xa]++[xb]).reverse.map Sx.iv=xb.iv::xa.iv::eL.reverse.map Sx.iv:=by rw[List.reverse_append,List.reverse_append];rfl
    rw[Tc];obtain⟨R',VI⟩:=yi;rw[List.pairwise_append,List.pairwise_cons] at R';obtain⟨YE,⟨VJ,YF⟩,VL⟩:=R';have ia:xa.iv.2=x.iv.2:=rfl;have ib:xb.iv.1=x.iv.1:=rfl;have YG:xb.iv.2=xa.iv.1:=rfl;have la:xa.iv.1<xa.iv.2:=VH;have lb:xb.iv.1<xb.iv.2:=VG;refine⟨?_,fun p hp=>?_⟩
    ·rw[List.pairwise_append,List.pairwise_cons,List.pairwise_cons];refine⟨YE,⟨fun y hy=>?_,fun y hy=>?_,YF⟩,fun y hy z hz=>?_⟩
     ·rcases List.mem_cons.mp hy with e|e
      ·rw[e,YG];grind
      ·have:=VJ y e;grind
     ·rw[ia];exact VJ y hy
     ·have YH:=VL y hy x.iv List.mem_cons_self;rcases List.mem_cons.mp hz with e|e
      ·rw[e,ib];exact YH
      ·rcases List.mem_cons.mp e with e|e
       ·rw[e];grind
       ·exact VL y hy z (List.mem_cons_of_mem _ e)
    ·rcases List.mem_append.mp hp with z|z
     ·exact VI p (List.mem_append_left _ z)
     ·rcases List.mem_cons.mp z with e|e
      ·rw[e];exact lb
      ·rcases List.mem_cons.mp e with e|e
       ·rw[e];exact la
       ·exact VI p (List.mem_append_right _ (List.mem_cons_of_mem _ e))
   ·obtain⟨YI,YJ⟩:=Dr hx.rl.2.1 hx.rh.2.1 KU P4 Oi;have Tc:(eL++[xa]++[xb]).reverse=xb::xa::eL.reverse:=by rw[List.reverse_append,List.reverse_append];rfl
    have ek:5701-(x.k+1)=kn:=by lia
    have eb:xb.il ps=km (E3 ps) kn x.t x.u tm um:=by
     show km (E3 ps) (5701-(x.k+1)) x.t x.u tm um=_;rw[ek]
    have ea:xa.il ps=km (E3 ps) kn tm um x.t' x.u':=by
     show km (E3 ps) (5701-(x.k+1)) tm um x.t' x.u'=_;rw[ek]
    rw[<-LL,S3,Dt (by rw[P'];exact h2),Tc,List.flatMap_cons,List.flatMap_cons,eb,ea,<-YI,<-YJ,List.append_assoc]
  ·have h2:¬1<(cl:Int)-ch:=by simpa using c2
   walk_at "sf";refine⟨_,Nat.lt_of_lt_of_le (Nat.lt_succ_self _) (Nat.add_le_add_left Oh _),eL,fs,_,_,_,_,_,rfl,rfl,n1,IH,xu,P8,fun y hy=>pX y (List.mem_append_left _ hy),P9,pF,?_,?_,?_,?_⟩
   ·intro i y hy;exact GK i y (by rw[List.getElem?_append_left (List.getElem?_eq_some_iff.mp hy).1];exact hy)
   ·lia
   ·refine⟨yi.1.sublist (List.Sublist.append_left (List.sublist_cons_self _ _) _),fun p hp=>yi.2 p ?_⟩;rcases List.mem_append.mp hp with z|z
    ·exact List.mem_append_left _ z
    ·exact List.mem_append_right _ (List.mem_cons_of_mem _ z)
   ·rw[<-LL,S3,Gi (by rw[P'];exact h1) (by rw[P'];exact h2),List.nil_append]
end
end dA
namespace dA
open PySem PyProof.Rows L2 SF SF.Po
theorem Ends.pK{xs:List Int}{o b t u t' u':Int}(h:Ends xs o b t u t' u')(hu:0<u)(eD:0<u'):(t:Rat)/(u:Rat)=1/(o:Rat)-(b:Rat)/\(t':Rat)/(u':Rat)=1/(o:Rat)+(b:Rat)/\0<1/(o:Rat)/\1/(o:Rat)<=1:=by
 have h3:=h.three;have LJ:Pt o 0 (-b) t u:=by unfold Pt;rw[Int.pow_zero,Int.mul_one,h.lo];grind
 have LK:Pt o 0 b t' u':=by unfold Pt;rw[Int.pow_zero,Int.mul_one,h.hi]
 have v1:=LJ.val (by lia) hu;have v2:=LK.val (by lia) eD;rw[Rat.pow_zero] at v1 v2;rw[Rat.intCast_neg] at v1;have ho:(1:Rat)<=(o:Rat):=by
  have:((1:Int):Rat)<=(o:Rat):=Rat.intCast_le_intCast.mpr (by lia);exact this
 have hp:(0:Rat)<1/(o:Rat):=RR.xD (by decide) (by grind);have e1:1/(o:Rat)*(o:Rat)=1:=Rat.div_mul_cancel (by grind);have hle:1/(o:Rat)<=1:=by
  have:=Rat.mul_le_mul_of_nonneg_left ho (Rat.le_of_lt hp);grind
 have one:∀z:Rat,z/1=z:=fun z=>by grind
 rw[one] at v1 v2;exact⟨by rw[v1];grind,v2,hp,hle⟩
theorem DV.m_{xs:List Int}{ps:List (List Int)}{o b t u t' u':Int}{fs:List Fx}(r:DV xs ps o b t u t' u' fs){x:Re}(h:Re.q ((t':Rat)/(u':Rat))<=x\/x<=Re.q ((t:Rat)/(u:Rat))):at' x (ao xs)≠0:=by
 obtain⟨f1,f2,f3,f4⟩:=r.ends.pK r.hu r.eD;obtain⟨rr,LF,hb,W,_⟩:=r.ends.X';have eb:(b:Rat)=2*(rr:Rat)+1:=by rw[hb,Rat.intCast_add,Rat.intCast_mul];rfl
 have Fw:(0:Rat)<(rr:Rat):=Rat.intCast_pos.mpr LF;refine Kx r.pre.2.1 LF (r.pre.1.last r.pre.2.1) W ?_;rcases h with h|h
 ·have h2:Re.q (2*(rr:Rat))<=Re.q ((t':Rat)/(u':Rat)):=Re.bY.mpr (by rw[f2,eb];grind);have h0:Re.q 0<=Re.q (2*(rr:Rat)):=Re.bY.mpr (by grind);rw[Re.eE] at h0;unfold Re.ab;split<;>grind
 ·have h2:Re.q ((t:Rat)/(u:Rat))<=Re.q (-(2*(rr:Rat))):=Re.bY.mpr (by rw[f1,eb];grind);rw[Re.ll] at h2;have h0:Re.q 0<=Re.q (2*(rr:Rat)):=Re.bY.mpr (by grind);rw[Re.eE] at h0;unfold Re.ab;split<;>grind
end dA
namespace dA
open PySem PyProof.Rows L2 SF SF.Po
theorem E1.DY{zs:List Int}{ps:List (List Int)}(hp:E1 zs ps)(pre:mO zs)(h2:2<=zs.length){rs:List Re}(nd:rs.Nodup)(hr:∀x,at' x (ao zs)=0↔x∈rs){t u t' u':Int}(hu:0<u)(eD:0<u')(hle:(t:Rat)/(u:Rat)<=(t':Rat)/(u':Rat)):
 ((cg 0 (eX t u ps):Nat):Int)-((cg 0 (eX t' u' ps):Nat):Int)=nR rs ((t':Rat)/(u':Rat))-nR rs ((t:Rat)/(u:Rat)):=by
 obtain⟨pt,pn,pl,pa,KQ⟩:=pre;obtain⟨rest,er⟩:=hp.shape;have hc:=hp.Km h2;have em:ps.map ao=ao zs::bE (ao zs)::rest.map ao:=by rw[er,List.map_cons,List.map_cons,fh]
 rw[em] at hc;have hz:=lK pt KQ;have:=Nt (N:=nR rs) hc (fun x z w=>hz x ⟨z,w⟩) (fun x=>Gj nd hr x) hle;rw[<-em,gZ hu,gZ eD] at this;lia
noncomputable def Fx.lo(f:Fx):Rat:=(f.t:Rat)/(f.u:Rat)
noncomputable def Fx.hi(f:Fx):Rat:=(f.t':Rat)/(f.u':Rat)
end dA
namespace dA
open PySem PyProof.Rows L2 SF SF.Po
theorem DV.many{zs:List Int}{ps:List (List Int)}{o b t u t' u':Int}{fs:List Fx}(r:DV zs ps o b t u t' u' fs)(h2:2<=zs.length)(gL:∀f∈fs,0<f.u/\0<f.u'){rs:List Re}(nd:rs.Nodup)(hr:∀x,at' x (ao zs)=0↔x∈rs):
 (∀f∈fs,f.lo<f.hi/\∃x∈rs,gB zs x f.lo f.hi)/\∀x∈rs,∃f∈fs,Re.q f.lo<x/\x<Re.q f.hi:=by
 have cnt:=fun{t u t' u':Int}(hu:0<u)(eD:0<u')(hle:(t:Rat)/(u:Rat)<=(t':Rat)/(u':Rat))=>r.wm.DY r.pre h2 nd hr hu eD hle;have one:∀f∈fs,f.lo<f.hi/\∃x∈rs,gB zs x f.lo f.hi:=fun f hf=>by
  have lt:f.lo<f.hi:=r.SV.2 _ (List.mem_map.mpr ⟨_,hf,rfl⟩);obtain⟨p1,p2⟩:=gL f hf;have k:=cnt p1 p2 (Rat.le_of_lt lt);have k1:=(r.px f hf).one;have hs:=(r.px f hf).sgn;rw[fA p1,fA p2] at hs;have xl:aP (at' (Re.q f.lo) (ao zs))*aP (at' (Re.q f.hi) (ao zs))=-1:=hs;have e:nR rs f.hi=nR rs f.lo+1:=by
   show nR rs ((f.t':Rat)/(f.u':Rat))=nR rs ((f.t:Rat)/(f.u:Rat))+1;lia
  obtain⟨x,hx,x1,x2,x3⟩:=xO (Rat.le_of_lt lt) e;have nz:∀z:Rat,(z=f.lo\/z=f.hi)->at' (Re.q z) (ao zs)≠0:=fun z hz w=>by
   rcases hz with rfl|rfl
   ·rw[w,SF.Re.aW] at xl;lia
   ·rw[w,SF.Re.aW] at xl;lia
  have x4:x<Re.q f.hi:=by
   rcases SF.Re.p_ x (Re.q f.hi) with w|w|w
   ·exact w
   ·exact absurd (by rw[<-w];exact(hr x).mpr hx) (nz f.hi (.inr rfl))
   ·exfalso;grind
  refine⟨lt,x,hx,gB.KG x1 x4 ((hr x).mpr hx) (fun y y1 y2 hy=>?_) xl⟩;refine x3 y ((hr y).mp hy) ?_ y2;rcases SF.Re.p_ (Re.q f.lo) y with w|w|w
  ·exact w
  ·exact absurd (by rw[w];exact hy) (nz f.lo (.inl rfl))
  ·exfalso;grind
 refine⟨one,fun x hx=>?_⟩;obtain⟨g,hg⟩:∃g:Fx->Re,∀f∈fs,g f∈rs/\gB zs (g f) f.lo f.hi:=⟨fun f=>open Classical in if h:f∈fs then Classical.choose (one f h).2 else 0,fun f hf=>by
  have:=Classical.choose_spec (one f hf).2
  dsimp only
  rw[dif_pos hf]
  exact this⟩;obtain⟨f1,f2,f3,f4⟩:=r.ends.pK r.hu r.eD;have hb:(0:Rat)<(b:Rat):=Rat.intCast_pos.mpr r.ends.bb.1;have c0:=cnt r.hu r.eD (by rw[f1,f2];grind);have n1:nR rs ((t':Rat)/(u':Rat))=(rs.length:Int):=DA fun y hy=>by
  have k:¬Re.q ((t':Rat)/(u':Rat))<=y:=fun z=>r.m_ (.inl z) ((hr y).mpr hy);grind
 have n2:nR rs ((t:Rat)/(u:Rat))=0:=zW fun y hy z=>r.m_ (.inr z) ((hr y).mpr hy);rw[n1,n2] at c0;have hlen:fs.length=rs.length:=by have:=r.cnt;lia
 have LN:(fs.map g).Nodup:=by
  have p:=r.SV.1;rw[List.pairwise_map] at p;refine List.pairwise_map.mpr (List.Pairwise.imp_of_mem (fun{a c} ha hc h e=>?_) p);have i1:=((hg a ha).2.st (one a ha).1).2;have i2:=((hg c hc).2.st (one c hc).1).1;have h':Re.q a.hi<=Re.q c.lo:=Re.bY.mpr h;rw[e] at i1;grind
 obtain⟨f,hf,e⟩:=List.mem_map.mp (oC LN (fun y hy=>by
  obtain⟨f,hf,rfl⟩:=List.mem_map.mp hy
  exact(hg f hf).1) (by rw[List.length_map];lia) x hx);rw[<-e];exact⟨f,hf,(hg f hf).2.st (one f hf).1⟩
end dA
namespace dA
open PySem PyProof.Rows L2 SF SF.Po
noncomputable def vl(t u:Int):Rat:=(t:Rat)/(u:Rat)
theorem nc{t u t' u':Int}(hu:0<u)(eD:0<u')(h:vl t u=vl t' u')(xs:List Int):sg (hv t u xs)=sg (hv t' u' xs):=by
 have h':(t:Rat)/(u:Rat)=(t':Rat)/(u':Rat):=h;rw[fA hu,fA eD,h']
theorem fU{t u t' u':Int}(hu:0<u)(eD:0<u'):vl t u<=vl t' u'↔t*u'<=t'*u:=KP hu eD
theorem ng{t u t' u':Int}(hu:0<u)(eD:0<u'):vl t u=vl t' u'↔t*u'=t'*u:=by
 have h1:=fU (t:=t) (t':=t') hu eD;have h2:=fU (t:=t') (t':=t) eD hu;constructor
 ·intro h;have:=h1.mp (by rw[h];grind);have:=h2.mp (by rw[h];grind);lia
 ·intro h;have:=h1.mpr (by lia);have:=h2.mpr (by lia);grind
theorem pL{t u t' u':Int}(hu:0<u)(eD:0<u'):vl t u<vl t' u'↔t*u'<t'*u:=by
 have h2:=fU (t:=t') (t':=t) eD hu;constructor
 ·intro h;rcases Int.lt_or_le (t*u') (t'*u) with z|z
  ·exact z
  ·have:=h2.mpr z;grind
 ·intro h;by_cases z:vl t' u'<=vl t u
  ·have:=h2.mp z;lia
  ·grind
theorem gJ{t u c:Int}(hu:0<u)(hc:0<c):vl (t*c) (u*c)=vl t u:=(ng (Int.mul_pos hu hc) hu).mpr (by grind)
noncomputable def B4(xs:List Int)(s0 u parts near pK:Int):Option (Int×Int):=
 if hv near (u*parts) xs=0 then some (near,near) else if hv pK (u*parts) xs=0 then some (pK,pK)
 else if sg (hv near (u*parts) xs)=sg (hv s0 u xs)/\sg (hv pK (u*parts) xs)≠sg (hv s0 u xs) then some (near,pK) else none
structure Gd(xs:List Int)(lo hi:Rat)(D s0 s1 u:Int):Prop where
 pos:0<u
 lo:lo<=vl s0 u
 hi:vl s1 u<=hi
 alt:(s1-s0=D/\0<D/\sg (hv s0 u xs)*sg (hv s1 u xs)=-1)\/(s0=s1/\hv s0 u xs=0)
theorem tJ(x:Int):sg x=0\/sg x=1\/sg x=-1:=by
 unfold sg;split
 ·exact .inr (.inr rfl)
 ·split
  ·exact .inr (.inl rfl)
  ·exact .inl rfl
theorem tK{x:Int}:sg x=0↔x=0:=by
 have:=pG (x:=x);constructor
 ·intro h;exact Classical.byContradiction fun z=>this.mpr z h
 ·intro h;exact Classical.byContradiction fun z=>this.mp z h
theorem Gd.part{xs:List Int}{lo hi:Rat}{D s0 s1 u:Int}(h:Gd xs lo hi D s0 s1 u)(hD:s1-s0=D/\0<D/\sg (hv s0 u xs)*sg (hv s1 u xs)=-1){parts j:Int}(hp:0<parts)(j0:0<=j)(j1:j<parts){l r:Int}(e:B4 xs s0 u parts (s0*parts+D*j) (s0*parts+D*j+D)=some (l,r)):Gd xs lo hi D l r (u*parts)/\(r-l=D\/l=r):=by
 obtain⟨d1,d2,d3⟩:=hD;have qi:=Int.mul_pos h.pos hp;have hDj:=Int.mul_nonneg (Int.le_of_lt d2) j0;have hDp:D*j+D<=D*parts:=by
  have:=Int.mul_le_mul_of_nonneg_left (show j+1<=parts by lia) (Int.le_of_lt d2);rw[Int.mul_add,Int.mul_one] at this;exact this
 have es1:s1*parts=s0*parts+D*parts:=by rw[<-d1];grind
 have Co:∀z:Int,s0*parts<=z->lo<=vl z (u*parts):=fun z hz=>by
  have:=h.lo;rw[<-gJ (t:=s0) h.pos hp] at this;have g:=(fU (t:=s0*parts) (t':=z) qi qi).mpr (Int.mul_le_mul_of_nonneg_right hz (Int.le_of_lt qi));grind
 have Bb:∀z:Int,z<=s1*parts->vl z (u*parts)<=hi:=fun z hz=>by
  have:=h.hi;rw[<-gJ (t:=s1) h.pos hp] at this;have g:=(fU (t:=z) (t':=s1*parts) qi qi).mpr (Int.mul_le_mul_of_nonneg_right hz (Int.le_of_lt qi));grind
 unfold B4 at e;split at e
 ·rename_i c;obtain⟨rfl,rfl⟩:=Prod.mk.inj (Option.some.inj e);exact⟨⟨qi,Co _ (by lia),Bb _ (by lia),.inr ⟨rfl,c⟩⟩,.inr rfl⟩
 ·split at e
  ·rename_i c0 c;obtain⟨rfl,rfl⟩:=Prod.mk.inj (Option.some.inj e);exact⟨⟨qi,Co _ (by lia),Bb _ (by lia),.inr ⟨rfl,c⟩⟩,.inr rfl⟩
  ·split at e
   ·rename_i c0 c1 c;obtain⟨rfl,rfl⟩:=Prod.mk.inj (Option.some.inj e);refine⟨⟨qi,Co _ (by lia),Bb _ (by lia),.inl ⟨by lia,d2,?_⟩⟩,.inl (by lia)⟩;have g1:=pG.mpr c0;have g2:=pG.mpr c1;have g3:=tJ (hv (s0*parts+D*j) (u*parts) xs);have g4:=tJ (hv (s0*parts+D*j+D) (u*parts) xs);obtain⟨c2,c3⟩:=c;rw[<-c2] at c3;generalize sg (hv (s0*parts+D*j) (u*parts) xs)=A at*;generalize sg (hv (s0*parts+D*j+D) (u*parts) xs)=B at*;rcases g3 with z|z|z<;>rcases g4 with y|y|y<;>subst z<;>subst y<;>first|rfl|(exfalso;lia)
   ·cases e
theorem Gd.upper{xs:List Int}{lo hi:Rat}{D s0 s1 u:Int}(h:Gd xs lo hi D s0 s1 u)(hD:s1-s0=D/\0<D/\sg (hv s0 u xs)*sg (hv s1 u xs)=-1)(e:B4 xs s0 u 2 (2*s0) (s0+s1)=none):Gd xs lo hi D (s0+s1) (2*s1) (2*u):=by
 obtain⟨d1,d2,d3⟩:=hD;have hu:=h.pos;have qi:0<u*2:=by lia
 have e2:2*u=u*2:=by lia
 have v1:vl (2*s0) (u*2)=vl s0 u:=by rw[Int.mul_comm 2 s0];exact gJ hu (by decide)
 have v2:vl (2*s1) (u*2)=vl s1 u:=by rw[Int.mul_comm 2 s1];exact gJ hu (by decide)
 have g1:=nc qi hu v1 xs;have g2:=nc qi hu v2 xs;rw[e2];unfold B4 at e;split at e
 ·cases e
 ·split at e
  ·cases e
  ·split at e
   ·cases e
   ·rename_i c0 c1 c;refine⟨qi,?_,by rw[v2];exact h.hi,.inl ⟨by lia,d2,?_⟩⟩
    ·have:=h.lo;rw[<-v1] at this;have g:=(fU (t:=2*s0) (t':=s0+s1) qi qi).mpr (Int.mul_le_mul_of_nonneg_right (by lia) (Int.le_of_lt qi));grind
    ·have c3:sg (hv (s0+s1) (u*2) xs)=sg (hv s0 u xs):=Classical.byContradiction fun z=>c ⟨g1,z⟩;rw[c3,g2];exact d3
noncomputable def wo(w0 w1 s0 s1 u:Int):Int:=((s1-s0)*w1+w0*u-1).fdiv (w0*u)
theorem pM{w0 w1 s0 s1 u:Int}(hw:0<w0)(hu:0<u):(wo w0 w1 s0 s1 u-1)*(w0*u)<(s1-s0)*w1/\(s1-s0)*w1<=wo w0 w1 s0 s1 u*(w0*u):=by
 have hr:=Int.mul_pos hw hu;unfold wo;generalize w0*u=r at hr ⊢;generalize (s1-s0)*w1=x;rw[Int.fdiv_eq_ediv_of_nonneg _ (Int.le_of_lt hr)];have h1:=Int.mul_ediv_add_emod (x+r-1) r;have h2:=Int.emod_nonneg (x+r-1) (Int.ne_of_gt hr);have h3:=Int.emod_lt_of_pos (x+r-1) hr;generalize (x+r-1)/r=y at*;generalize (x+r-1)%r=z at*;have e:(y-1)*r=r*y-r:=by grind
 have e2:y*r=r*y:=by grind
 rw[e,e2];constructor<;>lia
theorem Ah{w0 w1 D u p nd we:Int}(hw:0<w0)(hu:0<u)(hp:2<=p)(h2:D*w1<=nd*(w0*u))(hn:2<=nd)(h1:(we-1)*(w0*(u*p))<D*w1):we<nd/\(nd<=p->we<=1):=by
 have hr:=Int.mul_pos hw hu;have e:(we-1)*(w0*(u*p))=(we-1)*p*(w0*u):=by grind
 rw[e] at h1;have h3:(we-1)*p*(w0*u)<nd*(w0*u):=by lia
 have h4:(we-1)*p<nd:=Int.lt_of_mul_lt_mul_right h3 (Int.le_of_lt hr);constructor
 ·rcases Int.lt_or_le we nd with z|z
  ·exact z
  ·exfalso;have:(nd-1)*2<=(we-1)*p:=by
    have a1:=Int.mul_le_mul_of_nonneg_right (show nd-1<=we-1 by lia) (show(0:Int)<=2 by decide);have a2:=Int.mul_le_mul_of_nonneg_left hp (show 0<=we-1 by lia);lia
   lia
 ·intro hle;rcases Int.lt_or_le 1 we with z|z
  ·exfalso;have:=Int.mul_le_mul_of_nonneg_right (show(1:Int)<=we-1 by lia) (show 0<=p by lia);lia
  ·exact z
theorem DZ{w0 w1 D u nd p:Int}(hw:0<w0)(hu:0<u)(h1:(nd-1)*(w0*u)<D*w1)(hn:2<=nd)(hp:0<p)(yc:p<=nd):u*p<=2*(D*w1):=by
 have hr:=Int.mul_pos hw hu;have h2:u<=w0*u:=by
  have:=Int.mul_le_mul_of_nonneg_right (show(1:Int)<=w0 by lia) (Int.le_of_lt hu);lia
 have h3:u*p<=u*nd:=Int.mul_le_mul_of_nonneg_left yc (Int.le_of_lt hu);have h4:u*nd<=u*(2*(nd-1)):=Int.mul_le_mul_of_nonneg_left (by lia) (Int.le_of_lt hu);have h5:u*(nd-1)<=w0*u*(nd-1):=Int.mul_le_mul_of_nonneg_right h2 (by lia);have e1:u*(2*(nd-1))=2*(u*(nd-1)):=by grind
 have e2:(nd-1)*(w0*u)=w0*u*(nd-1):=by grind
 lia
theorem Gd.bits{xs:List Int}{lo hi:Rat}{D s0 s1 u:Int}(h:Gd xs lo hi D s0 s1 u){n k:Nat}(Co:-(2^n)<=lo)(Bb:hi<=2^n)(bu:Bd k u):Bd (n+k+1) s0/\Bd (n+k+1) s1:=by
 have hu:=h.pos;have hle:s0<=s1:=by
  rcases h.alt with z|z
  ·lia
  ·lia
 have e1:(vl (-(2^n)) 1)=-(2^n):=by
  unfold vl;rw[Rat.intCast_neg,Rat.intCast_pow];show -(2^n)/(1:Rat)=_;grind
 have e2:(vl (2^n) 1)=2^n:=by
  unfold vl;rw[Rat.intCast_pow];show(2^n)/(1:Rat)=_;grind
 have a1:vl (-(2^n)) 1<=vl s0 u:=by rw[e1];have:=h.lo;grind
 have a2:vl s1 u<=vl (2^n) 1:=by rw[e2];have:=h.hi;grind
 have b1:=(fU (by decide) hu).mp a1;have b2:=(fU hu (by decide)).mp a2;have bz:Bd (n+1) ((2:Int)^n):=by
  unfold Bd;rw[Int.natAbs_pow];exact Nat.pow_lt_pow_right (by decide) (by lia)
 have bp:=bz.mul bu;unfold Bd at*;have e3:n+1+k=n+k+1:=by lia
 rw[e3] at bp;have e4:-(2:Int)^n*u=-(2^n*u):=by grind
 rw[e4] at b1;constructor<;>lia
end dA
namespace dA
open PySem PyProof.Rows L2 SF SF.Po
noncomputable def Td(H:Hp)(Q:VK)(under:Int):Option (Int×Int)->Prop
 |none=>Q .fB H
 |some (l,h)=>∀p,H p=none->Q (.ref p) (upd H p (.tup [.int l,.int h,.int under]))
noncomputable def II:Sp:=fun vs H Q _=>∃(p g h:Addr)(t u t' u':Int)(n:Nat),vs=[.ref p]/\H p=some (.tup [.ref g,.ref h])/\H g=some (.tup [.int t,.int u])/\H h=some (.tup [.int t',.int u'])/\(Bd n t/\Bd n u/\Bd n t'/\Bd n u'/\n<=4000000)/\
 ∀s,H s=none->Q (.ref s) (upd H s (.tup [.int (t*u'),.int (t'*u),.int (u*u')]))
noncomputable def D0:Sp:=fun vs H Q _=>∃(s g:Addr)(s0 s1 u w0 w1:Int)(n:Nat),vs=[.ref s,.ref g]/\H s=some (.tup [.int s0,.int s1,.int u])/\H g=some (.tup [.int w0,.int w1])/\(Bd n s0/\Bd n s1/\Bd n u/\Bd n w0/\Bd n w1/\n<=4000000/\0<u/\0<w0)/\Q (.int (wo w0 w1 s0 s1 u)) H
noncomputable def yj:Sp:=fun vs H Q _=>∃(a s:Addr)(xs:List Int)(s0 s1 u parts near pK:Int)(n:Nat),vs=[.ref a,.ref s,.int parts,.int near,.int pK]/\IL H a xs/\H s=some (.tup [.int s0,.int s1,.int u])/\
 (xs.length<=13/\Ab 100 xs/\Bd n s0/\Bd n u/\Bd n (u*parts)/\Bd n parts/\Bd n near/\Bd n pK/\n<=4000000)/\Td H Q (u*parts) (B4 xs s0 u parts near pK)
noncomputable def gj(xs:List Int)(s0 s1 u parts:Int):Int:=(parts*ab (hv s0 u xs)).fdiv (ab (hv s0 u xs)+ab (hv s1 u xs))
noncomputable def Ai:Sp:=fun vs H Q _=>∃(a s:Addr)(xs:List Int)(s0 s1 u parts:Int)(n:Nat),vs=[.ref a,.ref s,.int parts]/\IL H a xs/\H s=some (.tup [.int s0,.int s1,.int u])/\
 (xs.length<=13/\Ab 100 xs/\Bd n s0/\Bd n s1/\Bd n u/\Bd n (u*parts)/\Bd n parts/\n<=1900000)/\(hv s0 u xs≠0/\hv s1 u xs≠0/\0<parts)/\
 (Bd (n+n+4) (s0*parts+(s1-s0)*gj xs s0 s1 u parts)->Td H Q (u*parts) (B4 xs s0 u parts (s0*parts+(s1-s0)*gj xs s0 s1 u parts) (s0*parts+(s1-s0)*gj xs s0 s1 u parts+(s1-s0))))
noncomputable def D4:Sp:=fun vs H Q _=>∃(a s:Addr)(xs:List Int)(s0 s1 u:Int)(n:Nat),vs=[.ref a,.ref s]/\IL H a xs/\H s=some (.tup [.int s0,.int s1,.int u])/\
 (xs.length<=13/\Ab 100 xs/\Bd n s0/\Bd n s1/\Bd n u/\n<=1900000)/\
 ∀(l h un:Int)(p:Addr)(H':Hp),(B4 xs s0 u 2 (2*s0) (s0+s1)=some (l,h)/\un=u*2)\/(B4 xs s0 u 2 (2*s0) (s0+s1)=none/\l=s0+s1/\h=2*s1/\un=2*u)->au H H'->H' p=some (.tup [.int l,.int h,.int un])->Q (.ref p) H'
theorem IJ{xs:List Int}{s0 s1 u parts:Int}(h0:hv s0 u xs≠0)(h1:hv s1 u xs≠0)(hp:0<parts):0<=gj xs s0 s1 u parts/\gj xs s0 s1 u parts<parts:=by
 have a0:=fW h0;have a1:=fW h1;unfold gj;generalize ab (hv s0 u xs)=x at*;generalize ab (hv s1 u xs)=y at*;rw[Int.fdiv_eq_ediv_of_nonneg _ (by lia)];constructor
 ·exact Int.ediv_nonneg (Int.mul_nonneg (by lia) (by lia)) (by lia)
 ·refine Int.ediv_lt_of_lt_mul (by lia) ?_;rw[Int.mul_add];have:=Int.mul_pos hp a1;lia
section
variable {P:Program} {w:World} {K:PySem.W.Frag} {mg:Str->Option Value} {base:Heap}
theorem qu(D:aS K mg "stretch_of" i_ ["pair"]):bI P w K mg base 1 "stretch_of" ["pair"] II:=by
 refine D.ok h_ (fun vs H Q E h=>?_) (fun f cQ A outer s H vs Q E hr h=>?_)
 ·obtain⟨p,g,h,t,u,t',u',n,rfl,_⟩:=h;rfl
 obtain⟨p,g,h,t,u,t',u',n,rfl,hp,hg,hh,⟨b1,b2,b3,b4,hn⟩,q⟩:=h;have iI:jj=60000000:=rfl;refine⟨_,(ae (aj (i:=1) h_.nd rfl (Or.inl rfl) (ax ay (pv 0) af (fun _ _=>rfl)))
  (ae (aj (i:=2) h_.nd rfl (Or.inl rfl) (ax ay (pv 0) af (fun _ _=>rfl)))
  (ah (aE (dm (aa (ai aq (ax ay (pv 1) af (fun _ _=>rfl)) (ax ay (pv 2) af (fun _ _=>rfl))) (aa (ai aq (ax ay (pv 2) af (fun _ _=>rfl)) (ax ay (pv 1) af (fun _ _=>rfl))) (aa (ai aq (ax ay (pv 1) af (fun _ _=>rfl)) (ax ay (pv 2) af (fun _ _=>rfl))) ag)))))))),?_⟩;walk_at "sf";refine aL (cj.of hp) rfl ?_;walk_at "sf";refine aL (cj.of hp) rfl ?_;walk_at "sf";refine aL (cj.of hg) rfl ?_;walk_at "sf";refine aL (cj.of hh) rfl ?_;refine bP (aJ b1 b4 (by lia)) ?_;walk_at "sf";refine aL (cj.of hh) rfl ?_;walk_at "sf";refine aL (cj.of hg) rfl ?_;refine bP (aJ b3 b2 (by lia)) ?_;walk_at "sf";refine aL (cj.of hg) rfl ?_;walk_at "sf";refine aL (cj.of hh) rfl ?_;refine bP (aJ b2 b4 (by lia)) ?_;walk_at "sf";exact q
theorem ny(hT:P.given.tree=none)(D:aS K mg "parts_needed" gD ["stretch","width"]):bI P w K mg base 33 "parts_needed" ["stretch","width"] D0:=by
 refine D.ok jg (fun vs H Q E h=>?_) (fun f cQ A outer s H vs Q E hr h=>?_)
 ·obtain⟨s,g,s0,s1,u,w0,w1,n,rfl,_⟩:=h;rfl
 obtain⟨s,g,s0,s1,u,w0,w1,n,rfl,hs,hg,⟨b1,b2,b3,b4,b5,hn,hu,hw⟩,q⟩:=h;have iI:jj=60000000:=rfl;refine⟨_,(ae (aj (i:=2) jg.nd rfl (Or.inl rfl) (ai aq (ax ay (pv 1) af (fun _ _=>rfl)) (ax ay (pv 0) af (fun _ _=>rfl))))
  (ah (aE (ai (eJ ⟨hT,⟨_,_,rfl,rfl,rfl,rfl,rfl⟩,hr.py⟩) (ai bM (ai bL (ai aq (ai bM (ax ay (pv 0) af (fun _ _=>rfl)) (ax ay (pv 0) af (fun _ _=>rfl))) (ax ay (pv 1) af (fun _ _=>rfl))) (pv 2)) af) (pv 2))))),?_⟩;walk_at "sf";refine aL (cj.of hg) rfl ?_;walk_at "sf";refine aL (cj.of hs) rfl ?_;refine bP (aJ b4 b3 (by lia)) ?_;walk_at "sf";refine aL (cj.of hs) rfl ?_;walk_at "sf";refine aL (cj.of hs) rfl ?_;walk_at "sf";refine aL (cj.of hg) rfl ?_;refine bP (aJ (b2.sub b1) b5 (by lia)) ?_;walk_at "sf";refine bP (Int.ne_of_gt (Int.mul_pos hw hu)) ?_;walk_at "sf";exact q
theorem nC(gH:bI P w K mg base 1 "sign" ["number"] mM)(dC:bI P w K mg base 1 "height_at" ["poly","top","under"] lJ)(D:aS K mg "part_between" gE ["free","stretch","parts","near","far"]):bI P w K mg base 2 "part_between" ["free","stretch","parts","near","far"] yj:=by
 refine D.ok dJ (fun vs H Q E h=>?_) (fun f cQ A outer s H vs Q E hr h=>?_)
 ·obtain⟨a,s,xs,s0,s1,u,parts,near,pK,n,rfl,_⟩:=h;rfl
 obtain⟨a,s,xs,s0,s1,u,parts,near,pK,n,rfl,ha,hs,⟨hx,bx,b1,b2,b3,b4,b5,b6,hn⟩,q⟩:=h;have iI:jj=60000000:=rfl;refine⟨_,(ae (aj (i:=5) dJ.nd rfl (Or.inl rfl) (ai aq (ax ay (pv 1) af (fun _ _=>rfl)) (pv 2)))
  (ae (aj (i:=6) dJ.nd rfl (Or.inl rfl) (aw gH hr (aa (aw dC hr (aa (pv 0) (aa (ax ay (pv 1) af (fun _ _=>rfl)) (aa (ax ay (pv 1) af (fun _ _=>rfl)) ag)))) ag)))
  (ae (aj (i:=7) dJ.nd rfl (Or.inl rfl) (aw gH hr (aa (aw dC hr (aa (pv 0) (aa (pv 3) (aa (pv 5) ag)))) ag)))
  (ae (ck (aG d_ (pv 7) af (aD _))
  (ah (aE (dm (aa (pv 3) (aa (pv 3) (aa (pv 5) ag))))))
  aX)
  (ae (aj (i:=8) dJ.nd rfl (Or.inl rfl) (aw gH hr (aa (aw dC hr (aa (pv 0) (aa (pv 4) (aa (pv 5) ag)))) ag)))
  (ae (ck (aG d_ (pv 8) af (aD _))
  (ah (aE (dm (aa (pv 4) (aa (pv 4) (aa (pv 5) ag))))))
  aX)
  (ah (aE (eI (PW.pt (lW (aG d_ (pv 7) (pv 6) (aD _)) (jO (aG jn (pv 8) (pv 6) (aD _))))) (dm (aa (pv 3) (aa (pv 4) (aa (pv 5) ag)))) gp))))))))),?_⟩;walk_at "sf";refine aL (cj.of hs) rfl ?_;walk_at "sf";refine bP (aJ b2 b4 (by lia)) ?_;walk_at "sf";refine aL (cj.of hs) rfl ?_;walk_at "sf";refine aL (cj.of hs) rfl ?_;walk_at "sf";refine⟨a,xs,s0,u,100,n,rfl,ha,⟨by lia,bx,b1,b2,by lia⟩,?_⟩;walk_at "sf";refine⟨_,rfl,?_⟩;walk_at "sf";refine⟨a,xs,near,u*parts,100,n,rfl,ha,⟨by lia,bx,b5,b3,by lia⟩,?_⟩;walk_at "sf";refine⟨_,rfl,?_⟩;walk_at "sf";unfold B4 at q;refine cZ (fun c=>?_) (fun c=>?_)
 ·have h1:hv near (u*parts) xs=0:=tK.mp (by simpa using c);rw[if_pos h1] at q;walk_at "sf";exact q
 ·have h1:¬hv near (u*parts) xs=0:=fun z=>by
   have:¬sg (hv near (u*parts) xs)=0:=by simpa using c
   exact this (tK.mpr z)
  rw[if_neg h1] at q;walk_at "sf";refine⟨a,xs,pK,u*parts,100,n,rfl,ha,⟨by lia,bx,b6,b3,by lia⟩,?_⟩;walk_at "sf";refine⟨_,rfl,?_⟩;walk_at "sf";refine cZ (fun c=>?_) (fun c=>?_)
  ·have h2:hv pK (u*parts) xs=0:=tK.mp (by simpa using c);rw[if_pos h2] at q;walk_at "sf";exact q
  ·have h2:¬hv pK (u*parts) xs=0:=fun z=>by
    have:¬sg (hv pK (u*parts) xs)=0:=by simpa using c
    exact this (tK.mpr z)
   rw[if_neg h2] at q;walk_at "sf";refine cZ (fun c1=>?_) (fun c1=>?_)
   ·have h3:sg (hv near (u*parts) xs)=sg (hv s0 u xs):=by simpa using c1
    walk_at "sf";refine cZ (fun c2=>?_) (fun c2=>?_)
    ·have h4:sg (hv pK (u*parts) xs)≠sg (hv s0 u xs):=by simpa using c2
     rw[if_pos ⟨h3,h4⟩] at q;walk_at "sf";exact q
    ·have h4:sg (hv pK (u*parts) xs)=sg (hv s0 u xs):=by simpa using c2
     rw[if_neg (fun z=>z.2 h4)] at q;walk_at "sf";exact q
   ·have h3:¬sg (hv near (u*parts) xs)=sg (hv s0 u xs):=by simpa using c1
    rw[if_neg (fun z=>h3 z.1)] at q;walk_at "sf";exact q
theorem yk(T:Nm mg)(hT:P.given.tree=none)(dC:bI P w K mg base 33 "height_at" ["poly","top","under"] lJ)(gK:bI P w K mg base 33 "part_between" ["free","stretch","parts","near","far"] yj)(D:aS K mg "guessed" mI ["free","stretch","parts"]):bI P w K mg base 34 "guessed" ["free","stretch","parts"] Ai:=by
 refine D.ok fH (fun vs H Q E h=>?_) (fun f cQ A outer s H vs Q E hr h=>?_)
 ·obtain⟨a,s,xs,s0,s1,u,parts,n,rfl,_⟩:=h;rfl
 obtain⟨a,s,xs,s0,s1,u,parts,n,rfl,ha,hs,⟨hx,bx,b1,b2,b3,b4,b5,hn⟩,⟨J',VM,hp⟩,q⟩:=h;have iI:jj=60000000:=rfl;have Te:=IJ J' VM hp;have EZ:∀x:Int,(if x<0 then -x else x)=ab x:=fun x=>by unfold ab;split<;>lia
 have YK:∀{k:Nat}{x:Int},Bd k x->Bd k (ab x):=fun{k x} h=>by
  unfold Bd at*;unfold ab;lia
 have YL:Bd (100+(n+1)*13+1) (hv s0 u xs):=by
  have:=(x9 b1 b3 bx (j:=xs.length) (Nat.le_refl _)).1;rw[ou] at this;exact this.mono (by have:=Nat.mul_le_mul_left (n+1) hx;lia)
 have X6:Bd (100+(n+1)*13+1) (hv s1 u xs):=by
  have:=(x9 b2 b3 bx (j:=xs.length) (Nat.le_refl _)).1;rw[ou] at this;exact this.mono (by have:=Nat.mul_le_mul_left (n+1) hx;lia)
 have bg:Bd n (gj xs s0 s1 u parts):=by
  unfold Bd at*;lia
 have D5:Bd (n+n+3) (s0*parts+(s1-s0)*gj xs s0 s1 u parts):=(((b1.mul b5).mono (n:=n+n+2) (by lia)).add (((b2.sub b1).mul bg).mono (n:=n+n+2) (by lia))).mono (by lia);refine⟨_,(ae (aj (i:=3) fH.nd rfl (Or.inl rfl) (ai bM (ax ay (pv 1) af (fun _ _=>rfl)) (ax ay (pv 1) af (fun _ _=>rfl))))
  (ae (aj (i:=4) fH.nd rfl (Or.inl rfl) (aK cm rfl T.fz boot_abs (aa (aw dC hr (aa (pv 0) (aa (ax ay (pv 1) af (fun _ _=>rfl)) (aa (ax ay (pv 1) af (fun _ _=>rfl)) ag)))) ag)))
  (ae (aj (i:=5) fH.nd rfl (Or.inl rfl) (aK cm rfl T.fz boot_abs (aa (aw dC hr (aa (pv 0) (aa (ax ay (pv 1) af (fun _ _=>rfl)) (aa (ax ay (pv 1) af (fun _ _=>rfl)) ag)))) ag)))
  (ae (aj (i:=6) fH.nd rfl (Or.inl rfl) (ai (eJ ⟨hT,⟨_,_,rfl,rfl,rfl,rfl,rfl⟩,hr.py⟩) (ai aq (pv 2) (pv 4)) (ai bL (pv 4) (pv 5))))
  (ae (aj (i:=7) fH.nd rfl (Or.inl rfl) (ai bL (ai aq (ax ay (pv 1) af (fun _ _=>rfl)) (pv 2)) (ai aq (pv 3) (pv 6))))
  (ah (aE (aw gK hr (aa (pv 0) (aa (pv 1) (aa (pv 2) (aa (pv 7) (aa (ai bL (pv 7) (pv 3)) ag))))))))))))),?_⟩;walk_at "sf";refine aL (cj.of hs) rfl ?_;walk_at "sf";refine aL (cj.of hs) rfl ?_;walk_at "sf";refine aL (cj.of hs) rfl ?_;walk_at "sf";refine aL (cj.of hs) rfl ?_;walk_at "sf";refine⟨a,xs,s0,u,100,n,rfl,ha,⟨by lia,bx,b1,b3,by lia⟩,?_⟩;walk_at "sf";refine⟨_,rfl,?_⟩;walk_at "sf";refine aL (cj.of hs) rfl ?_;walk_at "sf";refine aL (cj.of hs) rfl ?_;walk_at "sf";refine⟨a,xs,s1,u,100,n,rfl,ha,⟨by lia,bx,b2,b3,by lia⟩,?_⟩;walk_at "sf";refine⟨_,rfl,?_⟩;rw[EZ,EZ];walk_at "sf";refine bP (aJ b5 (YK YL) (by lia)) ?_;walk_at "sf";have a0:=fW J';have a1:=fW VM;refine bP (by lia) ?_;walk_at "sf";have YM:(parts*ab (hv s0 u xs)).fdiv (ab (hv s0 u xs)+ab (hv s1 u xs))=gj xs s0 s1 u parts:=rfl;rw[YM];refine aL (cj.of hs) rfl ?_;walk_at "sf";refine bP (aJ b1 b5 (by lia)) ?_;walk_at "sf";refine bP (aJ (b2.sub b1) bg (by lia)) ?_;walk_at "sf";refine⟨a,s,xs,s0,s1,u,parts,_,_,n+n+4,rfl,ha,hs,⟨hx,bx,b1.mono (by lia),b3.mono (by lia),b4.mono (by lia),b5.mono (by lia),D5.mono (by lia),(D5.add ((b2.sub b1).mono (by lia))).mono (by lia),by lia⟩,?_⟩;exact q (D5.mono (by lia))
theorem BA(gK:bI P w K mg base 33 "part_between" ["free","stretch","parts","near","far"] yj)(D:aS K mg "halved" pe ["free","stretch"]):bI P w K mg base 34 "halved" ["free","stretch"] D4:=by
 refine D.ok mJ (fun vs H Q E h=>?_) (fun f cQ A outer s H vs Q E hr h=>?_)
 ·obtain⟨a,s,xs,s0,s1,u,n,rfl,_⟩:=h;rfl
 obtain⟨a,s,xs,s0,s1,u,n,rfl,ha,hs,⟨hx,bx,b1,b2,b3,hn⟩,q⟩:=h;have iI:jj=60000000:=rfl;have b22:Bd 3 (2:Int):=Bd.of_two (by decide) (by decide);refine⟨_,(ae (aj (i:=2) mJ.nd rfl (Or.inl rfl) (ai bL (ax ay (pv 1) af (fun _ _=>rfl)) (ax ay (pv 1) af (fun _ _=>rfl))))
  (ae (aj (i:=3) mJ.nd rfl (Or.inl rfl) (aw gK hr (aa (pv 0) (aa (pv 1) (aa af (aa (ai aq af (ax ay (pv 1) af (fun _ _=>rfl))) (aa (pv 2) ag)))))))
  (ah (aE (eI (aG wH (pv 3) gp (aD _)) (dm (aa (pv 2) (aa (ai aq af (ax ay (pv 1) af (fun _ _=>rfl))) (aa (ai aq af (ax ay (pv 1) af (fun _ _=>rfl))) ag)))) (pv 3)))))),?_⟩;walk_at "sf";refine aL (cj.of hs) rfl ?_;walk_at "sf";refine aL (cj.of hs) rfl ?_;walk_at "sf";refine aL (cj.of hs) rfl ?_;refine bP (aJ b22 b1 (by lia)) ?_;walk_at "sf";refine⟨a,s,xs,s0,s1,u,2,2*s0,s0+s1,n+4,rfl,ha,hs,⟨hx,bx,b1.mono (by lia),b3.mono (by lia),(b3.mul b22).mono (by lia),b22.mono (by lia),(b22.mul b1).mono (by lia),(b1.add b2).mono (by lia),by lia⟩,?_⟩;cases e:B4 xs s0 u 2 (2*s0) (s0+s1) with
 |none=>
  show _;walk_at "sf";refine⟨_,rfl,?_⟩;refine(show _/\_ from⟨rfl,?_⟩);refine⟨_,rfl,?_⟩;show(if decide (V.fB=V.fB)=true then _ else _);rw[if_pos (by decide)];walk_at "sf";refine aL (cj.of hs) rfl ?_;refine bP (aJ b22 b2 (by lia)) ?_;walk_at "sf";refine aL (cj.of hs) rfl ?_;refine bP (aJ b22 b3 (by lia)) ?_;walk_at "sf";intro p hp;exact q _ _ _ p _ (.inr ⟨e,rfl,rfl,rfl⟩) (au.new hp _) ak
 |some r=>
  obtain⟨l,h⟩:=r;intro p hp;have sp:=au.new hp (.tup [.int l,.int h,.int (u*2)]);have mZ:upd H p (.tup [.int l,.int h,.int (u*2)]) p=some (.tup [.int l,.int h,.int (u*2)]):=ak;generalize upd H p (.tup [.int l,.int h,.int (u*2)])=H1 at sp mZ ⊢;walk_at "sf";refine(show _/\_ from⟨rfl,?_⟩);refine⟨_,rfl,?_⟩;show(if decide (V.ref p=V.fB)=true then _ else _);rw[if_neg (by simp)];walk_at "sf";exact q l h (u*2) p H1 (.inl ⟨e,rfl⟩) sp mZ
end
end dA
namespace dA
open PySem PyProof.Rows L2 SF SF.Po
noncomputable def D6(xs:List Int)(t u t' u':Int):Prop:=(vl t u<vl t' u'/\sg (hv t u xs)*sg (hv t' u' xs)=-1)\/(vl t u=vl t' u'/\hv t u xs=0)
structure Nw(xs:List Int)(t u t' u' w0 w1 c d c' d':Int)(k:Nat):Prop where
 lo:vl t u<=vl c d
 hi:vl c' d'<=vl t' u'
 wd:vl c' d'-vl c d<=vl w0 w1
 Aj:D6 xs c d c' d'
 b1:Bd k c
 b2:Bd k d
 b3:Bd k c'
 b4:Bd k d'
noncomputable def vK(Pre:List Int->Prop)(F:List Int->List Int):Sp:=fun vs H Q _=>∃(a pr g h wd:Addr)(xs:List Int)(t u t' u' w0 w1:Int)(n:Nat),vs=[.ref a,.ref pr,.ref wd]/\IL H a xs/\H pr=some (.tup [.ref g,.ref h])/\H g=some (.tup [.int t,.int u])/\H h=some (.tup [.int t',.int u'])/\H wd=some (.tup [.int w0,.int w1])/\
 Pre xs/\((F xs).length<=13/\Ab 100 (F xs))/\(Bd n t/\Bd n u/\Bd n t'/\Bd n u'/\n<=20000/\Bd 1000 w0/\Bd 1000 w1/\0<u/\0<u'/\0<w0/\0<w1)/\D6 (F xs) t u t' u'/\
 ∀(p g h:Addr)(c d c' d':Int)(H':Hp),au H H'->H' p=some (.tup [.ref g,.ref h])->Rt H' g c d->Rt H' h c' d'->Nw (F xs) t u t' u' w0 w1 c d c' d' (3*n+1020)->Q (.ref p) H'
noncomputable def mP:Sp:=fun vs H Q _=>∃(a pr g h wd:Addr)(xs:List Int)(t u t' u' w0 w1:Int)(n k b:Nat),vs=[.ref a,.ref pr,.ref wd]/\IL H a xs/\H pr=some (.tup [.ref g,.ref h])/\H g=some (.tup [.int t,.int u])/\H h=some (.tup [.int t',.int u'])/\H wd=some (.tup [.int w0,.int w1])/\
 (xs.length<=13/\Ab 100 xs)/\(Bd n t/\Bd n u/\Bd n t'/\Bd n u'/\n<=330000/\k<=20000/\b<=1000/\Bd b w0/\Bd b w1/\0<u/\0<u'/\0<w0/\0<w1)/\(-(2^k)<=vl t u/\vl t' u'<=2^k)/\D6 xs t u t' u'/\
 ∀(p g h:Addr)(c d c' d':Int)(H':Hp),au H H'->H' p=some (.tup [.ref g,.ref h])->Rt H' g c d->Rt H' h c' d'->Nw xs t u t' u' w0 w1 c d c' d' (2*n+k+b+20)->Q (.ref p) H'
theorem D7(s0 s1 u:Int):vl s1 u-vl s0 u=vl (s1-s0) u:=by
 unfold vl;have:((s1-s0:Int):Rat)=(s1:Rat)-(s0:Rat):=by rw[Int.sub_eq_add_neg,Rat.intCast_add,Rat.intCast_neg];grind
 rw[this,Rat.div_def,Rat.div_def,Rat.div_def];grind
theorem D8{a b:Int}(h:sg a*sg b=-1):a≠0/\b≠0:=by
 constructor
 ·rintro rfl;have:sg 0=0:=rfl;rw[this] at h;lia
 ·rintro rfl;have:sg 0=0:=rfl;rw[this] at h;lia
theorem D6.start{xs:List Int}{t u t' u':Int}(h:D6 xs t u t' u')(hu:0<u)(eD:0<u'):Gd xs (vl t u) (vl t' u') (t'*u-t*u') (t*u') (t'*u) (u*u'):=by
 have hp:=Int.mul_pos hu eD;have v1:vl (t*u') (u*u')=vl t u:=gJ hu eD;have v2:vl (t'*u) (u*u')=vl t' u':=by rw[Int.mul_comm u u'];exact gJ eD hu
 refine⟨hp,by rw[v1];grind,by rw[v2];grind,?_⟩;rcases h with⟨h1,h2⟩|⟨h1,h2⟩
 ·have:=(pL hu eD).mp h1;refine .inl ⟨rfl,by lia,?_⟩;rw[nc hp hu v1,nc hp eD v2];exact h2
 ·have:=(ng hu eD).mp h1;refine .inr ⟨by lia,tK.mp ?_⟩;rw[nc hp hu v1];exact tK.mpr h2
theorem lN{k:Nat}{x y:Int}(h0:0<=x)(h:x<=y)(b:Bd k y):Bd k x:=by
 unfold Bd at*;lia
section
variable {P:Program} {w:World} {K:PySem.W.Frag} {mg:Str->Option Value} {base:Heap}
theorem tL(T:Nm mg)(tM:bI P w K mg base 35 "stretch_of" ["pair"] II)(jK:bI P w K mg base 35 "parts_needed" ["stretch","width"] D0)(BB:bI P w K mg base 35 "guessed" ["free","stretch","parts"] Ai)(D9:bI P w K mg base 35 "halved" ["free","stretch"] D4)(fu:bI P w K mg base 35 "ratio" ["top","under"] rn)(D:aS K mg "narrowed" kz ["free","pair","width"]):bI P w K mg base 36 "narrowed" ["free","pair","width"] mP:=by
 refine D.ok dB (fun vs H Q E h=>?_) (fun f cQ A outer s H vs Q E hr h=>?_)
 ·obtain⟨a,pr,g,h,wd,xs,t,u,t',u',w0,w1,n,k,b,rfl,_⟩:=h;rfl
 obtain⟨a,pr,g,h,wd,xs,t,u,t',u',w0,w1,n,k,b,rfl,ha,Oj,hg,hh,GN,⟨hx,bx⟩,⟨b1,b2,b3,b4,hn,hk,hb,Ol,LO,hu,eD,ym,IH⟩,⟨Co,Bb⟩,Aj,q⟩:=h;have iI:jj=60000000:=rfl;have VN:=Aj.start hu eD;have bD:Bd (n+n+1) (t'*u-t*u'):=((b3.mul b2).sub (b1.mul b4)).mono (by lia);have Qc:Bd (n+n+b+4) (2*((t'*u-t*u')*w1)):=((Bd.of_two (n:=2) (x:=2) (by decide) (by decide)).mul (bD.mul LO)).mono (by lia);have VO:=b2.mul b4;generalize hD:t'*u-t*u'=DD at VN bD Qc;refine⟨_,(ae (aj (i:=3) dB.nd rfl (Or.inl rfl) (aw tM hr (aa (pv 1) ag)))
  (ae (aj (i:=4) dB.nd rfl (Or.inl rfl) af)
  (ae (aj (i:=5) dB.nd rfl (Or.inl rfl) (aw jK hr (aa (pv 3) (aa (pv 2) ag))))
  (ae (dj PassesOwn.never (aG eP (pv 5) af (aD _))
  (ae (aj (i:=6) dB.nd rfl (Or.inl rfl) (aw BB hr (aa (pv 0) (aa (pv 3) (aa (aK (l0 rfl) rfl T.DF boot_min (aa (pv 4) (aa (pv 5) ag))) ag)))))
  (ae (aj (i:=4) dB.nd rfl (Or.inl rfl) (eI (aG wH (pv 6) gp (aD _)) af (ai aq (pv 4) (pv 4))))
  (ae (aj (i:=3) dB.nd rfl (Or.inl rfl) (eI (aG wH (pv 6) gp (aD _)) (aw D9 hr (aa (pv 0) (aa (pv 3) ag))) (pv 6)))
  (ah (aj (i:=5) dB.nd rfl (Or.inl rfl) (aw jK hr (aa (pv 3) (aa (pv 2) ag)))))))))
  (ah (aE (dm (aa (aw fu hr (aa (ax ay (pv 3) af (fun _ _=>rfl)) (aa (ax ay (pv 3) af (fun _ _=>rfl)) ag))) (aa (aw fu hr (aa (ax ay (pv 3) af (fun _ _=>rfl)) (aa (ax ay (pv 3) af (fun _ _=>rfl)) ag))) ag))))))))),?_⟩;walk_at "sf";refine⟨pr,g,h,t,u,t',u',n,rfl,Oj,hg,hh,⟨b1,b2,b3,b4,by lia⟩,fun Om Tf=>?_⟩;have s1:=au.new Tf (.tup [.int (t*u'),.int (t'*u),.int (u*u')]);have Ni:upd H Om (.tup [.int (t*u'),.int (t'*u),.int (u*u')]) Om=some (.tup [.int (t*u'),.int (t'*u),.int (u*u')]):=ak;generalize upd H Om (.tup [.int (t*u'),.int (t'*u),.int (u*u')])=H1 at s1 Ni ⊢;walk_at "sf";refine⟨Om,wd,_,_,_,w0,w1,n+n+b+10,rfl,Ni,s1 _ _ GN,⟨(b1.mul b4).mono (by lia),(b3.mul b2).mono (by lia),VO.mono (by lia),Ol.mono (by lia),LO.mono (by lia),by lia,Int.mul_pos hu eD,ym⟩,?_⟩;walk_at "sf";have four:Bd 4 (4:Int):=Bd.of_two (by decide) (by decide);refine cX (fun m σ H'=>∃(sp:Addr)(s0 s1 uu parts:Int)(z:Option V),m=(wo w0 w1 s0 s1 uu).toNat/\σ=[some (.ref a),some (.ref pr),some (.ref wd),some (.ref sp),some (.int parts),some (.int (wo w0 w1 s0 s1 uu)),z]/\au H H'/\
  H' sp=some (.tup [.int s0,.int s1,.int uu])/\Gd xs (vl t u) (vl t' u') DD s0 s1 uu/\Bd (n+n+b+10) uu/\4<=parts/\(wo w0 w1 s0 s1 uu<=1\/Bd (4*n+2*b+100) parts))
  ⟨_,Om,_,_,_,4,_,rfl,rfl,s1,Ni,VN,VO.mono (by lia),by decide,.inr (four.mono (by lia))⟩ ?_
 rintro m σ H2 ⟨sp,s0,E5,uu,parts,z,rfl,rfl,s2,y9,gd,Oo,VP,VQ⟩;obtain⟨Tg,Th⟩:=gd.bits Co Bb Oo;obtain⟨Oq,LN⟩:=pM (w0:=w0) (w1:=w1) (s0:=s0) (s1:=E5) (u:=uu) ym gd.pos;generalize Vh:wo w0 w1 s0 E5 uu=nd at Oq LN VQ ⊢;have hr:=Int.mul_pos ym gd.pos;walk_at "sf";refine cZ (fun c=>?_) (fun c=>?_)
 ·have Jn:1<nd:=by simpa using c
  have alt:E5-s0=DD/\0<DD/\sg (hv s0 uu xs)*sg (hv E5 uu xs)=-1:=by
   rcases gd.alt with z|z
   ·exact z
   ·exfalso;rw[z.1,Int.sub_self,Int.zero_mul] at Oq;have:=Int.mul_pos (show 0<nd-1 by lia) hr;lia
  have yo:Bd (4*n+2*b+100) parts:=by
   rcases VQ with z|z
   ·lia
   ·exact z
  rw[alt.1] at Oq LN;refine⟨_,fun bN H' h=>h,?_⟩;walk_at "sf";refine⟨_,_,rfl,?_⟩;walk_at "sf";obtain⟨p,hp,sD,yc,si,Ti⟩:∃p:Int,(if nd<parts then nd else parts)=p/\2<=p/\p<=nd/\p<=parts/\(p=parts\/nd<=p):=by
   by_cases hc:nd<parts
   ·exact⟨nd,if_pos hc,by lia,by lia,by lia,.inr (by lia)⟩
   ·exact⟨parts,if_neg hc,by lia,by lia,by lia,.inl rfl⟩
  rw[hp];have YN:=DZ ym gd.pos Oq (by lia) (show 0<p by lia) yc;have qi:0<uu*p:=Int.mul_pos gd.pos (by lia);have Qe:Bd (n+n+b+4) (uu*p):=lN (Int.le_of_lt qi) YN Qc;have Tj:=DZ ym gd.pos Oq (by lia) (show(0:Int)<2 by decide) (show 2<=nd by lia);have PR:Bd (n+n+b+4) (uu*2):=lN (by have:=gd.pos;lia) Tj Qc;have hz:=D8 alt.2.2;have bp:Bd (4*n+2*b+100) p:=lN (by lia) si yo;refine⟨a,sp,xs,s0,E5,uu,p,4*n+2*b+k+200,rfl,s2 _ _ ha,y9,⟨hx,bx,Tg.mono (by lia),Th.mono (by lia),Oo.mono (by lia),Qe.mono (by lia),bp.mono (by lia),by lia⟩,⟨hz.1,hz.2,by lia⟩,fun _=>?_⟩;rw[alt.1];have Te:=IJ hz.1 hz.2 (show 0<p by lia);cases e:B4 xs s0 uu p (s0*p+DD*gj xs s0 E5 uu p) (s0*p+DD*gj xs s0 E5 uu p+DD) with
  |none=>
   unfold Td;show _;walk_at "sf";refine(show _/\_ from⟨rfl,?_⟩);refine⟨_,rfl,?_⟩;show(if decide (V.fB=V.fB)=true then _ else _);rw[if_pos (by decide)];walk_at "sf";refine(show _/\_ from⟨rfl,?_⟩);refine⟨_,rfl,?_⟩;show(if decide (V.fB=V.fB)=true then _ else _);rw[if_pos (by decide)];walk_at "sf";refine⟨a,sp,xs,s0,E5,uu,2*n+k+b+20,rfl,s2 _ _ ha,y9,⟨hx,bx,Tg.mono (by lia),Th.mono (by lia),Oo.mono (by lia),by lia⟩,fun l r un sq H3 Ot hs3 hq3=>?_⟩;obtain⟨D_,Tn,SH⟩:Gd xs (vl t u) (vl t' u') DD l r un/\(r-l=DD\/l=r)/\un=uu*2:=by
    rcases Ot with⟨e2,PU⟩|⟨e2,rfl,rfl,PU⟩
    ·have ee:B4 xs s0 uu 2 (s0*2+DD*0) (s0*2+DD*0+DD)=some (l,r):=by
      have x1:s0*2+DD*0=2*s0:=by lia
      have x2:2*s0+DD=s0+E5:=by lia
      rw[x1,x2];exact e2
     obtain⟨y1,y2⟩:=gd.part alt (show(0:Int)<2 by decide) (Int.le_refl 0) (by decide) ee;rw[PU];exact⟨y1,y2,rfl⟩
    ·have:=gd.upper alt e2;rw[PU];exact⟨this,.inl (by lia),by lia⟩
   subst SH;walk_at "sf";obtain⟨To,Tp⟩:=D_.bits Co Bb PR;refine⟨sq,wd,_,_,_,w0,w1,2*n+k+b+20,rfl,hq3,(s2.trans hs3) _ _ GN,⟨To.mono (by lia),Tp.mono (by lia),PR.mono (by lia),Ol.mono (by lia),LO.mono (by lia),by lia,D_.pos,ym⟩,?_⟩;walk_at "sf";obtain⟨KZ,YO⟩:=pM (w0:=w0) (w1:=w1) (s0:=l) (s1:=r) (u:=uu*2) ym D_.pos;have IK:wo w0 w1 l r (uu*2)<nd:=by
    rcases Tn with z|z
    ·rw[z] at KZ;exact(Ah ym gd.pos (Int.le_refl 2) LN (by lia) KZ).1
    ·rw[z,Int.sub_self,Int.zero_mul] at KZ;rcases Int.lt_or_le (wo w0 w1 l r (uu*2)) nd with y|y
     ·exact y
     ·exfalso;rw[z] at y;have Bv:=Int.mul_pos ym D_.pos;have:=Int.mul_nonneg (show 0<=wo w0 w1 r r (uu*2)-1 by lia) (Int.le_of_lt Bv);lia
   exact⟨_,by lia,sq,l,r,uu*2,4,_,rfl,rfl,s2.trans hs3,hq3,D_,PR.mono (by lia),by decide,.inr (four.mono (by lia))⟩
  |some r=>
   obtain⟨l,r⟩:=r;intro sq YQ;have hs3:=au.new YQ (.tup [.int l,.int r,.int (uu*p)]);have hq3:upd H2 sq (.tup [.int l,.int r,.int (uu*p)]) sq=some (.tup [.int l,.int r,.int (uu*p)]):=ak;generalize upd H2 sq (.tup [.int l,.int r,.int (uu*p)])=H3 at hs3 hq3 ⊢;obtain⟨D_,Tn⟩:=gd.part alt (show 0<p by lia) Te.1 Te.2 e;walk_at "sf";refine(show _/\_ from⟨rfl,?_⟩);refine⟨_,rfl,?_⟩;show(if decide (V.ref sq=V.fB)=true then _ else _);rw[if_neg (by simp)];walk_at "sf";refine bP (aJ yo yo (by lia)) ?_;walk_at "sf";refine(show _/\_ from⟨rfl,?_⟩);refine⟨_,rfl,?_⟩;show(if decide (V.ref sq=V.fB)=true then _ else _);rw[if_neg (by simp)];walk_at "sf";obtain⟨To,Tp⟩:=D_.bits Co Bb Qe;refine⟨sq,wd,_,_,_,w0,w1,2*n+k+b+20,rfl,hq3,(s2.trans hs3) _ _ GN,⟨To.mono (by lia),Tp.mono (by lia),Qe.mono (by lia),Ol.mono (by lia),LO.mono (by lia),by lia,D_.pos,ym⟩,?_⟩;walk_at "sf";obtain⟨KZ,YO⟩:=pM (w0:=w0) (w1:=w1) (s0:=l) (s1:=r) (u:=uu*p) ym D_.pos;have IK:wo w0 w1 l r (uu*p)<nd/\(nd<=p->wo w0 w1 l r (uu*p)<=1):=by
    rcases Tn with z|z
    ·rw[z] at KZ;exact Ah ym gd.pos sD LN (by lia) KZ
    ·rw[z,Int.sub_self,Int.zero_mul] at KZ;have key:wo w0 w1 l r (uu*p)<=0:=by
      rcases Int.lt_or_le 0 (wo w0 w1 l r (uu*p)) with y|y
      ·exfalso;rw[z] at y;have Bv:=Int.mul_pos ym D_.pos;have:=Int.mul_nonneg (show 0<=wo w0 w1 r r (uu*p)-1 by lia) (Int.le_of_lt Bv);lia
      ·exact y
     exact⟨by lia,fun _=>by lia⟩
   refine⟨_,by lia,sq,l,r,uu*p,parts*parts,_,rfl,rfl,s2.trans hs3,hq3,D_,Qe.mono (by lia),?_,?_⟩
   ·have:=Int.mul_le_mul_of_nonneg_left (show(1:Int)<=parts by lia) (show 0<=parts by lia);lia
   ·rcases Ti with z|z
    ·rw[z] at yc;have VR:Bd (n+n+b+4) parts:=by
      refine lN (by lia) ?_ Qc;have h1:parts<=uu*p:=by
       have:=Int.mul_le_mul_of_nonneg_right (show(1:Int)<=uu by have:=gd.pos;lia) (show 0<=p by lia);lia
      lia
     exact .inr ((VR.mul VR).mono (by lia))
    ·exact .inl (IK.2 z)
 ·have Jn:¬1<nd:=by simpa using c
  walk_at "sf";refine aL (cj.of y9) rfl ?_;walk_at "sf";refine aL (cj.of y9) rfl ?_;walk_at "sf";refine⟨_,_,2*n+k+b+20,rfl,Tg.mono (by lia),Oo.mono (by lia),by lia,gd.pos,fun g1 c1 d1 zx YR YS uR YT e1=>?_⟩;have sa:=au.new zx (.tup [.int c1,.int d1]);have Ou:upd H2 g1 (.tup [.int c1,.int d1]) g1=some (.tup [.int c1,.int d1]):=ak;generalize upd H2 g1 (.tup [.int c1,.int d1])=H3 at sa Ou ⊢;have Ov:=sa _ _ y9;walk_at "sf";refine aL (cj.of Ov) rfl ?_;walk_at "sf";refine aL (cj.of Ov) rfl ?_;walk_at "sf";refine⟨_,_,2*n+k+b+20,rfl,Th.mono (by lia),Oo.mono (by lia),by lia,gd.pos,fun g2 c2 d2 YU YV YW hd2 YX e2=>?_⟩;have sb:=au.new YU (.tup [.int c2,.int d2]);have Ow:upd H3 g2 (.tup [.int c2,.int d2]) g2=some (.tup [.int c2,.int d2]):=ak;generalize upd H3 g2 (.tup [.int c2,.int d2])=H4 at sb Ow ⊢;walk_at "sf";intro pp si;have sc:=au.new si (.tup [.ref g1,.ref g2]);have v1:vl c1 d1=vl s0 uu:=(ng uR gd.pos).mpr e1;have v2:vl c2 d2=vl E5 uu:=(ng hd2 gd.pos).mpr e2;refine q pp g1 g2 c1 d1 c2 d2 _ (s2.trans (sa.trans (sb.trans sc))) ak ⟨sc _ _ (sb _ _ Ou),uR,YT⟩ ⟨sc _ _ Ow,hd2,YX⟩ ⟨by rw[v1];exact gd.lo,by rw[v2];exact gd.hi,?_,?_,YR,YS,YV,YW⟩
  ·rw[v1,v2,D7];refine(fU gd.pos IH).mpr ?_;have:nd*(w0*uu)<=1*(w0*uu):=Int.mul_le_mul_of_nonneg_right (by lia) (Int.le_of_lt hr);lia
  ·unfold D6;rw[v1,v2,nc uR gd.pos v1,nc hd2 gd.pos v2];rcases gd.alt with z|z
   ·exact .inl ⟨(pL gd.pos gd.pos).mpr (Int.mul_lt_mul_of_pos_right (by lia) gd.pos),z.2.2⟩
   ·refine .inr ⟨by rw[z.1],tK.mp ?_⟩;show sg (hv c1 d1 xs)=0;rw[nc uR gd.pos v1];exact tK.mpr z.2
theorem vL(g:bI P w K mg base 36 "narrowed" ["free","pair","width"] mP):bI P w K mg base 36 "narrowed" ["free","pair","width"] (vK (fun _=>True) id):=
 g.imp fun vs H Q E⟨a,pr,g,h,wd,xs,t,u,t',u',w0,w1,n,e,ha,Oj,hg,hh,GN,_,Sg,⟨b1,b2,b3,b4,hn,Ol,LO,hu,eD,ym,IH⟩,Aj,q⟩=>by
 have Co:-(2^n)<=vl t u:=by
  have e1:(vl (-(2^n)) 1)=-(2^n):=by
   unfold vl;rw[Rat.intCast_neg,Rat.intCast_pow];show -(2^n)/(1:Rat)=_;grind
  rw[<-e1];refine(fU (by decide) hu).mpr ?_;have e2:(2:Int)^n=((2^n:Nat):Int):=by rw[Int.natCast_pow];rfl
  unfold Bd at b1;have h3:(((2^n:Nat):Int))<=((2^n:Nat):Int)*u:=by
   have:=Int.mul_le_mul_of_nonneg_left (show(1:Int)<=u by lia) (show(0:Int)<=((2^n:Nat):Int) by lia);lia
  rw[e2,Int.neg_mul];lia
 have Bb:vl t' u'<=2^n:=by
  have e1:(vl (2^n) 1)=2^n:=by
   unfold vl;rw[Rat.intCast_pow];show(2^n)/(1:Rat)=_;grind
  rw[<-e1];refine(fU eD (by decide)).mpr ?_;have e2:(2:Int)^n=((2^n:Nat):Int):=by rw[Int.natCast_pow];rfl
  unfold Bd at b3;have h3:(((2^n:Nat):Int))<=((2^n:Nat):Int)*u':=by
   have:=Int.mul_le_mul_of_nonneg_left (show(1:Int)<=u' by lia) (show(0:Int)<=((2^n:Nat):Int) by lia);lia
  rw[e2];lia
 refine⟨a,pr,g,h,wd,xs,t,u,t',u',w0,w1,n,n,1000,e,ha,Oj,hg,hh,GN,Sg,⟨b1,b2,b3,b4,by lia,hn,by lia,Ol,LO,hu,eD,ym,IH⟩,⟨Co,Bb⟩,Aj,fun p g h c d c' d' H' s' hp r1 r2 nw=>?_⟩;have e3:2*n+n+1000+20=3*n+1020:=by lia
 rw[e3] at nw;exact q p g h c d c' d' H' s' hp r1 r2 nw
end
end dA
namespace dA
open PySem PyProof.Rows L2 SF SF.Po
noncomputable abbrev kK:Stmt:=inClass (top 46) 0
theorem GO:aH ["self","poly","pair","weight"] ["self","poly","pair","weight"] (ar kK):=⟨rfl,rfl,rfl,by decide +kernel,rfl,by decide +kernel,by decide +kernel⟩
structure Rc(K:PySem.W.Frag)(mg:Str->Option Value)(C fI:Addr)(fd:FuncData):Prop where
 m:mg "Root"=some (.ref C)
 VS:Mk K C fI
 cl:Fj K C
 n1:iP K C "poly"
 n2:iP K C "pair"
 n3:iP K C "weight"
 ex:∃(oc:Value)(od:Option Addr)(dV kV doc pm:Value)(an:Option Addr)(cQ ct:Value)(y8:Array (Option Value)),
  fd=PySem.W.fnOf "__init__" "Root.__init__" (fY kK) (e_ kK) (ar kK) dV kV doc pm an cQ ct/\K.lookup fI=some ⟨oc,od,.func fd,y8⟩/\PySem.W.codeIn K cQ "Root.__init__"=true
 b:Binds K fd ["self","poly","pair","weight"] []
noncomputable def yp(C:Addr):Sp:=fun vs H Q _=>∃(x dx:Addr)(v1 v2 v3:V),vs=[.ref x,v1,v2,v3]/\H x=some (.ins C dx [])/\∀H',(∀c,c≠x->H' c=H c)->H' x=some (.ins C dx [("poly",v1),("pair",v2),("weight",v3)])->Q .fB H'
section
variable {P:Program} {w:World} {K:PySem.W.Frag} {mg:Str->Option Value} {base:Heap} {C fI:Addr} {fd:FuncData}
theorem GP(RC:Rc K mg C fI fd):g7 P w K mg base BX 1 fI fd ["self","poly","pair","weight"] (yp C):=by
 obtain⟨oc,od,dV,kV,doc,pm,an,cQ,ct,y8,rfl,lk,wA⟩:=RC.ex;refine Hz lk wA GO (fun vs H Q E h=>?_) fun A outer s H vs Q E hr h=>?_
 ·obtain⟨x,dx,v1,v2,v3,rfl,_⟩:=h;rfl
 obtain⟨x,dx,v1,v2,v3,rfl,hx,q⟩:=h;refine⟨_,wz.Lo (ae (wM (pv 0) (pv 1) ?s1) (ae (wM (pv 0) (pv 2) ?s2) (ah (wM (pv 0) (pv 3) ?s3)))),?_⟩
 case s1=>rfl
 case s2=>rfl
 case s3=>rfl
 walk_at "sf";refine⟨_,rfl,_,rfl,x,C,dx,[],rfl,hx,RC.cl,RC.n1,by decide,?_⟩;walk_at "sf";refine⟨_,rfl,_,rfl,x,C,dx,_,rfl,ak,RC.cl,RC.n2,Nat.lt_of_le_of_lt (fO _ _ _) (by decide),?_⟩;walk_at "sf";refine⟨_,rfl,_,rfl,x,C,dx,_,rfl,ak,RC.cl,RC.n3,Nat.lt_of_le_of_lt (fO _ _ _) (Nat.lt_of_le_of_lt (Nat.add_le_add_right (fO _ _ _) 1) (by decide)),?_⟩;walk_at "sf";refine q _ (fun c hc=>?_) ?_
 ·rw[aI hc,aI hc,aI hc]
 ·rw[ak];rfl
end
end dA
namespace dA
open PySem PyProof.Rows L2 SF SF.Po
noncomputable def Ak:Sp:=fun vs H Q _=>∃(g h:Addr)(t u t' u':Int),vs=[.ref g,.ref h]/\H g=some (.tup [.int t,.int u])/\H h=some (.tup [.int t',.int u'])/\(Bd 700000 t/\Bd 700000 u/\Bd 700000 t'/\Bd 700000 u')/\Q (.int (sg (t*u'-t'*u))) H
structure Nv where
 r:Addr
 dx:Addr
 pl:Addr
 pp:Addr
 g:Addr
 h:Addr
 zs:List Int
 t:Int
 u:Int
 t':Int
 u':Int
 w:Int
structure Nv.Hx(H:Hp)(C:Addr)(v:Nv):Prop where
 ir:H v.r=some (.ins C v.dx [("poly",.ref v.pl),("pair",.ref v.pp),("weight",.int v.w)])
 hl:IL H v.pl v.zs
 hp:H v.pp=some (.tup [.ref v.g,.ref v.h])
 rl:Rt H v.g v.t v.u
 rh:Rt H v.h v.t' v.u'
theorem Nv.Hx.same{H H':Hp}{C:Addr}{v:Nv}(x:v.Hx H C)(s:au H H'):v.Hx H' C:=⟨s _ _ x.ir,s _ _ x.hl,s _ _ x.hp,x.rl.same s,x.rh.same s⟩
structure Nv.Px(v:Nv)(x:Re):Prop where
 iso:gB v.zs x (vl v.t v.u) (vl v.t' v.u')
 Aj:D6 v.zs v.t v.u v.t' v.u'
 lz:v.zs.length<=13
 az:Ab 100 v.zs
 bt:Bd 20000 v.t
 bu:Bd 20000 v.u
 wk:Bd 20000 v.t'
 ub:Bd 20000 v.u'
theorem yq{t u t' u':Int}(hu:0<u)(eD:0<u'):sg (t*u'-t'*u)=aP (Re.q (vl t u)-Re.q (vl t' u')):=by
 have h1:=pL (t:=t) (t':=t') hu eD;have h2:=pL (t:=t') (t':=t) eD hu;unfold sg;split
 ·rename_i z;have:=Re.cR.mpr (h1.mpr (by lia));rw[SF.Re.bQ (by grind)]
 ·split
  ·rename_i z;have:=Re.cR.mpr (h2.mpr (by lia));rw[SF.Re.bA (by grind)]
  ·have e:vl t u=vl t' u':=(ng hu eD).mpr (by lia);have z:Re.q (vl t' u')-Re.q (vl t' u')=0:=by grind
   rw[e,z,SF.Re.aW]
theorem Nv.Px.side{v:Nv}{x:Re}(px:v.Px x){z:Rat}(h:aP (Re.q (vl v.t v.u)-Re.q z)=aP (Re.q (vl v.t' v.u')-Re.q z)):aP (Re.q (vl v.t v.u)-Re.q z)=aP (x-Re.q z):=by
 have h1:=px.iso.ge;have h2:=px.iso.le;rcases SF.Re.aO (Re.q (vl v.t v.u)-Re.q z) with a|a|a<;>rcases SF.Re.aO (Re.q (vl v.t' v.u')-Re.q z) with b|b|b<;>rw[a.2,b.2] at h<;>
  first|(exfalso;revert h;decide)|skip
 ·rw[a.2,SF.Re.bQ (by grind)]
 ·have:x-Re.q z=0:=by grind
  rw[a.2,this,SF.Re.aW]
 ·rw[a.2,SF.Re.bA (by grind)]
theorem Nv.Px.within{v:Nv}{x:Re}(px:v.Px x){z:Rat}(h:¬aP (Re.q (vl v.t v.u)-Re.q z)=aP (Re.q (vl v.t' v.u')-Re.q z)):aP (at' (Re.q (vl v.t v.u)) (ao v.zs))*aP (at' (Re.q z) (ao v.zs))=aP (x-Re.q z):=by
 have h1:=px.iso.ge;have h2:=px.iso.le;have lt:vl v.t v.u<vl v.t' v.u':=by
  refine Re.cR.mp ?_;rcases SF.Re.p_ (Re.q (vl v.t v.u)) (Re.q (vl v.t' v.u')) with w|w|w
  ·exact w
  ·exact absurd (by rw[w]) h
  ·exfalso;grind
 obtain⟨k1,k2⟩:=px.iso.st lt;obtain⟨c,hc,hs⟩:=px.iso.sn;have w:vl v.t v.u<=z/\z<=vl v.t' v.u':=by
  constructor<;>refine Re.bY.mp ?_
  ·rcases SF.Re.aO (Re.q (vl v.t v.u)-Re.q z) with a|a|a
   ·grind
   ·grind
   ·exact absurd (by rw[a.2,SF.Re.bA (by grind)]) h
  ·rcases SF.Re.aO (Re.q (vl v.t' v.u')-Re.q z) with a|a|a
   ·exact absurd (by rw[a.2,SF.Re.bQ (by grind)]) h
   ·grind
   ·grind
 have ec:Re.q z-x=-(x-Re.q z):=by grind
 rw[hs _ Rat.le_refl (Rat.le_of_lt lt),hs z w.1 w.2,SF.Re.bQ (x:=Re.q (vl v.t v.u)-x) (by grind),ec,SF.Re.oP];rcases hc with rfl|rfl<;>lia
structure Nv.Vx(v:Nv)(x:Re):Prop where
 bt:Bd 20000 v.t
 bu:Bd 20000 v.u
 wk:Bd 20000 v.t'
 ub:Bd 20000 v.u'
 alt:((v.t=v.t'/\v.u=v.u')/\x=Re.q (vl v.t v.u))\/v.Px x
theorem Nv.Px.vx{v:Nv}{x:Re}(h:v.Px x):v.Vx x:=⟨h.bt,h.bu,h.wk,h.ub,.inr h⟩
theorem Nv.Vx.side{v:Nv}{x:Re}(vx:v.Vx x){z:Rat}(h:aP (Re.q (vl v.t v.u)-Re.q z)=aP (Re.q (vl v.t' v.u')-Re.q z)):aP (Re.q (vl v.t v.u)-Re.q z)=aP (x-Re.q z):=by
 rcases vx.alt with⟨_,e⟩|px
 ·rw[e]
 ·exact px.side h
section
variable {P:Program} {w:World} {K:PySem.W.Frag} {mg:Str->Option Value} {base:Heap} {C fI:Addr} {fd:FuncData}
theorem vM(gH:bI P w K mg base 1 "sign" ["number"] mM)(D:aS K mg "order_of" ko ["one","other"]):bI P w K mg base 2 "order_of" ["one","other"] Ak:=by
 refine D.ok vf (fun vs H Q E h=>?_) (fun f cQ A outer s H vs Q E hr h=>?_)
 ·obtain⟨g,h,t,u,t',u',rfl,_⟩:=h;rfl
 obtain⟨g,h,t,u,t',u',rfl,hg,hh,⟨b1,b2,b3,b4⟩,q⟩:=h;refine⟨_,(ah (aE (aw gH hr (aa (ai bM (ai aq (ax ay (pv 0) af (fun _ _=>rfl)) (ax ay (pv 1) af (fun _ _=>rfl))) (ai aq (ax ay (pv 1) af (fun _ _=>rfl)) (ax ay (pv 0) af (fun _ _=>rfl)))) ag)))),?_⟩;walk_at "sf";refine aL (cj.of hg) rfl ?_;walk_at "sf";refine aL (cj.of hh) rfl ?_;refine bP (aJ b1 b4 (by decide)) ?_;walk_at "sf";refine aL (cj.of hh) rfl ?_;walk_at "sf";refine aL (cj.of hg) rfl ?_;refine bP (aJ b3 b2 (by decide)) ?_;walk_at "sf";exact⟨_,rfl,q⟩
noncomputable def mQ(C:Addr):Sp:=fun vs H Q _=>∃(v:Nv)(g:Addr)(t u:Int)(x:Re),vs=[.ref v.r,.ref g]/\v.Hx H C/\v.Vx x/\H g=some (.tup [.int t,.int u])/\0<u/\Bd 700000 t/\Bd 700000 u/\Q (.int (aP (x-Re.q (vl t u)))) H
theorem yr(RC:Rc K mg C fI fd)(dY:bI P w K mg base 35 "order_of" ["one","other"] Ak)(d9:bI P w K mg base 35 "sign_at" ["poly","given"] Bt)(D:aS K mg "against" mK ["number","given"]):bI P w K mg base 36 "against" ["number","given"] (mQ C):=by
 refine D.ok kC (fun vs H Q E h=>?_) (fun f cQ A outer s H vs Q E hr h=>?_)
 ·obtain⟨v,g,t,u,x,rfl,_⟩:=h;rfl
 obtain⟨v,g,t,u,x,rfl,hx,vx,hg,hu,bt,bu,q⟩:=h;have iI:jj=60000000:=rfl;refine⟨_,(ae (aj (i:=2) kC.nd rfl (Or.inl rfl) (ax ay (dD (pv 0) rfl) af (fun _ _=>rfl)))
  (ae (aj (i:=3) kC.nd rfl (Or.inl rfl) (aw dY hr (aa (pv 2) (aa (pv 1) ag))))
  (ae (ck (aG d_ (pv 3) (aw dY hr (aa (ax ay (dD (pv 0) rfl) af (fun _ _=>rfl)) (aa (pv 1) ag))) (aD _))
  (ah (aE (pv 3)))
  aX)
  (ah (aE (ai aq (aw d9 hr (aa (dD (pv 0) rfl) (aa (pv 2) ag))) (aw d9 hr (aa (dD (pv 0) rfl) (aa (pv 1) ag))))))))),?_⟩;walk_at "sf";refine⟨_,rfl,_,C,_,_,_,rfl,hx.ir,RC.cl,RC.n2,rfl,?_⟩;walk_at "sf";refine aL (cj.of hx.hp) rfl ?_;walk_at "sf";refine⟨v.g,g,_,_,_,_,rfl,hx.rl.1,hg,⟨vx.bt.mono (by decide),vx.bu.mono (by decide),bt,bu⟩,?_⟩;rw[yq hx.rl.2.1 hu];walk_at "sf";refine⟨_,rfl,_,C,_,_,_,rfl,hx.ir,RC.cl,RC.n2,rfl,?_⟩;walk_at "sf";refine aL (cj.of hx.hp) rfl ?_;walk_at "sf";refine⟨v.h,g,_,_,_,_,rfl,hx.rh.1,hg,⟨vx.wk.mono (by decide),vx.ub.mono (by decide),bt,bu⟩,?_⟩;rw[yq hx.rh.2.1 hu];walk_at "sf";refine cZ (fun c=>?_) (fun c=>?_)
 ·walk_at "sf";rw[vx.side (by simpa using c)];exact q
 ·obtain px:v.Px x:=vx.alt.resolve_left fun⟨r,_⟩=>by
   have c':¬aP (Re.q (vl v.t v.u)-Re.q (vl t u))=aP (Re.q (vl v.t' v.u')-Re.q (vl t u)):=by simpa using c
   rw[r.1,r.2] at c';exact c' rfl
  have lz:=px.lz;walk_at "sf";refine⟨_,rfl,_,C,_,_,_,rfl,hx.ir,RC.cl,RC.n1,rfl,?_⟩;walk_at "sf";refine⟨v.pl,v.g,v.zs,_,_,100,20000,rfl,hx.hl,hx.rl.1,⟨by have:=px.lz;lia,px.az,px.bt,px.bu,by lia⟩,?_⟩;walk_at "sf";refine⟨_,rfl,_,C,_,_,_,rfl,hx.ir,RC.cl,RC.n1,rfl,?_⟩;walk_at "sf";refine⟨v.pl,g,v.zs,_,_,100,700000,rfl,hx.hl,hg,⟨by have:=px.lz;lia,px.az,bt,bu,by lia⟩,?_⟩;walk_at "sf";refine bP (aJ (pD _) (pD _) (by decide)) ?_;have e:=px.within (z:=vl t u) (by simpa using c);rw[fA hx.rl.2.1,fA hu];have e2:aP (at' (Re.q ((v.t:Rat)/(v.u:Rat))) (ao v.zs))*aP (at' (Re.q ((t:Rat)/(u:Rat))) (ao v.zs))=aP (x-Re.q (vl t u)):=e;rw[e2];exact q
end
end dA
namespace dA
open PySem PyProof.Rows L2 SF SF.Po
theorem Ea{c:Bool}{A B:Prop}(h1:c=true->B->A)(h:B):if c=true then A else B:=by
 cases c with
 |true=>rw[if_pos rfl];exact h1 rfl h
 |false=>rw[if_neg (by decide)];exact h
theorem Eb{C:Addr}{sp:Sp}{dvs:List V}{E:XK}{t:TA}{σ:L2.St}{H:Hp}{Q:VK}(h:t σ H fun vs H1=>∀x dx,H1 x=none->H1 dx=none->dx≠x->sp (.ref x::(vs++dvs)) (upd (upd H1 dx (.own x)) x (.ins C dx [])) (fun v H2=>v=.fB/\Q (.ref x) H2) E):Hy C sp dvs E t σ H Q:=h
theorem vN{H1 H':Hp}{C x dx:Addr}(h1:H1 x=none)(h2:H1 dx=none)(n:dx≠x)(h:∀c,c≠x->H' c=upd (upd H1 dx (.own x)) x (.ins C dx []) c):au H1 H':=fun c o e=>by
 rw[h c (aN e h1),aI (aN e h1),aI (aN e h2)];exact e
theorem Ec(t u:Int):hv t u [-t,u]=0:=by
 simp[hv,aF,co];grind
noncomputable def Gives(C:Addr)(H:Hp)(x:Re)(Q:VK):Prop:=∀(v:Nv)(H':Hp),au H H'->v.Hx H' C->v.Px x->Q (.ref v.r) H'
noncomputable def GQ(C:Addr):Sp:=fun vs H Q _=>∃(g:Addr)(t u:Int),vs=[.ref g]/\Rt H g t u/\Bd 100 t/\Bd 100 u/\Gives C H (Re.q (vl t u)) Q
structure Nv.Rm(v:Nv)(H:Hp)(a b:Int):Prop where
 t:v.t=a
 u:v.u=b
 t':v.t'=a
 u':v.u'=b
 w:v.w=1
 fr:H v.pl=none
noncomputable def lO(C:Addr):Sp:=fun vs H Q _=>∃(g:Addr)(t u:Int),vs=[.ref g]/\Rt H g t u/\∀(v:Nv)(H':Hp),au H H'->v.Hx H' C->v.Rm H t u->(Bd 100 t->Bd 100 u->v.Px (Re.q (vl t u)))->Q (.ref v.r) H'
structure Nv.Mk(v:Nv)(a:Addr)(zs:List Int)(wt:Int)(lo hi:Rat):Prop where
 pl:v.pl=a
 zs:v.zs=zs
 w:v.w=wt
 lo:lo<=vl v.t v.u
 hi:vl v.t' v.u'<=hi
theorem D6.re{zs:List Int}{t u t' u':Int}(h:D6 zs t u t' u')(hu:0<u)(eD:0<u'):(vl t u<vl t' u'/\aP (at' (Re.q (vl t u)) (ao zs))*aP (at' (Re.q (vl t' u')) (ao zs))=-1)\/(vl t u=vl t' u'/\at' (Re.q (vl t u)) (ao zs)=0):=by
 rcases h with⟨h1,h2⟩|⟨h1,h2⟩
 ·rw[fA hu,fA eD] at h2;exact .inl ⟨h1,h2⟩
 ·refine .inr ⟨h1,SF.Re.bH ?_⟩;have:=fA (t:=t) hu zs;rw[h2] at this;exact this.symm
section
variable {P:Program} {w:World} {K:PySem.W.Frag} {mg:Str->Option Value} {base:Heap} {C fI:Addr} {fd:FuncData}
theorem tN(RC:Rc K mg C fI fd)(yu:g7 P w K mg base BX 34 fI fd ["self","poly","pair","weight"] (yp C))(D:aS K mg "of_ratio" kA ["given"]):bI P w K mg base 36 "of_ratio" ["given"] (lO C):=by
 refine D.ok vh (fun vs H Q E h=>?_) (fun f cQ A outer s H vs Q E hr h=>?_)
 ·obtain⟨g,t,u,rfl,_⟩:=h;rfl
 obtain⟨g,t,u,rfl,rg,q⟩:=h;refine⟨_,(ah (aE (y6 (dvs:=[]) (E:=E0) RC.VS yu hr rfl RC.m RC.b .nil Cq (aa (dr (aa (cW bZ (ax ay (pv 0) af (fun _ _=>rfl))) (aa (ax ay (pv 0) af (fun _ _=>rfl)) ag))) (aa (dm (aa (pv 0) (aa (pv 0) ag))) (aa af ag)))))),?_⟩;walk_at "sf";refine Eb ?_;walk_at "sf";refine aL (cj.of rg.1) rfl ?_;walk_at "sf";refine aL (cj.of rg.1) rfl ?_;walk_at "sf";intro pl uk;have s1:=au.new uk (.lst [V.int (-t),V.int u]);have h1:upd H pl (.lst [V.int (-t),V.int u]) pl=some (.lst ([-t,u].map V.int)):=ak;generalize upd H pl (.lst [V.int (-t),V.int u])=H1 at s1 h1 ⊢;walk_at "sf";intro pp si;have s2:=au.new si (.tup [.ref g,.ref g]);have h2:upd H1 pp (.tup [.ref g,.ref g]) pp=some (.tup [.ref g,.ref g]):=ak;generalize upd H1 pp (.tup [.ref g,.ref g])=H2 at s2 h2 ⊢;walk_at "sf";intro x dx e1 e2 e3;refine⟨x,dx,_,_,_,rfl,ak,fun H' hk hx=>⟨rfl,?_⟩⟩;have s3:=vN e1 e2 e3 hk;have VT:=rg.same (s1.trans (s2.trans s3));refine q ⟨x,dx,pl,pp,g,g,[-t,u],t,u,t,u,1⟩ H' (s1.trans (s2.trans s3)) ⟨hx,s3 _ _ (s2 _ _ h1),s3 _ _ h2,VT,VT⟩ ⟨rfl,rfl,rfl,rfl,rfl,uk⟩ fun bt bu=>⟨gB.ratio rg.2.1,.inr ⟨rfl,Ec t u⟩,by show 2<=13;decide,fun y hy=>?_,bt.mono (by decide),bu.mono (by decide),bt.mono (by decide),bu.mono (by decide)⟩;rcases List.mem_cons.mp hy with z|z
 ·rw[z];unfold Bd at*;rw[Int.natAbs_neg];exact bt
 ·rw[List.mem_singleton.mp z];exact bu
theorem vO(g:bI P w K mg base 36 "of_ratio" ["given"] (lO C)):bI P w K mg base 36 "of_ratio" ["given"] (GQ C):=
 g.imp fun _ _ _ _ ⟨g,t,u,e,rg,bt,bu,q⟩=>⟨g,t,u,e,rg,fun v H' s hv _ px=>q v H' s hv (px bt bu)⟩
end
end dA
namespace dA
open PySem PyProof.Rows L2 SF SF.Po
section
variable {K:PySem.W.Frag} {own:List Str} {fr:List Nat} {g:TG} {te:TE} {σ:L2.St} {H1:Hp} {Q:VK}
end
theorem Nv.Hx.upd{H:Hp}{C D:Addr}{v:Nv}{l l':List V}(x:v.Hx H C)(hD:H D=some (.lst l))(n:v.pl≠D):v.Hx (L2.upd H D (.lst l')) C:=by
 have key:∀(c:Addr)(o:HO),c≠D->H c=some o->L2.upd H D (.lst l') c=some o:=fun c o z e=>by rw[aI z];exact e
 have k2:∀(c:Addr)(vs:List V),H c=some (.tup vs)->c≠D:=fun c vs e z=>by rw[z,hD] at e;cases e
 exact⟨key _ _ (fun z=>by have:=x.ir;rw[z,hD] at this;cases this) x.ir,key _ _ n x.hl,key _ _ (k2 _ _ x.hp) x.hp,⟨key _ _ (k2 _ _ x.rl.1) x.rl.1,x.rl.2⟩,⟨key _ _ (k2 _ _ x.rh.1) x.rh.1,x.rh.2⟩⟩
structure Qd(p m d:Int)(s:Re):Prop where
 hd:0<d
 hm:mC m
 s0:0<s
 ss:s*s=(m:Re)
 bp:Bd 12 p
 bm:Bd 24 m
 bd:Bd 8 d
theorem Qd.ab{p m d:Int}{s:Re}(h:Qd p m d s):Ab 40 (qd p m d):=fun x hx=>by
 have b2:Bd 3 (2:Int):=Bd.of_two (by decide) (by decide);have b0:Bd 30 (0:Int):=Bd.mono (m:=1) (by show(0:Int).natAbs<2^1;decide) (by decide);unfold qd at hx;rcases List.mem_cons.mp hx with e|hx
 ·rw[e];exact((h.bp.mul h.bp).sub h.bm).mono (by decide)
 ·rcases List.mem_cons.mp hx with e|hx
  ·rw[e];exact(b0.sub ((b2.mul h.bp).mul h.bd |>.mono (by decide))).mono (by decide)
  ·rw[List.mem_singleton.mp hx];exact(h.bd.mul h.bd).mono (by decide)
theorem Qd.Tq{p m d:Int}{s:Re}(h:Qd p m d s):x6 (qd p m d):=⟨fj h.hd,iF _ _ _,by show 3<=_;decide,40,by decide,h.ab⟩
theorem Qd.Ts{p m d:Int}{s:Re}(h:Qd p m d s):mO (iL (qd p m d)):=by
 rw[Ik h.hd h.hm];refine⟨cA (fj h.hd),fun z=>?_,by rw[aY];show 3<=13;decide,(dX (fj h.hd) (iF _ _ _) h.ab).mono (by decide),KC h.hd h.hm⟩;have:=congrArg List.length z;rw[aY] at this;cases this
structure Tw(v0 v1:Nv)(zs:List Int):Prop where
 z0:v0.zs=zs
 z1:v1.zs=zs
 w0:v0.w=2
 w1:v1.w=2
 ap:vl v0.t' v0.u'<=vl v1.t v1.u
section
variable {P:Program} {w:World} {K:PySem.W.Frag} {mg:Str->Option Value} {base:Heap} {C fI:Addr} {fd:FuncData}
end
end dA
namespace dA
open PySem PyProof.Rows L2 SF SF.Po
structure Nv.Mq(v:Nv)(x:Re)(zs:List Int):Prop where
 bt:Bd 20000 v.t
 bu:Bd 20000 v.u
 wk:Bd 20000 v.t'
 ub:Bd 20000 v.u'
 alt:((v.t=v.t'/\v.u=v.u')/\x=Re.q (vl v.t v.u))\/(v.Px x/\v.zs=zs/\vl v.t v.u<vl v.t' v.u'/\vl v.t' v.u'-vl v.t v.u<=1/\∀z:Rat,Re.q z≠x)
theorem Ed{zs:List Int}{x:Re}{c d c' d' l F:Int}(iso:gB zs x (vl c d) (vl c' d'))(lt:vl c d<vl c' d')(hd:0<d)(hl:0<l)(el:l=co zs (zs.length-1))(LP:zs≠[])(wd:vl c' d'-vl c d<=vl 1 l)(eF:F=(c*l).fdiv d)(no:¬(vl (F+1) l<vl c' d'/\at' (Re.q (vl (F+1) l)) (ao zs)=0))(z:Rat):Re.q z≠x:=fun e=>by
 have hx:=iso.root lt;obtain⟨i1,i2⟩:=iso.st lt;have K0:(0:Int)<(z.den:Int):=Int.ofNat_lt.mpr z.den_pos;have ez:((z.num:Int):Rat)/(((z.den:Int)):Rat)=z:=by
  have h:=nS z;have hd:((z.den:Int):Rat)≠0:=fun k=>by
   have:=Rat.intCast_inj.mp (k.trans (show(0:Rat)=((0:Int):Rat) from rfl));lia
  rw[<-h,Rat.div_def];have e2:((z.den:Nat):Rat)=(((z.den:Nat):Int):Rat):=rfl;rw[e2,Rat.mul_assoc,Rat.mul_inv_cancel _ hd,Rat.mul_one]
 have hz:hv z.num (z.den:Int) zs=0:=by
  have k:=fA (t:=z.num) K0 zs;rw[ez,e,hx,SF.Re.aW] at k;exact tK.mp k
 have dv:=rr LP (show Int.gcd z.num (z.den:Int)=1 from z.reduced) hz;rw[<-el] at dv;obtain⟨w,ew⟩:=dv;have ek:vl (z.num*w) l=z:=by
  have hw:0<w:=by
   rcases Int.lt_or_le 0 w with k|k
   ·exact k
   ·have:=Int.mul_le_mul_of_nonneg_left k (Int.le_of_lt K0);lia
  rw[ew];exact(gJ K0 hw).trans ez
 generalize z.num*w=k at ek;rw[<-e,<-ek] at i1 i2 hx;have a1:=(pL hd hl).mp (Re.cR.mp i1);have a2:=Re.cR.mp i2;have b1:vl (k-1) l<vl c d:=by
  have:vl k l-vl 1 l=vl (k-1) l:=D7 1 k l;grind
 have b2:=(pL hl hd).mp b1;rw[fR hd] at eF;have f1:F*d<=c*l:=by rw[eF];exact Int.ediv_mul_le _ (by lia)
 have f2:c*l<(F+1)*d:=by rw[eF];exact Int.lt_ediv_add_one_mul_self _ hd
 have g1:F<k:=Int.lt_of_mul_lt_mul_right (Int.lt_of_le_of_lt f1 a1) (Int.le_of_lt hd);have g2:k-1<F+1:=Int.lt_of_mul_lt_mul_right (Int.lt_trans b2 f2) (Int.le_of_lt hd);have YY:k=F+1:=by lia
 rw[YY] at a2 hx;exact no ⟨a2,hx⟩
noncomputable def vP(C:Addr):Sp:=fun vs H Q _=>∃(a pr g h:Addr)(zs:List Int)(t u t' u' wt:Int)(x:Re),vs=[.ref a,.ref pr,.int wt]/\IL H a zs/\H pr=some (.tup [.ref g,.ref h])/\Rt H g t u/\Rt H h t' u'/\
 (zs.length<=13/\Ab 100 zs/\zs≠[]/\0<co zs (zs.length-1))/\(Bd 6000 t/\Bd 6000 u/\Bd 6000 t'/\Bd 6000 u')/\gB zs x (vl t u) (vl t' u')/\D6 zs t u t' u'/\∀(v:Nv)(H':Hp),au H H'->v.Hx H' C->v.Mq x zs->(v.pl=a\/H v.pl=none)->Q (.ref v.r) H'
section
variable {P:Program} {w:World} {K:PySem.W.Frag} {mg:Str->Option Value} {base:Heap} {C fI:Addr} {fd:FuncData}
theorem qv(hT:P.given.tree=none)(RC:Rc K mg C fI fd)(yu:g7 P w K mg base BX 35 fI fd ["self","poly","pair","weight"] (yp C))(kL:bI P w K mg base 36 "narrowed" ["free","pair","width"] (vK (fun _=>True) id))(je:bI P w K mg base 36 "of_ratio" ["given"] (lO C))(fu:bI P w K mg base 36 "ratio" ["top","under"] rn)(dY:bI P w K mg base 36 "order_of" ["one","other"] Ak)(d9:bI P w K mg base 36 "sign_at" ["poly","given"] Bt)(D:aS K mg "number_in" jE ["free","pair","weight"]):bI P w K mg base 37 "number_in" ["free","pair","weight"] (vP C):=by
 refine D.ok d8 (fun vs H Q E h=>?_) (fun f cQ A outer s H vs Q E hr h=>?_)
 ·obtain⟨a,pr,g,h,zs,t,u,t',u',wt,x,rfl,_⟩:=h;rfl
 obtain⟨a,pr,g,h,zs,t,u,t',u',wt,x,rfl,ha,Oj,rg,rh,⟨lz,az,LP,tO⟩,⟨b1,b2,b3,b4⟩,iso,Aj,q⟩:=h;have iI:jj=60000000:=rfl;have bl:=az.co (zs.length-1);refine⟨_,(ae (aj (i:=3) d8.nd rfl (Or.inl rfl) (ax bB (pv 0) (cW bZ af) (fun _ _=>rfl)))
  (ae (aj (i:=4) d8.nd rfl (Or.inl rfl) (aw kL hr (aa (pv 0) (aa (pv 1) (aa (dm (aa af (aa (pv 3) ag))) ag)))))
  (ae (aj (i:=5) d8.nd rfl (Or.inl rfl) (ax ay (pv 4) af (fun _ _=>rfl)))
  (ae (aj (i:=6) d8.nd rfl (Or.inl rfl) (ax ay (pv 4) af (fun _ _=>rfl)))
  (ae (ck (aG (CK hr.wQ) (pv 5) (pv 6) (aD _))
  (ah (aE (aw je hr (aa (pv 5) ag))))
  aX)
  (ae (aj (i:=7) d8.nd rfl (Or.inl rfl) (aw fu hr (aa (ai bL (ai (eJ ⟨hT,⟨_,_,rfl,rfl,rfl,rfl,rfl⟩,hr.py⟩) (ai aq (ax ay (pv 5) af (fun _ _=>rfl)) (pv 3)) (ax ay (pv 5) af (fun _ _=>rfl))) af) (aa (pv 3) ag))))
  (ae (ck (PW.pt (lW (aG jo (aw dY hr (aa (pv 7) (aa (pv 6) ag))) af (aD _)) (jO (aG d_ (aw d9 hr (aa (pv 0) (aa (pv 7) ag))) af (aD _)))))
  (ah (aE (aw je hr (aa (pv 7) ag))))
  aX)
  (ah (aE (y6 (dvs:=[]) (E:=E0) RC.VS yu hr rfl RC.m RC.b .nil Cq (aa (pv 0) (aa (pv 4) (aa (pv 2) ag))))))))))))),?_⟩;walk_at "sf";refine cx (a_.of ha) (f_ LP) ?_;generalize el:co zs (zs.length-1)=l at tO bl;walk_at "sf";intro wd GN;have s1:=au.new GN (.tup [.int 1,.int l]);have h1:upd H wd (.tup [.int 1,.int l]) wd=some (.tup [.int 1,.int l]):=ak;generalize upd H wd (.tup [.int 1,.int l])=H1 at s1 h1 ⊢;walk_at "sf";refine⟨a,pr,g,h,wd,zs,t,u,t',u',1,l,6000,rfl,s1 _ _ ha,s1 _ _ Oj,(rg.same s1).1,(rh.same s1).1,h1,trivial,⟨lz,az⟩,⟨b1,b2,b3,b4,by decide,Bd.mono (m:=1) (by show(1:Int).natAbs<2^1;decide) (by decide),bl.mono (by decide),rg.2.1,rh.2.1,by decide,tO⟩,Aj,fun pn g2 h2 c d c' d' H2 s2 yc r2 Ee nw=>?_⟩;have dZ:=s1.trans s2;have VU:=nw.Aj.re r2.2.1 Ee.2.1;have Ef:=iso.part nw.lo nw.hi VU;have fresh:∀{p:Addr}{H':Hp},au H H'->H' p=none->H p=none:=fun{p H'} s e=>by
  cases z:H p with
  |none=>rfl
  |some o=>rw[s _ _ z] at e;cases e
 walk_at "sf";refine aL (cj.of yc) rfl ?_;walk_at "sf";refine aL (cj.of yc) rfl ?_;walk_at "sf";refine⟨g2,h2,c,d,c',d',rfl,rfl,cj.of r2.1,cj.of Ee.1,?_⟩;walk_at "sf";refine cZ (fun ce=>?_) (fun ce=>?_)
 ·rw[Bool.and_eq_true,beq_iff_eq,beq_iff_eq] at ce;walk_at "sf";refine⟨g2,c,d,rfl,r2,fun v H3 s3 hv rm _=>?_⟩;refine q v H3 (dZ.trans s3) hv ⟨by rw[rm.t];exact nw.b1.mono (by decide),by rw[rm.u];exact nw.b2.mono (by decide),by rw[rm.t'];exact nw.b1.mono (by decide),by rw[rm.u'];exact nw.b2.mono (by decide),.inl ⟨⟨rm.t.trans rm.t'.symm,rm.u.trans rm.u'.symm⟩,?_⟩⟩ (.inr (fresh dZ rm.fr));rw[rm.t,rm.u];have h1:=Ef.ge;have h2:=Ef.le;rw[<-ce.1,<-ce.2] at h2;grind
 ·rw[Bool.and_eq_true,beq_iff_eq,beq_iff_eq] at ce;have VV:vl c d<vl c' d':=by
   rcases VU with z|z
   ·exact z.1
   ·exact absurd (oY r2.2.1 Ee.2.1 r2.2.2 Ee.2.2 ((ng r2.2.1 Ee.2.1).mp z.1)) ce
  walk_at "sf";refine aL (cj.of r2.1) rfl ?_;walk_at "sf";refine bP (aJ nw.b1 bl (by decide)) ?_;walk_at "sf";refine aL (cj.of r2.1) rfl ?_;refine bP (by have:=r2.2.1;lia) ?_;walk_at "sf";have bf:Bd 19200 ((c*l).fdiv d):=by
   have b5:=nw.b1.mul bl;rw[fR r2.2.1];unfold Bd at*;have e:=Int.natAbs_ediv_le_natAbs (c*l) d;exact Nat.lt_of_le_of_lt e (Nat.lt_of_lt_of_le b5 (Nat.pow_le_pow_right (by decide) (by decide)))
  have VW:Bd 19300 ((c*l).fdiv d+1):=(bf.add (Bd.mono (m:=1) (by show(1:Int).natAbs<2^1;decide) (by decide))).mono (by decide);have VX:=Ed Ef VV r2.2.1 tO el.symm LP nw.wd (F:=(c*l).fdiv d) rfl;have Hj:c*l<((c*l).fdiv d+1)*d:=by rw[fR r2.2.1];exact Int.lt_ediv_add_one_mul_self _ r2.2.1
  generalize (c*l).fdiv d=F at VW VX Hj;refine⟨_,l,19300,rfl,VW,bl.mono (by decide),by decide,tO,fun p3 tg ug DM Qf Qg Qh K1 Tt=>?_⟩;have s3:=au.new DM (.tup [.int tg,.int ug]);have h3:upd H2 p3 (.tup [.int tg,.int ug]) p3=some (.tup [.int tg,.int ug]):=ak;generalize upd H2 p3 (.tup [.int tg,.int ug])=H3 at s3 h3 ⊢;have eg:vl tg ug=vl (F+1) l:=(ng Qh tO).mpr Tt;have B3:=dZ.trans s3;have key:sg (tg*d'-c'*ug)<0↔vl (F+1) l<vl c' d':=by
   rw[<-eg,pL Qh Ee.2.1];unfold sg;split
   ·exact⟨fun _=>by lia,fun _=>by decide⟩
   ·split
    ·exact⟨fun z=>absurd z (by decide),fun z=>by lia⟩
    ·exact⟨fun z=>absurd z (by decide),fun z=>by lia⟩
  have Ox:sg (hv tg ug zs)=0↔at' (Re.q (vl (F+1) l)) (ao zs)=0:=by
   rw[fA Qh];show aP (at' (Re.q (vl tg ug)) (ao zs))=0↔_;rw[eg];exact⟨fun z=>SF.Re.bH z,fun z=>by rw[z,SF.Re.aW]⟩
  walk_at "sf";refine⟨p3,h2,_,_,_,_,rfl,h3,s3 _ _ Ee.1,⟨Qf.mono (by decide),Qg.mono (by decide),nw.b3.mono (by decide),nw.b4.mono (by decide)⟩,?_⟩;walk_at "sf";have atS:∀{Q:VK},Q (.int (sg (hv tg ug zs))) H3->Bt [.ref a,.ref p3] H3 Q E0:=fun{Q} q=>⟨a,p3,zs,tg,ug,100,19300,rfl,s3 _ _ (dZ _ _ ha),h3,⟨by lia,az,Qf,Qg,by lia⟩,q⟩;by_cases LQ:vl (F+1) l<vl c' d'/\at' (Re.q (vl (F+1) l)) (ao zs)=0
  ·rw[decide_eq_true (key.mpr LQ.1)];refine uw ?_;walk_at "sf";refine atS ?_;walk_at "sf";rw[decide_eq_true (Ox.mpr LQ.2)];refine uw ?_;walk_at "sf";refine⟨p3,tg,ug,rfl,⟨h3,Qh,K1⟩,fun v H4 s4 hv rm _=>?_⟩;refine q v H4 (B3.trans s4) hv ⟨by rw[rm.t];exact Qf.mono (by decide),by rw[rm.u];exact Qg.mono (by decide),by rw[rm.t'];exact Qf.mono (by decide),by rw[rm.u'];exact Qg.mono (by decide),.inl ⟨⟨rm.t.trans rm.t'.symm,rm.u.trans rm.u'.symm⟩,?_⟩⟩ (.inr (fresh B3 rm.fr));rw[rm.t,rm.u,eg];obtain⟨c0,BY,hs⟩:=Ef.sn;have lw:vl c d<=vl (F+1) l:=(fU r2.2.1 tO).mpr (by lia);have e:=hs (vl (F+1) l) lw (Rat.le_of_lt LQ.1);rw[LQ.2,SF.Re.aW] at e;have e2:aP (Re.q (vl (F+1) l)-x)=0:=by rcases BY with rfl|rfl<;>lia
   have:=SF.Re.bH e2;grind
  ·refine Ea (fun c1 hB=>?_) ?_
   ·walk_at "sf";refine atS ?_;walk_at "sf";have YZ:vl (F+1) l<vl c' d':=key.mp (by simpa using c1);rw[decide_eq_false (fun z=>LQ ⟨YZ,Ox.mp z⟩)];refine w8 ?_;exact hB
   refine w8 ?_;walk_at "sf";refine Eb ?_;walk_at "sf";intro x2 dx e1 e2 e3;refine⟨x2,dx,_,_,_,rfl,ak,fun H' hk hx=>⟨rfl,?_⟩⟩;have s4:=s3.trans (vN e1 e2 e3 hk);have Y0:vl c' d'-vl c d<=1:=by
    have k1:vl 1 l<=vl 1 1:=(fU tO (by decide)).mpr (by lia);have k2:vl 1 1=1:=by decide +kernel
    have:=nw.wd;grind
   have VY:=dZ.trans s4;exact q ⟨x2,dx,a,pn,g2,h2,zs,c,d,c',d',wt⟩ H' VY ⟨hx,VY _ _ ha,s4 _ _ yc,r2.same s4,Ee.same s4⟩ ⟨nw.b1.mono (by decide),nw.b2.mono (by decide),nw.b3.mono (by decide),nw.b4.mono (by decide),.inr ⟨⟨Ef,nw.Aj,lz,az,nw.b1.mono (by decide),nw.b2.mono (by decide),nw.b3.mono (by decide),nw.b4.mono (by decide)⟩,rfl,VV,Y0,VX LQ⟩⟩ (.inl rfl)
end
end dA
namespace dA
open PySem PyProof.Rows L2 SF SF.Po
section
variable {K:PySem.W.Frag} {own:List Str} {fr:List Nat} {g:TG} {te:TE} {σ:L2.St} {H1:Hp} {Q:VK}
theorem yv{a:Addr}{xs:List V}(hS:a_ K H1 a xs)(Pv:Addr->List V->Hp->Prop)(hz:xs.length<=sizeLine)(p0:∀D H2,H1 D=none->au H1 H2->Pv D [] H2)(hu:∀D ys H l l',H1 D=none->H D=some (.lst l)->Pv D ys H->Pv D ys (upd H D (.lst l')))(hs:∀(D:Addr)(i:Nat)(x:V)(r:L2.St)(ys:List V)(H2:Hp),xs[i]?=some x->r.length=own.length->ys.length=i->Pv D ys H2->H1 D=none->H2 D=some (.lst ys)->au H1 H2->∀Z:V->L2.St->Hp->Prop,(∀y dy H5,au H2 H5->Pv D (ys++[y]) H5->(∃r',r'.length=own.length/\dy=r'++qe fr σ)->Z y dy H5)->g x (r++qe fr σ) H2 fun dy H4=>te dy H4 fun y H5=>Z y dy H5)(hq:∀D H2 ys,H1 D=none->au H1 H2->H2 D=some (.lst ys)->ys.length=xs.length->Pv D ys H2->Q (.ref D) H2):kj (qF K a) own fr σ g te H1 Q:=by
 intro D hD;refine⟨fun i m fX H2=>m=xs.length-i/\i<=xs.length/\au H1 H2/\(∃r:L2.St,r.length=own.length/\fX=r++qe fr σ)/\∃ys,ys.length=i/\Pv D ys H2/\H2 D=some (.lst ys),⟨xs.length,rfl,Nat.zero_le _,au.new hD _,⟨_,List.length_replicate,rfl⟩,[],rfl,p0 _ _ hD (au.new hD _),ak⟩,fun i m fX H2 w=>?_⟩;obtain⟨rfl,hi,dZ,⟨r,hr,rfl⟩,ys,hl,hp,hy⟩:=w;by_cases gb:i<xs.length
 ·refine .inr ⟨⟨xs,xs[i],dZ.seq hS,by simp[gb]⟩,fun x H3 y=>?_⟩;obtain⟨rfl,y⟩:=y;refine hs D i x r ys _ (y xs (dZ.seq hS)) hr hl hp hD hy dZ _ fun v dy H5 xc pv⟨r',Fw,e⟩=>?_;refine⟨ys,xc _ _ hy,by lia,xs.length-(i+1),by lia,rfl,gb,fun b o q=>?_,⟨r',Fw,e⟩,ys++[v],by rw[List.length_append,hl];rfl,hu _ _ _ _ _ hD (xc _ _ hy) pv,ak⟩;rw[aI (aN q hD)];exact xc _ _ (dZ _ _ q)
 ·obtain rfl:i=xs.length:=by lia
  exact .inl ⟨⟨xs,dZ.seq hS,Nat.le_refl _⟩,hq D H2 ys hD dZ hy hl hp⟩
end
theorem mO.plain{zs:List Int}(h:mO zs):Plain (ao zs):=fun x z w=>lK h.1 h.2.2.2.2 x ⟨z,w⟩
noncomputable def pN(C:Addr):Sp:=fun vs H Q _=>∃(a:Addr)(xs:List Int)(rs:List Re),vs=[.ref a]/\IL H a xs/\(x6 xs/\mO (iL xs)/\xs.length<=13/\2<=(iL xs).length/\0<co (iL xs) ((iL xs).length-1))/\rs.Nodup/\(∀x,at' x (ao (iL xs))=0↔x∈rs)/\
 ∀(l:Addr)(ws:List (Nv×Re))(H':Hp),au H H'->H' l=some (.lst (ws.map fun w=>V.ref w.1.r))->(∀w∈ws,w.1.Hx H' C/\w.1.Mq w.2 (iL xs)/\w.2∈rs)->ws.Pairwise (fun a b=>a.2<b.2)->(∀x∈rs,∃w∈ws,w.2=x)->ws.length<=60->Q (.ref l) H'
section
variable {P:Program} {w:World} {K:PySem.W.Frag} {mg:Str->Option Value} {base:Heap} {C fI:Addr} {fd:FuncData}
theorem BC(T:Nm mg)(yw:bI P w K mg base 37 "isolated" ["poly"] IG)(ij:bI P w K mg base 37 "square_free" ["poly"] (DI iL x6))(vQ:bI P w K mg base 37 "number_in" ["free","pair","weight"] (vP C))(pI:bI P w K mg base 37 "degree" ["poly"] DW)(D:aS K mg "roots" sV ["poly"]):bI P w K mg base 38 "roots" ["poly"] (pN C):=by
 refine D.ok pj (fun vs H Q E h=>?_) (fun f cQ A outer s H vs Q E hr h=>?_)
 ·obtain⟨a,xs,rs,rfl,_⟩:=h;rfl
 obtain⟨a,xs,rs,rfl,ha,⟨GR,prec,l13,l2,tO⟩,nd,yx,q⟩:=h;refine⟨_,(ae (aj (i:=1) pj.nd rfl (Or.inl rfl) (aw yw hr (aa (pv 0) ag)))
  (ae (aj (i:=2) pj.nd rfl (Or.inr rfl) (aw ij hr (aa (pv 0) ag)))
  (ah (aE (fZ rfl rfl (g9 (own:=["pair"]) (fr:=[2]) (fs:=["free"]) (by with_unfolding_all rfl) rfl (by decide +kernel) (by decide +kernel) (by exact⟨rfl,trivial⟩) (by with_unfolding_all rfl) (by exact⟨⟨rfl,rfl,rfl,Or.inl rfl⟩,trivial⟩)) (eZ (pv 1)) (fun _ _ _ _ _=>(aU (i:=0) (show List.Nodup (["pair","free"]:List Str) by decide +kernel) rfl (Or.inl rfl) (Or.inr rfl))) (fun _ _ _ _ _=>(aw vQ hr (aa (pv 1) (aa (pv 0) (aa (aw pI hr (aa (pv 1) ag)) ag)))))))))),?_⟩;walk_at "sf";refine⟨a,_,rfl,ha,⟨GR,prec,l13⟩,fun r fs ps o b t u t' u' H1 s1 _ Nh hF iso Yq=>?_⟩;walk_at "sf";refine⟨a,_,rfl,s1 _ _ ha,GR,fun p1 H2 s2 h2=>?_⟩;obtain⟨many,cover⟩:=iso.many l2 (fun f hf=>⟨(hF f hf).rl.2.1,(hF f hf).rh.2.1⟩) nd yx;have plain:=prec.plain;have lz:(iL xs).length<=13:=prec.2.2.1;have az:Ab 100 (iL xs):=prec.2.2.2.1;have LP:iL xs≠[]:=prec.2.1;generalize iL xs=zs at*;walk_at "sf";refine f6 (H1:=H2) (qF K r) (fun R hR=>?_) (yv (xs:=fs.map fun f=>V.ref f.p) (a_.of (s2 _ _ Nh)) (fun D ys H3=>∃ws:List (Nv×Re),ys=ws.map (fun w=>V.ref w.1.r)/\∀(i:Nat)(w:Nv×Re),ws[i]?=some w->w.1.Hx H3 C/\w.1.pl≠D/\w.1.Mq w.2 zs/\∃f:Fx,fs[i]?=some f/\gB zs w.2 f.lo f.hi) (fb (by rw[List.length_map];lia)) ?_ ?_ ?_ ?_)
 ·walk_at "sf";exact⟨r,rfl,⟨_,a_.of (s2 _ _ Nh)⟩,hR⟩
 ·exact fun D H3 _ _=>⟨[],rfl,fun i w e=>(nomatch e)⟩
 ·rintro D1 ys H3 l l' hD hl ⟨ws,rfl,hw⟩;exact⟨ws,rfl,fun i w e=>⟨(hw i w e).1.upd hl (hw i w e).2.1,(hw i w e).2⟩⟩
 ·rintro D1 i x r1 ys H3 hx Bv qR ⟨ws,rfl,hw⟩ hD Qi s3 Z hZ;obtain⟨x0,rfl⟩:=sf Bv;rw[List.length_map] at qR;rw[List.getElem?_map] at hx;cases ef:fs[i]? with
  |none=>rw[ef] at hx;cases hx
  |some f=>
   rw[ef] at hx;have N_:V.ref f.p=x:=by simpa using hx
   subst N_;have hf:=List.mem_of_getElem? ef;have fx:=(hF f hf).same (s2.trans s3);have pf:=iso.px f hf;obtain⟨Y1,y,hy,VZ⟩:=many f hf;walk_at "sf";refine⟨p1,zs,rfl,s3 _ _ h2,?_⟩;walk_at "sf";refine⟨p1,f.p,f.gl,f.gh,zs,f.t,f.u,f.t',f.u',_,y,rfl,s3 _ _ h2,fx.hp,fx.rl,fx.rh,⟨lz,az,LP,tO⟩,⟨pf.bt,pf.bu,pf.wk,pf.ub⟩,VZ,.inl ⟨Y1,pf.sgn⟩,fun v H4 s4 Y2 mq uk=>?_⟩;walk_at "sf";refine hZ _ _ _ s4 ⟨ws++[(v,y)],by rw[List.map_append];rfl,fun j w e=>?_⟩ ⟨[_],rfl,rfl⟩;by_cases hj:j<ws.length
   ·rw[List.getElem?_append_left hj] at e;obtain⟨k1,k2,k3⟩:=hw j w e;exact⟨k1.same s4,k2,k3⟩
   ·rw[List.getElem?_append_right (by lia)] at e;have ej:j=i:=by
     rcases Nat.lt_or_ge (j-ws.length) 1 with z|z
     ·lia
     ·rw[List.getElem?_eq_none (by simpa using z)] at e;cases e
    subst ej;have e2:(v,y)=w:=by
     have:j-ws.length=0:=by lia
     rw[this] at e;simpa using e
    subst e2;refine⟨Y2,?_,mq,f,ef,VZ⟩;rcases uk with z|z
    ·rw[z];exact aN h2 hD
    ·exact fun z2=>by rw[z2,Qi] at z;cases z
 ·rintro D1 H3 ys hD s3 Qi Y3 ⟨ws,rfl,hw⟩;rw[List.length_map,List.length_map] at Y3;walk_at "sf";refine q D1 ws H3 (s1.trans (s2.trans s3)) Qi (fun w hm=>?_) ?_ (fun x hx=>?_) (by lia)
  ·obtain⟨i,hi,e⟩:=List.mem_iff_getElem.mp hm;obtain⟨k1,_,k3,f,kf,ki⟩:=hw i w (by rw[List.getElem?_eq_getElem hi,e]);exact⟨k1,k3,(yx _).mp (ki.root (many f (List.mem_of_getElem? kf)).1)⟩
  ·refine List.pairwise_iff_getElem.mpr fun i j hi hj Y4=>?_;obtain⟨_,_,_,f,kf,ki⟩:=hw i _ (List.getElem?_eq_getElem hi);obtain⟨_,_,_,f',Oy,Tu⟩:=hw j _ (List.getElem?_eq_getElem hj);obtain⟨lf,ef⟩:=List.getElem?_eq_some_iff.mp kf;obtain⟨Y5,Y6⟩:=List.getElem?_eq_some_iff.mp Oy;have p:=iso.SV.1;rw[List.pairwise_map] at p;have h:=(List.pairwise_iff_getElem.mp p) i j lf Y5 Y4;rw[ef,Y6] at h;have h':Re.q f.hi<=Re.q f'.lo:=Re.bY.mpr h;have a1:=(ki.st (many f (List.mem_of_getElem? kf)).1).2;have a2:=(Tu.st (many f' (List.mem_of_getElem? Oy)).1).1;grind
  ·obtain⟨f,hf,c1,c2⟩:=cover x hx;obtain⟨i,hi,e⟩:=List.mem_iff_getElem.mp hf;obtain⟨_,_,_,f',Oy,Tu⟩:=hw i _ (List.getElem?_eq_getElem (show i<ws.length by lia));have ef:f'=f:=by
    rw[List.getElem?_eq_getElem hi,e] at Oy;exact(Option.some.inj Oy).symm
   subst ef;refine⟨_,List.getElem_mem (show i<ws.length by lia),?_⟩;exact(Tu.only (many f' hf).1 plain (by grind) (by grind) ((yx x).mpr hx)).symm
end
end dA
namespace dA
open PySem PyProof.Rows L2 SF SF.Po
noncomputable def Nv.rat(v:Nv):Prop:=v.t=v.t'/\v.u=v.u'
theorem Nv.Px.K2{v:Nv}{x:Re}(px:v.Px x)(h:v.rat):x=Re.q (vl v.t v.u):=by
 have h1:=px.iso.ge;have h2:=px.iso.le;rw[<-h.1,<-h.2] at h2;grind
noncomputable def IM(C:Addr):Sp:=fun vs H Q _=>∃v:Nv,vs=[.ref v.r]/\v.Hx H C/\(v.rat->Q (.ref v.g) H)/\(¬v.rat->Q .fB H)
section
variable {P:Program} {w:World} {K:PySem.W.Frag} {mg:Str->Option Value} {base:Heap} {C fI:Addr} {fd:FuncData}
theorem vR(RC:Rc K mg C fI fd)(D:aS K mg "as_ratio" kB ["number"]):bI P w K mg base 1 "as_ratio" ["number"] (IM C):=by
 refine D.ok vi (fun vs H Q E h=>?_) (fun f cQ A outer s H vs Q E hr h=>?_)
 ·obtain⟨v,rfl,_⟩:=h;rfl
 obtain⟨v,rfl,hx,q1,q2⟩:=h;refine⟨_,(ah (aE (eI (aG (CK hr.wQ) (ax ay (dD (pv 0) rfl) af (fun _ _=>rfl)) (ax ay (dD (pv 0) rfl) af (fun _ _=>rfl)) (aD _)) (ax ay (dD (pv 0) rfl) af (fun _ _=>rfl)) gp))),?_⟩;walk_at "sf";refine⟨_,rfl,_,C,_,_,_,rfl,hx.ir,RC.cl,RC.n2,rfl,?_⟩;walk_at "sf";refine aL (cj.of hx.hp) rfl ?_;walk_at "sf";refine⟨_,rfl,_,C,_,_,_,rfl,hx.ir,RC.cl,RC.n2,rfl,?_⟩;walk_at "sf";refine aL (cj.of hx.hp) rfl ?_;refine⟨v.g,v.h,v.t,v.u,v.t',v.u',rfl,rfl,cj.of hx.rl.1,cj.of hx.rh.1,?_⟩;walk_at "sf";refine cZ (fun c=>?_) (fun c=>?_)
 ·rw[Bool.and_eq_true,beq_iff_eq,beq_iff_eq] at c;walk_at "sf";refine⟨_,rfl,_,C,_,_,_,rfl,hx.ir,RC.cl,RC.n2,rfl,?_⟩;walk_at "sf";refine aL (cj.of hx.hp) rfl ?_;exact q1 c
 ·rw[Bool.and_eq_true,beq_iff_eq,beq_iff_eq] at c;walk_at "sf";exact q2 c
end
end dA
namespace dA
open PySem PyProof.Rows L2 SF SF.Po
structure Nv.Ok(v:Nv)(x:Re):Prop where
 bt:Bd 20000 v.t
 bu:Bd 20000 v.u
 wk:Bd 20000 v.t'
 ub:Bd 20000 v.u'
 alt:(v.rat/\x=Re.q (vl v.t v.u))\/(v.Px x/\vl v.t v.u<vl v.t' v.u'/\vl v.t' v.u'-vl v.t v.u<=1/\Plain (ao v.zs)/\Tr v.zs/\v.zs≠[]/\(∃p σ m d,Dz p σ m d x)/\Re.q (-(2^13))<=x/\x<=Re.q (2^13))
theorem Nv.Ok.vx{v:Nv}{x:Re}(h:v.Ok x):v.Vx x:=⟨h.bt,h.bu,h.wk,h.ub,h.alt.imp id fun z=>z.1⟩
structure Nv.Ir(v:Nv)(x:Re):Prop where
 px:v.Px x
 lt:vl v.t v.u<vl v.t' v.u'
 wd:vl v.t' v.u'-vl v.t v.u<=1
 pl:Plain (ao v.zs)
 tr:Tr v.zs
 ne:v.zs≠[]
 sx:∃p σ m d,Dz p σ m d x
 lo:Re.q (-(2^13))<=x
 hi:x<=Re.q (2^13)
theorem Nv.Ok.ir{v:Nv}{x:Re}(h:v.Ok x)(n:¬v.rat):v.Ir x:=by
 rcases h.alt with z|⟨a1,a2,a3,a4,a5,a6,a7,a8,a9⟩
 ·exact absurd z.1 n
 ·exact⟨a1,a2,a3,a4,a5,a6,a7,a8,a9⟩
theorem IP{c:Bool}{tx ty:TE}{σ:L2.St}{H:Hp}{Q:VK}(v1 v2:V)(h1:c=true->Q v1 H->tx σ H Q)(h2:c=false->Q v2 H->ty σ H Q)(h:Q (if c=true then v1 else v2) H):if c=true then tx σ H Q else ty σ H Q:=by
 cases c with
 |true=>rw[if_pos rfl] at h ⊢;exact h1 rfl h
 |false=>rw[if_neg (by decide)] at h ⊢;exact h2 rfl h
noncomputable def Al(C:Addr):Sp:=fun vs H Q _=>∃(v v':Nv)(x x':Re),vs=[.ref v.r,.ref v'.r]/\v.Hx H C/\v'.Hx H C/\v.Ir x/\v'.Ir x'/\∀(b:Bool)(H':Hp),au H H'->(b=true↔x=x')->Q (.bl b) H'
noncomputable def Am:Sp:=fun vs H Q _=>∃(g h:Addr)(t u t' u':Int)(n:Nat),vs=[.ref g,.ref h]/\H g=some (.tup [.int t,.int u])/\H h=some (.tup [.int t',.int u'])/\(Bd n t/\Bd n u/\Bd n t'/\Bd n u'/\n<=400000/\0<u/\0<u')/\
 ∀(p:Addr)(c d:Int),H p=none->0<d->Int.gcd c d=1->c*(u*u')=t*t'*d->Q (.ref p) (upd H p (.tup [.int c,.int d]))
theorem Eg{xs ys:List Int}(hx:Tr xs)(hn:xs≠[]):(dG xs ys).length<=xs.length:=by
 have h0:=fE hx hn;have gc:=cY (xs:=xs) (ys:=ys) (.inl h0);have:=gc.df.len h0;rw[bq (f7 _ _),bq hx] at this;exact this
section
variable {P:Program} {w:World} {K:PySem.W.Frag} {mg:Str->Option Value} {base:Heap} {C fI:Addr} {fd:FuncData}
theorem Eh(fu:bI P w K mg base 35 "ratio" ["top","under"] rn)(D:aS K mg "times" sU ["one","other"]):bI P w K mg base 36 "times" ["one","other"] Am:=by
 refine D.ok DE (fun vs H Q E h=>?_) (fun f cQ A outer s H vs Q E hr h=>?_)
 ·obtain⟨g,h,t,u,t',u',n,rfl,_⟩:=h;rfl
 obtain⟨g,h,t,u,t',u',n,rfl,hg,hh,⟨b1,b2,b3,b4,hn,hu,eD⟩,q⟩:=h;refine⟨_,(ah (aE (aw fu hr (aa (ai aq (ax ay (pv 0) af (fun _ _=>rfl)) (ax ay (pv 1) af (fun _ _=>rfl))) (aa (ai aq (ax ay (pv 0) af (fun _ _=>rfl)) (ax ay (pv 1) af (fun _ _=>rfl))) ag))))),?_⟩;walk_at "sf";refine aL (cj.of hg) rfl ?_;walk_at "sf";refine aL (cj.of hh) rfl ?_;refine bP (aJ b1 b3 (by lia)) ?_;walk_at "sf";refine aL (cj.of hg) rfl ?_;walk_at "sf";refine aL (cj.of hh) rfl ?_;refine bP (aJ b2 b4 (by lia)) ?_;walk_at "sf";exact⟨_,_,n+n,rfl,b1.mul b3,b2.mul b4,by lia,Int.mul_pos hu eD,fun p c d hp _ _ hd K1 e=>q p c d hp hd K1 e⟩
theorem tP(RC:Rc K mg C fI fd)(dY:bI P w K mg base 36 "order_of" ["one","other"] Ak)(jc:bI P w K mg base 36 "divisor_of" ["one","other"] (xV dG KI))(d9:bI P w K mg base 36 "sign_at" ["poly","given"] Bt)(D:aS K mg "are_same" kD ["one","other"]):bI P w K mg base 37 "are_same" ["one","other"] (Al C):=by
 refine D.ok gX (fun vs H Q E h=>?_) (fun f cQ A outer s H vs Q E hr h=>?_)
 ·obtain⟨v,v',x,x',rfl,_⟩:=h;rfl
 obtain⟨v,v',x,x',rfl,hv,ik,ir,E6,q⟩:=h;have px:=ir.px;have BD:=E6.px;have iI:jj=60000000:=rfl;have fld:∀{σ:L2.St}{Q:VK}(y:Nv)(i:Nat),y.Hx H C->σ[i]?=some (some (.ref y.r))->Q (.ref y.pp) H->Mm K (Fe i) "pair" σ H Q:=fun y i hy e q=>⟨_,e,_,C,_,_,_,rfl,hy.ir,RC.cl,RC.n2,rfl,q⟩;refine⟨_,(ae (aj (i:=2) gX.nd rfl (Or.inl rfl) (eI (aG eP (aw dY hr (aa (ax ay (dD (pv 0) rfl) af (fun _ _=>rfl)) (aa (ax ay (dD (pv 1) rfl) af (fun _ _=>rfl)) ag))) af (aD _)) (ax ay (dD (pv 0) rfl) af (fun _ _=>rfl)) (ax ay (dD (pv 1) rfl) af (fun _ _=>rfl))))
  (ae (aj (i:=3) gX.nd rfl (Or.inl rfl) (eI (aG jo (aw dY hr (aa (ax ay (dD (pv 0) rfl) af (fun _ _=>rfl)) (aa (ax ay (dD (pv 1) rfl) af (fun _ _=>rfl)) ag))) af (aD _)) (ax ay (dD (pv 0) rfl) af (fun _ _=>rfl)) (ax ay (dD (pv 1) rfl) af (fun _ _=>rfl))))
  (ae (ck (aG yZ (aw dY hr (aa (pv 2) (aa (pv 3) ag))) af (aD _))
  (ah (aE j9))
  aX)
  (ae (aj (i:=4) gX.nd rfl (Or.inl rfl) (aw jc hr (aa (dD (pv 0) rfl) (aa (dD (pv 1) rfl) ag))))
  (ah (aE (cP jo (ai aq (aw d9 hr (aa (pv 4) (aa (pv 2) ag))) (aw d9 hr (aa (pv 4) (aa (pv 3) ag)))) af (aD _)))))))),?_⟩;walk_at "sf";refine fld v 0 hv rfl ?_;walk_at "sf";refine aL (cj.of hv.hp) rfl ?_;walk_at "sf";refine fld v' 1 ik rfl ?_;walk_at "sf";refine aL (cj.of ik.hp) rfl ?_;refine⟨v.g,v'.g,_,_,_,_,rfl,hv.rl.1,ik.rl.1,⟨px.bt.mono (by decide),px.bu.mono (by decide),BD.bt.mono (by decide),BD.bu.mono (by decide)⟩,?_⟩;walk_at "sf";refine IP (.ref v.g) (.ref v'.g) (fun _ k=>?_) (fun _ k=>?_) ?_
 ·walk_at "sf";refine fld v 0 hv rfl ?_;walk_at "sf";exact aL (cj.of hv.hp) rfl k
 ·walk_at "sf";refine fld v' 1 ik rfl ?_;walk_at "sf";exact aL (cj.of ik.hp) rfl k
 obtain⟨la,lt,lu,el,Qj,blt,V0,m1,m2,m3⟩:∃(la:Addr)(lt lu:Int),(if decide (0<sg (v.t*v'.u-v'.t*v.u))=true then V.ref v.g else V.ref v'.g)=.ref la/\Rt H la lt lu/\Bd 20000 lt/\Bd 20000 lu/\vl v.t v.u<=vl lt lu/\vl v'.t v'.u<=vl lt lu/\(vl lt lu=vl v.t v.u\/vl lt lu=vl v'.t v'.u):=by
  by_cases c:0<sg (v.t*v'.u-v'.t*v.u)
  ·rw[if_pos (decide_eq_true c)];refine⟨v.g,v.t,v.u,rfl,hv.rl,px.bt,px.bu,Rat.le_refl,?_,.inl rfl⟩;refine(fU ik.rl.2.1 hv.rl.2.1).mpr ?_;unfold sg at c;split at c
   ·lia
   ·split at c
    ·lia
    ·lia
  ·rw[if_neg (by rw[decide_eq_false c];decide)];refine⟨v'.g,v'.t,v'.u,rfl,ik.rl,BD.bt,BD.bu,?_,Rat.le_refl,.inr rfl⟩;refine(fU hv.rl.2.1 ik.rl.2.1).mpr ?_;unfold sg at c;split at c
   ·lia
   ·split at c
    ·lia
    ·lia
 rw[el];walk_at "sf";refine fld v 0 hv rfl ?_;walk_at "sf";refine aL (cj.of hv.hp) rfl ?_;walk_at "sf";refine fld v' 1 ik rfl ?_;walk_at "sf";refine aL (cj.of ik.hp) rfl ?_;refine⟨v.h,v'.h,_,_,_,_,rfl,hv.rh.1,ik.rh.1,⟨px.wk.mono (by decide),px.ub.mono (by decide),BD.wk.mono (by decide),BD.ub.mono (by decide)⟩,?_⟩;walk_at "sf";refine IP (.ref v.h) (.ref v'.h) (fun _ k=>?_) (fun _ k=>?_) ?_
 ·walk_at "sf";refine fld v 0 hv rfl ?_;walk_at "sf";exact aL (cj.of hv.hp) rfl k
 ·walk_at "sf";refine fld v' 1 ik rfl ?_;walk_at "sf";exact aL (cj.of ik.hp) rfl k
 obtain⟨ha,ht,hu,eh,Qk,V1,V2,n1,n2,n3⟩:∃(ha:Addr)(ht hu:Int),(if decide (sg (v.t'*v'.u'-v'.t'*v.u')<0)=true then V.ref v.h else V.ref v'.h)=.ref ha/\Rt H ha ht hu/\Bd 20000 ht/\Bd 20000 hu/\vl ht hu<=vl v.t' v.u'/\vl ht hu<=vl v'.t' v'.u'/\(vl ht hu=vl v.t' v.u'\/vl ht hu=vl v'.t' v'.u'):=by
  by_cases c:sg (v.t'*v'.u'-v'.t'*v.u')<0
  ·rw[if_pos (decide_eq_true c)];refine⟨v.h,v.t',v.u',rfl,hv.rh,px.wk,px.ub,Rat.le_refl,?_,.inl rfl⟩;refine(fU hv.rh.2.1 ik.rh.2.1).mpr ?_;unfold sg at c;split at c
   ·lia
   ·split at c
    ·lia
    ·lia
  ·rw[if_neg (by rw[decide_eq_false c];decide)];refine⟨v'.h,v'.t',v'.u',rfl,ik.rh,BD.wk,BD.ub,?_,Rat.le_refl,.inr rfl⟩;refine(fU ik.rh.2.1 hv.rh.2.1).mpr ?_;unfold sg at c;split at c
   ·lia
   ·split at c
    ·lia
    ·lia
 rw[eh];walk_at "sf";refine⟨la,ha,lt,lu,ht,hu,rfl,Qj.1,Qk.1,⟨blt.mono (by decide),V0.mono (by decide),V1.mono (by decide),V2.mono (by decide)⟩,?_⟩;rw[yq Qj.2.1 Qk.2.1];walk_at "sf";obtain⟨a1,a2⟩:=px.iso.st ir.lt;obtain⟨a3,a4⟩:=BD.iso.st E6.lt;by_cases lh:vl lt lu<vl ht hu
 ·have lh':=Re.cR.mpr lh;rw[SF.Re.bQ (show Re.q (vl lt lu)-Re.q (vl ht hu)<0 by grind)];refine w8 ?_;walk_at "sf";refine⟨_,rfl,_,C,_,_,_,rfl,hv.ir,RC.cl,RC.n1,rfl,?_⟩;walk_at "sf";refine⟨_,rfl,_,C,_,_,_,rfl,ik.ir,RC.cl,RC.n1,rfl,?_⟩;walk_at "sf";have lz:=px.lz;have lz':=BD.lz;have ld:=Eg (ys:=v'.zs) ir.tr ir.ne;have bd:=z_ (b:=100) ir.tr E6.tr (by lia) px.az BD.az;have gc:=cY (xs:=v.zs) (ys:=v'.zs) (.inl (fE ir.tr ir.ne));refine⟨v.pl,v'.pl,v.zs,v'.zs,rfl,hv.hl,ik.hl,⟨ir.tr,E6.tr,by lia,by lia,by lia,100,by decide,px.az,BD.az⟩,fun pd H1 s1 uR=>?_⟩;generalize dG v.zs v'.zs=D at*;walk_at "sf";refine⟨pd,la,D,lt,lu,61*100+427,20000,rfl,uR,s1 _ _ Qj.1,⟨by lia,bd,blt,V0,by lia⟩,?_⟩;walk_at "sf";refine⟨pd,ha,D,ht,hu,61*100+427,20000,rfl,uR,s1 _ _ Qk.1,⟨by lia,bd,V1,V2,by lia⟩,?_⟩;refine bP (aJ (pD _) (pD _) (by decide)) ?_;walk_at "sf";refine q _ _ s1 ?_;rw[decide_eq_true_eq,fA Qj.2.1,fA Qk.2.1];exact Bi px.iso BD.iso ir.lt E6.lt ir.pl E6.pl gc m1 m2 m3 n1 n2 n3 lh
 ·have h1:Re.q (vl ht hu)<=Re.q (vl lt lu):=Re.bY.mpr (by grind);have h0:0<=aP (Re.q (vl lt lu)-Re.q (vl ht hu)):=by
   rcases SF.Re.aO (Re.q (vl lt lu)-Re.q (vl ht hu)) with z|z|z
   ·exfalso;grind
   ·rw[z.2];decide
   ·rw[z.2];decide
  rw[if_pos (decide_eq_true h0)];walk_at "sf";refine q _ _ (au.refl _) ⟨fun z=>(nomatch z),fun e=>?_⟩;exfalso;subst e;have lx:Re.q (vl lt lu)<x:=by rcases m3 with e|e<;>rw[e]<;>assumption
  have xh:x<Re.q (vl ht hu):=by rcases n3 with e|e<;>rw[e]<;>assumption
  grind
end
end dA
namespace dA
open PySem PyProof.Rows L2 SF SF.Po
theorem nh{y:Re}:aP y<0↔y<0:=by
 rcases SF.Re.aO y with z|z|z
 ·rw[z.2];exact⟨fun _=>z.1,fun _=>by decide⟩
 ·rw[z.2];exact⟨fun w=>absurd w (by decide),fun w=>by exfalso;grind⟩
 ·rw[z.2];exact⟨fun w=>absurd w (by decide),fun w=>by exfalso;grind⟩
noncomputable def nj:Nat->Nat
 |0=>20000
 |j+1=>2*nj j+99
theorem Oz{j:Nat}(h:j<=4):nj j<=330000:=by
 match j,h with
 |0,_=>decide
 |1,_=>decide
 |2,_=>decide
 |3,_=>decide
 |4,_=>decide
theorem K3{j:Nat}(h:j<=5):nj j<=700000:=by
 match j,h with
 |0,_=>decide
 |1,_=>decide
 |2,_=>decide
 |3,_=>decide
 |4,_=>decide
 |5,_=>decide
noncomputable def wj(j:Nat):Int:=2^(2^(j+2))
theorem tQ(j:Nat):0<wj j:=Int.pow_pos (by decide)
theorem OA(j:Nat):wj j*wj j=wj (j+1):=by
 unfold wj;rw[<-Int.pow_add];congr 1;rw[Nat.pow_succ 2 (j+2)];lia
theorem Ei{j:Nat}(h:j<=4):Bd 65 (wj j):=by
 match j,h with
 |0,_=>unfold Bd wj;decide +kernel
 |1,_=>unfold Bd wj;decide +kernel
 |2,_=>unfold Bd wj;decide +kernel
 |3,_=>unfold Bd wj;decide +kernel
 |4,_=>unfold Bd wj;decide +kernel
noncomputable def rp(C:Addr):Sp:=fun vs H Q _=>∃(v v':Nv)(x x':Re),vs=[.ref v.r,.ref v'.r]/\v.Hx H C/\v'.Hx H C/\v.Ir x/\v'.Ir x'/\x≠x'/\∀H',au H H'->Q (.int (aP (x-x'))) H'
section
variable {P:Program} {w:World} {K:PySem.W.Frag} {mg:Str->Option Value} {base:Heap} {C fI:Addr} {fd:FuncData}
theorem yy(RC:Rc K mg C fI fd)(iJ:bI P w K mg base 37 "against" ["number","given"] (mQ C))(kL:bI P w K mg base 37 "narrowed" ["free","pair","width"] mP)(GS:bI P w K mg base 37 "times" ["one","other"] Am)(D:aS K mg "parted" pk ["one","other"]):bI P w K mg base 38 "parted" ["one","other"] (rp C):=by
 refine D.ok iH (fun vs H Q E h=>?_) (fun f cQ A outer s H vs Q E hr h=>?_)
 ·obtain⟨v,v',x,x',rfl,_⟩:=h;rfl
 obtain⟨v,v',x,x',rfl,hv,ik,ir,E6,ne,q⟩:=h;have px:=ir.px;obtain⟨_,_,_,_,sx⟩:=ir.sx;obtain⟨_,_,_,_,Y7⟩:=E6.sx;have pK:=sx.apart Y7 ne;have Ej:Bd 65 (1:Int):=Bd.mono (m:=1) (by show(1:Int).natAbs<2^1;decide) (by decide);have Y8:-(2^14)<=vl v.t v.u:=by
  have h1:=ir.lo;have h2:=px.iso.le;have h3:=Re.bY.mp (show Re.q (-(2^13))<=Re.q (vl v.t' v.u') by grind);have h4:=ir.wd;have e1:(-(2^14):Rat)=-16384:=by decide +kernel
  have e2:(-(2^13):Rat)=-8192:=by decide +kernel
  rw[e1];rw[e2] at h3;grind
 have Y9:vl v.t' v.u'<=2^14:=by
  have h1:=ir.hi;have h2:=px.iso.ge;have h3:=Re.bY.mp (show Re.q (vl v.t v.u)<=Re.q (2^13) by grind);have h4:=ir.wd;have e1:(2^14:Rat)=16384:=by decide +kernel
  have e2:(2^13:Rat)=8192:=by decide +kernel
  rw[e1];rw[e2] at h3;grind
 refine⟨_,(ae (aj (i:=2) iH.nd rfl (Or.inl rfl) (dD (pv 0) rfl))
  (ae (aj (i:=3) iH.nd rfl (Or.inl rfl) (dm (aa af (aa af ag))))
  (ah (dj PassesOwn.never (fN j9 (fun _=>rfl))
  (ae (ck (aG jo (aw iJ hr (aa (pv 1) (aa (ax ay (pv 2) af (fun _ _=>rfl)) ag))) af (aD _))
  (ah (aE af))
  aX)
  (ae (ck (aG eP (aw iJ hr (aa (pv 1) (aa (ax ay (pv 2) af (fun _ _=>rfl)) ag))) af (aD _))
  (ah (aE (cW bZ af)))
  aX)
  (ae (aj (i:=2) iH.nd rfl (Or.inl rfl) (aw kL hr (aa (dD (pv 0) rfl) (aa (pv 2) (aa (pv 3) ag)))))
  (ah (aj (i:=3) iH.nd rfl (Or.inl rfl) (aw GS hr (aa (pv 3) (aa (pv 3) ag)))))))))))),?_⟩;walk_at "sf";refine⟨_,rfl,_,C,_,_,_,rfl,hv.ir,RC.cl,RC.n2,rfl,?_⟩;walk_at "sf";intro wd GN;have s1:=au.new GN (.tup [.int 1,.int 16]);have h1:upd H wd (.tup [.int 1,.int 16]) wd=some (.tup [.int 1,.int (wj 0)]):=ak;generalize upd H wd (.tup [.int 1,.int 16])=H1 at s1 h1 ⊢;walk_at "sf"
 dsimp only
 refine cX (fun n σ H'=>∃(j:Nat)(pp g h wd:Addr)(c d c' d':Int),n+j=5/\σ=[some (.ref v.r),some (.ref v'.r),some (.ref pp),some (.ref wd)]/\au H H'/\H' pp=some (.tup [.ref g,.ref h])/\Rt H' g c d/\Rt H' h c' d'/\H' wd=some (.tup [.int 1,.int (wj j)])/\
  gB v.zs x (vl c d) (vl c' d')/\D6 v.zs c d c' d'/\(Bd (nj j) c/\Bd (nj j) d/\Bd (nj j) c'/\Bd (nj j) d')/\vl v.t v.u<=vl c d/\vl c' d'<=vl v.t' v.u'/\(j=5->vl c' d'-vl c d<=vl 1 (wj 4)))
  ⟨5,0,v.pp,v.g,v.h,wd,v.t,v.u,v.t',v.u',rfl,rfl,s1,s1 _ _ hv.hp,hv.rl.same s1,hv.rh.same s1,h1,px.iso,px.Aj,⟨px.bt,px.bu,px.wk,px.ub⟩,Rat.le_refl,Rat.le_refl,fun z=>(nomatch z)⟩ ?_
 rintro n σ H2 ⟨j,pp,g,h,Tv,c,d,c',d',hn,rfl,s2,si,rg,rh,OB,iso,Aj,⟨b1,b2,b3,b4⟩,lo,hi,fin⟩;have j5:nj j<=700000:=K3 (by lia);walk_at "sf";refine⟨true,rfl,?_⟩
 dsimp only
 rw[if_pos rfl];refine⟨_,fun bN H' h=>h,?_⟩;walk_at "sf";have SJ:=hv.same s2;have OC:=ik.same s2;refine aL (cj.of si) rfl ?_;refine⟨v',g,_,_,x',rfl,OC,E6.px.vx,rg.1,rg.2.1,b1.mono j5,b2.mono j5,?_⟩;walk_at "sf";refine cZ (fun cc=>?_) (fun cc=>?_)
 ·have h1:x'-Re.q (vl c d)<0:=nh.mp (by simpa using cc);walk_at "sf";have h2:=iso.ge;rw[SF.Re.bA (show 0<x-x' by grind)] at q;exact q _ s2
 ·have h1:¬x'-Re.q (vl c d)<0:=fun z=>by
   have:¬aP (x'-Re.q (vl c d))<0:=by simpa using cc
   exact this (nh.mpr z)
  walk_at "sf";refine aL (cj.of si) rfl ?_;refine⟨v',h,_,_,x',rfl,OC,E6.px.vx,rh.1,rh.2.1,b3.mono j5,b4.mono j5,?_⟩;walk_at "sf";refine cZ (fun Tx=>?_) (fun Tx=>?_)
  ·have h2:0<x'-Re.q (vl c' d'):=Kt (by
    have:0<aP (x'-Re.q (vl c' d')):=by simpa using Tx
    rcases SF.Re.aO (x'-Re.q (vl c' d')) with z|z|z
    ·rw[z.2] at this;exact absurd this (by decide)
    ·rw[z.2] at this;exact absurd this (by decide)
    ·exact z.2);walk_at "sf";have h3:=iso.le;rw[SF.Re.bQ (show x-x'<0 by grind)] at q;exact q _ s2
  ·have h2:¬0<x'-Re.q (vl c' d'):=fun z=>by
    have:¬0<aP (x'-Re.q (vl c' d')):=by simpa using Tx
    rw[SF.Re.bA z] at this;exact this (by decide)
   have j4:j<=4:=by
    rcases Nat.lt_or_ge j 5 with z|z
    ·lia
    ·exfalso;have fw:=Re.bY.mpr (fin (by lia));have e1:vl 1 (wj 4)=1/2^64:=by decide +kernel
     have e2:Re.q (1/2^64)<Re.q (1/2^63):=Re.cR.mpr (by decide +kernel);rw[e1] at fw;have e3:Re.q (vl c' d'-vl c d)=Re.q (vl c' d')-Re.q (vl c d):=sJ _ _;rw[e3] at fw;have i1:=iso.ge;have i2:=iso.le;unfold Re.ab at pK;split at pK<;>grind
   have Tz:=Oz j4;walk_at "sf";refine⟨_,rfl,_,C,_,_,_,rfl,SJ.ir,RC.cl,RC.n1,rfl,?_⟩;walk_at "sf";refine⟨v.pl,pp,g,h,Tv,v.zs,c,d,c',d',1,wj j,nj j,14,65,rfl,SJ.hl,si,rg.1,rh.1,OB,⟨px.lz,px.az⟩,⟨b1,b2,b3,b4,Tz,by decide,by decide,Ej,Ei j4,rg.2.1,rh.2.1,by decide,tQ j⟩,⟨by grind,by grind⟩,Aj,fun pn g2 h2 e f e' f' H3 s3 yc r2 Ee nw=>?_⟩;have en:2*nj j+14+65+20=nj (j+1):=rfl;rw[en] at nw;have OD:=s3 _ _ OB;walk_at "sf";refine⟨Tv,Tv,1,wj j,1,wj j,65,rfl,OD,OD,⟨Ej,Ei j4,Ej,Ei j4,by decide,tQ j,tQ j⟩,fun p3 t3 u3 DM Y_ K1 e3=>?_⟩;rw[OA] at e3;obtain⟨rfl,rfl⟩:t3=1/\u3=wj (j+1):=oY Y_ (tQ _) K1 (by rw[Int.gcd_comm];exact Int.gcd_one) (by lia);have s4:=au.new DM (.tup [.int 1,.int (wj (j+1))]);have KJ:=s3.trans s4;walk_at "sf";refine⟨n-1,by lia,j+1,pn,g2,h2,p3,e,f,e',f',by lia,rfl,s2.trans KJ,s4 _ _ yc,r2.same s4,Ee.same s4,ak,iso.part nw.lo nw.hi (nw.Aj.re r2.2.1 Ee.2.1),nw.Aj,⟨nw.b1,nw.b2,nw.b3,nw.b4⟩,by have:=nw.lo;grind,by have:=nw.hi;grind,fun z=>?_⟩;have:j=4:=by lia
   subst this;exact nw.wd
noncomputable def Ek(C:Addr):Sp:=fun vs H Q _=>∃(v v':Nv)(x x':Re),vs=[.ref v.r,.ref v'.r]/\v.Hx H C/\v'.Hx H C/\v.Ok x/\v'.Ok x'/\∀H',au H H'->Q (.int (aP (x-x'))) H'
theorem Nv.Ok.val{v:Nv}{x:Re}(h:v.Ok x)(r:v.rat):x=Re.q (vl v.t v.u):=by
 rcases h.alt with z|z
 ·exact z.2
 ·exact z.1.K2 r
theorem tR(RC:Rc K mg C fI fd)(jf:bI P w K mg base 38 "as_ratio" ["number"] (IM C))(iJ:bI P w K mg base 38 "against" ["number","given"] (mQ C))(yz:bI P w K mg base 38 "are_same" ["one","other"] (Al C))(El:bI P w K mg base 38 "parted" ["one","other"] (rp C))(D:aS K mg "compared" kE ["one","other"]):bI P w K mg base 39 "compared" ["one","other"] (Ek C):=by
 refine D.ok vj (fun vs H Q E h=>?_) (fun f cQ A outer s H vs Q E hr h=>?_)
 ·obtain⟨v,v',x,x',rfl,_⟩:=h;rfl
 obtain⟨v,v',x,x',rfl,hv,ik,ok,LR,q⟩:=h;refine⟨_,(ae (ck (aG nE (aw jf hr (aa (pv 1) ag)) gp (aD _))
  (ah (aE (aw iJ hr (aa (pv 0) (aa (aw jf hr (aa (pv 1) ag)) ag)))))
  aX)
  (ae (ck (aG nE (aw jf hr (aa (pv 0) ag)) gp (aD _))
  (ah (aE (cW bZ (aw iJ hr (aa (pv 1) (aa (aw jf hr (aa (pv 0) ag)) ag))))))
  aX)
  (ah (aE (eI (rL (aw yz hr (aa (pv 0) (aa (pv 1) ag)))) af (aw El hr (aa (pv 0) (aa (pv 1) ag)))))))),?_⟩;walk_at "sf";refine⟨v',rfl,ik,fun r'=>?_,fun r'=>?_⟩
 ·walk_at "sf";refine⟨rfl,?_⟩;walk_at "sf";refine uw ?_;walk_at "sf";refine⟨v',rfl,ik,fun _=>?_,fun z=>absurd r' z⟩;walk_at "sf";refine⟨v,v'.g,_,_,x,rfl,hv,ok.vx,ik.rl.1,ik.rl.2.1,LR.bt.mono (by decide),LR.bu.mono (by decide),?_⟩;rw[LR.val r'] at q;exact q _ (au.refl _)
 ·walk_at "sf";refine⟨rfl,?_⟩;walk_at "sf";refine w8 ?_;walk_at "sf";refine⟨v,rfl,hv,fun r=>?_,fun r=>?_⟩
  ·walk_at "sf";refine⟨rfl,?_⟩;walk_at "sf";refine uw ?_;walk_at "sf";refine⟨v,rfl,hv,fun _=>?_,fun z=>absurd r z⟩;walk_at "sf";refine⟨v',v.g,_,_,x',rfl,ik,LR.vx,hv.rl.1,hv.rl.2.1,ok.bt.mono (by decide),ok.bu.mono (by decide),?_⟩;walk_at "sf";have e:x-x'=-(x'-x):=by grind
   rw[e,SF.Re.oP,ok.val r] at q;exact q _ (au.refl _)
  ·walk_at "sf";refine⟨rfl,?_⟩;walk_at "sf";refine w8 ?_;walk_at "sf";refine⟨v,v',x,x',rfl,hv,ik,ok.ir r,LR.ir r',fun b H1 s1 hb=>?_⟩;walk_at "sf";refine cZ (fun cc=>?_) (fun cc=>?_)
   ·have e:x=x':=hb.mp (by simpa using cc);walk_at "sf";rw[e,show x'-x'=0 by grind,SF.Re.aW] at q;exact q _ s1
   ·have e:x≠x':=fun z=>by
     have:¬b=true:=by simpa using cc
     exact this (hb.mpr z)
    walk_at "sf";exact⟨v,v',x,x',rfl,hv.same s1,ik.same s1,ok.ir r,LR.ir r',e,fun H' s'=>q H' (s1.trans s')⟩
end
end dA
namespace dA
open PySem PyProof.Rows L2 SF SF.Po
structure K4(p σ m d:Int):Prop where
 sg:σ=1\/σ=-1\/σ=0
 hm:mC m
 bm:Bd 24 m
 p1:-1000<=p
 p2:p<=1000
 d1:1<=d
 d2:d<=50
 m2:m<=1002001
noncomputable def xS(p σ m d:Int):Re:=if σ=0 then Re.q (vl p d) else if σ=1 then ov ((p:Re)+sq m) d else ov ((p:Re)-sq m) d
noncomputable def Em:Sp:=fun vs H Q _=>∃(c k:Int),vs=[.int c,.int k]/\∀(g:Addr)(p σ m d:Int)(H':Hp),au H H'->H' g=some (.tup [.int p,.int σ,.int m,.int d])->K4 p σ m d->Q (.ref g) H'
section
variable {P:Program} {w:World} {K:PySem.W.Frag} {mg:Str->Option Value} {base:Heap} {C fI:Addr} {fd:FuncData}
theorem vS(jL:bI P w K mg base 2 "_law_drawn" ["_law_cell_here","_law_k"] sX)(D:aS K mg "_law_surd" kG ["_law_cell_here","_law_k"]):bI P w K mg base 3 "_law_surd" ["_law_cell_here","_law_k"] Em:=by
 refine D.ok fT (fun vs H Q E h=>?_) (fun f cQ A outer s H vs Q E hr h=>?_)
 ·obtain⟨c,k,rfl,_⟩:=h;rfl
 obtain⟨c,k,rfl,q⟩:=h;refine'⟨_,?term,?rest⟩
 case' term=>refine'(ae (aj (i:=2) fT.nd rfl (Or.inl rfl) (aw jL hr (aa (pv 0) (aa (pv 1) ag)))) ?r1)
 case' r1=>refine'(ae ?s1 ?s2)
 case' s1=>with_reducible refine'(aj (i:=3) ?nd ?hi ?hl ?x1 ?hs ?hf)
 case nd=>exact fT.nd
 case hi=>rfl
 case hl=>exact Or.inl rfl
 case hs=>rfl
 case hf=>first|exact .inl rfl|exact .inr rfl
 case' x1=>with_reducible refine'(ax ?ix ?l ?k ?u)
 case' ix=>refine' bB
 case' l=>with_reducible refine'(dr ?li)
 case' li=>with_reducible refine'(sj ?ii)
 case' ii=>exact(.pos (.pos (.pos (.pos (.pos (.pos (.pos (.pos (.pos (.pos .nil))))))))))
 case' k=>exact(ai de (pv 2) af)
 case' u=>exact(fun _ _=>rfl)
 case' s2=>exact(ae (aj (i:=4) fT.nd rfl (Or.inl rfl) (ax bB (dr (aa (ai bM (ai de (ai dS (pv 2) af) af) af) (aa (ai bM (ai de (ai dS (pv 2) af) af) af) ag))) (ai de (ai dS (pv 2) af) af) (fun _ _=>rfl)))
  (ae (aj (i:=5) fT.nd rfl (Or.inl rfl) (ai bL af (ai de (ai dS (pv 2) af) (ax bB (dr (aa af (aa af ag))) (ai de (ai dS (pv 2) af) af) (fun _ _=>rfl)))))
  (ah (aE (dm (aa (pv 4) (aa (ax bB (dr (aa af (aa (cW bZ af) (aa af (aa af ag))))) (ai de (ai dS (pv 2) af) af) (fun _ _=>rfl)) (aa (pv 3) (aa (pv 5) ag)))))))))
 walk_at "sf";refine⟨_,_,rfl,fun mo Y' Za=>?_⟩;walk_at "sf";unfold HJ;walk_at "sf";intro p1 mZ;walk_at "sf";refine bP (by decide) ?_;obtain⟨c1,c2,c3⟩:=fm (x:=mo) (m:=10) (by decide);rw[c1];walk_at "sf";obtain⟨m,hm,em⟩:=N' (L:=ms) c2 c3;refine cx (a_.of ak) em ?_;have s1:=au.new mZ (.lst ([2,3,5,6,7,8,10,18,99,1000003].map V.int));generalize upd H p1 (.lst ([2,3,5,6,7,8,10,18,99,1000003].map V.int))=H1 at s1 ⊢;obtain⟨GB,Zb⟩:=NJ m hm;walk_at "sf";refine bP (LD 16 (by decide) (by decide)) ?_;walk_at "sf";refine bP (by decide) ?_;obtain⟨d1,d2,d3⟩:=fm (x:=mo.fdiv 16) (m:=21) (by decide);rw[d1];walk_at "sf";refine bP (LD 16 (by decide) (by decide)) ?_;walk_at "sf";refine bP (by decide) ?_;obtain⟨e1,e2,e3⟩:=fm (x:=mo.fdiv 16) (m:=2001) (by decide);rw[e1];walk_at "sf";intro p2 sD;walk_at "sf";refine bP (LD 8192 (by decide) (by decide)) ?_;walk_at "sf";refine bP (by decide) ?_;obtain⟨f1,f2,f3⟩:=fm (x:=mo.fdiv 8192) (m:=2) (by decide);rw[f1];have k2:mo.fdiv 8192%2=0\/mo.fdiv 8192%2=1:=by lia
 obtain⟨p,ep,pl,pu⟩:∃p:Int,mU [V.int (mo.fdiv 16%21-10),V.int (mo.fdiv 16%2001-1000)] (mo.fdiv 8192%2)=some (.int p)/\-1000<=p/\p<=1000:=by
  rcases k2 with e|e
  ·exact⟨_,by rw[e];rfl,by lia,by lia⟩
  ·exact⟨_,by rw[e];rfl,by lia,by lia⟩
 refine cx (a_.of ak) ep ?_;have s2:=s1.trans (au.new sD (.lst [V.int (mo.fdiv 16%21-10),V.int (mo.fdiv 16%2001-1000)]));generalize upd H1 p2 (.lst [V.int (mo.fdiv 16%21-10),V.int (mo.fdiv 16%2001-1000)])=H2 at s2 ⊢;walk_at "sf";refine bP (LD 32768 (by decide) (by decide)) ?_;walk_at "sf";intro p3 DM;walk_at "sf";refine bP (LD 8192 (by decide) (by decide)) ?_;walk_at "sf";refine bP (by decide) ?_;rw[f1];obtain⟨z,ez,z1,z2⟩:∃z:Int,mU [V.int 6,V.int 50] (mo.fdiv 8192%2)=some (.int z)/\0<z/\z<=50:=by
  rcases k2 with e|e
  ·exact⟨_,by rw[e];rfl,by decide,by decide⟩
  ·exact⟨_,by rw[e];rfl,by decide,by decide⟩
 refine cx (a_.of ak) ez ?_;have s3:=s2.trans (au.new DM (.lst [V.int 6,V.int 50]));generalize upd H2 p3 (.lst [V.int 6,V.int 50])=H3 at s3 ⊢;refine bP (Int.ne_of_gt z1) ?_;obtain⟨g1,g2,g3⟩:=fm (x:=mo.fdiv 32768) (m:=z) z1;rw[g1];walk_at "sf";intro p4 VP;walk_at "sf";refine bP (LD 1048576 (by decide) (by decide)) ?_;walk_at "sf";refine bP (by decide) ?_;obtain⟨j1,j2,j3⟩:=fm (x:=mo.fdiv 1048576) (m:=4) (by decide);rw[j1];obtain⟨y,ey,hy⟩:∃y:Int,mU [V.int 1,V.int (-1),V.int 0,V.int 1] (mo.fdiv 1048576%4)=some (.int y)/\(y=1\/y=-1\/y=0):=by
  have:mo.fdiv 1048576%4=0\/mo.fdiv 1048576%4=1\/mo.fdiv 1048576%4=2\/mo.fdiv 1048576%4=3:=by lia
  rcases this with e|e|e|e
  ·exact⟨1,by rw[e];rfl,.inl rfl⟩
  ·exact⟨-1,by rw[e];rfl,.inr (.inl rfl)⟩
  ·exact⟨0,by rw[e];rfl,.inr (.inr rfl)⟩
  ·exact⟨1,by rw[e];rfl,.inl rfl⟩
 refine cx (a_.of ak) ey ?_;have s4:=s3.trans (au.new VP (.lst [V.int 1,V.int (-1),V.int 0,V.int 1]));generalize upd H3 p4 (.lst [V.int 1,V.int (-1),V.int 0,V.int 1])=H4 at s4 ⊢;walk_at "sf";intro p5 KL;exact q p5 _ _ _ _ _ (s4.trans (au.new KL _)) ak ⟨hy,GB,Zb,pl,pu,by lia,by lia,(by decide:∀m∈ms,m<=1002001) m hm⟩
end
end dA
namespace dA
open PySem PyProof.Rows L2 SF SF.Po
theorem En(a b:Int):sg (a-b)=(if decide (a>b)=true then(1:Int) else 0)-(if decide (a<b)=true then 1 else 0):=by
 unfold sg;simp only[decide_eq_true_eq];split<;>split<;>first|lia|(split<;>lia)
section
variable {P:Program} {w:World} {K:PySem.W.Frag} {mg:Str->Option Value} {base:Heap}
end
end dA
namespace dA
open PySem PyProof.Rows L2 SF SF.Po
noncomputable def Eo:Sp:=fun vs H Q _=>∃a s m:Int,vs=[.int a,.int s,.int m]/\Bd 100 a/\Bd 10 s/\Bd 200 m/\Q (.int (sg (a*lr a+s*m))) H
noncomputable def xB(a s m t n:Int):Re:=(a:Re)+((s:Re)*sq m+(t:Re)*sq n)
noncomputable def Ep:Sp:=fun vs H Q _=>∃a s m t n:Int,vs=[.int a,.int s,.int m,.int t,.int n]/\(Bd 30 a/\Bd 12 s/\Bd 26 m/\Bd 12 t/\Bd 26 n)/\0<m/\0<n/\∀H',au H H'->Q (.int (aP (xB a s m t n))) H'
theorem kM{k:Nat}{x:Int}(h:Bd k x):Bd k (lr x):=by
 unfold Bd lr at*;split<;>lia
theorem K5{f s:Int}(h:¬(decide (f>=0)=decide (s>=0)))(f0:f≠0)(s0:s≠0):(if decide (lr f>lr s)=true then(1:Int) else 0)*(if decide (f>0)=true then 1 else -1)+(if decide (lr s>lr f)=true then(1:Int) else 0)*(if decide (s>0)=true then 1 else -1)=sg (f+s):=by
 have h':¬((f>=0)↔(s>=0)):=fun z=>h (by simp only[z]);unfold sg lr;simp only[decide_eq_true_eq];rcases Int.lt_or_lt_of_ne f0 with a|a<;>rcases Int.lt_or_lt_of_ne s0 with b|b
 ·exfalso;exact h' ⟨fun z=>by lia,fun z=>by lia⟩
 ·rw[if_pos a,if_neg (show ¬s<0 by lia),if_neg (show ¬f>0 by lia),if_pos (show s>0 from b)];split<;>split<;>split<;>(try split)<;>lia
 ·rw[if_neg (show ¬f<0 by lia),if_pos b,if_pos (show f>0 from a),if_neg (show ¬s>0 by lia)];split<;>split<;>split<;>(try split)<;>lia
 ·exfalso;exact h' ⟨fun z=>by lia,fun z=>by lia⟩
theorem nU(a:Int):sg a=(if decide (a>0)=true then(1:Int) else 0)-(if decide (a<0)=true then 1 else 0):=by
 have:=En a 0;rw[Int.sub_zero] at this;exact this
theorem BE(c m:Int):(if decide (c>0)=true then(1:Int) else -1)*(if(!decide (c=0))=true then 1 else 0)*(c*c*m)=c*lr c*m:=by
 unfold lr;rcases Int.lt_trichotomy c 0 with h|h|h
 ·rw[decide_eq_false (show ¬c>0 by lia),decide_eq_false (show ¬c=0 by lia),if_pos h];simp;grind
 ·subst h;simp
 ·rw[decide_eq_true (show c>0 from h),decide_eq_false (show ¬c=0 by lia),if_neg (show ¬c<0 by lia)];simp
theorem rq{x y:Int}(b:Bool):mU [V.int x,V.int y] (if b=true then 1 else 0)=some (V.int (if b=true then y else x)):=by cases b<;>rfl
theorem pO(x:Re):aP x=0\/aP x=1\/aP x=-1:=by
 rcases SF.Re.aO x with z|z|z
 ·exact .inr (.inr z.2)
 ·exact .inl z.2
 ·exact .inr (.inl z.2)
theorem BF{a B:Re}{α τ:Int}(hB:aP B=τ)(ha:aP a=α)(h:τ=0\/α=0\/τ=α):(if decide (τ=0)=true then α else τ)=aP (a+B):=by
 rcases SF.Re.aO B with z|z|z<;>rcases SF.Re.aO a with y|y|y<;>rw[z.2] at hB<;>rw[y.2] at ha<;>subst hB<;>subst ha
 ·rw[SF.Re.bQ (show a+B<0 by have:=z.1;have:=y.1;grind)];rfl
 ·rw[y.1,show(0:Re)+B=B by grind,z.2];rfl
 ·exfalso;revert h;decide
 ·rw[z.1,show a+(0:Re)=a by grind,y.2];rfl
 ·rw[z.1,show a+(0:Re)=a by grind,y.2];rfl
 ·rw[z.1,show a+(0:Re)=a by grind,y.2];rfl
 ·exfalso;revert h;decide
 ·rw[y.1,show(0:Re)+B=B by grind,z.2];rfl
 ·rw[SF.Re.bA (show 0<a+B by have:=z.1;have:=y.1;grind)];rfl
theorem Er{a B:Re}{α τ:Int}(hB:aP B=τ)(ha:aP a=α)(h1:¬τ=0)(h2:¬α=0)(h3:¬τ=α):aP (a+B)=τ*aP (B*B-a*a):=by
 have k:=Bl (u:=a) (v:=B) (by
  rw[ha,hB]
  rcases pO B with z|z|z<;>rcases pO a with y|y|y<;>rw[z] at hB<;>rw[y] at ha<;>subst hB<;>subst ha<;>first|rfl|lia);rw[k,hB]
theorem yA(z:Int):sg z=aP (z:Re):=zN z
section
variable {P:Program} {w:World} {K:PySem.W.Frag} {mg:Str->Option Value} {base:Heap}
theorem pP(T:Nm mg)(D:aS K mg "_law_sign_of" ig ["_law_a","_law_s","_law_m"]):bI P w K mg base 1 "_law_sign_of" ["_law_a","_law_s","_law_m"] Eo:=by
 refine D.ok gF (fun vs H Q E h=>?_) (fun f cQ A outer s H vs Q E hr h=>?_)
 ·obtain⟨a,s,m,rfl,_⟩:=h;rfl
 obtain⟨a,s,m,rfl,ba,bs,bm,q⟩:=h;refine⟨_,(ae (aj (i:=3) gF.nd rfl (Or.inl rfl) (ai aq (pv 1) (pv 2)))
  (ae (aj (i:=4) gF.nd rfl (Or.inl rfl) (ai bM af (ai aq (pv 0) (aK cm rfl T.fz boot_abs (aa (pv 0) ag)))))
  (ah (aE (ai bM (b_ cC rfl T.gY boot_int (aa (cP eP (pv 3) (pv 4) (aD _)) ag)) (b_ cC rfl T.gY boot_int (aa (cP jo (pv 3) (pv 4) (aD _)) ag))))))),?_⟩;walk_at "sf";refine bP (aJ bs bm (by decide)) ?_;walk_at "sf";refine⟨_,rfl,?_⟩;refine bP (aJ ba (kM ba) (by decide)) ?_;walk_at "sf";refine .inr ⟨_,rfl,?_⟩;walk_at "sf";refine .inr ⟨_,rfl,?_⟩;walk_at "sf";have e:sg (a*lr a+s*m)=sg (s*m-(0-a*lr a)):=by congr 1;lia
 rw[e,En] at q;exact q
theorem vT(T:Nm mg)(qw:bI P w K mg base 1 "_law_sign_of" ["_law_a","_law_s","_law_m"] Eo)(D:aS K mg "_law_both" kH ["_law_a","_law_s","_law_m","_law_t","_law_n"]):bI P w K mg base 2 "_law_both" ["_law_a","_law_s","_law_m","_law_t","_law_n"] Ep:=by
 refine D.ok cM (fun vs H Q E h=>?_) (fun f cQ A outer s H vs Q E hr h=>?_)
 ·obtain⟨a,s,m,t,n,rfl,_⟩:=h;rfl
 obtain⟨a,s,m,t,n,rfl,⟨ba,bs,bm,bt,bn⟩,hm,hn,q⟩:=h;have top2:=Gu hm hn s t;rw[<-yA] at top2;have IQ:aP (a:Re)=sg a:=(yA a).symm;have b2:Bd 3 (2:Int):=Bd.of_two (by decide) (by decide);refine⟨_,(ae (aj (i:=5) cM.nd rfl (Or.inl rfl) (ai aq (ai aq (pv 1) (aK cm rfl T.fz boot_abs (aa (pv 1) ag))) (pv 2)))
  (ae (aj (i:=6) cM.nd rfl (Or.inl rfl) (ai aq (ai aq (pv 3) (aK cm rfl T.fz boot_abs (aa (pv 3) ag))) (pv 4)))
  (ae (ck (PW.pt (qD (aG d_ (cP yZ (pv 5) af (aD _)) (cP yZ (pv 6) af (aD _)) (aD _)) (qD (aG d_ (pv 5) af (aD _)) (wB (aG d_ (pv 6) af (aD _))))))
  (ah (aj (i:=7) cM.nd rfl (Or.inl rfl) (ai bM (b_ cC rfl T.gY boot_int (aa (cP eP (ai bL (pv 5) (pv 6)) af (aD _)) ag)) (b_ cC rfl T.gY boot_int (aa (cP jo (ai bL (pv 5) (pv 6)) af (aD _)) ag)))))
  (ae (aj (i:=7) cM.nd rfl (Or.inl rfl) (ai aq (b_ cC rfl T.gY boot_int (aa (cP eP (aK cm rfl T.fz boot_abs (aa (pv 5) ag)) (aK cm rfl T.fz boot_abs (aa (pv 6) ag)) (aD _)) ag)) (ax bB (dr (aa (cW bZ af) (aa af ag))) (b_ cC rfl T.gY boot_int (aa (cP eP (pv 5) af (aD _)) ag)) (fun _ _=>rfl))))
  (ah (aj (i:=7) cM.nd rfl (Or.inl rfl) (ai bL (pv 7) (ai aq (b_ cC rfl T.gY boot_int (aa (cP eP (aK cm rfl T.fz boot_abs (aa (pv 6) ag)) (aK cm rfl T.fz boot_abs (aa (pv 5) ag)) (aD _)) ag)) (ax bB (dr (aa (cW bZ af) (aa af ag))) (b_ cC rfl T.gY boot_int (aa (cP eP (pv 6) af (aD _)) ag)) (fun _ _=>rfl))))))))
  (ae (aj (i:=8) cM.nd rfl (Or.inl rfl) (ai bM (b_ cC rfl T.gY boot_int (aa (cP eP (pv 0) af (aD _)) ag)) (b_ cC rfl T.gY boot_int (aa (cP jo (pv 0) af (aD _)) ag))))
  (ae (ck (PW.pt (qD (aG d_ (pv 7) af (aD _)) (qD (aG d_ (pv 8) af (aD _)) (wB (aG d_ (pv 7) (pv 8) (aD _))))))
  (ah (aE (ax bB (dr (aa (pv 7) (aa (pv 8) ag))) (b_ cC rfl T.gY boot_int (aa (cP d_ (pv 7) af (aD _)) ag)) (fun _ _=>rfl))))
  aX)
  (ae (aj (i:=9) cM.nd rfl (Or.inl rfl) (ai bM (ai bL (ai aq (ai aq (pv 1) (pv 1)) (pv 2)) (ai aq (ai aq (pv 3) (pv 3)) (pv 4))) (ai aq (pv 0) (pv 0))))
  (ae (aj (i:=10) cM.nd rfl (Or.inl rfl) (ai aq (ai aq af (pv 1)) (pv 3)))
  (ae (aj (i:=11) cM.nd rfl (Or.inl rfl) (aw qw hr (aa (pv 9) (aa (ai aq (ax bB (dr (aa (cW bZ af) (aa af ag))) (b_ cC rfl T.gY boot_int (aa (cP eP (pv 10) af (aD _)) ag)) (fun _ _=>rfl)) (b_ cC rfl T.gY boot_int (aa (cP jn (pv 10) af (aD _)) ag))) (aa (ai aq (ai aq (ai aq (pv 10) (pv 10)) (pv 2)) (pv 4)) ag)))))
  (ah (aE (ai aq (pv 7) (pv 11)))))))))))),?_⟩;walk_at "sf";refine⟨_,rfl,?_⟩;refine bP (aJ bs (kM bs) (by decide)) ?_;walk_at "sf";refine bP (aJ (bs.mul (kM bs)) bm (by decide)) ?_;walk_at "sf";refine⟨_,rfl,?_⟩;refine bP (aJ bt (kM bt) (by decide)) ?_;walk_at "sf";refine bP (aJ (bt.mul (kM bt)) bn (by decide)) ?_;walk_at "sf";have bF:Bd 50 (s*lr s*m):=((bs.mul (kM bs)).mul bm).mono (by decide);have bS:Bd 50 (t*lr t*n):=((bt.mul (kM bt)).mul bn).mono (by decide);have e1:(s*if s<0 then -s else s)*m=s*lr s*m:=rfl;have e2:(t*if t<0 then -t else t)*n=t*lr t*n:=rfl;rw[e1,e2];generalize s*lr s*m=F at top2 bF;generalize t*lr t*n=S at top2 bS;have bo:∀b:Bool,Bd 2 (if b=true then(1:Int) else 0):=fun b=>by cases b<;>(unfold Bd;decide)
 have bp:∀b:Bool,Bd 2 (if b=true then(1:Int) else -1):=fun b=>by cases b<;>(unfold Bd;decide)
 refine⟨rfl,?_⟩;walk_at "sf";refine cZ (fun c1=>?w1) (fun c1=>?w2)
 case' w1=>
  refine uw ?_;walk_at "sf";refine .inr ⟨_,rfl,?_⟩;walk_at "sf";refine .inr ⟨_,rfl,?_⟩;walk_at "sf";rw[<-nU];obtain⟨H1,hH,s1⟩:∃H1,H=H1/\au H H1:=⟨H,rfl,au.refl H⟩;rw[hH]
 case' w2=>
  have c1:¬decide (F>=0)=decide (S>=0):=fun z=>by
   have:¬V.bl (decide (0<=F))=V.bl (decide (0<=S)):=by simpa using c1
   exact this (by rw[show decide (0<=F)=decide (0<=S) from z])
  walk_at "sf";refine cZ (fun c2=>?w3) (fun c2=>?w4)
 case' w3=>
  refine uw ?_;walk_at "sf";refine .inr ⟨_,rfl,?_⟩;walk_at "sf";refine .inr ⟨_,rfl,?_⟩;walk_at "sf";rw[<-nU];obtain⟨H1,hH,s1⟩:∃H1,H=H1/\au H H1:=⟨H,rfl,au.refl H⟩;rw[hH]
 case' w4=>
  have c2:¬F=0:=by simpa using c2
  walk_at "sf";refine cZ (fun c3=>?w5) (fun c3=>?w6)
 case' w5=>
  walk_at "sf";refine .inr ⟨_,rfl,?_⟩;walk_at "sf";refine .inr ⟨_,rfl,?_⟩;walk_at "sf";rw[<-nU];obtain⟨H1,hH,s1⟩:∃H1,H=H1/\au H H1:=⟨H,rfl,au.refl H⟩;rw[hH]
 case' w6=>
  have c3:¬S=0:=by simpa using c3
  walk_at "sf";refine⟨_,rfl,?_⟩;walk_at "sf";refine⟨_,rfl,?_⟩;walk_at "sf";refine .inr ⟨_,rfl,?_⟩;walk_at "sf";intro p1 mZ;walk_at "sf";refine .inr ⟨_,rfl,?_⟩;refine cx (a_.of ak) (rq _) ?_;refine bP (aJ (bo _) (bp _) (by decide)) ?_;have s0:=au.new mZ (.lst [V.int (-1),V.int 1]);generalize upd H p1 (.lst [V.int (-1),V.int 1])=H0 at s0 ⊢;walk_at "sf";refine⟨_,rfl,?_⟩;walk_at "sf";refine⟨_,rfl,?_⟩;walk_at "sf";refine .inr ⟨_,rfl,?_⟩;walk_at "sf";intro p2 sD;walk_at "sf";refine .inr ⟨_,rfl,?_⟩;refine cx (a_.of ak) (rq _) ?_;refine bP (aJ (bo _) (bp _) (by decide)) ?_;have s1:=s0.trans (au.new sD (.lst [V.int (-1),V.int 1]));generalize upd H0 p2 (.lst [V.int (-1),V.int 1])=H1 at s1 ⊢;walk_at "sf";rw[show(if decide ((if S<0 then -S else S)<if F<0 then -F else F)=true then(1:Int) else 0)*(if decide (0<F)=true then 1 else -1)+(if decide ((if F<0 then -F else F)<if S<0 then -S else S)=true then(1:Int) else 0)*(if decide (0<S)=true then 1 else -1)=sg (F+S) from K5 c1 c2 c3]
 all_goals
  generalize sg (F+S)=τ at top2 ⊢;refine .inr ⟨_,rfl,?_⟩;walk_at "sf";refine .inr ⟨_,rfl,?_⟩;walk_at "sf";rw[<-nU];have tv:=pO ((s:Re)*sq m+(t:Re)*sq n);rw[top2] at tv;have av:=tJ a;have Zc:Bd 2 τ:=by rcases tv with rfl|rfl|rfl<;>(unfold Bd;decide)
  have fin:(τ=0\/sg a=0\/τ=sg a)->∀(p:Addr),H1 p=none->Q (.int (if decide (τ=0)=true then sg a else τ)) (upd H1 p (.lst [V.int τ,V.int (sg a)])):=fun hz p hp=>by
   rw[BF top2 IQ hz];exact q _ (s1.trans (au.new hp _))
  refine cZ (fun d1=>?_) (fun d1=>?_)
  ·have d1:τ=0:=by simpa using d1
   refine uw ?_;walk_at "sf";intro p hp;walk_at "sf";refine .inr ⟨_,rfl,?_⟩;exact cx (a_.of ak) (rq _) (fin (.inl d1) p hp)
  have d1:¬τ=0:=by simpa using d1
  walk_at "sf";refine cZ (fun d2=>?_) (fun d2=>?_)
  ·have d2:sg a=0:=by simpa using d2
   refine uw ?_;walk_at "sf";intro p hp;walk_at "sf";refine .inr ⟨_,rfl,?_⟩;exact cx (a_.of ak) (rq _) (fin (.inr (.inl d2)) p hp)
  have d2:¬sg a=0:=by simpa using d2
  walk_at "sf";refine cZ (fun d3=>?_) (fun d3=>?_)
  ·have d3:τ=sg a:=by simpa using d3
   walk_at "sf";intro p hp;walk_at "sf";refine .inr ⟨_,rfl,?_⟩;exact cx (a_.of ak) (rq _) (fin (.inr (.inr d3)) p hp)
  have d3:¬τ=sg a:=by simpa using d3
  have mix:=Er top2 IQ d1 d2 d3;rw[Gv hm hn,<-yA] at mix;have bg:Bd 64 (s*s*m+t*t*n-a*a):=(((((bs.mul bs).mul bm).mono (n:=62) (by decide)).add (((bt.mul bt).mul bn).mono (by decide))).sub ((ba.mul ba).mono (by decide))).mono (by decide);have bc:Bd 27 (2*s*t):=(b2.mul bs).mul bt;have Zd:Bd 106 (2*s*t*(2*s*t)*m*n):=((bc.mul bc).mul bm).mul bn;walk_at "sf";refine bP (aJ bs bs (by decide)) ?_;walk_at "sf";refine bP (aJ (bs.mul bs) bm (by decide)) ?_;walk_at "sf";refine bP (aJ bt bt (by decide)) ?_;walk_at "sf";refine bP (aJ (bt.mul bt) bn (by decide)) ?_;walk_at "sf";refine bP (aJ ba ba (by decide)) ?_;walk_at "sf";refine bP (aJ b2 bs (by decide)) ?_;walk_at "sf";refine bP (aJ (b2.mul bs) bt (by decide)) ?_;walk_at "sf";intro p3 DM;walk_at "sf";refine .inr ⟨_,rfl,?_⟩;refine cx (a_.of ak) (rq _) ?_;have s3:=s1.trans (au.new DM (.lst [V.int (-1),V.int 1]));generalize upd H1 p3 (.lst [V.int (-1),V.int 1])=H3 at s3 ⊢;walk_at "sf";refine .inr ⟨_,rfl,?_⟩;refine bP (aJ (bp _) (bo _) (by decide)) ?_;walk_at "sf";refine bP (aJ bc bc (by decide)) ?_;walk_at "sf";refine bP (aJ (bc.mul bc) bm (by decide)) ?_;walk_at "sf";refine bP (aJ ((bc.mul bc).mul bm) bn (by decide)) ?_;walk_at "sf";refine⟨_,_,_,rfl,bg.mono (by decide),((bp _).mul (bo _)).mono (by decide),Zd.mono (by decide),?_⟩;have e3:=BE (2*s*t) (m*n);have e4:2*s*t*(2*s*t)*m*n=2*s*t*(2*s*t)*(m*n):=by rw[Int.mul_assoc _ m n]
  rw[e4];rw[show(if decide (0<2*s*t)=true then(1:Int) else -1)*(if(!decide (2*s*t=0))=true then 1 else 0)*(2*s*t*(2*s*t)*(m*n))=2*s*t*lr (2*s*t)*(m*n) from e3];walk_at "sf";refine bP (aJ Zc (pD _) (by decide)) ?_;unfold xB at q;rw[mix] at q;exact q _ s3
noncomputable def An:Sp:=fun vs H Q _=>∃(g h:Addr)(p σ m d p' bN m' d':Int),vs=[.ref g,.ref h]/\H g=some (.tup [.int p,.int σ,.int m,.int d])/\H h=some (.tup [.int p',.int bN,.int m',.int d'])/\(Bd 12 p/\Bd 2 σ/\Bd 24 m/\Bd 8 d)/\(Bd 12 p'/\Bd 2 bN/\Bd 24 m'/\Bd 8 d')/\0<m/\0<m'/\
 ∀H',au H H'->Q (.int (aP (xB (p*d'-p'*d) (σ*d') m (0-bN*d) m'))) H'
theorem nD(yB:bI P w K mg base 2 "_law_both" ["_law_a","_law_s","_law_m","_law_t","_law_n"] Ep)(D:aS K mg "_law_order_of" gG ["_law_one","_law_other"]):bI P w K mg base 3 "_law_order_of" ["_law_one","_law_other"] An:=by
 refine D.ok bW (fun vs H Q E h=>?_) (fun f cQ A outer s H vs Q E hr h=>?_)
 ·obtain⟨g,h,p,y,m,d,p',y',m',d',rfl,_⟩:=h;rfl
 obtain⟨g,h,p,y,m,d,p',y',m',d',rfl,hg,hh,⟨bp,V3,bm,bd⟩,⟨V4,OE,Ze,Ql⟩,m0,NK,q⟩:=h;refine⟨_,(ae (lX (pv 0) (kh rfl (bO (aU (i:=2) bW.nd rfl (Or.inl rfl)) (bO (aU (i:=3) bW.nd rfl (Or.inl rfl)) (bO (aU (i:=4) bW.nd rfl (Or.inl rfl)) (bO (aU (i:=5) bW.nd rfl (Or.inl rfl)) iN))))))
  (ae (lX (pv 1) (kh rfl (bO (aU (i:=6) bW.nd rfl (Or.inl rfl)) (bO (aU (i:=7) bW.nd rfl (Or.inl rfl)) (bO (aU (i:=8) bW.nd rfl (Or.inl rfl)) (bO (aU (i:=9) bW.nd rfl (Or.inl rfl)) iN))))))
  (ah (aE (aw yB hr (aa (ai bM (ai aq (pv 2) (pv 9)) (ai aq (pv 6) (pv 5))) (aa (ai aq (pv 3) (pv 9)) (aa (pv 4) (aa (ai bM af (ai aq (pv 7) (pv 5))) (aa (pv 8) ag)))))))))),?_⟩;walk_at "sf";refine jq (cj.of hg) rfl ?_;walk_at "sf";refine jq (cj.of hh) rfl ?_;walk_at "sf";refine bP (aJ bp Ql (by decide)) ?_;walk_at "sf";refine bP (aJ V4 bd (by decide)) ?_;walk_at "sf";refine bP (aJ V3 Ql (by decide)) ?_;walk_at "sf";refine bP (aJ OE bd (by decide)) ?_;walk_at "sf";have b0:Bd 10 (0:Int):=Bd.mono (m:=1) (by show(0:Int).natAbs<2^1;decide) (by decide);exact⟨_,_,_,_,_,rfl,⟨((bp.mul Ql).sub (V4.mul bd)).mono (by decide),(V3.mul Ql).mono (by decide),bm.mono (by decide),(b0.sub ((OE.mul bd).mono (by decide))).mono (by decide),Ze.mono (by decide)⟩,m0,NK,q⟩
end
end dA
namespace dA
open PySem PyProof.Rows L2 SF SF.Po
theorem OF{m n:Int}(hm:0<m)(hn:0<n)(h:m<=n*n):sq m<=(n:Re):=by
 obtain⟨s0,ss⟩:=iG hm;rcases SF.Re.p_ (sq m) (n:Re) with z|z|z
 ·grind
 ·grind
 ·exfalso;have h1:=bX hn;have h2:=Re.mul_pos (x:=sq m-(n:Re)) (y:=sq m+(n:Re)) (by grind) (by grind);have h3:((m:Int):Re)<=((n*n:Int):Re):=Re.bY.mpr (Rat.intCast_le_intCast.mpr h);rw[Lean.Grind.Ring.intCast_mul] at h3;grind
theorem IS{d:Int}(hd:0<d){y:Re}{n:Int}(h1:-(n:Re)<=y)(h2:y<=(n:Re))(hn:0<=n):-(n:Re)<=ov y d/\ov y d<=(n:Re):=by
 have e:=gA hd y;have d1:(1:Re)<=(d:Re):=by
  have:((1:Int):Re)<=((d:Int):Re):=Re.bY.mpr (Rat.intCast_le_intCast.mpr (by lia));rw[c1] at this;exact this
 have n0:(0:Re)<=(n:Re):=by
  have:((0:Int):Re)<=((n:Int):Re):=Re.bY.mpr (Rat.intCast_le_intCast.mpr hn);rw[c0] at this;exact this
 generalize ov y d=z at*;constructor
 ·rcases SF.Re.p_ z (-(n:Re)) with w|w|w
  ·exfalso;have:=Re.mul_pos (x:=-(n:Re)-z) (y:=(d:Re)) (by grind) (by grind);have:=Re.mul_nonneg (x:=(n:Re)) (y:=(d:Re)-1) n0 (by grind);grind
  ·grind
  ·grind
 ·rcases SF.Re.p_ z (n:Re) with w|w|w
  ·grind
  ·grind
  ·exfalso;have:=Re.mul_pos (x:=z-(n:Re)) (y:=(d:Re)) (by grind) (by grind);have:=Re.mul_nonneg (x:=(n:Re)) (y:=(d:Re)-1) n0 (by grind);grind
end dA
namespace dA
open PySem PyProof.Rows L2 SF SF.Po
theorem K6{α:Type}{f:α->Re}{x1 x2:Re}(lt:x1<x2){ws:List α}(h1:∀w∈ws,f w∈[x1,x2])(h2:ws.Pairwise (fun a b=>f a<f b))(h3:∀x∈[x1,x2],∃w∈ws,f w=x):∃w0 w1,ws=[w0,w1]/\f w0=x1/\f w1=x2:=by
 have m1:x1∈[x1,x2]:=List.mem_cons_self;have m2:x2∈[x1,x2]:=List.mem_cons_of_mem _ List.mem_cons_self;have cs:∀w∈ws,f w=x1\/f w=x2:=fun w hw=>by
  rcases List.mem_cons.mp (h1 w hw) with z|z
  ·exact .inl z
  ·exact .inr (List.mem_singleton.mp z)
 match ws,h2,h3,cs with
 |[],_,h3,_=>
  obtain⟨w,hw,_⟩:=h3 x1 m1;exact nomatch hw
 |[a],_,h3,_=>
  obtain⟨w,hw,e⟩:=h3 x1 m1;obtain⟨w',Zf,e'⟩:=h3 x2 m2;rw[List.mem_singleton.mp hw] at e;rw[List.mem_singleton.mp Zf] at e';rw[<-e,<-e'] at lt;exact absurd lt (Re.lt_irrefl _)
 |[a,b],h2,_,cs=>
  have l:=(List.pairwise_cons.mp h2).1 b List.mem_cons_self;rcases cs a List.mem_cons_self with z|z<;>rcases cs b (List.mem_cons_of_mem _ List.mem_cons_self) with y|y
  ·exfalso;rw[z,y] at l;exact Re.lt_irrefl _ l
  ·exact⟨a,b,rfl,z,y⟩
  ·exfalso;rw[z,y] at l;grind
  ·exfalso;rw[z,y] at l;exact Re.lt_irrefl _ l
 |a::b::c::r,h2,_,cs=>
  exfalso;have l:=(List.pairwise_cons.mp h2).1 b List.mem_cons_self;have l2:=(List.pairwise_cons.mp (List.pairwise_cons.mp h2).2).1 c List.mem_cons_self;rcases cs a List.mem_cons_self with z|z<;>rcases cs b (List.mem_cons_of_mem _ List.mem_cons_self) with y|y<;>rcases cs c (List.mem_cons_of_mem _ (List.mem_cons_of_mem _ List.mem_cons_self)) with x|x<;>rw[z,y] at l<;>rw[y,x] at l2<;>grind
structure Num(p σ m d:Int):Prop where
 sg:σ=1\/σ=-1\/σ=0
 hm:mC m
 bm:Bd 24 m
 bp:Bd 12 p
 d1:1<=d
 bd:Bd 8 d
 sx:∃p' m' d',∀τ:Int,τ=1\/τ=-1->Dz p' τ m' d' (ov ((p:Re)+(τ:Re)*sq m) d)
theorem K4.num{p σ m d:Int}(h:K4 p σ m d):Num p σ m d:=
 ⟨h.sg,h.hm,h.bm,by have:=h.p1;have:=h.p2;unfold Bd;lia,h.d1,by have:=h.d1;have:=h.d2;unfold Bd;lia,p,m,d,fun τ E7=>⟨E7,h.hm,h.m2,h.d1,h.d2,rfl⟩⟩
theorem K4.TC{p σ m d:Int}(h:K4 p σ m d):Num (p*3) σ m d:=
 ⟨h.sg,h.hm,h.bm,by have:=h.p1;have:=h.p2;unfold Bd;lia,h.d1,by have:=h.d1;have:=h.d2;unfold Bd;lia,p*3,m,d,fun τ E7=>⟨E7,h.hm,h.m2,h.d1,h.d2,rfl⟩⟩
theorem GU{m:Int}(hm:0<m):sq (4*m)=2*sq m:=by
 obtain⟨s0,ss⟩:=iG hm;obtain⟨t0,tt⟩:=iG (m:=4*m) (by lia);have e4:((4*m:Int):Re)=2*sq m*(2*sq m):=by
  have:(4:Int)*m=2*2*m:=by lia
  rw[this,Lean.Grind.Ring.intCast_mul,Lean.Grind.Ring.intCast_mul,c2,<-ss];grind
 rw[e4] at tt;have e:(sq (4*m)-2*sq m)*(sq (4*m)+2*sq m)=0:=by grind
 have e2:sq (4*m)-2*sq m=0:=Classical.byContradiction fun w=>Re.bT w (by grind) e;grind
theorem K7{y:Re}{d:Int}(hd:0<d):ov (2*y) (2*d)=ov y d:=by
 have e1:=gA hd y;have e2:=gA (d:=2*d) (by lia) (2*y);rw[Lean.Grind.Ring.intCast_mul,c2] at e2;have ue:=bX hd;have e3:(ov (2*y) (2*d)-ov y d)*(2*(d:Re))=0:=by grind
 have e4:ov (2*y) (2*d)-ov y d=0:=Classical.byContradiction fun w=>Re.bT w (by grind) e3;grind
theorem K4.TF{p σ m d:Int}(h:K4 p σ m d):Num (2*p) σ (4*m) (2*d):=by
 refine⟨h.sg,⟨by have:=h.hm.1;lia,fun k e=>?_⟩,by have:=h.m2;have:=h.hm.1;unfold Bd;lia,by have:=h.p1;have:=h.p2;unfold Bd;lia,by have:=h.d1;lia,by have:=h.d1;have:=h.d2;unfold Bd;lia,p,m,d,fun τ E7=>⟨E7,h.hm,h.m2,h.d1,h.d2,?_⟩⟩
 ·obtain⟨j,hj⟩:∃j,k=2*j\/k=2*j+1:=⟨k/2,by lia⟩;rcases hj with rfl|rfl
  ·have e5:2*j*(2*j)=4*(j*j):=by grind
   exact h.hm.2 j (Int.eq_of_mul_eq_mul_left (by decide:(4:Int)≠0) (e5.symm.trans e))
  ·have:(2*j+1)*(2*j+1)=4*(j*j+j)+1:=by grind
   lia
 ·rw[GU h.hm.1];have e:((2*p:Int):Re)+(τ:Re)*(2*sq m)=2*((p:Re)+(τ:Re)*sq m):=by rw[Lean.Grind.Ring.intCast_mul,c2];grind
  rw[e,K7 (show 0<d from h.d1)]
theorem Es{p σ m d:Int}(h:σ=1\/σ=-1):xS p σ m d=ov ((p:Re)+(σ:Re)*sq m) d:=by
 unfold xS;rcases h with rfl|rfl
 ·rw[if_neg (by decide),if_pos rfl,c1];congr 1;grind
 ·rw[if_neg (by decide),if_neg (by decide)];congr 1;have e:((-1:Int):Re)=-1:=by have:=dM 1;rw[c1] at this;exact this
  rw[e];grind
theorem Num.bound{p σ m d:Int}(h:Num p σ m d){τ:Int}(E7:τ=1\/τ=-1):Re.q (-(2^13))<=ov ((p:Re)+(τ:Re)*sq m) d/\ov ((p:Re)+(τ:Re)*sq m) d<=Re.q (2^13):=by
 have d0:0<d:=h.d1;obtain⟨s0,ss⟩:=iG h.hm.1;have s1:=OF (n:=4096) h.hm.1 (by decide) (by have:=h.bm;have:=h.hm.1;unfold Bd at *;lia);have hp:-((4096:Int):Re)<=(p:Re)/\(p:Re)<=((4096:Int):Re):=by
  have:=h.bp;constructor
  ·rw[<-dM];exact gT (by unfold Bd at this;lia)
  ·exact gT (by unfold Bd at this;lia)
 have k:((4096:Int):Re)+((4096:Int):Re)=((8192:Int):Re):=by rw[<-Lean.Grind.Ring.intCast_add];rfl
 have e1:Re.q (2^13)=((8192:Int):Re):=by show Re.q (2^13)=Re.q ((8192:Int):Rat);congr 1
 have e2:Re.q (-(2^13))=-((8192:Int):Re):=by rw[Re.ll,e1]
 rw[e1,e2];have k2:(0:Re)<((4096:Int):Re):=bX (by decide);rcases E7 with rfl|rfl
 ·rw[c1];exact IS d0 (by grind) (by grind) (by decide)
 ·have e:((-1:Int):Re)=-1:=by have:=dM 1;rw[c1] at this;exact this
  rw[e];exact IS d0 (by grind) (by grind) (by decide)
theorem Nv.Mq.ok{v:Nv}{x:Re}{zs:List Int}(mq:v.Mq x zs)(pc:mO zs)(sx:(∀z:Rat,Re.q z≠x)->(∃p σ m d,Dz p σ m d x)/\Re.q (-(2^13))<=x/\x<=Re.q (2^13)):v.Ok x:=by
 refine⟨mq.bt,mq.bu,mq.wk,mq.ub,?_⟩;rcases mq.alt with z|⟨px,ez,lt,wd,wb⟩
 ·exact .inl z
 ·obtain⟨s1,s2,s3⟩:=sx wb;refine .inr ⟨px,lt,wd,?_,?_,?_,s1,s2,s3⟩
  ·rw[ez];exact pc.plain
  ·rw[ez];exact pc.1
  ·rw[ez];exact pc.2.1
noncomputable def rz(C:Addr):Sp:=fun vs H Q _=>∃(g:Addr)(p σ m d:Int),vs=[.ref g]/\H g=some (.tup [.int p,.int σ,.int m,.int d])/\Num p σ m d/\∀(v:Nv)(H':Hp),au H H'->v.Hx H' C->v.Ok (xS p σ m d)->Q (.ref v.r) H'
section
variable {P:Program} {w:World} {K:PySem.W.Frag} {mg:Str->Option Value} {base:Heap} {C fI:Addr} {fd:FuncData}
theorem pQ(T:Nm mg)(je:bI P w K mg base 38 "of_ratio" ["given"] (lO C))(vU:bI P w K mg base 38 "_law_ratio" ["_law_top","_law_under"] DS)(tS:bI P w K mg base 38 "roots" ["poly"] (pN C))(D:aS K mg "_law_number" ja ["_law_surd_here"]):bI P w K mg base 39 "_law_number" ["_law_surd_here"] (rz C):=by
 refine D.ok dP (fun vs H Q E h=>?_) (fun f cQ A outer s H vs Q E hr h=>?_)
 ·obtain⟨g,p,y,m,d,rfl,_⟩:=h;rfl
 obtain⟨g,p,y,m,d,rfl,hg,sd,q⟩:=h;have bp:=sd.bp;have bd:=sd.bd;have d0:0<d:=sd.d1;refine⟨_,(ae (lX (pv 0) (kh rfl (bO (aU (i:=1) dP.nd rfl (Or.inl rfl)) (bO (aU (i:=2) dP.nd rfl (Or.inl rfl)) (bO (aU (i:=3) dP.nd rfl (Or.inl rfl)) (bO (aU (i:=4) dP.nd rfl (Or.inl rfl)) iN))))))
  (ae (ck (aG d_ (pv 2) af (aD _))
  (ah (aE (aw je hr (aa (aw vU hr (aa (pv 1) (aa (pv 4) ag))) ag))))
  aX)
  (ae (aj (i:=5) dP.nd rfl (Or.inl rfl) (aw tS hr (aa (dr (aa (ai bM (ai aq (pv 1) (pv 1)) (pv 3)) (aa (ai bM af (ai aq (ai aq af (pv 1)) (pv 4))) (aa (ai aq (pv 4) (pv 4)) ag)))) ag)))
  (ah (aE (ax bB (pv 5) (b_ cC rfl T.gY boot_int (aa (cP d_ (pv 2) af (aD _)) ag)) (fun _ _=>rfl))))))),?_⟩;walk_at "sf";refine jq (cj.of hg) rfl ?_;walk_at "sf";refine cZ (fun c=>?_) (fun c=>?_)
 ·have y0:y=0:=by simpa using c
  walk_at "sf";refine⟨p,d,12,rfl,bp,bd.mono (by decide),by decide,d0,fun p1 t u mZ bt bu hu K1 Tt=>?_⟩;have s1:=au.new mZ (.tup [.int t,.int u]);walk_at "sf";refine⟨p1,t,u,rfl,⟨ak,hu,K1⟩,fun v H' s2 hv rm _=>?_⟩;refine q v H' (s1.trans s2) hv ⟨by rw[rm.t];exact bt.mono (by decide),by rw[rm.u];exact bu.mono (by decide),by rw[rm.t'];exact bt.mono (by decide),by rw[rm.u'];exact bu.mono (by decide),.inl ⟨⟨rm.t.trans rm.t'.symm,rm.u.trans rm.u'.symm⟩,?_⟩⟩;have ev:vl t u=vl p d:=(ng hu d0).mpr Tt;unfold xS;rw[if_pos y0,rm.t,rm.u,ev]
 ·have y0:¬y=0:=by simpa using c
  have y1:y=1\/y=-1:=by rcases sd.sg with e|e|e;exact .inl e;exact .inr e;exact absurd e y0
  have b2:Bd 3 (2:Int):=Bd.of_two (by decide) (by decide);walk_at "sf";refine bP (aJ bp bp (by decide)) ?_;walk_at "sf";refine bP (aJ b2 bp (by decide)) ?_;walk_at "sf";refine bP (aJ (b2.mul bp) bd (by decide)) ?_;walk_at "sf";refine bP (aJ bd bd (by decide)) ?_;walk_at "sf";intro pl uk;have s1:=au.new uk (.lst [V.int (p*p-m),V.int (0-2*p*d),V.int (d*d)]);obtain⟨TH,TJ⟩:=iG sd.hm.1;have hq:Qd p m d (sq m):=⟨d0,sd.hm,TH,TJ,bp,sd.bm,bd⟩;have gq:=Gq.Dg (p:=p) d0 sd.hm;have TK:=Ik (p:=p) d0 sd.hm;have pc:=hq.Ts;have Zg:(iL (qd p m d)).length=3:=by rw[TK,aY];rfl
  have gb:ov ((p:Re)-sq m) d<ov ((p:Re)+sq m) d:=NI d0 (by grind);have ev:xS p y m d=ov ((p:Re)-sq m) d/\y=-1\/xS p y m d=ov ((p:Re)+sq m) d/\y=1:=by
   rcases y1 with rfl|rfl
   ·exact .inr ⟨by unfold xS;rw[if_neg (by decide),if_pos rfl],rfl⟩
   ·exact .inl ⟨by unfold xS;rw[if_neg (by decide),if_neg (by decide)],rfl⟩
  have sx:(∀z:Rat,Re.q z≠xS p y m d)->(∃p' σ m' d',Dz p' σ m' d' (xS p y m d))/\Re.q (-(2^13))<=xS p y m d/\xS p y m d<=Re.q (2^13):=fun _=>by
   obtain⟨p',m',d',hs⟩:=sd.sx;rw[Es y1];exact⟨⟨p',y,m',d',hs y y1⟩,sd.bound y1⟩
  walk_at "sf";refine⟨pl,qd p m d,[ov ((p:Re)-sq m) d,ov ((p:Re)+sq m) d],rfl,ak,⟨hq.Tq,pc,by show 3<=13;decide,by lia,?_⟩,gq.nd,fun x=>by rw[TK];exact gq.rt x,fun l ws H' s2 hl hw pw Qm _=>?_⟩
  ·rw[Zg,TK];exact iS (fj (p:=p) (m:=m) d0) (iF _ _ _)
  obtain⟨w0,w1,rfl,e0,e1⟩:=K6 gb (f:=fun w:Nv×Re=>w.2) (fun w hm=>(hw w hm).2.2) pw Qm;obtain⟨k0,k1,_⟩:=hw w0 List.mem_cons_self;obtain⟨j0,j1,_⟩:=hw w1 (List.mem_cons_of_mem _ List.mem_cons_self);have e0:w0.2=ov ((p:Re)-sq m) d:=e0;have e1:w1.2=ov ((p:Re)+sq m) d:=e1;walk_at "sf";refine .inr ⟨_,rfl,?_⟩;rcases ev with⟨ex,rfl⟩|⟨ex,rfl⟩
  ·refine cx (a_.of hl) (show mU [V.ref w0.1.r,V.ref w1.1.r] _=some (V.ref w0.1.r) from rfl) ?_;refine q w0.1 H' (s1.trans s2) k0 ?_;rw[e0,<-ex] at k1;exact k1.ok pc sx
  ·refine cx (a_.of hl) (show mU [V.ref w0.1.r,V.ref w1.1.r] _=some (V.ref w1.1.r) from rfl) ?_;refine q w1.1 H' (s1.trans s2) j0 ?_;rw[e1,<-ex] at j1;exact j1.ok pc sx
end
end dA
namespace dA
open PySem PyProof.Rows L2 SF SF.Po
theorem jM{xs ys:List Int}(hx:xs≠[])(hy:ys≠[]):(mulL xs ys).length=xs.length+ys.length-1:=by
 unfold mulL;rw[if_neg (by intro z;rcases z with z|z;exact hx z;exact hy z),aR]
theorem Ao{xs ys:List Int}(hx:xs≠[])(hy:ys≠[]):mulL xs ys≠[]:=by
 have h1:=List.length_pos_iff.mpr hx;have h2:=List.length_pos_iff.mpr hy;exact List.length_pos_iff.mp (by rw[jM hx hy];lia)
theorem K8{n:Nat}{f:Nat->Int}{k:Nat}(h:∀i,i<k->Bd n (f i)):Ab n (fv f k):=fun x hx=>by
 obtain⟨i,hi,e⟩:=List.getElem_of_mem hx;have Lz:i<k:=by rw[aR] at hi;exact hi
 rw[<-e,<-cy,jr,if_pos Lz];exact h i Lz
theorem Ap{n:Nat}{f:Nat->Int}:∀{k:Nat},(∀i,i<k->Bd n (f i))->Bd (n+k) (aF f k)
 |0,_=>by
  show(0:Int).natAbs<2^(n+0);exact Nat.two_pow_pos _
 |k+1,h=>by
  have ih:=Ap (k:=k) fun i hi=>h i (by lia);exact((ih.add ((h k (by lia)).mono (by lia)))).mono (by lia)
theorem Aq{m n:Nat}{xs ys:List Int}(bx:Ab m xs)(b:Ab n ys)(hl:xs.length<=40):Ab (m+n+xs.length) (mulL xs ys):=by
 unfold mulL;split
 ·exact fun x hx=>nomatch hx
 ·refine K8 fun i _=>?_;rw[<-zl];unfold cv;refine(Ap (n:=m+n) fun j _=>?_).mono (by lia);split
  ·exact(bx.co _).mul (b.co _)
  ·show(0:Int).natAbs<2^(m+n);exact Nat.two_pow_pos _
theorem Et{p σ m d:Int}(hd:0<d)(h:σ=1\/σ=-1\/σ=0):xS p σ m d=ov ((p:Re)+(σ:Re)*sq m) d:=by
 rcases h with h|h|h
 ·exact Es (.inl h)
 ·exact Es (.inr h)
 ·unfold xS ov;rw[if_pos h,h,c0,cH,show Re.q (p:Rat)+0*sq m=Re.q (p:Rat) by grind,<-Re.eC];congr 1;unfold vl;rw[Rat.div_def,Rat.div_def];grind
theorem BG{p σ m d p' bN m' d':Int}(hd:0<d)(ue:0<d')(h:σ=1\/σ=-1\/σ=0)(h':bN=1\/bN=-1\/bN=0):aP (xB (p*d'-p'*d) (σ*d') m (0-bN*d) m')=aP (xS p σ m d-xS p' bN m' d'):=by
 rw[Et hd h,Et ue h'];have e1:=gA hd ((p:Re)+(σ:Re)*sq m);have e2:=gA ue ((p':Re)+(bN:Re)*sq m');have k1:=bX hd;have k2:=bX ue;generalize ov ((p:Re)+(σ:Re)*sq m) d=x at*;generalize ov ((p':Re)+(bN:Re)*sq m') d'=y at*;have e:xB (p*d'-p'*d) (σ*d') m (0-bN*d) m'=(x-y)*((d:Re)*(d':Re)):=by
  unfold xB;rw[gR,gR,Lean.Grind.Ring.intCast_mul,Lean.Grind.Ring.intCast_mul,Lean.Grind.Ring.intCast_mul,Lean.Grind.Ring.intCast_mul,c0];have f1:(p:Re)=x*(d:Re)-(σ:Re)*sq m:=by rw[e1];grind
  have f2:(p':Re)=y*(d':Re)-(bN:Re)*sq m':=by rw[e2];grind
  rw[f1,f2];grind
 rw[e,SF.Re.dH,SF.Re.bA (Re.mul_pos k1 k2)];lia
noncomputable def K9(y:Re):Prop:=(∀z:Rat,Re.q z≠y)->(∃p σ m d,Dz p σ m d y)/\Re.q (-(2^13))<=y/\y<=Re.q (2^13)
theorem Num.gq{p σ m d:Int}(h:Num p σ m d):∃(g:List Int)(rs:List Re),Gq [p*p-m*σ*σ,0-2*p*d,d*d] g rs/\g.length<=3/\Ab 40 g/\xS p σ m d∈rs/\∀y∈rs,K9 y:=by
 have d0:0<d:=h.d1;by_cases y0:σ=0
 ·have e0:m*σ*σ=0:=by rw[y0];lia
  rw[e0];have dn:d≠0:=by lia
  refine⟨_,_,Gq.NC (p:=p) d0 (CA (a:=p) dn) (HG dn) (zi dn),by show 2<=3;decide,fun x hx=>?_,?_,fun y hy=>?_⟩
  ·rcases List.mem_cons.mp hx with e|hx
   ·rw[e];have:0-rt p d=-(rt p d):=by lia
    rw[this];exact(M3 dn h.bp).neg.mono (by decide)
   ·rw[List.mem_singleton.mp hx];exact(M4 dn h.bd).mono (by decide)
  ·refine List.mem_singleton.mpr ?_;unfold xS;rw[if_pos y0];rfl
  ·intro z;rw[List.mem_singleton.mp hy] at z;exact absurd rfl (z _)
 ·have y1:σ=1\/σ=-1:=by rcases h.sg with e|e|e;exact .inl e;exact .inr e;exact absurd e y0
  have e0:m*σ*σ=m:=by rcases y1 with e|e<;>rw[e]<;>lia
  rw[e0];obtain⟨TH,TJ⟩:=iG h.hm.1;have hq:Qd p m d (sq m):=⟨d0,h.hm,TH,TJ,h.bp,h.bm,h.bd⟩;obtain⟨p',m',d',hs⟩:=h.sx;have GV:∀τ:Int,τ=1\/τ=-1->K9 (ov ((p:Re)+(τ:Re)*sq m) d):=fun τ E7 _=>⟨⟨p',τ,m',d',hs τ E7⟩,h.bound E7⟩;have en:((-1:Int):Re)=-1:=by have:=dM 1;rw[c1] at this;exact this
  refine⟨_,_,Gq.Dg (p:=p) d0 h.hm,by rw[aY];show 3<=3;decide,dX (fj d0) (iF _ _ _) hq.ab,?_,fun y hy=>?_⟩
  ·unfold xS;rw[if_neg y0];rcases y1 with e|e
   ·rw[if_pos e];exact List.mem_cons_of_mem _ List.mem_cons_self
   ·rw[if_neg (by lia)];exact List.mem_cons_self
  ·rcases List.mem_cons.mp hy with e|hy
   ·have:=GV (-1) (.inr rfl);rw[en,show(p:Re)+-1*sq m=(p:Re)-sq m by grind] at this;rw[e];exact this
   ·have:=GV 1 (.inl rfl);rw[c1,show(p:Re)+1*sq m=(p:Re)+sq m by grind] at this;rw[List.mem_singleton.mp hy];exact this
theorem Num.two{p σ m d p' bN m' d':Int}(h:Num p σ m d)(h':Num p' bN m' d'):∃rs:List Re,rs.Nodup/\xS p σ m d∈rs/\xS p' bN m' d'∈rs/\(∀y∈rs,K9 y)/\
 (∀x,at' x (ao (iL (mulL [p*p-m*σ*σ,0-2*p*d,d*d] [p'*p'-m'*bN*bN,0-2*p'*d',d'*d'])))=0↔x∈rs)/\mO (iL (mulL [p*p-m*σ*σ,0-2*p*d,d*d] [p'*p'-m'*bN*bN,0-2*p'*d',d'*d']))/\
 2<=(iL (mulL [p*p-m*σ*σ,0-2*p*d,d*d] [p'*p'-m'*bN*bN,0-2*p'*d',d'*d'])).length/\0<co (iL (mulL [p*p-m*σ*σ,0-2*p*d,d*d] [p'*p'-m'*bN*bN,0-2*p'*d',d'*d'])) ((iL (mulL [p*p-m*σ*σ,0-2*p*d,d*d] [p'*p'-m'*bN*bN,0-2*p'*d',d'*d'])).length-1):=by
 obtain⟨g,r,gq,lg,bg,hx,fr⟩:=h.gq;obtain⟨g',r',K_,lg',Zh,N_,Zi⟩:=h'.gq;obtain⟨rs,nd,mem,alt,rt,V5⟩:=gq.two K_;generalize iL (mulL [p*p-m*σ*σ,0-2*p*d,d*d] [p'*p'-m'*bN*bN,0-2*p'*d',d'*d'])=zs at*;have l2:2<=g.length:=by
  have:=gq.fk.wb.1;rw[bq gq.tr] at this;exact this
 have l2':2<=g'.length:=by
  have:=K_.fk.wb.1;rw[bq K_.tr] at this;exact this
 have key:Tr zs/\zs≠[]/\zs.length<=13/\Ab 100 zs/\2<=zs.length:=by
  rcases alt with⟨_,e⟩|⟨_,e⟩
  ·rw[e];exact⟨gq.tr,gq.ne,by lia,bg.mono (by decide),l2⟩
  ·rw[e];refine⟨nL gq.tr K_.tr,Ao gq.ne K_.ne,by rw[jM gq.ne K_.ne];lia,(Aq bg Zh (by lia)).mono (by lia),by rw[jM gq.ne K_.ne];lia⟩
 refine⟨rs,nd,(mem _).mpr (.inl hx),(mem _).mpr (.inr N_),fun y hy=>?_,rt,⟨key.1,key.2.1,key.2.2.1,key.2.2.2.1,V5⟩,key.2.2.2.2,?_⟩
 ·rcases(mem y).mp hy with z|z
  ·exact fr y z
  ·exact Zi y z
 ·have:=V5.pos;rw[bq key.1,bJ] at this;exact this
theorem mR{α:Type}{f:α->Re}{x:Re}:∀{ws:List α},ws.Pairwise (fun a b=>f a<f b)->(∃w∈ws,f w=x)->(ws.map fun w=>aP (f w-x)).countP (·==0)=1
 |[],_,h=>by obtain⟨w,hw,_⟩:=h;exact nomatch hw
 |a::r,pw,h=>by
  obtain⟨p1,p2⟩:=List.pairwise_cons.mp pw;rw[List.map_cons,List.countP_cons];by_cases e:f a=x
  ·have z:f a-x=0:=by rw[e];grind
   have none:(r.map fun w=>aP (f w-x)).countP (·==0)=0:=by
    rw[List.countP_eq_zero];intro y hy;obtain⟨w,hw,rfl⟩:=List.mem_map.mp hy;have:=p1 w hw;rw[SF.Re.bA (by grind)];decide
   rw[none,z,SF.Re.aW];rfl
  ·obtain⟨w,hw,ew⟩:=h;rcases List.mem_cons.mp hw with z|z
   ·rw[z] at ew;exact absurd ew e
   ·rw[mR p2 ⟨w,z,ew⟩];have ne:¬aP (f a-x)=0:=fun k=>e (by have:=SF.Re.bH k;grind);have:(aP (f a-x)==0)=false:=beq_eq_false_iff_ne.mpr ne;rw[this];rfl
end dA
namespace dA
open PySem PyProof.Rows L2 SF SF.Po
theorem Ar{a b:TS}{D:L2.Ends}{σ:L2.St}{H:Hp}(G:L2.St->Hp->Prop)(h1:∀D':L2.Ends,(∀bN H',G bN H'->D'.nx bN H')->a D' σ H)(h2:∀bN H',G bN H'->b D bN H'):Jf a b D σ H:=h1 _ h2
theorem vV{own:List Str}{fr:List Nat}{g:TG}{te:TE}{σ:L2.St}{H1:Hp}{Q:VK}{lo:Int}{n:Nat}(Pv:List V->Prop)(hz:n<=sizeLine)(p0:Pv [])(hs:∀(i:Nat)(r:L2.St)(ys:List V)(H2:Hp),i<n->r.length=own.length->ys.length=i->Pv ys->au H1 H2->∀Z:V->L2.St->Hp->Prop,(∀y dy H5,au H2 H5->Pv (ys++[y])->(∃r':L2.St,r'.length=own.length/\dy=r'++qe fr σ)->Z y dy H5)->g (.int (lo+i)) (r++qe fr σ) H2 fun dy H4=>te dy H4 fun y H5=>Z y dy H5)(hq:∀D H2 ys,H1 D=none->au H1 H2->H2 D=some (.lst ys)->ys.length=n->Pv ys->Q (.ref D) H2):kj (yV lo n) own fr σ g te H1 Q:=xf Pv hz p0 hs hq
theorem BH:∀n:Nat,n<=6->Builtin.Range.small 0 (n:Int) 2=true:=by decide
theorem Eu:∀n:Nat,n<=6->Builtin.Range.rangeSize 0 (n:Int) 2=(((n+1)/2:Nat):Int):=by decide
theorem vW{Ha H':Hp}{fl c1:Addr}{o o':HO}(s:au Ha H')(hf:Ha fl=none)(hc:H' c1=none):au Ha (upd (upd H' c1 o) fl o'):=fun b q e=>by
 rw[aI (aN e hf),aI (aN (s _ _ e) hc)];exact s _ _ e
noncomputable def A3(p σ m d:Int):List Int:=[p*p-m*σ*σ,0-2*p*d,d*d]
theorem Num.E8{p σ m d:Int}(h:Num p σ m d):Bd 2 σ:=by rcases h.sg with rfl|rfl|rfl<;>(unfold Bd;decide)
theorem Num.ab{p σ m d:Int}(h:Num p σ m d):Ab 40 (A3 p σ m d):=fun x hx=>by
 have b2:Bd 3 (2:Int):=Bd.of_two (by decide) (by decide);have b0:Bd 30 (0:Int):=Bd.mono (m:=1) (by show(0:Int).natAbs<2^1;decide) (by decide);unfold A3 at hx;rcases List.mem_cons.mp hx with e|hx
 ·rw[e];exact(((h.bp.mul h.bp).mono (by decide:12+12<=30)).sub (((h.bm.mul h.E8).mul h.E8).mono (by decide))).mono (by decide)
 ·rcases List.mem_cons.mp hx with e|hx
  ·rw[e];exact(b0.sub ((b2.mul h.bp).mul h.bd |>.mono (by decide))).mono (by decide)
  ·rw[List.mem_singleton.mp hx];exact(h.bd.mul h.bd).mono (by decide)
noncomputable def As(K:PySem.W.Frag):Sp:=fun vs H Q _=>∃(a:Addr)(ns:List Int),vs=[.ref a]/\a_ K H a (ns.map V.int)/\ns.length<=63/\∀H',Q (.bl true) H'
section
variable {P:Program} {w:World} {K:PySem.W.Frag} {mg:Str->Option Value} {base:Heap} {C:Addr}
theorem K'{f:Addr}{fd:FuncData}(T:Nm mg)(F:Fs K "law" "law" m9 f fd)(kN:bI P w K mg base 39 "_law_cell" ["_law_script","_law_k"] (DK K))(jL:bI P w K mg base 39 "_law_drawn" ["_law_cell_here","_law_k"] sX)(pR:bI P w K mg base 39 "_law_surd" ["_law_cell_here","_law_k"] Em)(lP:bI P w K mg base 39 "_law_number" ["_law_surd_here"] (rz C))(pS:bI P w K mg base 39 "_law_order_of" ["_law_one","_law_other"] An)(fJ:bI P w K mg base 39 "compared" ["one","other"] (Ek C))(qx:bI P w K mg base 39 "_law_product" ["_law_one","_law_other"] (xV mulL (fun xs ys=>UZ xs ys/\xs≠[]/\ys≠[])))(tS:bI P w K mg base 39 "roots" ["poly"] (pN C)):
 g7 P w K mg base BX 40 f fd ["_law_script"] (As K):=by
 refine F.ok eH (fun vs H Q E h=>?_) (fun cQ A outer s H vs Q E hr h=>?_)
 ·obtain⟨a,ns,rfl,_⟩:=h;rfl
 obtain⟨sa,ns,rfl,hS,hl,q⟩:=h;refine⟨_,(ae (fV PassesOwn.never rfl (qM rfl T.lH (aa af (aa (aK (AF rfl) rfl T.Im boot_max (aa af (aa (aK (l0 rfl) rfl T.DF boot_min (aa af (aa (aK aV rfl T.ft boot_len (aa (pv 0) ag)) ag))) ag))) (aa af ag)))) (aU (i:=1) eH.nd rfl (Or.inl rfl))
  (ae (aj (i:=2) eH.nd rfl (Or.inl rfl) (aw pR hr (aa (aw kN hr (aa (pv 0) (aa (pv 1) ag))) (aa (pv 1) ag))))
  (ae (aj (i:=3) eH.nd rfl (Or.inl rfl) (aw pR hr (aa (aw kN hr (aa (pv 0) (aa (ai bL (pv 1) af) ag))) (aa (ai bL (pv 1) af) ag))))
  (ae (aj (i:=4) eH.nd rfl (Or.inl rfl) (aw jL hr (aa (aw kN hr (aa (pv 0) (aa (pv 1) ag))) (aa (ai bL (pv 1) af) ag))))
  (ae (ck (aG d_ (ai de (pv 4) af) af (aD _))
  (ah (aj (i:=3) eH.nd rfl (Or.inl rfl) (dm (aa (ai aq (ax ay (pv 2) af (fun _ _=>rfl)) af) (aa (ax ay (pv 2) af (fun _ _=>rfl)) (aa (ax ay (pv 2) af (fun _ _=>rfl)) (aa (ax ay (pv 2) af (fun _ _=>rfl)) ag)))))))
  aX)
  (ae (ck (PW.pt (lW (aG d_ (ai de (pv 4) af) af (aD _)) (jO (aG jn (ax ay (pv 2) af (fun _ _=>rfl)) af (aD _)))))
  (ah (aj (i:=3) eH.nd rfl (Or.inl rfl) (dm (aa (ai aq af (ax ay (pv 2) af (fun _ _=>rfl))) (aa (ax ay (pv 2) af (fun _ _=>rfl)) (aa (ai aq af (ax ay (pv 2) af (fun _ _=>rfl))) (aa (ai aq af (ax ay (pv 2) af (fun _ _=>rfl))) ag)))))))
  aX)
  (ae (aj (i:=5) eH.nd rfl (Or.inr rfl) (aw lP hr (aa (pv 2) ag)))
  (ae (aj (i:=6) eH.nd rfl (Or.inr rfl) (aw lP hr (aa (pv 3) ag)))
  (ae (aj (i:=7) eH.nd rfl (Or.inl rfl) (aw pS hr (aa (pv 2) (aa (pv 3) ag))))
  (ae (ck (PW.pt (qD (aG jn (aw fJ hr (aa (pv 5) (aa (pv 6) ag))) (pv 7) (aD _)) (qD (aG jn (aw fJ hr (aa (pv 6) (aa (pv 5) ag))) (ai bM af (pv 7)) (aD _)) (wB (aG jn (aw fJ hr (aa (pv 5) (aa (pv 5) ag))) af (aD _))))))
  (ah (aE j9))
  aX)
  (ae (aj (i:=8) eH.nd rfl (Or.inl rfl) (dr ag))
  (ae (fV PassesOwn.never rfl (eZ (dr (aa (pv 2) (aa (pv 3) ag)))) (kh rfl (bO (aU (i:=9) eH.nd rfl (Or.inl rfl)) (bO (aU (i:=10) eH.nd rfl (Or.inl rfl)) (bO (aU (i:=11) eH.nd rfl (Or.inl rfl)) (bO (aU (i:=12) eH.nd rfl (Or.inl rfl)) iN)))))
  (ah (iM (kR PySem.F.plainAttrs_list PySem.F.slot_list_append PySem.F.type_list_append eQ (pv 8) (aa (dr (aa (ai bM (ai aq (pv 9) (pv 9)) (ai aq (ai aq (pv 11) (pv 10)) (pv 10))) (aa (ai bM af (ai aq (ai aq af (pv 9)) (pv 12))) (aa (ai aq (pv 12) (pv 12)) ag)))) ag)))))
  (ae (aj (i:=13) eH.nd rfl (Or.inr rfl) (aw tS hr (aa (aw qx hr (aa (ax bB (pv 8) af (fun _ _=>rfl)) (aa (ax bB (pv 8) af (fun _ _=>rfl)) ag))) ag)))
  (ae (ck (rM (rL (aK (AY rfl) rfl T.NQ boot_all (aa (fZ rfl rfl (g9 (own:=["_law_j"]) (fr:=[13]) (fs:=["_law_both_here"]) (by with_unfolding_all rfl) rfl (by decide +kernel) (by decide +kernel) (by exact⟨rfl,trivial⟩) (by with_unfolding_all rfl) (by exact⟨⟨rfl,rfl,rfl,Or.inl rfl⟩,trivial⟩)) (lZ rfl T.lH (aa (ai bM (aK aV rfl T.ft boot_len (aa (pv 13) ag)) af) ag)) (fun _ _ _ _ _=>(aU (i:=0) (show List.Nodup (["_law_j","_law_both_here"]:List Str) by decide +kernel) rfl (Or.inl rfl) (Or.inr rfl))) (fun _ _ _ _ _=>(cP d_ (aw fJ hr (aa (ax (uK (K:=K) rfl) (pv 1) (pv 0) (fun _ _=>rfl)) (aa (ax (uK (K:=K) rfl) (pv 1) (ai bL (pv 0) af) (fun _ _=>rfl)) ag))) (cW bZ af) (aD _)))) ag))))
  (ah (aE j9))
  aX)
  (ae (ck (aG jn (kR PySem.F.plainAttrs_list PySem.F.slot_list_count PySem.F.type_list_count zY (fZ rfl rfl (g9 (own:=["_law_number_here"]) (fr:=[5]) (fs:=["_law_first"]) (by with_unfolding_all rfl) rfl (by decide +kernel) (by decide +kernel) (by exact⟨rfl,trivial⟩) (by with_unfolding_all rfl) (by exact⟨⟨rfl,rfl,rfl,Or.inl rfl⟩,trivial⟩)) (eZ (pv 13)) (fun _ _ _ _ _=>(aU (i:=0) (show List.Nodup (["_law_number_here","_law_first"]:List Str) by decide +kernel) rfl (Or.inl rfl) (Or.inr rfl))) (fun _ _ _ _ _=>(aw fJ hr (aa (pv 0) (aa (pv 1) ag))))) (aa af ag)) af (aD _))
  (ah (aE j9))
  aX)
  (ah (ck (aG jn (kR PySem.F.plainAttrs_list PySem.F.slot_list_count PySem.F.type_list_count zY (fZ rfl rfl (g9 (own:=["_law_number_here"]) (fr:=[6]) (fs:=["_law_second"]) (by with_unfolding_all rfl) rfl (by decide +kernel) (by decide +kernel) (by exact⟨rfl,trivial⟩) (by with_unfolding_all rfl) (by exact⟨⟨rfl,rfl,rfl,Or.inl rfl⟩,trivial⟩)) (eZ (pv 13)) (fun _ _ _ _ _=>(aU (i:=0) (show List.Nodup (["_law_number_here","_law_second"]:List Str) by decide +kernel) rfl (Or.inl rfl) (Or.inr rfl))) (fun _ _ _ _ _=>(aw fJ hr (aa (pv 0) (aa (pv 1) ag))))) (aa af ag)) af (aD _))
  (ah (aE j9))
  aX)))))))))))))))))
  (ah (aE j9))),?_⟩;walk_at "sf";refine⟨sa,_,rfl,.inl hS,?_⟩;generalize hln:(((ns.map V.int).length:Nat):Int)=ln;have ln0:0<=ln:=by lia
 walk_at "sf";refine⟨_,_,rfl,?_⟩;walk_at "sf";refine⟨_,_,rfl,?_⟩;walk_at "sf";obtain⟨mm,S6,m6⟩:∃mm:Nat,(if(if ln<6 then ln else 6)>2 then(if ln<6 then ln else 6) else 2)=(mm:Int)/\mm<=6:=by
  obtain⟨k,hk⟩:=Int.eq_ofNat_of_zero_le (show 0<=(if(if ln<6 then ln else 6)>2 then(if ln<6 then ln else 6) else 2) by split<;>(try split)<;>lia);refine⟨k,hk,?_⟩;have:(if(if ln<6 then ln else 6)>2 then(if ln<6 then ln else 6) else 2)<=6:=by split<;>(try split)<;>lia
  lia
 rw[S6];refine⟨0,(mm:Int),2,(mm+1)/2,rfl,by decide,by decide,BH mm m6,Eu mm m6,?_⟩;refine oa (fun k σ H'=>(∃(r1 r2 r3 r4 r5 r6 r7 r8 r9 GW GX GY LS:Option V),σ=[some (.ref sa),r1,r2,r3,r4,r5,r6,r7,r8,r9,GW,GX,GY,LS])/\au H H') ⟨⟨_,_,_,_,_,_,_,_,_,_,_,_,_,rfl⟩,au.refl _⟩ ?_ ?_
 ·rintro i σ H1 hi ⟨⟨r1,r2,r3,r4,r5,r6,r7,r8,r9,GW,GX,GY,LS,rfl⟩,s1⟩;obtain⟨k,hk,k0⟩:∃k:Int,(0:Int)+(i:Int)*2=k/\0<=k:=⟨_,rfl,by lia⟩;rw[hk];walk_at "sf";refine⟨sa,ns,_,rfl,s1.seq hS,hl,by lia,fun c H2 s2=>?_⟩;walk_at "sf";refine⟨_,_,rfl,fun g p y m d H3 s3 hg sd=>?_⟩;have B3:=s1.trans (s2.trans s3);walk_at "sf";refine⟨sa,ns,_,rfl,B3.seq hS,hl,by lia,fun c2 H4 s4=>?_⟩;walk_at "sf";refine⟨_,_,rfl,fun h p' y' m' d' H5 s5 hh Zj=>?_⟩;have xc:=s4.trans s5;have Iu:=B3.trans xc;walk_at "sf";refine⟨sa,ns,_,rfl,Iu.seq hS,hl,by lia,fun c3 H6 s6=>?_⟩;have La:=Iu.trans s6;have Lb:=(xc.trans s6) _ _ hg;have V6:=s6 _ _ hh;clear s2 s3 B3 s4 s5 xc Iu s6 hg hh s1;walk_at "sf";refine⟨_,_,rfl,fun mo Y' Za=>?_⟩
  try dsimp only
  with_reducible refine Ar (fun bN H'=>∃(h2:Addr)(p2 y2 m2 d2:Int),bN=[some (.ref sa),some (.int k),some (.ref g),some (.ref h2),some (.int mo),r5,r6,r7,r8,r9,GW,GX,GY,LS]/\au H6 H'/\H' h2=some (.tup [.int p2,.int y2,.int m2,.int d2])/\Num p2 y2 m2 d2) (fun D' hD=>?_) ?_
  ·walk_at "sf";refine bP (by decide) ?_;walk_at "sf";refine cZ (fun c=>?_) (fun c=>?_)
   ·walk_at "sf";refine aL (cj.of Lb) rfl ?_;walk_at "sf";refine bP (aJ sd.num.bp (Bd.of_two (n:=3) (by decide) (by decide)) (by decide)) ?_;walk_at "sf";refine aL (cj.of Lb) rfl ?_;walk_at "sf";refine aL (cj.of Lb) rfl ?_;walk_at "sf";refine aL (cj.of Lb) rfl ?_;walk_at "sf";intro p7 Zk;walk_at "sf";exact hD _ _ ⟨p7,_,_,_,_,rfl,au.new Zk _,ak,sd.TC⟩
   ·walk_at "sf";exact hD _ _ ⟨h,_,_,_,_,rfl,au.refl _,V6,Zj.num⟩
  rintro bN H7 ⟨h2,p2,y2,m2,d2,rfl,s7,TL,TM⟩;have LU:=s7 _ _ Lb
  try dsimp only
  with_reducible refine Ar (fun bN H'=>∃(h2:Addr)(p2 y2 m2 d2:Int),bN=[some (.ref sa),some (.int k),some (.ref g),some (.ref h2),some (.int mo),r5,r6,r7,r8,r9,GW,GX,GY,LS]/\au H6 H'/\H' h2=some (.tup [.int p2,.int y2,.int m2,.int d2])/\Num p2 y2 m2 d2) (fun D' hD=>?_) ?_
  ·walk_at "sf";refine bP (by decide) ?_;walk_at "sf";refine cZ (fun c=>?_) (fun c=>?_)
   ·walk_at "sf";refine aL (cj.of LU) rfl ?_;walk_at "sf";refine cZ (fun c2=>?_) (fun c2=>?_)
    ·walk_at "sf";refine aL (cj.of LU) rfl ?_;refine bP (aJ (Bd.of_two (n:=3) (by decide) (by decide)) sd.num.bp (by decide)) ?_;walk_at "sf";refine aL (cj.of LU) rfl ?_;walk_at "sf";refine aL (cj.of LU) rfl ?_;refine bP (aJ (Bd.of_two (n:=3) (by decide) (by decide)) sd.bm (by decide)) ?_;walk_at "sf";refine aL (cj.of LU) rfl ?_;refine bP (aJ (Bd.of_two (n:=3) (by decide) (by decide)) sd.num.bd (by decide)) ?_;walk_at "sf";intro p8 Zl;walk_at "sf";exact hD _ _ ⟨p8,_,_,_,_,rfl,s7.trans (au.new Zl _),ak,sd.TF⟩
    ·walk_at "sf";exact hD _ _ ⟨h2,_,_,_,_,rfl,s7,TL,TM⟩
   ·walk_at "sf";exact hD _ _ ⟨h2,_,_,_,_,rfl,s7,TL,TM⟩
  rintro bN H8 ⟨h3,q3,y3,m3,d3,rfl,s8,Qn,qa⟩;have nm:=sd.num;have Qo:=s8 _ _ Lb;have OG:=La.trans s8;clear La Lb V6 s7 TL LU TM s8;walk_at "sf";refine⟨g,p,y,m,d,rfl,Qo,nm,fun v H9 s9 hv OH=>?_⟩;walk_at "sf";refine⟨h3,q3,y3,m3,d3,rfl,s9 _ _ Qn,qa,fun v' EW Py ik Lc=>?_⟩;have GZ:=s9.trans Py;have OI:=hv.same Py;walk_at "sf";refine⟨g,h3,p,y,m,d,q3,y3,m3,d3,rfl,GZ _ _ Qo,GZ _ _ Qn,⟨nm.bp,nm.E8,nm.bm,nm.bd⟩,⟨qa.bp,qa.E8,qa.bm,qa.bd⟩,nm.hm.1,qa.hm.1,fun KS Qp=>?_⟩;have d0:0<d:=nm.d1;have V7:0<d3:=qa.d1;rw[BG d0 V7 nm.sg qa.sg];obtain⟨rs,nd,mx,Zm,GV,rt,pc,l2,lead⟩:=nm.two qa;generalize xS p y m d=x at*;generalize xS q3 y3 m3 d3=x' at*;have BI:=OI.same Qp;have Au:=ik.same Qp;have OJ:=GZ.trans Qp;walk_at "sf";refine⟨v,v',x,x',rfl,BI,Au,OH,Lc,fun KY dZ=>?_⟩;walk_at "sf";refine ux rfl ?_;walk_at "sf";refine⟨v',v,x',x,rfl,Au.same dZ,BI.same dZ,Lc,OH,fun S' B3=>?_⟩;have Zn:aP (x'-x)=0-aP (x-x'):=by
   have e:x'-x=-(x-x'):=by grind
   rw[e,SF.Re.oP];lia
  rw[Zn];walk_at "sf";refine ux rfl ?_;walk_at "sf";have rA:=dZ.trans B3;refine⟨v,v,x,x,rfl,BI.same rA,BI.same rA,OH,OH,fun E4 NW=>?_⟩;rw[show x-x=0 by grind,SF.Re.aW];walk_at "sf";refine ux rfl ?_;have G0:=OJ.trans (rA.trans NW);have OK:=BI.same (rA.trans NW);have IT:=Au.same (rA.trans NW);have OL:=G0 _ _ Qo;have OM:=G0 _ _ Qn;have ON:=OG.trans G0;clear hv ik OI BI Au Qo Qn OG s9 Py GZ Qp OJ dZ B3 rA NW G0;walk_at "sf";intro fl PX;have Qq:upd E4 fl (.lst []) fl=some (.lst []):=ak;have Iu:=au.new PX (.lst []);generalize upd E4 fl (.lst [])=Tb at Qq Iu ⊢;walk_at "sf";intro pq TN;have Qr:upd Tb pq (.lst [.ref g,.ref h3]) pq=some (.lst [.ref g,.ref h3]):=ak;have La:=au.new TN (.lst [.ref g,.ref h3]);generalize upd Tb pq (.lst [.ref g,.ref h3])=H16 at Qr La ⊢;have OO:=La _ _ Qq;have V8:pq≠fl:=fun z=>by rw[z,Qq] at TN;cases TN
  walk_at "sf";refine⟨pq,rfl,⟨_,a_.of Qr⟩,?_⟩;refine nW (xs:=[V.ref g,V.ref h3]) (fun i σ H'=>(∃(r9 GW GX GY:Option V),σ=[some (.ref sa),some (.int k),some (.ref g),some (.ref h3),some (.int mo),some (.ref v.r),some (.ref v'.r),some (.int (aP (x-x'))),some (.ref fl),r9,GW,GX,GY,LS])/\au E4 H'/\H' pq=some (.lst [.ref g,.ref h3])/\
   (i=0->H' fl=some (.lst []))/\(i=1->∃c1,H' fl=some (.lst [.ref c1])/\IL H' c1 (A3 p y m d))/\(i=2->∃c1 c2,H' fl=some (.lst [.ref c1,.ref c2])/\IL H' c1 (A3 p y m d)/\IL H' c2 (A3 q3 y3 m3 d3)))
   ⟨⟨_,_,_,_,rfl⟩,Iu.trans La,Qr,fun _=>OO,fun z=>(nomatch z),fun z=>(nomatch z)⟩ (fun i σ H' _ z=>a_.of z.2.2.1) ?_ ?_
  ·rintro i z σ TQ hz ⟨⟨r9,GW,GX,GY,rfl⟩,G1,G2,f0,f1,f2⟩;obtain⟨li,ez⟩:=List.getElem?_eq_some_iff.mp hz;have b2:Bd 3 (2:Int):=Bd.of_two (by decide) (by decide);have hi:i=0\/i=1:=by have:i<2:=li;lia
   rcases hi with rfl|rfl
   ·have ez:z=V.ref g:=by simpa using ez.symm
    subst ez;have jh:=f0 rfl;walk_at "sf";refine jq (cj.of (G1 _ _ OL)) rfl ?_;walk_at "sf";refine⟨_,rfl,.inl ⟨rfl,_,a_.of jh⟩,?_⟩;walk_at "sf";refine bP (aJ nm.bp nm.bp (by decide)) ?_;walk_at "sf";refine bP (aJ nm.bm nm.E8 (by decide)) ?_;walk_at "sf";refine bP (aJ (nm.bm.mul nm.E8) nm.E8 (by decide)) ?_;walk_at "sf";refine bP (aJ b2 nm.bp (by decide)) ?_;walk_at "sf";refine bP (aJ (b2.mul nm.bp) nm.bd (by decide)) ?_;walk_at "sf";refine bP (aJ nm.bd nm.bd (by decide)) ?_;walk_at "sf";intro c1 EY;have OP:c1≠fl:=fun z=>by rw[z,jh] at EY;cases EY
    have TR:pq≠c1:=fun z=>by rw[<-z,G2] at EY;cases EY
    refine⟨fl,[],_,rfl,rfl,by rw[aI (Ne.symm OP)];exact jh,by show 0<sizeLine;decide,?_⟩;walk_at "sf";refine⟨⟨_,_,_,_,rfl⟩,vW G1 PX EY,by rw[aI V8,aI TR];exact G2,fun z=>(nomatch z),fun _=>⟨c1,ak,?_⟩,fun z=>(nomatch z)⟩;show upd _ _ _ c1=_;rw[aI OP,ak];rfl
   ·have ez:z=V.ref h3:=by simpa using ez.symm
    subst ez;obtain⟨c1,jh,LV⟩:=f1 rfl;walk_at "sf";refine jq (cj.of (G1 _ _ OM)) rfl ?_;walk_at "sf";refine⟨_,rfl,.inl ⟨rfl,_,a_.of jh⟩,?_⟩;walk_at "sf";refine bP (aJ qa.bp qa.bp (by decide)) ?_;walk_at "sf";refine bP (aJ qa.bm qa.E8 (by decide)) ?_;walk_at "sf";refine bP (aJ (qa.bm.mul qa.E8) qa.E8 (by decide)) ?_;walk_at "sf";refine bP (aJ b2 qa.bp (by decide)) ?_;walk_at "sf";refine bP (aJ (b2.mul qa.bp) qa.bd (by decide)) ?_;walk_at "sf";refine bP (aJ qa.bd qa.bd (by decide)) ?_;walk_at "sf";intro c2 qh;have OP:c2≠fl:=fun z=>by rw[z,jh] at qh;cases qh
    have TR:pq≠c2:=fun z=>by rw[<-z,G2] at qh;cases qh
    have Zo:c1≠c2:=fun z=>by
     have:TQ c1=_:=LV;rw[z,qh] at this;cases this
    have Zp:c1≠fl:=fun z=>by
     have:TQ c1=_:=LV;rw[z,jh] at this;cases this
    refine⟨fl,[.ref c1],_,rfl,rfl,by rw[aI (Ne.symm OP)];exact jh,by show 1<sizeLine;decide,?_⟩;walk_at "sf";refine⟨⟨_,_,_,_,rfl⟩,vW G1 PX qh,by rw[aI V8,aI TR];exact G2,fun z=>(nomatch z),fun z=>(nomatch z),fun _=>⟨c1,c2,ak,?_,?_⟩⟩
    ·show upd _ _ _ c1=_;rw[aI Zp,aI Zo];exact LV
    ·show upd _ _ _ c2=_;rw[aI OP,ak];rfl
  rintro σ TQ ⟨⟨r9,GW,GX,GY,rfl⟩,G1,_,_,_,f2⟩;obtain⟨c1,c2,jh,LV,V9⟩:=f2 rfl;have OQ:=OK.same G1;have IU:=IT.same G1;have OR:=ON.trans G1;clear OK IT OL OM ON G1 Qq OO Qr Iu La f2;walk_at "sf";refine cx (a_.of jh) (show mU [V.ref c1,V.ref c2] _=some (V.ref c1) from rfl) ?_;walk_at "sf";refine cx (a_.of jh) (show mU [V.ref c1,V.ref c2] _=some (V.ref c2) from rfl) ?_;walk_at "sf";have tA:Tr (A3 p y m d):=fj (p:=p) (m:=m*y*y) d0;have tB:Tr (A3 q3 y3 m3 d3):=fj (p:=q3) (m:=m3*y3*y3) V7;have nA:A3 p y m d≠[]:=iF p (m*y*y) d;have nB:A3 q3 y3 m3 d3≠[]:=iF q3 (m3*y3*y3) d3;have lA:(A3 p y m d).length=3:=rfl;have lB:(A3 q3 y3 m3 d3).length=3:=rfl;have aA:=nm.ab;have aB:=qa.ab;have Zq:mulL (A3 p y m d) (A3 q3 y3 m3 d3)=mulL [p*p-m*y*y,0-2*p*d,d*d] [q3*q3-m3*y3*y3,0-2*q3*d3,d3*d3]:=rfl;rw[<-Zq] at rt pc l2 lead;refine⟨c1,c2,_,_,rfl,LV,V9,⟨⟨⟨by lia,by lia⟩,aA.mono (by decide),aB.mono (by decide)⟩,nA,nB⟩,fun p1 H18 OG V_=>?_⟩;have GR:x6 (mulL (A3 p y m d) (A3 q3 y3 m3 d3)):=⟨nL tA tB,Ao nA nB,by rw[jM nA nB];lia,40+40+3,by decide,Aq aA aB (by lia)⟩;have TU:(mulL (A3 p y m d) (A3 q3 y3 m3 d3)).length<=13:=by rw[jM nA nB];lia
  generalize mulL (A3 p y m d) (A3 q3 y3 m3 d3)=pr at*;walk_at "sf";refine⟨p1,pr,rs,rfl,V_,⟨GR,pc,TU,l2,lead⟩,nd,rt,fun l ws V' Wa Ew Qs pw Qm lw=>?_⟩;have Av:=OG.trans Wa;have OS:=OQ.same Av;have IV:=IU.same Av;have OT:=OR.trans Av;have OU:∀w∈ws,w.1.Hx V' C/\w.1.Ok w.2:=fun w hw=>⟨(Qs w hw).1,(Qs w hw).2.1.ok pc (GV _ (Qs w hw).2.2)⟩;obtain⟨wx,TV,Zr⟩:=Qm x mx;have lw0:0<ws.length:=List.length_pos_iff.mpr (fun z=>by rw[z] at TV;exact nomatch TV);clear OQ IU OR OG Wa Av Qs V_ LV V9 jh;walk_at "sf";refine f6 (H1:=V') (yV 0 (ws.length-1)) (fun R hR=>?_) (vV (n:=ws.length-1) (fun ys=>∃bs:List Bool,ys=bs.map V.bl/\∀b∈bs,b=true) (fb (by lia)) ⟨[],rfl,fun b hb=>(nomatch hb)⟩ ?_ ?_)
  ·walk_at "sf";refine⟨l,_,rfl,.inl (a_.of Ew),?_⟩;walk_at "sf";rw[List.length_map];refine⟨_,rfl,by lia,by lia,?_⟩;have e:((ws.length:Int)-1).toNat=ws.length-1:=by lia
   rw[e];exact hR
  ·rintro j r ys TX hj Bv qR ⟨bs,rfl,TY⟩ Ey Z hZ;obtain⟨x0,rfl⟩:=sf Bv;have j1:j<ws.length:=by lia
   have j2:j+1<ws.length:=by lia
   have a1:mU (ws.map fun w=>V.ref w.1.r) ((0:Int)+(j:Int))=some (V.ref ws[j].1.r):=by
    have e:(0:Int)+(j:Int)=((j:Nat):Int):=by lia
    rw[e];exact nH (by rw[List.getElem?_map,List.getElem?_eq_getElem j1];rfl)
   have a2:mU (ws.map fun w=>V.ref w.1.r) ((0:Int)+(j:Int)+1)=some (V.ref ws[j+1].1.r):=by
    have e:(0:Int)+(j:Int)+1=((j+1:Nat):Int):=by lia
    rw[e];exact nH (by rw[List.getElem?_map,List.getElem?_eq_getElem j2];rfl)
   obtain⟨k1,k2⟩:=OU _ (List.getElem_mem j1);obtain⟨k3,k4⟩:=OU _ (List.getElem_mem j2);have lt:=(List.pairwise_iff_getElem.mp pw) j (j+1) j1 j2 (by lia);walk_at "sf";refine cx (a_.of (Ey _ _ Ew)) a1 ?_;walk_at "sf";refine cx (a_.of (Ey _ _ Ew)) a2 ?_;walk_at "sf";refine⟨ws[j].1,ws[j+1].1,_,_,rfl,k1.same Ey,k3.same Ey,k2,k4,fun Qt E9=>?_⟩;rw[SF.Re.bQ (show ws[j].2-ws[j+1].2<0 by grind)];walk_at "sf";refine hZ _ _ _ E9 ⟨bs++[true],by rw[List.map_append];rfl,fun b hb=>?_⟩ ⟨[_],rfl,rfl⟩;rcases List.mem_append.mp hb with hb|hb
   ·exact TY b hb
   ·exact List.mem_singleton.mp hb
  rintro D TX ys hD Ey OV hlD ⟨bs,rfl,TY⟩;walk_at "sf";refine⟨D,bs,rfl,a_.of OV,?_⟩;have ea:bs.all id=true:=List.all_eq_true.mpr fun b hb=>TY b hb;rw[ea];walk_at "sf";refine w8 ?_;have G3:=Ey _ _ Ew;have OW:=OS.same Ey;have IW:=IV.same Ey;have Aw:∀w∈ws,w.1.Hx TX C/\w.1.Ok w.2:=fun w hw=>⟨(OU w hw).1.same Ey,(OU w hw).2⟩;have OX:=OT.trans Ey;clear OV Ew OS IV OU OT Ey;walk_at "sf";refine f6 (H1:=TX) (qF K l) (fun R hR=>?_) (kI (xs:=ws.map fun w=>V.ref w.1.r) (a_.of G3) (fun ys=>ys=((ws.take ys.length).map fun w=>V.int (aP (w.2-x)))) (fb (by rw[List.length_map];lia)) rfl ?_ ?_)
  ·walk_at "sf";exact⟨l,rfl,⟨_,a_.of G3⟩,hR⟩
  ·intro j z r ys Qt hz Bv qR wg E9 Z hZ;obtain⟨x0,rfl⟩:=sf Bv;rw[List.getElem?_map] at hz;cases ew:ws[j]? with
   |none=>rw[ew] at hz;cases hz
   |some w=>
    rw[ew] at hz;have TZ:V.ref w.1.r=z:=by simpa using hz
    subst TZ;obtain⟨k1,k2⟩:=Aw w (List.mem_of_getElem? ew);walk_at "sf";refine⟨w.1,v,w.2,x,rfl,k1.same E9,OW.same E9,k2,OH,fun Wb LW=>?_⟩;refine hZ _ _ _ LW ?_ ⟨[_],rfl,rfl⟩;rw[List.length_append,qR,List.length_singleton,List.take_add_one,ew,List.map_append,<-qR,<-wg];rfl
  rintro D2 Qt ys N3 E9 G4 T4 wg;rw[T4,List.length_map,List.take_length] at wg;have Ld:ys=(ws.map fun w=>aP (w.2-x)).map V.int:=by rw[wg,List.map_map];rfl
  rw[Ld] at G4;walk_at "sf";refine⟨.inl ⟨rfl,_,a_.of G4⟩,?_⟩;walk_at "sf";refine⟨D2,_,0,rfl,rfl,a_.of G4,?_⟩;rw[mR (f:=fun w:Nv×Re=>w.2) pw ⟨wx,TV,Zr⟩];walk_at "sf";refine ux rfl ?_;have OY:=E9 _ _ G3;have OZ:=IW.same E9;have O0:∀w∈ws,w.1.Hx Qt C/\w.1.Ok w.2:=fun w hw=>⟨(Aw w hw).1.same E9,(Aw w hw).2⟩;have T5:=OX.trans E9;clear G4 G3 OW IW Aw OX E9;walk_at "sf";refine f6 (H1:=Qt) (qF K l) (fun R hR=>?_) (kI (xs:=ws.map fun w=>V.ref w.1.r) (a_.of OY) (fun ys=>ys=((ws.take ys.length).map fun w=>V.int (aP (w.2-x')))) (fb (by rw[List.length_map];lia)) rfl ?_ ?_)
  ·walk_at "sf";exact⟨l,rfl,⟨_,a_.of OY⟩,hR⟩
  ·intro j z r ys Wb hz Bv qR wg LW Z hZ;obtain⟨x0,rfl⟩:=sf Bv;rw[List.getElem?_map] at hz;cases ew:ws[j]? with
   |none=>rw[ew] at hz;cases hz
   |some w=>
    rw[ew] at hz;have TZ:V.ref w.1.r=z:=by simpa using hz
    subst TZ;obtain⟨k1,k2⟩:=O0 w (List.mem_of_getElem? ew);walk_at "sf";refine⟨w.1,v',w.2,x',rfl,k1.same LW,OZ.same LW,k2,Lc,fun H23 Pz=>?_⟩;refine hZ _ _ _ Pz ?_ ⟨[_],rfl,rfl⟩;rw[List.length_append,qR,List.length_singleton,List.take_add_one,ew,List.map_append,<-qR,<-wg];rfl
  rintro D3 Wb ys Qi LW DR T6 wg;rw[T6,List.length_map,List.take_length] at wg;have Ld:ys=(ws.map fun w=>aP (w.2-x')).map V.int:=by rw[wg,List.map_map];rfl
  rw[Ld] at DR;walk_at "sf";refine⟨.inl ⟨rfl,_,a_.of DR⟩,?_⟩;walk_at "sf";refine⟨D3,_,0,rfl,rfl,a_.of DR,?_⟩;obtain⟨wy,Zs,Zt⟩:=Qm x' Zm;rw[mR (f:=fun w:Nv×Re=>w.2) pw ⟨wy,Zs,Zt⟩];walk_at "sf";refine ux rfl ?_;walk_at "sf";exact⟨⟨_,_,_,_,_,_,_,_,_,_,_,_,_,rfl⟩,T5.trans LW⟩
 rintro σ H1 ⟨⟨r1,r2,r3,r4,r5,r6,r7,r8,r9,GW,GX,GY,LS,rfl⟩,s1⟩;walk_at "sf";exact q H1
end
end dA
namespace dA
open PySem PyProof.Rows L2 SF SF.Po
theorem G5{P:Program}{w:World}{K:PySem.W.Frag}{mg:Str->Option Value}{base:Heap}{f C fI:Addr}{fd Wc:FuncData}{uG:Value}(T:Nm mg)(hT:P.given.tree=none)(hG:mg "GREATEST_DEGREE"=some uG/\RelV (.int 12) uG)(RC:Rc K mg C fI Wc)(F:Fs K "law" "law" m9 f fd)(mS:aS K mg "common_divisor" fG ["one","other"])(Le:aS K mg "sign" xP ["number"])(G6:aS K mg "power" sS ["number","many"])(G7:aS K mg "ratio" sT ["top","under"])(G8:aS K mg "times" sU ["one","other"])(Ez:aS K mg "middle" o7 ["one","other"])(yC:aS K mg "order_of" ko ["one","other"])(BJ:aS K mg "trimmed" mD ["row"])(EA:aS K mg "degree" o8 ["poly"])(tT:aS K mg "derivative" iZ ["poly"])(BK:aS K mg "content" mE ["poly"])(vX:aS K mg "primitive" jz ["poly"])(yD:aS K mg "value_at" kr ["poly","point"])(EB:aS K mg "spread" o9 ["value","point"])(BL:aS K mg "divided" mF ["poly","divisor"])(BN:aS K mg "largest" mG ["poly"])(tU:aS K mg "divisor_of" i7 ["one","other"])(yE:aS K mg "quotient" ku ["one","other"])(qy:aS K mg "square_free" g_ ["poly"])(vY:aS K mg "height_at" jA ["poly","top","under"])(BO:aS K mg "sign_at" mH ["poly","given"])(tV:aS K mg "changes_in" i8 ["row"])(vZ:aS K mg "remainder" jB ["one","other"])(yF:aS K mg "chain_of" kv ["free"])(tW:aS K mg "changes_at" i9 ["chain","given"])(v5:aS K mg "is_within" jC ["free","reach"])(yG:aS K mg "bound_of" kx ["free"])(lQ:aS K mg "pair_around_all" fo ["free"])(EC:aS K mg "marked" pb ["chain","given"])(yH:aS K mg "isolated" ky ["poly"])(tX:aS K mg "stretch_of" i_ ["pair"])(pT:aS K mg "parts_needed" gD ["stretch","width"])(pU:aS K mg "part_between" gE ["free","stretch","parts","near","far"])(BP:aS K mg "guessed" mI ["free","stretch","parts"])(ED:aS K mg "halved" pe ["free","stretch"])(yI:aS K mg "narrowed" kz ["free","pair","width"])(yJ:aS K mg "of_ratio" kA ["given"])(v7:aS K mg "number_in" jE ["free","pair","weight"])(G9:aS K mg "roots" sV ["poly"])(yK:aS K mg "as_ratio" kB ["number"])(BQ:aS K mg "against" mK ["number","given"])(yL:aS K mg "are_same" kD ["one","other"])(EE:aS K mg "parted" pk ["one","other"])(yM:aS K mg "compared" kE ["one","other"])(yN:aS K mg "_law_cell" kF ["_law_script","_law_k"])(v8:aS K mg "_law_drawn" jF ["_law_cell_here","_law_k"])(tY:aS K mg "_law_common" i' ["_law_one","_law_other"])(v9:aS K mg "_law_ratio" jG ["_law_top","_law_under"])(qA:aS K mg "_law_product" ie ["_law_one","_law_other"])(yO:aS K mg "_law_surd" kG ["_law_cell_here","_law_k"])(tZ:aS K mg "_law_number" ja ["_law_surd_here"])(qB:aS K mg "_law_sign_of" ig ["_law_a","_law_s","_law_m"])(yP:aS K mg "_law_both" kH ["_law_a","_law_s","_law_m","_law_t","_law_n"])(pV:aS K mg "_law_order_of" gG ["_law_one","_law_other"]):g7 P w K mg base BX 40 f fd ["_law_script"] (As K):=by
 have EF:=lI (P:=P) (w:=w) (base:=base) T mS;have pW:=GD (P:=P) (w:=w) (base:=base) Le;have BR:=x_ (P:=P) (w:=w) (base:=base) T BJ;have v_:=By (P:=P) (w:=w) (base:=base) T EA;have lS:=ql (P:=P) (w:=w) (base:=base) T tT;have BS:=xX EF BK;have ni:=sW hT (BS.mono (by decide)) vX;have G_:=vq (P:=P) (w:=w) (base:=base) T yD;have EG:=Bs (P:=P) (w:=w) (base:=base) hT EB;have BU:=xY (P:=P) (w:=w) (base:=base) T BN;have rB:=x5 (P:=P) (w:=w) (base:=base) T hT BL;have rC:=qm T (EF.mono (by decide)) ni (G_.mono (by decide)) (EG.mono (by decide)) (BU.mono (by decide)) (rB.mono (by decide)) tU;have yQ:=vy ni (rB.mono (by decide)) yE;have O1:=pC yQ rC (lS.mono (by decide)) qy;have pY:=s_ (P:=P) (w:=w) (base:=base) T vY;have jZ:=yb pW pY BO;have G':=DP (P:=P) (w:=w) (base:=base) T G6;have O2:=tf T pW BR vZ;have Hb:=vA T hT (lS.mono (by decide)) (G'.mono (by decide)) (O2.mono (by decide)) yF;have Hc:=qo pW tV;have O3:=qp Hc jZ tW;have lT:=DU hT (EF.mono (by decide)) G7;have EH:=Bw lT Ez;have EI:=tG (P:=P) (w:=w) (base:=base) T v5;have Hd:=vG EI yG;have EJ:=kJ T (Hd.mono (by decide)) lT lQ;have EK:=Bx O3 EC;have O4:=vI T hG (v_.mono (by decide)) (O1.mono (by decide)) (Hb.mono (by decide)) (EJ.mono (by decide)) (EK.mono (by decide)) (EH.mono (by decide)) yH;have O5:=qu (P:=P) (w:=w) (base:=base) tX;have Lf:=ny (P:=P) (w:=w) (base:=base) hT pT;have EL:=nC pW pY pU;have He:=yk T hT (pY.mono (by decide)) (EL.mono (by decide)) BP;have Lg:=BA (EL.mono (by decide)) ED;have rD:=tL T (O5.mono (by decide)) (Lf.mono (by decide)) (He.mono (by decide)) (Lg.mono (by decide)) (lT.mono (by decide)) yI;have EM:=vL rD;have EN:=GP (P:=P) (w:=w) (base:=base) RC;have t_:=vM (pW.mono (by decide)) yC;have pZ:=tN RC (EN.mono (by decide)) yJ;have Qu:=vO pZ;have Hf:=qv hT RC (EN.mono (by decide)) EM pZ (lT.mono (by decide)) (t_.mono (by decide)) (jZ.mono (by decide)) v7;have Ax:=BC T O4 (O1.mono (by decide)) Hf (v_.mono (by decide)) G9;have rE:=yr RC (t_.mono (by decide)) (jZ.mono (by decide)) BQ;have O6:=vR (P:=P) (w:=w) (base:=base) RC yK;have Hg:=Eh (lT.mono (by decide)) G8;have Lh:=tP RC (t_.mono (by decide)) (rC.mono (by decide)) (jZ.mono (by decide)) yL;have EO:=yy RC (rE.mono (by decide)) (rD.mono (by decide)) (Hg.mono (by decide)) EE;have O7:=tR RC (O6.mono (by decide)) (rE.mono (by decide)) (Lh.mono (by decide)) (EO.mono (by decide)) yM;have Li:=vo (P:=P) (w:=w) (base:=base) T yN;have Ay:=sY (P:=P) (w:=w) (base:=base) v8;have ER:=qr (P:=P) (w:=w) (base:=base) T tY;have ES:=tE ER v9;have BV:=pA (P:=P) (w:=w) (base:=base) T qA;have Lj:=vS (Ay.mono (by decide)) yO;have ET:=pQ T (pZ.mono (by decide)) (ES.mono (by decide)) Ax tZ;have O8:=pP (P:=P) (w:=w) (base:=base) T qB;have Lk:=vT T O8 yP;have O9:=nD Lk pV;exact K' T F (Li.mono (by decide)) (Ay.mono (by decide)) (Lj.mono (by decide)) ET (O9.mono (by decide)) O7 (BV.mono (by decide)) (Ax.mono (by decide))
theorem O_{K:PySem.W.Frag}{h:Heap}{mg:Str->Option Value}{C fI:Addr}{od an:Option Addr}{y8:Array (Option Value)}{kV doc pm cQ ct:Value}(X:K.In h)(G:h.Ns mainGlobals mg)(e:PySem.W.nsIn K mainGlobals "Root"=some (some (.ref C)))(o2:PySem.W.findIn K (.ref C) "__init__"=some (some (.ref fI)))(lk:K.lookup fI=some ⟨.type "function",od,.func (PySem.W.fnOf "__init__" "Root.__init__" (fY kK) (e_ kK) (ar kK) .none kV doc pm an cQ ct),y8⟩)(wA:PySem.W.codeIn K cQ "Root.__init__"=true)(o1:PySem.W.makesIn K C=true)(o3:PySem.W.isFn K (.ref fI)=true)(o4:PySem.W.keepIn K (.ref C)=true)(cl:Fj K C)(n1:PySem.W.findIn K (.ref C) "poly"=some none)(n2:PySem.W.findIn K (.ref C) "pair"=some none)(n3:PySem.W.findIn K (.ref C) "weight"=some none):∃Zu fd,Rc K mg C Zu fd:=by
 refine⟨fI,_,PySem.W.mg_of X G e,⟨o1,o2,o3,o4⟩,cl,n1,n2,n3,⟨.type "function",od,.none,kV,doc,pm,an,cQ,ct,y8,rfl,lk,wA⟩,fun s us X hl=>?_⟩;have h2:us.length=4:=by simpa using hl
 match us,h2 with
 |[u1,u2,u3,u4],_=>exact BindsTo.of_eq rfl
end dA
namespace dA
open PySem PyProof.Rows L2 SF
theorem walk{l:PySem.W.OpenLaw}{q:Program}{loose:List Str}{XP:(Str->Option Value)->Heap->Prop}{YP:World->Heap->Prop}{d:DefRec}{K:Params->PySem.W.Frag}(hn:l.most=some 63)(MA:d.params.defaults=[])(hY:∀(w:World)(h:Heap),YP w h->(K w.params).In h)(F:∀(w:World)(mg:Str->Option Value)(fa:Addr)(h:Heap),(K w.params).In h->h.Ns mainGlobals mg->mg d.name=some (.ref fa)->
 ∃fd:FuncData,(∀(s:Shared)(u:Value),BindsTo s fd ⟨[u],[]⟩ [("_law_script",u)])/\∀base:Heap,(K w.params).In base->base.Ns mainGlobals mg->g7 l.prog w (K w.params) mg base BX 40 fa fd ["_law_script"] (As (K w.params)))(hi:importsNone q=true):
 PySem.W.WalkO q loose XP YP l.row.toRowW d [] (fun f vs=>PySem.call f vs):=
 L2.Fq (n:=63) (k:=40) (x:="_law_script") (CX:=fun _=>BX) (sp:=fun w=>As (K w.params)) hn (by decide) MA ⟨rfl,by decide,by decide⟩ hY F (fun _ _ a ns hl _ hS=>⟨a,ns,rfl,hS,hl,fun _=>rfl⟩) (fun _ _ _ _ _ z=>z) hi
theorem Ll{K:PySem.W.Frag}{h:Heap}{mg:Str->Option Value}{fa f:Addr}{od an:Option Addr}{sl:Array (Option Value)}{oc kV doc pm cd ct:Value}(X:K.In h)(G:h.Ns mainGlobals mg)(Zv:mg "law"=some (.ref fa))(a:PySem.W.nsIn K mainGlobals "law"=some (some (.ref f)))(l:K.lookup f=some ⟨oc,od,.func (PySem.W.fnOf "law" "law" (fY m9) (e_ m9) (ar m9) .none kV doc pm an cd ct),sl⟩)(c:PySem.W.codeIn K cd "law"=true)(k:PySem.W.keepIn K (.ref f)=true):∃fd:FuncData,(∀(s:Shared)(v:Value),BindsTo s fd ⟨[v],[]⟩ [("_law_script",v)])/\Fs K "law" "law" m9 fa fd:=by
 have e:=Zv.symm.trans (PySem.W.mg_of X G a);cases e;exact⟨_,fun s v=>.of_eq rfl,Cr (st:=m9) l c k⟩
end dA
def PySem.W.Fast.tw9065229505007830099:Unit:=()
def PySem.W.Fast.tw11221889092208161220:Unit:=()
def PySem.W.Fast.tw553094143733849925:Unit:=()
def PySem.W.Fast.tw16095106969593833738:Unit:=()
def PySem.W.Fast.tw6804852003622148201:Unit:=()
def PySem.W.Fast.tw13403159331823776345:Unit:=()
def PySem.W.Fast.tw14563630266440502520:Unit:=()
def PySem.W.Fast.tw10141406865416957135:Unit:=()
def PySem.W.Fast.tw14614388467336500801:Unit:=()
def PySem.W.Fast.tw15310985042088952238:Unit:=()
def PySem.W.Fast.tw6704316848671999948:Unit:=()
def PySem.W.Fast.tw2480354985793702425:Unit:=()
def PySem.W.Fast.tw1765418479369375892:Unit:=()
def PySem.W.Fast.tw11354986219363181982:Unit:=()
def PySem.W.Fast.tw4763053737282716295:Unit:=()
def PySem.W.Fast.tw3444421484798617706:Unit:=()
def PySem.W.Fast.tw8365906686412987575:Unit:=()
def PySem.W.Fast.tw15621937499646067558:Unit:=()
def PySem.W.Fast.tw13169513324331677578:Unit:=()
def PySem.W.Fast.tw6495675532914866953:Unit:=()
def PySem.W.Fast.tw1823861163952973284:Unit:=()
def PySem.W.Fast.tw2316151546811631080:Unit:=()
def PySem.W.Fast.tw13193608025287052414:Unit:=()
def PySem.W.Fast.tw11244673832795398560:Unit:=()
def PySem.W.Fast.tw17128986101453116006:Unit:=()
def PySem.W.Fast.tw18321214054975339914:Unit:=()
def PySem.W.Fast.tw3177088969913820931:Unit:=()
def PySem.W.Fast.tw10644042853735633808:Unit:=()
def PySem.W.Fast.tw9536721175731126167:Unit:=()
def PySem.W.Fast.tw16247927058672587346:Unit:=()
def PySem.W.Fast.tw14372257017449296569:Unit:=()
def PySem.W.Fast.tw13535030441885299289:Unit:=()
def PySem.W.Fast.tw1122478045998805338:Unit:=()
def PySem.W.Fast.tw13373732850165360474:Unit:=()
def PySem.W.Fast.tw1737331313808806391:Unit:=()
def PySem.W.Fast.tw14684585681210436495:Unit:=()
def PySem.W.Fast.tw14205644380327726850:Unit:=()
def PySem.W.Fast.tw8964695706827940709:Unit:=()
def PySem.W.Fast.tw7991871516928736292:Unit:=()
def PySem.W.Fast.tw7264947578549517124:Unit:=()
def PySem.W.Fast.tw17172298639791998192:Unit:=()
def PySem.W.Fast.tw11943967851043860730:Unit:=()
def PySem.W.Fast.tw3907765085416517821:Unit:=()
def PySem.W.Fast.tw11984787171523106136:Unit:=()
def PySem.W.Fast.tw2214830633057537655:Unit:=()
def PySem.W.Fast.tw13825594034526188593:Unit:=()
def PySem.W.Fast.tw17077823108704838243:Unit:=()
def PySem.W.Fast.tw6248785459776027430:Unit:=()
def PySem.W.Fast.tw5390038205403906678:Unit:=()
def PySem.W.Fast.tw12082718193221543168:Unit:=()
def PySem.W.Fast.tw9670860735146097393:Unit:=()
def PySem.W.Fast.tw7033377877115672747:Unit:=()
def PySem.W.Fast.tw414881657000686263:Unit:=()
def PySem.W.Fast.tw2879909634228666031:Unit:=()
def PySem.W.Fast.tw14536138044640351373:Unit:=()
def PySem.W.Fast.tw1303037383705237384:Unit:=()
def PySem.W.Fast.tw18051603484943672863:Unit:=()
def PySem.W.Fast.tw5616239983135502362:Unit:=()
def PySem.W.Fast.tw14789993864047277866:Unit:=()
def PySem.W.Fast.tw14153803407417844933:Unit:=()
def PySem.W.Fast.tw6969463288672964547:Unit:=()
def PySem.W.Fast.tw13039287859421376457:Unit:=()
def PySem.W.Fast.tw15586822179352749337:Unit:=()
def PySem.W.Fast.tw9342950504369245284:Unit:=()
def PySem.W.Fast.tw7952996299194167880:Unit:=()
def PySem.W.Fast.tw5343541061830626238:Unit:=()
def PySem.W.Fast.tw6898573902755608874:Unit:=()
def PySem.W.Fast.tw4218928499286495301:Unit:=()
def PySem.W.Fast.tw4027213109866023351:Unit:=()
def PySem.W.Fast.tw8988184164485504058:Unit:=()
def PySem.W.Fast.tw15175842479946772761:Unit:=()
def PySem.W.Fast.tw9319044799013353231:Unit:=()
def PySem.W.Fast.tw7622726073592222393:Unit:=()
def PySem.W.Fast.tw7831646563652911604:Unit:=()
def PySem.W.Fast.tw9642209554031588475:Unit:=()
def PySem.W.Fast.tw8933032316815658539:Unit:=()
def PySem.W.Fast.tw12311357979064939904:Unit:=()
def PySem.W.Fast.tw10689686555157837161:Unit:=()
def PySem.W.Fast.tw1307903629300663220:Unit:=()
def PySem.W.Fast.tw18297328405769215450:Unit:=()
def PySem.W.Fast.tw605199035680069445:Unit:=()
def PySem.W.Fast.tw11103014230926426552:Unit:=()
def PySem.W.Fast.tw10650007345433227528:Unit:=()
def PySem.W.Fast.tw5680868985762027045:Unit:=()
def PySem.W.Fast.tw1081765213572676705:Unit:=()
def PySem.W.Fast.tw14016795664573081817:Unit:=()
def PySem.W.Fast.tw2037161750899895455:Unit:=()
def PySem.W.Fast.tw3698721012435071615:Unit:=()
def PySem.W.Fast.tw11013302188567414863:Unit:=()
def PySem.W.Fast.tw12148738913191897305:Unit:=()
def PySem.W.Fast.tw16545173951515936948:Unit:=()
def PySem.W.Fast.tw6473172057064201482:Unit:=()
def PySem.W.Fast.tw8675886176825938046:Unit:=()
def PySem.W.Fast.tw9620210579692368895:Unit:=()
def PySem.W.Fast.tw6808301486367665497:Unit:=()
def PySem.W.Fast.tw13973244155976332960:Unit:=()
def PySem.W.Fast.tw8664390191183305606:Unit:=()
def PySem.W.Fast.tw4087118592850469414:Unit:=()
def PySem.W.Fast.tw16824202093828832171:Unit:=()
def PySem.W.Fast.tw11580386554940115878:Unit:=()
def PySem.W.Fast.tw15751730263864446103:Unit:=()
def PySem.W.Fast.tw7145861639613740816:Unit:=()
def PySem.W.Fast.tw15148773778717956785:Unit:=()
def PySem.W.Fast.tw7461656879702811712:Unit:=()
def PySem.W.Fast.tw14037314206845745624:Unit:=()
def PySem.W.Fast.tw9272040720575009244:Unit:=()
def PySem.W.Fast.tw392480319270804225:Unit:=()
def PySem.W.Fast.tw17619810458365193141:Unit:=()
def PySem.W.Fast.tw2582269995659844467:Unit:=()
def PySem.W.Fast.tw13322997199492287010:Unit:=()
def PySem.W.Fast.tw7519181537562769287:Unit:=()
def PySem.W.Fast.tw15229145814364050537:Unit:=()
def PySem.W.Fast.tw11616070391871796406:Unit:=()
def PySem.W.Fast.tw10655503644248371162:Unit:=()
def PySem.W.Fast.tw7862082660830458929:Unit:=()
def PySem.W.Fast.tw16864810013873934390:Unit:=()
def PySem.W.Fast.tw4203661579793146380:Unit:=()
def PySem.W.Fast.tw1257833000444935385:Unit:=()
def PySem.W.Fast.tw560014061260936806:Unit:=()
def PySem.W.Fast.tw9014363545681548381:Unit:=()
def PySem.W.Fast.tw3271729098812691856:Unit:=()
def PySem.W.Fast.tw7555501557133498071:Unit:=()
def PySem.W.Fast.tw18352128010485595547:Unit:=()
def PySem.W.Fast.tw127951404858193531:Unit:=()
def PySem.W.Fast.tw8247990637974193106:Unit:=()
def PySem.W.Fast.tw6353164134390178614:Unit:=()
def PySem.W.Fast.tw3184546000087040353:Unit:=()
def PySem.W.Fast.tw12111553085659186265:Unit:=()
def PySem.W.Fast.tw17880240931708723219:Unit:=()
open PySem PySem.W PyProof.Rows
set_option maxRecDepth 100000 in
set_option maxHeartbeats 0 in
theorem PySem.Challenge.cw_surefoot_k18_whole_numbers_compared_holds : PySem.Challenge.rw_surefoot_k18_whole_numbers_compared.Holds := by
 w_on;o_law;k_head;(case hw=>w_witness2)
 k_fill
 refine dA.walk (l:=PySem.Challenge.rw_surefoot_k18_whole_numbers_compared) rfl rfl (fun w h Y=>PySem.W.kIn_of Y) ?F ?I
 case I=>decide +kernel
 case F=>
  intro w mg fa h KX G MB;have T:dA.Nm mg:=by
   refine'⟨PySem.W.mg_none_of KX G ?t1,PySem.W.mg_none_of KX G ?t2,PySem.W.mg_none_of KX G ?t3,PySem.W.mg_none_of KX G ?t4,PySem.W.mg_none_of KX G ?t5,PySem.W.mg_none_of KX G ?t6,PySem.W.mg_none_of KX G ?t7,PySem.W.mg_none_of KX G ?t8,PySem.W.mg_none_of KX G ?t9,PySem.W.mg_none_of KX G ?t10,PySem.W.mg_none_of KX G ?t11,PySem.W.mg_none_of KX G ?t12⟩
   all_goals k_is
  have L:=by
   refine' dA.Ll KX G MB ?a ?l ?c ?k
   (case a=>k_is);(case l=>k_is);(case c=>k_is);(case k=>k_is)
  obtain⟨fd,hb,F⟩:=L;have R:=by
   refine' dA.O_ KX G ?e ?o2 ?lk ?cd ?o1 ?o3 ?o4 ⟨?pg,?hd,?po,?sa⟩ ?n1 ?n2 ?n3
   (case e=>k_is);(case o2=>k_is);(case lk=>k_is);(case cd=>k_is)
   all_goals kernel_rfl
  obtain⟨fI,Wc,RC⟩:=R;refine⟨fd,hb,fun base _ _=>?_⟩;refine' dA.G5 T (by rfl) ⟨PySem.W.mg_of KX G ?g1,?h1⟩ RC F (L2.aT KX G ?a1 ?l1 ?c1 ?k1 ?b1) (L2.aT KX G ?a2 ?l2 ?c2 ?k2 ?b2) (L2.aT KX G ?a3 ?l3 ?c3 ?k3 ?b3) (L2.aT KX G ?a4 ?l4 ?c4 ?k4 ?b4) (L2.aT KX G ?a5 ?l5 ?c5 ?k5 ?b5) (L2.aT KX G ?a6 ?l6 ?c6 ?k6 ?b6) (L2.aT KX G ?a7 ?l7 ?c7 ?k7 ?b7) (L2.aT KX G ?a8 ?l8 ?c8 ?k8 ?b8) (L2.aT KX G ?a9 ?l9 ?c9 ?k9 ?b9) (L2.aT KX G ?a10 ?l10 ?c10 ?k10 ?b10) (L2.aT KX G ?a11 ?l11 ?c11 ?k11 ?b11) (L2.aT KX G ?a12 ?l12 ?c12 ?k12 ?b12) (L2.aT KX G ?a13 ?l13 ?c13 ?k13 ?b13) (L2.aT KX G ?a14 ?l14 ?c14 ?k14 ?b14) (L2.aT KX G ?a15 ?l15 ?c15 ?k15 ?b15) (L2.aT KX G ?a16 ?l16 ?c16 ?k16 ?b16) (L2.aT KX G ?a17 ?l17 ?c17 ?k17 ?b17) (L2.aT KX G ?a18 ?l18 ?c18 ?k18 ?b18) (L2.aT KX G ?a19 ?l19 ?c19 ?k19 ?b19) (L2.aT KX G ?a20 ?l20 ?c20 ?k20 ?b20) (L2.aT KX G ?a21 ?l21 ?c21 ?k21 ?b21) (L2.aT KX G ?a22 ?l22 ?c22 ?k22 ?b22) (L2.aT KX G ?a23 ?l23 ?c23 ?k23 ?b23) (L2.aT KX G ?a24 ?l24 ?c24 ?k24 ?b24) (L2.aT KX G ?a25 ?l25 ?c25 ?k25 ?b25) (L2.aT KX G ?a26 ?l26 ?c26 ?k26 ?b26) (L2.aT KX G ?a27 ?l27 ?c27 ?k27 ?b27) (L2.aT KX G ?a28 ?l28 ?c28 ?k28 ?b28) (L2.aT KX G ?a29 ?l29 ?c29 ?k29 ?b29) (L2.aT KX G ?a30 ?l30 ?c30 ?k30 ?b30) (L2.aT KX G ?a31 ?l31 ?c31 ?k31 ?b31) (L2.aT KX G ?a32 ?l32 ?c32 ?k32 ?b32) (L2.aT KX G ?a33 ?l33 ?c33 ?k33 ?b33) (L2.aT KX G ?a34 ?l34 ?c34 ?k34 ?b34) (L2.aT KX G ?a35 ?l35 ?c35 ?k35 ?b35) (L2.aT KX G ?a36 ?l36 ?c36 ?k36 ?b36) (L2.aT KX G ?a37 ?l37 ?c37 ?k37 ?b37) (L2.aT KX G ?a38 ?l38 ?c38 ?k38 ?b38) (L2.aT KX G ?a39 ?l39 ?c39 ?k39 ?b39) (L2.aT KX G ?a40 ?l40 ?c40 ?k40 ?b40) (L2.aT KX G ?a41 ?l41 ?c41 ?k41 ?b41) (L2.aT KX G ?a42 ?l42 ?c42 ?k42 ?b42) (L2.aT KX G ?a43 ?l43 ?c43 ?k43 ?b43) (L2.aT KX G ?a44 ?l44 ?c44 ?k44 ?b44) (L2.aT KX G ?a45 ?l45 ?c45 ?k45 ?b45) (L2.aT KX G ?a46 ?l46 ?c46 ?k46 ?b46) (L2.aT KX G ?a47 ?l47 ?c47 ?k47 ?b47) (L2.aT KX G ?a48 ?l48 ?c48 ?k48 ?b48) (L2.aT KX G ?a49 ?l49 ?c49 ?k49 ?b49) (L2.aT KX G ?a50 ?l50 ?c50 ?k50 ?b50) (L2.aT KX G ?a51 ?l51 ?c51 ?k51 ?b51) (L2.aT KX G ?a52 ?l52 ?c52 ?k52 ?b52) (L2.aT KX G ?a53 ?l53 ?c53 ?k53 ?b53) (L2.aT KX G ?a54 ?l54 ?c54 ?k54 ?b54)
  (case a1=>k_is);(case l1=>k_is);(case c1=>k_is);(case k1=>k_is);(case b1=>exact fun _ _ _ _ _ _ us hl=>match us,hl with|[_,_],_=>rfl)
  (case a2=>k_is);(case l2=>k_is);(case c2=>k_is);(case k2=>k_is);(case b2=>exact fun _ _ _ _ _ _ us hl=>match us,hl with|[_],_=>rfl)
  (case a3=>k_is);(case l3=>k_is);(case c3=>k_is);(case k3=>k_is);(case b3=>exact fun _ _ _ _ _ _ us hl=>match us,hl with|[_,_],_=>rfl)
  (case a4=>k_is);(case l4=>k_is);(case c4=>k_is);(case k4=>k_is);(case b4=>exact fun _ _ _ _ _ _ us hl=>match us,hl with|[_,_],_=>rfl)
  (case a5=>k_is);(case l5=>k_is);(case c5=>k_is);(case k5=>k_is);(case b5=>exact fun _ _ _ _ _ _ us hl=>match us,hl with|[_,_],_=>rfl)
  (case a6=>k_is);(case l6=>k_is);(case c6=>k_is);(case k6=>k_is);(case b6=>exact fun _ _ _ _ _ _ us hl=>match us,hl with|[_,_],_=>rfl)
  (case a7=>k_is);(case l7=>k_is);(case c7=>k_is);(case k7=>k_is);(case b7=>exact fun _ _ _ _ _ _ us hl=>match us,hl with|[_,_],_=>rfl)
  (case a8=>k_is);(case l8=>k_is);(case c8=>k_is);(case k8=>k_is);(case b8=>exact fun _ _ _ _ _ _ us hl=>match us,hl with|[_],_=>rfl)
  (case a9=>k_is);(case l9=>k_is);(case c9=>k_is);(case k9=>k_is);(case b9=>exact fun _ _ _ _ _ _ us hl=>match us,hl with|[_],_=>rfl)
  (case a10=>k_is);(case l10=>k_is);(case c10=>k_is);(case k10=>k_is);(case b10=>exact fun _ _ _ _ _ _ us hl=>match us,hl with|[_],_=>rfl)
  (case a11=>k_is);(case l11=>k_is);(case c11=>k_is);(case k11=>k_is);(case b11=>exact fun _ _ _ _ _ _ us hl=>match us,hl with|[_],_=>rfl)
  (case a12=>k_is);(case l12=>k_is);(case c12=>k_is);(case k12=>k_is);(case b12=>exact fun _ _ _ _ _ _ us hl=>match us,hl with|[_],_=>rfl)
  (case a13=>k_is);(case l13=>k_is);(case c13=>k_is);(case k13=>k_is);(case b13=>exact fun _ _ _ _ _ _ us hl=>match us,hl with|[_,_],_=>rfl)
  (case a14=>k_is);(case l14=>k_is);(case c14=>k_is);(case k14=>k_is);(case b14=>exact fun _ _ _ _ _ _ us hl=>match us,hl with|[_,_],_=>rfl)
  (case a15=>k_is);(case l15=>k_is);(case c15=>k_is);(case k15=>k_is);(case b15=>exact fun _ _ _ _ _ _ us hl=>match us,hl with|[_,_],_=>rfl)
  (case a16=>k_is);(case l16=>k_is);(case c16=>k_is);(case k16=>k_is);(case b16=>exact fun _ _ _ _ _ _ us hl=>match us,hl with|[_],_=>rfl)
  (case a17=>k_is);(case l17=>k_is);(case c17=>k_is);(case k17=>k_is);(case b17=>exact fun _ _ _ _ _ _ us hl=>match us,hl with|[_,_],_=>rfl)
  (case a18=>k_is);(case l18=>k_is);(case c18=>k_is);(case k18=>k_is);(case b18=>exact fun _ _ _ _ _ _ us hl=>match us,hl with|[_,_],_=>rfl)
  (case a19=>k_is);(case l19=>k_is);(case c19=>k_is);(case k19=>k_is);(case b19=>exact fun _ _ _ _ _ _ us hl=>match us,hl with|[_],_=>rfl)
  (case a20=>k_is);(case l20=>k_is);(case c20=>k_is);(case k20=>k_is);(case b20=>exact fun _ _ _ _ _ _ us hl=>match us,hl with|[_,_,_],_=>rfl)
  (case a21=>k_is);(case l21=>k_is);(case c21=>k_is);(case k21=>k_is);(case b21=>exact fun _ _ _ _ _ _ us hl=>match us,hl with|[_,_],_=>rfl)
  (case a22=>k_is);(case l22=>k_is);(case c22=>k_is);(case k22=>k_is);(case b22=>exact fun _ _ _ _ _ _ us hl=>match us,hl with|[_],_=>rfl)
  (case a23=>k_is);(case l23=>k_is);(case c23=>k_is);(case k23=>k_is);(case b23=>exact fun _ _ _ _ _ _ us hl=>match us,hl with|[_,_],_=>rfl)
  (case a24=>k_is);(case l24=>k_is);(case c24=>k_is);(case k24=>k_is);(case b24=>exact fun _ _ _ _ _ _ us hl=>match us,hl with|[_],_=>rfl)
  (case a25=>k_is);(case l25=>k_is);(case c25=>k_is);(case k25=>k_is);(case b25=>exact fun _ _ _ _ _ _ us hl=>match us,hl with|[_,_],_=>rfl)
  (case a26=>k_is);(case l26=>k_is);(case c26=>k_is);(case k26=>k_is);(case b26=>exact fun _ _ _ _ _ _ us hl=>match us,hl with|[_,_],_=>rfl)
  (case a27=>k_is);(case l27=>k_is);(case c27=>k_is);(case k27=>k_is);(case b27=>exact fun _ _ _ _ _ _ us hl=>match us,hl with|[_],_=>rfl)
  (case a28=>k_is);(case l28=>k_is);(case c28=>k_is);(case k28=>k_is);(case b28=>exact fun _ _ _ _ _ _ us hl=>match us,hl with|[_],_=>rfl)
  (case a29=>k_is);(case l29=>k_is);(case c29=>k_is);(case k29=>k_is);(case b29=>exact fun _ _ _ _ _ _ us hl=>match us,hl with|[_,_],_=>rfl)
  (case a30=>k_is);(case l30=>k_is);(case c30=>k_is);(case k30=>k_is);(case b30=>exact fun _ _ _ _ _ _ us hl=>match us,hl with|[_],_=>rfl)
  (case a31=>k_is);(case l31=>k_is);(case c31=>k_is);(case k31=>k_is);(case b31=>exact fun _ _ _ _ _ _ us hl=>match us,hl with|[_],_=>rfl)
  (case a32=>k_is);(case l32=>k_is);(case c32=>k_is);(case k32=>k_is);(case b32=>exact fun _ _ _ _ _ _ us hl=>match us,hl with|[_,_],_=>rfl)
  (case a33=>k_is);(case l33=>k_is);(case c33=>k_is);(case k33=>k_is);(case b33=>exact fun _ _ _ _ _ _ us hl=>match us,hl with|[_,_,_,_,_],_=>rfl)
  (case a34=>k_is);(case l34=>k_is);(case c34=>k_is);(case k34=>k_is);(case b34=>exact fun _ _ _ _ _ _ us hl=>match us,hl with|[_,_,_],_=>rfl)
  (case a35=>k_is);(case l35=>k_is);(case c35=>k_is);(case k35=>k_is);(case b35=>exact fun _ _ _ _ _ _ us hl=>match us,hl with|[_,_],_=>rfl)
  (case a36=>k_is);(case l36=>k_is);(case c36=>k_is);(case k36=>k_is);(case b36=>exact fun _ _ _ _ _ _ us hl=>match us,hl with|[_,_,_],_=>rfl)
  (case a37=>k_is);(case l37=>k_is);(case c37=>k_is);(case k37=>k_is);(case b37=>exact fun _ _ _ _ _ _ us hl=>match us,hl with|[_],_=>rfl)
  (case a38=>k_is);(case l38=>k_is);(case c38=>k_is);(case k38=>k_is);(case b38=>exact fun _ _ _ _ _ _ us hl=>match us,hl with|[_,_,_],_=>rfl)
  (case a39=>k_is);(case l39=>k_is);(case c39=>k_is);(case k39=>k_is);(case b39=>exact fun _ _ _ _ _ _ us hl=>match us,hl with|[_],_=>rfl)
  (case a40=>k_is);(case l40=>k_is);(case c40=>k_is);(case k40=>k_is);(case b40=>exact fun _ _ _ _ _ _ us hl=>match us,hl with|[_],_=>rfl)
  (case a41=>k_is);(case l41=>k_is);(case c41=>k_is);(case k41=>k_is);(case b41=>exact fun _ _ _ _ _ _ us hl=>match us,hl with|[_,_],_=>rfl)
  (case a42=>k_is);(case l42=>k_is);(case c42=>k_is);(case k42=>k_is);(case b42=>exact fun _ _ _ _ _ _ us hl=>match us,hl with|[_,_],_=>rfl)
  (case a43=>k_is);(case l43=>k_is);(case c43=>k_is);(case k43=>k_is);(case b43=>exact fun _ _ _ _ _ _ us hl=>match us,hl with|[_,_],_=>rfl)
  (case a44=>k_is);(case l44=>k_is);(case c44=>k_is);(case k44=>k_is);(case b44=>exact fun _ _ _ _ _ _ us hl=>match us,hl with|[_,_],_=>rfl)
  (case a45=>k_is);(case l45=>k_is);(case c45=>k_is);(case k45=>k_is);(case b45=>exact fun _ _ _ _ _ _ us hl=>match us,hl with|[_,_],_=>rfl)
  (case a46=>k_is);(case l46=>k_is);(case c46=>k_is);(case k46=>k_is);(case b46=>exact fun _ _ _ _ _ _ us hl=>match us,hl with|[_,_],_=>rfl)
  (case a47=>k_is);(case l47=>k_is);(case c47=>k_is);(case k47=>k_is);(case b47=>exact fun _ _ _ _ _ _ us hl=>match us,hl with|[_,_],_=>rfl)
  (case a48=>k_is);(case l48=>k_is);(case c48=>k_is);(case k48=>k_is);(case b48=>exact fun _ _ _ _ _ _ us hl=>match us,hl with|[_,_],_=>rfl)
  (case a49=>k_is);(case l49=>k_is);(case c49=>k_is);(case k49=>k_is);(case b49=>exact fun _ _ _ _ _ _ us hl=>match us,hl with|[_,_],_=>rfl)
  (case a50=>k_is);(case l50=>k_is);(case c50=>k_is);(case k50=>k_is);(case b50=>exact fun _ _ _ _ _ _ us hl=>match us,hl with|[_,_],_=>rfl)
  (case a51=>k_is);(case l51=>k_is);(case c51=>k_is);(case k51=>k_is);(case b51=>exact fun _ _ _ _ _ _ us hl=>match us,hl with|[_],_=>rfl)
  (case a52=>k_is);(case l52=>k_is);(case c52=>k_is);(case k52=>k_is);(case b52=>exact fun _ _ _ _ _ _ us hl=>match us,hl with|[_,_,_],_=>rfl)
  (case a53=>k_is);(case l53=>k_is);(case c53=>k_is);(case k53=>k_is);(case b53=>exact fun _ _ _ _ _ _ us hl=>match us,hl with|[_,_,_,_,_],_=>rfl)
  (case a54=>k_is);(case l54=>k_is);(case c54=>k_is);(case k54=>k_is);(case b54=>exact fun _ _ _ _ _ _ us hl=>match us,hl with|[_,_],_=>rfl)
  (case g1=>k_is)
  (case h1=>exact⟨_,rfl⟩)
#print axioms PySem.Challenge.cw_surefoot_k18_whole_numbers_compared_holds
