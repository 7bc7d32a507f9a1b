import PyProof.Rows.All
import Wide.All
import OpenK.AllK
import Wide.FinOn
import Lean
import PyProof.EqAt
import PyProof.EqKinds
import PyProof.TupleCall
import KE.KIntText
import KE.KTryMore
import KE.KLam
import PyProof.StrLawsTight
import PyProof.StrLawsChain
import PyProof.Rows.StrItems
import PyProof.Rows.StrClose
import PySem.Challenge.RW_surefoot_k27_desk_refusals
set_option Elab.async false
set_option linter.all false
set_option maxRecDepth 100000
noncomputable section
namespace L2
open PySem PySem.Spec PyProof.Rows
abbrev Key:=Sum Int Str
def zx:Key->Value->Bool
 |.inl k,v=>Value.isInt k v
 |.inr x,v=>Value.isStrOf x v
def Yo(w:World):Key->Int
 |.inl k=>hashInt k
 |.inr x=>hashStr w x
theorem eI:∀{k:Key}{v:Value},zx k v=true->(∃i t,k=Sum.inl i/\v=Value.int i t)\/(∃x t,k=Sum.inr x/\v=Value.str x t)
 |.inl i,v,h=>by
  obtain⟨t,e⟩:=Value.isInt_shape (k:=i) (v:=v) h;exact .inl ⟨i,t,rfl,e⟩
 |.inr x,v,h=>by
  obtain⟨t,e⟩:=Value.isStrOf_shape (x:=x) (v:=v) h;exact .inr ⟨x,t,rfl,e⟩
theorem Ig(i:Int)(t:Tok):zx (.inl i) (.int i t)=true:=by simp[zx,Value.isInt]
theorem Ih(x:Str)(t:Tok):zx (.inr x) (.str x t)=true:=by simp[zx,Value.isStrOf]
theorem RB(a b:Int):decide ((Sum.inl a:Key)=Sum.inl b)=(a==b):=by
 by_cases e:a=b
 ·subst e;simp
 ·have h:¬(Sum.inl a:Key)=Sum.inl b:=λq=>e (Sum.inl.inj q);rw[decide_eq_false h];exact(beq_eq_false_iff_ne.mpr e).symm
theorem RD(a b:Str):decide ((Sum.inr a:Key)=Sum.inr b)=decide (a=b):=by
 by_cases e:a=b
 ·subst e;simp
 ·have h:¬(Sum.inr a:Key)=Sum.inr b:=λq=>e (Sum.inr.inj q);rw[decide_eq_false h,decide_eq_false e]
theorem RE(a:Int)(b:Str):decide ((Sum.inl a:Key)=Sum.inr b)=false:=decide_eq_false (λq=>nomatch q)
theorem RF(a:Str)(b:Int):decide ((Sum.inr a:Key)=Sum.inl b)=false:=decide_eq_false (λq=>nomatch q)
def gB(prog:Program)(w:World):PySem.KeyKind prog w Key where
 is:=zx
 hash:=Yo w
 inj:=λv a b ha hb=>by
  rcases eI ha with⟨i,t,rfl,rfl⟩|⟨x,t,rfl,rfl⟩
  ·rcases eI hb with⟨j,u,rfl,e⟩|⟨y,u,rfl,e⟩
   ·injection e with e1 _;rw[e1]
   ·exact nomatch e
  ·rcases eI hb with⟨j,u,rfl,e⟩|⟨y,u,rfl,e⟩
   ·exact nomatch e
   ·injection e with e1 _;rw[e1]
 byValue:=λk v h=>by
  rcases eI h with⟨i,t,rfl,rfl⟩|⟨x,t,rfl,rfl⟩<;>rfl
 pyHash:=λhv h=>by
  rcases eI hv with⟨i,t,rfl,rfl⟩|⟨x,t,rfl,rfl⟩
  ·exact wpAny_pyHash_int h
  ·exact wpAny_pyHash_str h
 eqBool:=λhu hv h=>by
  rcases eI hu with⟨i,t,rfl,rfl⟩|⟨x,t,rfl,rfl⟩
  ·rcases eI hv with⟨j,u,rfl,rfl⟩|⟨y,u,rfl,rfl⟩
   ·rw[RB] at h;exact wpAny_eqBool_int h
   ·rw[RE] at h;exact SeqAt.EqAt.int_str i t y u _ _ _ _ h
  ·rcases eI hv with⟨j,u,rfl,rfl⟩|⟨y,u,rfl,rfl⟩
   ·rw[RF] at h;exact SeqAt.EqAt.str_int x t j u _ _ _ _ h
   ·rw[RD] at h;exact wpAny_eqBool_str h
 «strs»:=λk x t v h=>by
  rcases eI h with⟨i,u,rfl,e⟩|⟨y,u,rfl,e⟩
  ·exact nomatch e
  ·injection e with e1 _;subst e1;cases v<;>rfl
theorem BY(prog:Program)(w:World)(i:Int)(t:Tok):(gB prog w).is (.inl i) (.int i t)=true:=Ig i t
theorem BZ(prog:Program)(w:World)(x:Str)(t:Tok):(gB prog w).is (.inr x) (.str x t)=true:=Ih x t
inductive V where
 |dH|bl (b:Bool)|int (i:Int)|str (x:Str)|GC (b:Array UInt8)|UH (b:UInt64)|ref (a:Addr)|ty (n:String)
 deriving DecidableEq
def RelV:V->Value->Prop
 |.dH,u=>u=Value.none
 |.bl b,u=>u=Value.bool b
 |.int i,u=>∃t,u=Value.int i t
 |.str x,u=>∃t,u=Value.str x t
 |.GC b,u=>∃t,u=Value.bytes b t
 |.UH b,u=>∃t,u=Value.float b t
 |.ref a,u=>u=Value.ref a
 |.ty n,u=>u=Value.type n
abbrev Vals:List V->List Value->Prop:=Paired RelV
theorem Vals.length{xs:List V}{us:List Value}(r:Vals xs us):xs.length=us.length:=Paired.length r
theorem Vals.get:∀{xs:List V}{us:List Value}{i:Nat}{x:V},Vals xs us->xs[i]?=some x->∃u,us[i]?=some u/\RelV x u
 |_,_,_,_,.nil,e=>by simp at e
 |_,_,0,_,.cons r _,e=>by simp at e;subst e;exact⟨_,rfl,r⟩
 |_,_,i+1,x,.cons _ t,e=>by
  obtain⟨u,h1,h2⟩:=Vals.get (i:=i) (x:=x) t (by simpa using e);exact⟨u,by simpa using h1,h2⟩
theorem Vals.set{x:V}{u:Value}(r:RelV x u):∀{xs:List V}{us:List Value}(i:Nat),Vals xs us->Vals (xs.set i x) (us.set i u)
 |_,_,_,.nil=>.nil
 |_,_,0,.cons _ t=>.cons r t
 |_,_,i+1,.cons q t=>.cons q (Vals.set r i t)
theorem Vals.append:∀{xs ys:List V}{us ws:List Value},Vals xs us->Vals ys ws->Vals (xs++ys) (us++ws)
 |_,_,_,_,.nil,s=>s
 |_,_,_,_,.cons r t,s=>.cons r (Vals.append t s)
theorem Vals.take:∀{xs:List V}{us:List Value}(n:Nat),Vals xs us->Vals (xs.take n) (us.take n)
 |_,_,0,_=>.nil
 |_,_,_+1,.nil=>.nil
 |_,_,n+1,.cons r t=>.cons r (Vals.take n t)
theorem Vals.drop:∀{xs:List V}{us:List Value}(n:Nat),Vals xs us->Vals (xs.drop n) (us.drop n)
 |_,_,0,r=>r
 |_,_,_+1,.nil=>.nil
 |_,_,n+1,.cons _ t=>Vals.drop n t
def oY:Option V->Option Value->Prop
 |some v,some u=>RelV v u
 |none,none=>True
 |_,_=>False
def KV{κ:Type}:List (κ×V)->List (κ×Value)->Prop:=Paired λ(p:κ×V)(q:κ×Value)=>p.1=q.1/\RelV p.2 q.2
def kV:Key->V
 |.inl i=>.int i
 |.inr x=>.str x
inductive HO where
 |lst (xs:List V)
 |tup (xs:List V)
 |dK (bw:List (Key×V))|dT (bw:List (List Key×V))
 |set (S:Int->Bool) (n:Nat)
 |ins (C dx:Addr) (fs:List (Str×V))
 |own (x:Addr)
 |xd (fs:List (Str×V))
 |met (f x:Addr)
 |XE (lo hi:Int)
 |vY (o:Obj) (u:HO)
 |vZ (ps:Array Value)
 |ext (φ:Heap->Prop)
abbrev Hp:=Addr->Option HO
def upd(H:Hp)(a:Addr)(o:HO):Hp:=λb=>if b=a then some o else H b
theorem aE{H:Hp}{a:Addr}{o:HO}:upd H a o a=some o:=by unfold upd;rw[if_pos rfl]
theorem ay{H:Hp}{a b:Addr}{o:HO}(h:b≠a):upd H a o b=H b:=by unfold upd;rw[if_neg h]
theorem Aa{H:Hp}{a:Addr}{o u:HO}:upd (upd H a o) a u=upd H a u:=by
 funext b;unfold upd;split<;>rfl
theorem U6{H:Hp}{a b:Addr}{o u:HO}(h:H a=some o)(h':H b=some u)(d:o≠u):a≠b:=by
 intro e;subst e;rw[h] at h';exact d (Option.some.inj h')
theorem aW{H:Hp}{a b:Addr}{o:HO}(h:H a=some o)(h':H b=none):a≠b:=by
 intro e;subst e;rw[h] at h';cases h'
section
variable (P:Program) (w:World)
def dX(H:Hp)(h:Heap)(a:Addr):HO->Prop
 |.lst xs=>xs.length<=sizeLine/\∃(bB:List Value)(n:Nat),Vals xs bB/\h.get? a=some {cls:=.type "list",data:=.seq bB.toArray n}
 |.tup xs=>xs.length<=sizeLine/\∃bB:List Value,Vals xs bB/\IsTup h a bB.toArray
 |.dK bw=>bw.length<=sizeLine/\(a==sysModules)=false/\∃vs,KV bw vs/\h.DictOf (gB P w) a vs
 |.dT bw=>bw.length<=sizeLine/\(a==sysModules)=false/\∃xs:List (List Key×Addr×Value),
  Paired (λ(p:List Key×V)(q:List Key×Addr×Value)=>p.1=q.1/\H q.2.1=some (.tup (p.1.map kV))/\RelV p.2 q.2.2) bw xs/\
  ∃o es ep,h.get? a=some o/\o.ExactDict/\o.data=.dict es ep/\es.toList=xs.map (entryOfKey (tupleKind (gB P w)))/\(xs.map (·.1)).Nodup
 |.set S n=>h.SetOf (intKind P w) a S n
 |.ins C dx fs=>H dx=some (.own a)/\fs.length<=1000/\dx≠a/\h.get? a=some (PySem.W.instObj C dx)/\
  ∃mA,h.Ns1 dx mA/\(∀f,oY (fs.lookup f) (mA f))/\PySem.Within mA (fs.map (·.1))
 |.own _=>∃o,h.get? a=some o
 |.xd fs=>∃mA,h.Ns1 a mA/\∀f,oY (fs.lookup f) (mA f)
 |.XE lo hi=>∃t u v,h.get? a=some {cls:=.type "range",data:=.fields #[.int lo t,.int hi u,.int 1 v]}
 |.vY o u=>h.get? a=some o/\dX H h a u
 |.vZ ps=>h.get? a=some {cls:=.none,data:=.fields ps}
 |.met f x=>h.get? a=some (PySem.W.methodObj (.ref f) (.ref x))
 |.ext φ=>φ h/\(∃o,h.get? a=some o)/\∀h1 h2:Heap,φ h1->(∀o,h1.get? a=some o->h2.get? a=some o)->φ h2
def lW(H:Hp)(h:Heap):Prop:=∀a o,H a=some o->dX P w H h a o
end
section
variable {P:Program} {w:World} {H H':Hp} {h h':Heap} {a:Addr} {o:HO}
theorem dX.lt(x:dX P w H h a o):a<h.objs.size:=by
 cases o with
 |lst xs=>obtain⟨_,_,_,_,e⟩:=x;exact Heap.lt_size e
 |tup xs=>obtain⟨_,_,_,p⟩:=x;exact p.lt
 |dK bw=>obtain⟨_,_,_,_,o,_,_,e,_⟩:=x;exact Heap.lt_size e
 |dT bw=>obtain⟨_,_,_,_,o,_,_,e,_⟩:=x;exact Heap.lt_size e
 |set S n=>obtain⟨o,_,_,_,e,_⟩:=x;exact Heap.lt_size e
 |ins C dx fs=>obtain⟨_,_,_,e,_⟩:=x;exact Heap.lt_size e
 |own y=>obtain⟨_,e⟩:=x;exact Heap.lt_size e
 |xd fs=>obtain⟨_,⟨_,_,_,e,_⟩,_⟩:=x;exact Heap.lt_size e
 |XE lo hi=>obtain⟨_,_,_,e⟩:=x;exact Heap.lt_size e
 |vY ob u=>obtain⟨e,_⟩:=x;exact Heap.lt_size e
 |vZ ps=>exact Heap.lt_size (show h.get? a=some _ from x)
 |met f y=>exact Heap.lt_size (show h.get? a=some _ from x)
 |ext φ=>obtain⟨_,⟨_,e⟩,_⟩:=x;exact Heap.lt_size e
theorem Paired.RG{α β:Type}{F G:α->β->Prop}:∀{U7:List α}{U8:List β},Paired F U7 U8->(∀a b,F a b->G a b)->Paired G U7 U8
 |_,_,.nil,_=>.nil
 |_,_,.cons r t,f=>.cons (f _ _ r) (Paired.RG t f)
theorem dX.nv(x:dX P w H h a o)(k:∀b u,(b=a\/H b=some (.own a))->h.get? b=some u->h'.get? b=some u)(ho:∀b,H b=some (.own a)->H' b=some (.own a))(ht:∀b xs,H b=some (.tup xs)->H' b=some (.tup xs)):dX P w H' h' a o:=by
 induction o with
 |lst xs=>obtain⟨z,bB,n,r,e⟩:=x;exact⟨z,bB,n,r,k _ _ (.inl rfl) e⟩
 |tup xs=>obtain⟨z,bB,r,ob,e,c⟩:=x;exact⟨z,bB,r,ob,k _ _ (.inl rfl) e,c⟩
 |dK bw=>obtain⟨z,y,vs,r,ob,es,ep,e,c⟩:=x;exact⟨z,y,vs,r,ob,es,ep,k _ _ (.inl rfl) e,c⟩
 |dT bw=>
  obtain⟨z,y,xs,r,ob,es,ep,e,c⟩:=x;exact⟨z,y,xs,Paired.RG r λp q z=>⟨z.1,ht _ _ z.2.1,z.2.2⟩,ob,es,ep,k _ _ (.inl rfl) e,c⟩
 |set S n=>obtain⟨ob,es,ep,t,e,c⟩:=x;exact⟨ob,es,ep,t,k _ _ (.inl rfl) e,c⟩
 |ins C dx fs=>
  obtain⟨d,z,ne,e,mA,⟨od,es,ep,e2,c⟩,r⟩:=x;exact⟨ho _ d,z,ne,k _ _ (.inl rfl) e,mA,⟨od,es,ep,k _ _ (.inr d) e2,c⟩,r⟩
 |own y=>obtain⟨ob,e⟩:=x;exact⟨ob,k _ _ (.inl rfl) e⟩
 |xd fs=>obtain⟨mA,⟨od,es,ep,e,c⟩,r⟩:=x;exact⟨mA,⟨od,es,ep,k _ _ (.inl rfl) e,c⟩,r⟩
 |XE lo hi=>obtain⟨t,u,v,e⟩:=x;exact⟨t,u,v,k _ _ (.inl rfl) e⟩
 |vY ob u ih=>obtain⟨e,q⟩:=x;exact⟨k _ _ (.inl rfl) e,ih q⟩
 |vZ ps=>
  have e:h.get? a=some {cls:=.none,data:=.fields ps}:=x;show h'.get? a=some {cls:=.none,data:=.fields ps};exact k a _ (.inl rfl) e
 |met f y=>
  have e:h.get? a=some (PySem.W.methodObj (.ref f) (.ref y)):=x;show h'.get? a=some (PySem.W.methodObj (.ref f) (.ref y));exact k a _ (.inl rfl) e
 |ext φ=>obtain⟨p,⟨o,e⟩,st⟩:=x;exact⟨st _ _ p λo q=>k _ _ (.inl rfl) q,⟨o,k _ _ (.inl rfl) e⟩,st⟩
theorem lW.lt(x:lW P w H h)(e:H a=some o):a<h.objs.size:=(x a o e).lt
theorem lW.fresh(x:lW P w H h)(e:h.objs.size<=a):H a=none:=by
 cases q:H a with
 |none=>rfl
 |some u=>exact absurd (Nat.lt_of_lt_of_le (x.lt q) e) (Nat.lt_irrefl _)
theorem lW.kept(x:lW P w H h)(k:∀b u,h.get? b=some u->h'.get? b=some u):lW P w H h':=λa o e=>
 (x a o e).nv (λb u _ q=>k b u q) (λ_ q=>q) λ_ _ q=>q
theorem lW.laid(x:lW P w H h)(k:∀b u,h.get? b=some u->h'.get? b=some u)(hp:h.objs.size<=a)(new:dX P w (upd H a o) h' a o):lW P w (upd H a o) h':=λb u e=>by
 have hn:=x.fresh hp;by_cases hb:b=a
 ·subst hb;rw[aE] at e;cases e;exact new
 ·rw[ay hb] at e;exact(x b u e).nv (λc v _ q=>k c v q) (λc q=>by rw[ay (aW q hn)];exact q) λc xs q=>by rw[ay (aW q hn)];exact q
end
def Rd(H:Hp)(a:Addr)(u:HO):Prop:=H a=some u\/∃o,H a=some (.vY o u)
theorem Rd.ok{P:Program}{w:World}{H:Hp}{h:Heap}{a:Addr}{u:HO}(r:Rd H a u)(x:lW P w H h):dX P w H h a u:=by
 rcases r with r|⟨o,r⟩
 ·exact x a u r
 ·obtain⟨_,q⟩:=x a _ r;exact q
def NL:Option HO->Prop
 |some (.lst _)=>True
 |some (.dK _)=>True
 |some (.dT _)=>True
 |some (.set _ _)=>True
 |some (.ins _ _ _)=>True
 |some (.ext _)=>True
 |_=>False
section
variable {P:Program} {w:World} {H:Hp} {h h':Heap} {x e:Addr} {o':HO}
theorem lW.write(ok:lW P w H h)(mu:NL (H x))(he:e=x\/H e=some (.own x))(k:∀b u,b≠e->h.get? b=some u->h'.get? b=some u)(UI:∃u,h'.get? e=some u)(new:dX P w (upd H x o') h' x o'):lW P w (upd H x o') h':=λb u q=>by
 have U9:∀c y,H c=some (.own y)->c≠x:=λc y r z=>by subst z;rw[r] at mu;exact mu
 have Yp:∀c xs,H c=some (.tup xs)->c≠x:=λc xs r z=>by subst z;rw[r] at mu;exact mu
 by_cases hb:b=x
 ·subst hb;rw[aE] at q;cases q;exact new
 ·rw[ay hb] at q;by_cases B0:b=e
  ·have q':H b=some (.own x):=by
    rcases he with z|z
    ·exact absurd (B0.trans z) hb
    ·rw[B0];exact z
   rw[q] at q';cases q';obtain⟨v,hv⟩:=UI;exact⟨v,by rw[B0];exact hv⟩
  ·refine(ok b u q).nv (λc v hc r=>k c v ?_ r) (λc r=>by rw[ay (U9 c b r)];exact r) λc xs r=>by rw[ay (Yp c xs r)];exact r
   rcases hc with rfl|hc
   ·exact B0
   ·rintro rfl;rcases he with z|z
    ·exact U9 c b hc z
    ·rw[hc] at z;cases z;exact hb rfl
end
structure Un(fs ex:List Addr)(H H':Hp)(h h':Heap):Prop where
 keep:∀b o,h.get? b=some o->H b=none->b∉fs->b∉ex->h'.get? b=some o
 slot:∀b o,h.get? b=some o->H b=none->b∈fs->b∉ex->∃sl,h'.get? b=some {o with slots:=sl}
 free:∀b o,h.get? b=some o->H b=none->b∉ex->H' b=none
 there:∀b o,h.get? b=some o->b∉ex->∃o',h'.get? b=some o'
 yT:∀b xs,H b=some (.tup xs)->H' b=some (.tup xs)
 wZ:∀b o u,H b=some (.vY o u)->H' b=some (.vY o u)
 w4:∀b ps,H b=some (.vZ ps)->∃more,H' b=some (.vZ (ps++more))
section
variable {fs fs' ex ex':List Addr} {H H1 H2:Hp} {h h1 h2 h':Heap} {a x e:Addr} {o:HO}
theorem Un.any(u:Un fs ex H H1 h h1){b:Addr}{ob:Obj}(q:h.get? b=some ob)(n:H b=none)(hx:b∉ex):∃sl,h1.get? b=some {ob with slots:=sl}:=by
 by_cases hb:b∈fs
 ·exact u.slot b ob q n hb hx
 ·exact⟨ob.slots,u.keep b ob q n hb hx⟩
theorem Un.kept(k:∀b u,h.get? b=some u->h'.get? b=some u):Un fs ex H H h h':=
 ⟨λb ob q _ _ _=>k b ob q,λb ob q _ _ _=>⟨ob.slots,k b ob q⟩,λ_ _ _ n _=>n,λb ob q _=>⟨ob,k b ob q⟩,λ_ _ q=>q,λ_ _ _ q=>q,λ_ ps q=>⟨#[],by rw[q];simp⟩⟩
theorem Un.refl:Un fs ex H H h h:=Un.kept λ_ _ q=>q
theorem Un.laid(k:∀b u,h.get? b=some u->h'.get? b=some u)(hp:h.objs.size<=a)(hn:H a=none):Un fs ex H (upd H a o) h h' where
 keep:=λb u q _ _ _=>k b u q
 slot:=λb u q _ _ _=>⟨u.slots,k b u q⟩
 free:=λb u q n _=>by rw[ay (Nat.ne_of_lt (Nat.lt_of_lt_of_le (Heap.lt_size q) hp))];exact n
 there:=λb u q _=>⟨u,k b u q⟩
 yT:=λb xs q=>by rw[ay (aW q hn)];exact q
 wZ:=λb u xs q=>by rw[ay (aW q hn)];exact q
 w4:=λb ps q=>⟨#[],by rw[ay (aW q hn),q];simp⟩
theorem Un.write(mu:NL (H x))(he:e=x\/H e=some (.own x))(k:∀b u,b≠e->h.get? b=some u->h'.get? b=some u)(UI:∃u,h'.get? e=some u):Un fs ex H (upd H x o) h h':=by
 have hx:∀b,H b=none->b≠x:=λb n z=>by subst z;rw[n] at mu;exact mu
 have hb:∀b,H b=none->b≠e:=λb n z=>by
  subst z;rcases he with r|r
  ·exact hx b n r
  ·rw[n] at r;cases r
 have hm:∀b u,H b=some u->¬NL (some u)->b≠x:=λb u q nm z=>by subst z;rw[q] at mu;exact nm mu
 refine⟨λb u q n _ _=>k b u (hb b n) q,λb u q n _ _=>⟨u.slots,k b u (hb b n) q⟩,λb u q n _=>by rw[ay (hx b n)];exact n,λb u q _=>?_,
  λb xs q=>by rw[ay (hm b _ q λz=>z)];exact q,λb u xs q=>by rw[ay (hm b _ q λz=>z)];exact q,λb ps q=>⟨#[],by rw[ay (hm b _ q λz=>z),q];simp⟩⟩;by_cases B0:b=e
 ·subst B0;exact UI
 ·exact⟨u,k b u B0 q⟩
end
def B1(h:Heap)(H:Hp):List Addr:=(List.range h.objs.size).filter λa=>(H a).isSome
def w_(h:Heap)(H:Hp):Heap:=PySem.W.hideAll h (B1 h H)
theorem Ii(h:Heap)(H:Hp):(w_ h H).objs.size=h.objs.size:=PySem.W.hideAll_size _ _
theorem sF{h:Heap}{H:Hp}{b:Addr}{o:Obj}(e:h.get? b=some o)(n:H b=none):(w_ h H).get? b=some o:=
 PySem.W.hideAll_get _ e λhm=>by
  have q:(H b).isSome=true:=(List.mem_filter.mp hm).2;rw[n] at q;simp at q
theorem NM{h:Heap}{H:Hp}{b:Addr}{o:Obj}(e:(w_ h H).get? b=some o):h.get? b=some o/\H b=none:=by
 have e':h.get? b=some o:=PySem.W.of_hideAll (B1 h H) e;refine⟨e',?_⟩;cases q:H b with
 |none=>rfl
 |some x=>
  have hm:b∈B1 h H:=List.mem_filter.mpr ⟨List.mem_range.mpr (Heap.lt_size e'),by simp[q]⟩;have z:(w_ h H).get? b=none:=PySem.W.hideAll_none (B1 h H) hm;rw[z] at e;cases e
def NN(g h:Heap)(L:Addr):List (Addr×Obj):=(List.range h.objs.size).filterMap λa=>if a=L\/(g.get? a).isSome=true then none else(h.get? a).map λo=>(a,o)
def rest(g h:Heap)(L d:Addr):List (Addr×Obj):=(NN g h L).filter λp=>decide (p.1≠d)
structure Mod(K:PySem.W.Frag)(mg:Str->Option Value)(base:Heap):Prop where
 Kf:K.In base
 glob:base.Ns mainGlobals mg
 blt:∃mb,base.Ns builtinsNs mb/\∀x:Str,x≠"__name__"->mb x=bootBuiltins x
 nolimit:base.NoLimit
 seer:base.NoSeer
structure Cx where
 prog:Program
 w:World
 K:PySem.W.Frag
 mg:Str->Option Value
 base:Heap
 A:Around
 N:List Str
 ku:Shared
 Ij:Hp
 env:Env
 outer:List Env
 stack:List Env
 ex:List Addr
 fn:Str->Bool
 calm:Bool
 pn:List (Addr×Obj)
 xe:Value->Shared->Prop
def v_(l:List Env):List Addr:=l.filterMap (·.frame)
abbrev Cx.fs(X:Cx):List Addr:=v_ X.outer
def UJ(sc:Scope)(x:Str):Prop:=sc.names.lookup x=some .local\/sc.names.lookup x=some .cell\/sc.names.lookup x=some .free
def Loc(sc:Scope)(x:Str):Prop:=sc.names.lookup x=some .local\/sc.names.lookup x=some .cell
def Look(env:Env)(h:Heap)(m:Str->Option Value)(x:Str)(u:Value):Prop:=
 (env.kindOf x=some .local/\m x=some u)\/((env.kindOf x=some .cell\/env.kindOf x=some .free)/\∃c,env.cells.lookup x=some c/\h.IsCell c (some u))
structure Cx.Ok(X:Cx):Prop where
 mod:Mod X.K X.mg X.base
 kind:X.env.scope.kind=.function
 glob:X.env.globals=mainGlobals
 blt:X.env.builtins=builtinsNs
 above:X.ku.heap.objs.size<=X.env.locals
 inj:∀x y c,X.env.cells.lookup x=some c->X.env.cells.lookup y=some c->x=y
 has:∀x,(X.env.kindOf x=some .cell\/X.env.kindOf x=some .free)->∃c,X.env.cells.lookup x=some c
 Qf:∀x c,X.fn x=true->X.env.cells.lookup x=some c->X.ku.heap.objs.size<=c
 hd:X.calm=true->X.A.handled=none
 frames:X.A.frames=some X.stack
 RH:X.stack=X.outer\/(X.stack=X.env::X.outer/\X.env.frame=some X.env.locals)
 U_:∀b∈X.ex,b≠X.env.locals/\∀x c,X.env.cells.lookup x=some c->c≠b
 bs:∀b o,X.base.get? b=some o->X.ku.heap.get? b=some o/\X.Ij b=none
 GD:X.base.objs.size<=X.ku.heap.objs.size
 xb:∀b o,X.base.get? b=some o->b∉X.ex
 D7:∀b∈X.ex,b∉X.fs
 oZ:X.ku.heap.FunFrames X.base X.outer
 J6:∀b∈X.fs,X.Ij b=none
structure Inv(X:Cx)(pins:List (Addr×Obj))(σ:List (Option V))(H:Hp)(s:Shared):Prop where
 ok:X.Ok
 os:s.os=X.ku.os
 bare:AllBare s.gens
 base:Un X.fs X.ex X.Ij H X.ku.heap s.heap
 loc:∃m,s.heap.Ns X.env.locals m/\∀(i:Nat)(x:Str)(v:V),X.N[i]?=some x->σ[i]?=some (some v)->UJ X.env.scope x->∃u,RelV v u/\Look X.env s.heap m x u
 cell:∀x c,X.env.cells.lookup x=some c->∃v,s.heap.IsCell c v
 free:H X.env.locals=none
 jD:∀x c,X.env.cells.lookup x=some c->H c=none
 pin:∀p∈X.pn++pins,s.heap.get? p.1=some p.2/\H p.1=none/\p.1≠X.env.locals/\p.1∉X.fs/\∀v,p.2.data≠.cell v
 b_:lW X.prog X.w H s.heap
 len:σ.length=X.N.length
section
variable {X:Cx} {pins:List (Addr×Obj)} {σ:List (Option V)} {H H':Hp} {s:Shared} {h':Heap}
theorem Cx.Ok.Yq(ok:X.Ok){b:Addr}{o:Obj}(e:X.base.get? b=some o):b∉X.fs:=λhb=>by
 have:=(ok.oZ.mem hb).1;rw[e] at this;cases this
theorem Inv.bs(I:Inv X pins σ H s):∀b o,X.base.get? b=some o->s.heap.get? b=some o/\H b=none:=λb o e=>
 ⟨I.base.keep b o (I.ok.bs b o e).1 (I.ok.bs b o e).2 (I.ok.Yq e) (I.ok.xb b o e),I.base.free b o (I.ok.bs b o e).1 (I.ok.bs b o e).2 (I.ok.xb b o e)⟩
theorem Inv.bk(I:Inv X pins σ H s):∀b o,X.base.get? b=some o->s.heap.get? b=some o:=λb o e=>(I.bs b o e).1
theorem Inv.mod(I:Inv X pins σ H s):Mod X.K X.mg X.base:=I.ok.mod
theorem Inv.o9(I:Inv X pins σ H s):X.K.In s.heap:=I.ok.mod.Kf.keeps I.bk
theorem Inv.nolimit(I:Inv X pins σ H s):s.heap.NoLimit:=I.ok.mod.nolimit.keeps I.bk
theorem Inv.lt(I:Inv X pins σ H s):X.env.locals<s.heap.objs.size:=let⟨_,hn,_⟩:=I.loc;hn.lt
theorem Inv.sz(I:Inv X pins σ H s):X.ku.heap.objs.size<=s.heap.objs.size:=Nat.le_trans I.ok.above (Nat.le_of_lt I.lt)
theorem Inv.Yr(I:Inv X pins σ H s){a:Addr}(h:s.heap.objs.size<=a):a∉X.fs:=λhb=>by
 obtain⟨_,o,ho,_⟩:=I.ok.oZ.mem hb;exact absurd (Nat.lt_of_lt_of_le (Heap.lt_size ho) (Nat.le_trans I.sz h)) (Nat.lt_irrefl _)
theorem Inv.NO(I:Inv X pins σ H s):∀x c,X.env.cells.lookup x=some c->c≠X.env.locals:=λx c e z=>by
 obtain⟨v,o,ho,hd⟩:=I.cell x c e;obtain⟨m,⟨o',es,ep,Kg,Qg,_⟩,_⟩:=I.loc;rw[z,Kg] at ho;cases ho;rw[Qg] at hd;cases hd
theorem Inv.oZ(I:Inv X pins σ H s):s.heap.FunFrames X.base X.outer:=by
 have all:∀(l:List Env),(∀b∈v_ l,b∈X.fs)->X.ku.heap.FunFrames X.base l->s.heap.FunFrames X.base l:=by
  intro l
  induction l with
  |nil=>intro _ _;trivial
  |cons env r ih=>
   intro hs hl;obtain⟨hk,⟨L,o,hf,hn,ho,hd⟩,hr⟩:=hl;have hL:L∈X.fs:=hs L (by unfold v_;rw[List.filterMap_cons,hf];exact List.mem_cons_self);obtain⟨sl,e⟩:=I.base.slot L o ho (I.ok.J6 L hL) hL λz=>I.ok.D7 L z hL;exact⟨hk,⟨L,_,hf,hn,e,hd⟩,ih (λb hb=>hs b (by unfold v_;rw[List.filterMap_cons,hf];exact List.mem_cons_of_mem _ hb)) hr⟩
 exact all X.outer (λ_ hb=>hb) I.ok.oZ
theorem Inv.stack(I:Inv X pins σ H s):s.heap.FunFrames X.base X.stack:=by
 rcases I.ok.RH with e|⟨e,hf⟩
 ·rw[e];exact I.oZ
 ·rw[e];obtain⟨m,hn,_⟩:=I.loc;refine .cons (by rw[I.ok.kind];decide) hf hn ?_ I.oZ;exact Heap.get?_none_of_le (Nat.le_trans I.ok.GD I.ok.above)
theorem Inv.um(I:Inv X pins σ H s):∀b∈v_ X.stack,b∈X.env.locals::X.fs:=λb hb=>by
 rcases I.ok.RH with e|⟨e,hf⟩
 ·rw[e] at hb;exact List.mem_cons_of_mem _ hb
 ·rw[e] at hb;unfold v_ at hb;rw[List.filterMap_cons,hf] at hb;exact hb
theorem Inv.wF(I:Inv X pins σ H s):∀b∈v_ X.stack,H b=none:=λb hb=>by
 rcases List.mem_cons.mp (I.um b hb) with e|hb
 ·rw[e];exact I.free
 ·obtain⟨_,o,ho,_⟩:=I.ok.oZ.mem hb;exact I.base.free b o ho (I.ok.J6 b hb) λz=>I.ok.D7 b z hb
theorem Inv.step{g':Array GenState}{t':Nat}{d':Drawn}{ch:List Addr}(I:Inv X pins σ H s)(Np:∀b∈ch,(b∈X.ex\/X.ku.heap.objs.size<=b)/\b≠X.env.locals/\(∀x c,X.env.cells.lookup x=some c->c≠b)/\∀p∈X.pn++pins,p.1≠b)(keep:∀b o,b≠X.env.locals->b∉X.fs->b∉ch->s.heap.get? b=some o->H b=none->h'.get? b=some o)(slot:∀b o,b≠X.env.locals->b∈X.fs->b∉ch->s.heap.get? b=some o->H b=none->∃sl,h'.get? b=some {o with slots:=sl})(free:∀b o,b∉ch->s.heap.get? b=some o->H b=none->H' b=none)(there:∀b o,b∉ch->s.heap.get? b=some o->∃o',h'.get? b=some o')(yT:∀b xs,H b=some (.tup xs)->H' b=some (.tup xs))(wZ:∀b o u,H b=some (.vY o u)->H' b=some (.vY o u))(w4:∀b ps,H b=some (.vZ ps)->∃more,H' b=some (.vZ (ps++more)))(ns:∀m,s.heap.Ns X.env.locals m->h'.Ns X.env.locals m)(b_:lW X.prog X.w H' h')(hg:AllBare g'):
 Inv X pins σ H' {s with heap:=h',gens:=g',drawn:=d',toks:=t'}:=by
 have neL:∀b o,X.ku.heap.get? b=some o->b≠X.env.locals:=λb o e=>Nat.ne_of_lt (Nat.lt_of_lt_of_le (Heap.lt_size e) I.ok.above);have U':∀b o,X.ku.heap.get? b=some o->b∉X.ex->b∉ch:=λb o e hx hb=>by
  rcases(Np b hb).1 with z|z
  ·exact hx z
  ·exact absurd (Nat.lt_of_lt_of_le (Heap.lt_size e) z) (Nat.lt_irrefl _)
 have cellK:∀x c,X.env.cells.lookup x=some c->∀v,s.heap.IsCell c v->h'.IsCell c v:=λx c e v⟨o,ho,hd⟩=>by
  have Va:c∉ch:=λz=>(Np c z).2.2.1 x c e rfl;by_cases hc:c∈X.fs
  ·obtain⟨sl,q⟩:=slot c o (I.NO x c e) hc Va ho (I.jD x c e);exact⟨_,q,hd⟩
  ·exact⟨o,keep c o (I.NO x c e) hc Va ho (I.jD x c e),hd⟩
 refine⟨I.ok,I.os,hg,⟨λb o e n hb hx=>?_,λb o e n hb hx=>?_,λb o e n hx=>?_,λb o e hx=>?_,λb xs e=>yT b xs (I.base.yT b xs e),λb o xs e=>wZ b o xs (I.base.wZ b o xs e),λb ps e=>?_⟩,?_,λx c e=>?_,?_,λx c e=>?_,λp hp=>?_,b_,I.len⟩
 ·exact keep b o (neL b o e) hb (U' b o e hx) (I.base.keep b o e n hb hx) (I.base.free b o e n hx)
 ·obtain⟨sl,e1⟩:=I.base.slot b o e n hb hx;obtain⟨sl',e2⟩:=slot b _ (neL b o e) hb (U' b o e hx) e1 (I.base.free b o e n hx);exact⟨sl',e2⟩
 ·obtain⟨o',e1⟩:=I.base.there b o e hx;exact free b o' (U' b o e hx) e1 (I.base.free b o e n hx)
 ·obtain⟨o',e1⟩:=I.base.there b o e hx;exact there b o' (U' b o e hx) e1
 ·obtain⟨m1,e1⟩:=I.base.w4 b ps e;obtain⟨m2,e2⟩:=w4 b _ e1;exact⟨m1++m2,by rw[e2,Array.append_assoc]⟩
 ·obtain⟨m,hn,hl⟩:=I.loc;refine⟨m,ns m hn,λi x v e1 e2 e3=>?_⟩;obtain⟨u,r,l⟩:=hl i x v e1 e2 e3;refine⟨u,r,?_⟩;rcases l with l|⟨k,c,e,z⟩
  ·exact .inl l
  ·exact .inr ⟨k,c,e,cellK x c e _ z⟩
 ·obtain⟨v,z⟩:=I.cell x c e;exact⟨v,cellK x c e v z⟩
 ·obtain⟨m,⟨o,_,_,ho,_⟩,_⟩:=I.loc;exact free _ o (λz=>(Np _ z).2.1 rfl) ho I.free
 ·obtain⟨v,o,ho,hd⟩:=I.cell x c e;exact free c o (λz=>(Np c z).2.2.1 x c e rfl) ho (I.jD x c e)
 ·obtain⟨e,n,ne,nf,d⟩:=I.pin p hp;have Va:p.1∉ch:=λz=>(Np p.1 z).2.2.2 p hp rfl;exact⟨keep p.1 p.2 ne nf Va e n,free p.1 p.2 Va e n,ne,nf,d⟩
theorem Inv.un{t':Nat}(I:Inv X pins σ H s)(u:Un X.fs [] H H' s.heap h')(b_:lW X.prog X.w H' h'):Inv X pins σ H' {s with heap:=h',toks:=t'}:=by
 obtain⟨m,⟨o,es,ep,ho,r⟩,_⟩:=id I.loc;obtain⟨sl,hL⟩:=u.any ho I.free (by simp);exact I.step (g':=s.gens) (d':=s.drawn) (ch:=[]) (λ_ z=>nomatch z) (λb o _ hb _ e n=>u.keep b o e n hb (by simp)) (λb o _ hb _ e n=>u.slot b o e n hb (by simp)) (λb o _ e n=>u.free b o e n (by simp)) (λb o _ e=>u.there b o e (by simp)) u.yT u.wZ u.w4 (λm' hm=>by
  obtain⟨o',Ys,Yt,Kg,r'⟩:=hm
  rw[ho] at Kg;cases Kg
  exact⟨_,Ys,Yt,hL,r'⟩) b_ I.bare
theorem Inv.call{g':Array GenState}{t':Nat}{d':Drawn}{ch:List Addr}(I:Inv X pins σ H s)(u:Un (v_ X.stack) ch H H' s.heap h')(b_:lW X.prog X.w H' h')(hg:AllBare g')(Np:∀b∈ch,(b∈X.ex\/X.ku.heap.objs.size<=b)/\b≠X.env.locals/\(∀x c,X.env.cells.lookup x=some c->c≠b)/\∀p∈X.pn++pins,p.1≠b):
 Inv X pins σ H' {s with heap:=h',gens:=g',drawn:=d',toks:=t'}:=by
 obtain⟨m,⟨o,es,ep,ho,r⟩,_⟩:=id I.loc;obtain⟨sl,hL⟩:=u.any ho I.free λz=>(Np _ z).2.1 rfl;exact I.step (ch:=ch) Np (λb o hL hb hc e n=>u.keep b o e n (λz=>(List.mem_cons.mp (I.um b z)).elim hL hb) hc) (λb o _ _ hc e n=>u.any e n hc) (λb o hc e n=>u.free b o e n hc) (λb o hc e=>u.there b o e hc) u.yT u.wZ u.w4 (λm' hm=>by
  obtain⟨o',Ys,Yt,Kg,r'⟩:=hm
  rw[ho] at Kg;cases Kg
  exact⟨_,Ys,Yt,hL,r'⟩) b_ hg
theorem Inv.turned{t':Nat}{it:Addr}(I:Inv X pins σ H s)(k:∀b o,b≠it->s.heap.get? b=some o->h'.get? b=some o)(hn:H it=none)(hL:it≠X.env.locals)(h1:it∈X.ex\/X.ku.heap.objs.size<=it)(h2:∀x c,X.env.cells.lookup x=some c->c≠it)(h3:∀p∈X.pn++pins,p.1≠it):Inv X pins σ H {s with heap:=h',toks:=t'}:=by
 have nit:∀b u,H b=some u->b≠it:=λb u e z=>by rw[z,hn] at e;cases e
 refine I.step (g':=s.gens) (d':=s.drawn) (ch:=[it]) (λb hb=>?_) (λb o _ _ hc e _=>k b o (λz=>hc (by simp[z])) e) (λb o _ _ hc e _=>⟨o.slots,k b o (λz=>hc (by simp[z])) e⟩) (λ_ _ _ _ n=>n)
  (λb o hc e=>⟨o,k b o (λz=>hc (by simp[z])) e⟩) (λ_ _ e=>e) (λ_ _ _ e=>e) (λb ps e=>⟨#[],by rw[e];simp⟩) (λm hm=>?_) (λb u e=>?_) I.bare
 ·have e:b=it:=by simpa using hb
  subst e;exact⟨h1,hL,h2,h3⟩
 ·obtain⟨o,es,ep,ho,r⟩:=hm;exact⟨o,es,ep,k _ o (Ne.symm hL) ho,r⟩
 ·refine(I.b_ b u e).nv (λc v hc q=>k c v ?_ q) (λ_ q=>q) λ_ _ q=>q;rcases hc with z|z
  ·rw[z];exact nit b u e
  ·exact nit c _ z
theorem Inv.tok(I:Inv X pins σ H s)(t:Nat):Inv X pins σ H {s with toks:=t}:=I.un (h':=s.heap) (t':=t) Un.refl I.b_
theorem Inv.kept{t':Nat}(I:Inv X pins σ H s)(k:∀b u,s.heap.get? b=some u->h'.get? b=some u):Inv X pins σ H {s with heap:=h',toks:=t'}:=I.un (Un.kept k) (I.b_.kept k)
theorem Inv.laid{a:Addr}{o:HO}{t':Nat}(I:Inv X pins σ H s)(k:∀b u,s.heap.get? b=some u->h'.get? b=some u)(hp:s.heap.objs.size<=a)(new:dX X.prog X.w (upd H a o) h' a o):
 Inv X pins σ (upd H a o) {s with heap:=h',toks:=t'}:=I.un (Un.laid k hp (I.b_.fresh hp)) (I.b_.laid k hp new)
theorem Inv.write{x e:Addr}{o:HO}{t':Nat}(I:Inv X pins σ H s)(mu:NL (H x))(he:e=x\/H e=some (.own x))(k:∀b u,b≠e->s.heap.get? b=some u->h'.get? b=some u)(UI:∃u,h'.get? e=some u)(new:dX X.prog X.w (upd H x o) h' x o):Inv X pins σ (upd H x o) {s with heap:=h',toks:=t'}:=I.un (Un.write mu he k UI) (I.b_.write mu he k UI new)
theorem Inv.GF{vI:List (Addr×Obj)}(I:Inv X pins σ H s)(h:∀p∈vI,s.heap.get? p.1=some p.2/\H p.1=none/\p.1≠X.env.locals/\p.1∉X.fs/\∀v,p.2.data≠.cell v):Inv X vI σ H s:=
 ⟨I.ok,I.os,I.bare,I.base,I.loc,I.cell,I.free,I.jD,λp hp=>(List.mem_append.mp hp).elim (λz=>I.pin p (List.mem_append_left _ z)) (h p),I.b_,I.len⟩
theorem xc{N:List Str}(hN:N.Nodup){i j:Nat}{x:Str}(a:N[i]?=some x)(b:N[j]?=some x):i=j:=by
 obtain⟨h1,e1⟩:=List.getElem?_eq_some_iff.mp a;obtain⟨h2,e2⟩:=List.getElem?_eq_some_iff.mp b;exact(List.getElem_inj hN).mp (e1.trans e2.symm)
theorem uo{M:Model}{A:Around}{E:Value->Shared->Prop}{i:Nat}{x:Str}{v:V}{u:Value}{Q:Unit->Shared->Prop}(I:Inv X pins σ H s)(hN:X.N.Nodup)(hi:X.N[i]?=some x)(hx:Loc X.env.scope x)(r:RelV v u)(h:∀s',Inv X pins (σ.set i (some v)) H s'->(∃a,Heap.SameBut a s.heap s'.heap/\(a=X.env.locals\/X.env.cells.lookup x=some a))->Q () s')(hf:X.fn x=true\/X.env.scope.names.lookup x=some .local:=by first|exact .inl rfl|exact .inr rfl|assumption):wpAny M A (storeName X.env x u) Q E s:=by
 obtain⟨m,hn,hl⟩:=id I.loc;have Kh:(X.env.scope.kind==.class||(X.env.scope.kind==.module&&X.env.locals !=X.env.globals))=false:=by rw[I.ok.kind];rfl
 have NP:i<σ.length:=by rw[I.len];exact(List.getElem?_eq_some_iff.mp hi).1
 have NO:=I.NO;have tracked:∀{a:Addr}{h':Heap},(∃o,s.heap.get? a=some o/\H a=none)->Heap.SameBut a s.heap h'->lW X.prog X.w H h':=λ{a h'} ha hs b ob e=>by
  obtain⟨_,_,Qh⟩:=ha;refine(I.b_ b ob e).nv (λc w' hc q=>(hs.2 c ?_).trans q) (λ_ q=>q) λ_ _ q=>q;rintro rfl;rcases hc with rfl|hc
  ·rw[Qh] at e;cases e
  ·rw[Qh] at hc;cases hc
 rcases hx with hk|hk
 ·refine wpAny_storeName_local hk hn (λh' UK hs=>?_) Kh;obtain⟨oL,_,_,hoL,_⟩:=id hn;refine h _ ⟨I.ok,I.os,I.bare,⟨λb o e n hb hx=>?_,λb o e n hb hx=>?_,I.base.free,λb o e hx=>?_,I.base.yT,I.base.wZ,I.base.w4⟩,⟨_,UK,λj y v' e1 e2 e3=>?_⟩,λy c e=>?_,I.free,I.jD,λp hp=>?_,tracked ⟨oL,hoL,I.free⟩ hs,by simpa using I.len⟩ ⟨_,hs,.inl rfl⟩
  ·exact(hs.2 b (Nat.ne_of_lt (Nat.lt_of_lt_of_le (Heap.lt_size e) I.ok.above))).trans (I.base.keep b o e n hb hx)
  ·obtain⟨sl,e1⟩:=I.base.slot b o e n hb hx;exact⟨sl,(hs.2 b (Nat.ne_of_lt (Nat.lt_of_lt_of_le (Heap.lt_size e) I.ok.above))).trans e1⟩
  ·obtain⟨o',e1⟩:=I.base.there b o e hx;exact⟨o',(hs.2 b (Nat.ne_of_lt (Nat.lt_of_lt_of_le (Heap.lt_size e) I.ok.above))).trans e1⟩
  ·by_cases hj:j=i
   ·subst hj;rw[hi] at e1;cases e1;rw[List.getElem?_set_self NP] at e2;cases e2;exact⟨u,r,.inl ⟨hk,by simp⟩⟩
   ·rw[List.getElem?_set_ne (Ne.symm hj)] at e2;obtain⟨u',r',q⟩:=hl j y v' e1 e2 e3;refine⟨u',r',?_⟩;rcases q with⟨k,e⟩|⟨k,c,e,z⟩
    ·refine .inl ⟨k,?_⟩;have:y≠x:=λe=>hj (xc hN e1 (e▸hi));simp[this,e]
    ·exact .inr ⟨k,c,e,z.sameBut hs (NO y c e)⟩
  ·obtain⟨w',z⟩:=I.cell y c e;exact⟨w',z.sameBut hs (NO y c e)⟩
  ·obtain⟨e,n,ne,nf,d⟩:=I.pin p hp;exact⟨(hs.2 p.1 ne).trans e,n,ne,nf,d⟩
 ·have Nq:X.fn x=true:=by
   rcases hf with z|z
   ·exact z
   ·rw[z] at hk;cases hk
  obtain⟨c,hc⟩:=I.ok.has x (.inl hk);obtain⟨w',z⟩:=I.cell x c hc;refine wpAny_storeName_cell I.ok.kind hk hc z (λh' wa hs=>?_);obtain⟨oc,UL,Yu⟩:=id z;refine h {s with heap:=h'} ⟨I.ok,I.os,I.bare,⟨λb o e n hb hx=>?_,λb o e n hb hx=>?_,I.base.free,λb o e hx=>?_,I.base.yT,I.base.wZ,I.base.w4⟩,⟨m,hn.sameBut hs (Ne.symm (NO x c hc)),λj y v' e1 e2 e3=>?_⟩,λy c' e=>?_,I.free,I.jD,λp hp=>?_,tracked ⟨oc,UL,I.jD x c hc⟩ hs,by simpa using I.len⟩ ⟨c,hs,.inr hc⟩
  ·exact(hs.2 b (Nat.ne_of_lt (Nat.lt_of_lt_of_le (Heap.lt_size e) (I.ok.Qf x c Nq hc)))).trans (I.base.keep b o e n hb hx)
  ·obtain⟨sl,e1⟩:=I.base.slot b o e n hb hx;exact⟨sl,(hs.2 b (Nat.ne_of_lt (Nat.lt_of_lt_of_le (Heap.lt_size e) (I.ok.Qf x c Nq hc)))).trans e1⟩
  ·obtain⟨o',e1⟩:=I.base.there b o e hx;exact⟨o',(hs.2 b (Nat.ne_of_lt (Nat.lt_of_lt_of_le (Heap.lt_size e) (I.ok.Qf x c Nq hc)))).trans e1⟩
  ·by_cases hj:j=i
   ·subst hj;rw[hi] at e1;cases e1;rw[List.getElem?_set_self NP] at e2;cases e2;exact⟨u,r,.inr ⟨.inl hk,c,hc,wa⟩⟩
   ·rw[List.getElem?_set_ne (Ne.symm hj)] at e2;obtain⟨u',r',q⟩:=hl j y v' e1 e2 e3;refine⟨u',r',?_⟩;rcases q with q|⟨k,c',e,z'⟩
    ·exact .inl q
    ·refine .inr ⟨k,c',e,z'.sameBut hs ?_⟩;rintro rfl;exact hj (xc hN e1 (I.ok.inj _ _ _ e hc▸hi))
  ·by_cases hcc:c'=c
   ·subst hcc;exact⟨_,wa⟩
   ·obtain⟨w2,z2⟩:=I.cell y c' e;exact⟨w2,z2.sameBut hs hcc⟩
  ·obtain⟨e,n,ne,nf,d⟩:=I.pin p hp;refine⟨(hs.2 p.1 ?_).trans e,n,ne,nf,d⟩;intro q;rw[q,UL] at e;have q':oc=p.2:=Option.some.inj e;exact d w' (by rw[<-q'];exact Yu)
theorem xf{M:Model}{A:Around}{E:Value->Shared->Prop}{i:Nat}{x:Str}{v:V}{u:Value}{Q:Unit->Shared->Prop}(I:Inv X pins σ H s)(hN:X.N.Nodup)(hi:X.N[i]?=some x)(hx:Loc X.env.scope x)(r:RelV v u)(h:∀s',Inv X pins (σ.set i (some v)) H s'->Q () s')(hf:X.fn x=true\/X.env.scope.names.lookup x=some .local:=by first|exact .inl rfl|exact .inr rfl|assumption):wpAny M A (storeName X.env x u) Q E s:=
 uo I hN hi hx r (λs' I' _=>h s' I') hf
theorem Inv.Qi{s':Shared}{ch:List Addr}(I:Inv X pins σ H s)(ho:s'.os=s.os)(u:Un (v_ X.stack) ch H H' s.heap s'.heap)(b_:lW X.prog X.w H' s'.heap)(hg:AllBare s'.gens)(Np:∀b∈ch,(b∈X.ex\/X.ku.heap.objs.size<=b)/\b≠X.env.locals/\(∀x c,X.env.cells.lookup x=some c->c≠b)/\∀p∈X.pn++pins,p.1≠b):Inv X pins σ H' s':=by
 obtain⟨h',g',d',t',o'⟩:=s';have e:o'=s.os:=ho;subst e;exact I.call (g':=g') (t':=t') (d':=d') u b_ hg Np
end
abbrev XK:=Value->Option Addr->Hp->Prop
abbrev St:=List (Option V)
abbrev VK:=V->Hp->Prop
abbrev TE:=St->Hp->VK->Prop
abbrev TT:=St->Hp->(Bool->Hp->Prop)->Prop
abbrev TA:=St->Hp->(List V->Hp->Prop)->Prop
structure Ends where
 nx:St->Hp->Prop
 rt:VK
 bk:St->Hp->Prop:=λ_ _=>False
 ct:St->Hp->Prop:=λ_ _=>False
abbrev TS:=Ends->St->Hp->Prop
def EP(X:Cx)(pins:List (Addr×Obj))(σ:St)(Q:VK)(u:Value)(s':Shared):Prop:=∃v H',Inv X pins σ H' s'/\RelV v u/\Q v H'
def TP(X:Cx)(pins:List (Addr×Obj))(σ:St)(Q:Bool->Hp->Prop)(b:Bool)(s':Shared):Prop:=∃H',Inv X pins σ H' s'/\Q b H'
def AP(X:Cx)(pins:List (Addr×Obj))(σ:St)(Q:List V->Hp->Prop)(us:List Value)(s':Shared):Prop:=∃vs H',Inv X pins σ H' s'/\Vals vs us/\Q vs H'
def SP(X:Cx)(pins:List (Addr×Obj))(D:Ends)(f:Flow)(s':Shared):Prop:=
 match f with
 |.next=>∃cH H',Inv X pins cH H' s'/\D.nx cH H'
 |.brk=>∃cH H',Inv X pins cH H' s'/\D.bk cH H'
 |.cont=>∃cH H',Inv X pins cH H' s'/\D.ct cH H'
 |.ret u=>∃v cH H',Inv X pins cH H' s'/\RelV v u/\D.rt v H'
def PE(X:Cx)(e:Expr)(t:TE):Prop:=
 ∀(pins:List (Addr×Obj))(s:Shared)(σ:St)(H:Hp)(Q:VK),Inv X pins σ H s->t σ H Q->wpAny (model X.prog X.w) X.A (eval e X.env) (EP X pins σ Q) X.xe s
def PT(X:Cx)(e:Expr)(t:TT):Prop:=
 ∀(pins:List (Addr×Obj))(s:Shared)(σ:St)(H:Hp)(Q:Bool->Hp->Prop),Inv X pins σ H s->t σ H Q->wpAny (model X.prog X.w) X.A (isTrue e X.env (eval e X.env)) (TP X pins σ Q) X.xe s
def PW(X:Cx)(e:Expr)(t:TT):Prop:=
 ∀(whole:Sem Value)(pins:List (Addr×Obj))(s:Shared)(σ:St)(H:Hp)(Q:Bool->Hp->Prop),Inv X pins σ H s->t σ H Q->wpAny (model X.prog X.w) X.A (isTrue e X.env whole) (TP X pins σ Q) X.xe s
theorem PW.pt{X:Cx}{e:Expr}{t:TT}(h:PW X e t):PT X e t:=h _
def PA(X:Cx)(es:List Expr)(t:TA):Prop:=
 ∀(pos:Pos)(pins:List (Addr×Obj))(s:Shared)(σ:St)(H:Hp)(Q:List V->Hp->Prop),Inv X pins σ H s->t σ H Q->wpAny (model X.prog X.w) X.A (spliced (backTo pos (starEach es X.env))) (AP X pins σ Q) X.xe s
def PS(X:Cx)(st:Stmt)(t:TS):Prop:=
 ∀(pins:List (Addr×Obj))(s:Shared)(σ:St)(H:Hp)(D:Ends),Inv X pins σ H s->t D σ H->wpAny (model X.prog X.w) X.A (exec st X.env) (SP X pins D) X.xe s
def vJ(X:Cx)(st:List Stmt)(t:TS):Prop:=
 ∀(pins:List (Addr×Obj))(s:Shared)(σ:St)(H:Hp)(D:Ends),Inv X pins σ H s->t D σ H->wpAny (model X.prog X.w) X.A (execs st X.env) (SP X pins D) X.xe s
theorem cB{α:Type}{t:Sem α}{Q Q':α->Shared->Prop}{M:Model}{A:Around}{E:Value->Shared->Prop}{s:Shared}(h:wpAny M A t Q E s)(hQ:∀a s,Q a s->Q' a s):wpAny M A t Q' E s:=wpAny_mono h hQ λ_ _ x=>x
section
variable {X:Cx}
def eA(i:Nat):TE:=λσ H Q=>∃v,σ[i]?=some (some v)/\Q v H
def tC(v:V):TE:=λ_ H Q=>Q v H
theorem xg{i:Nat}{x:Str}{pos:Pos}(hN:X.N[i]?=some x)(hv:UJ X.env.scope x)(hd:(x==("__debug__":Str))=false:=by decide)(iq:(x==("__classdict__":Str))=false:=by decide):PE X (.Name x pos) (eA i):=by
 intro pins s σ H Q I h;obtain⟨v,e,h⟩:=h;obtain⟨m,hn,hl⟩:=I.loc;obtain⟨u,r,l⟩:=hl i x v hN e hv;have fin:EP X pins σ Q u s:=⟨v,H,I,r,h⟩;rcases l with⟨hk,hm⟩|⟨hk,c,hc,Qj⟩
 ·exact wpAny_Name (wpAny_loadName_local I.ok.kind hk hn hm fin) hd
 ·rcases hk with hk|hk
  ·exact wpAny_Name (wpAny_loadName_cell I.ok.kind hk hc Qj fin) hd
  ·exact wpAny_Name (wpAny_loadName_free I.ok.kind hk hc Qj fin iq) hd
theorem ak{i j pos}:PE X (.Constant (.int i) j pos) (tC (.int i)):=λ_ _ _ H _ I h=>wpAny_Constant_int ⟨.int i,H,I.tok _,⟨_,rfl⟩,h⟩
theorem xh{b j pos}:PE X (.Constant (.bool b) j pos) (tC (.bl b)):=λ_ _ _ H _ I h=>Constant_bool ⟨.bl b,H,I,rfl,h⟩
theorem gw{j pos}:PE X (.Constant .none j pos) (tC .dH):=λ_ _ _ H _ I h=>Constant_none ⟨.dH,H,I,rfl,h⟩
theorem a_{x j pos}:PE X (.Constant (.str x) j pos) (tC (.str x)):=λ_ _ _ H _ I h=>Calls.Constant_str ⟨.str x,H,I.tok _,⟨_,rfl⟩,h⟩
def Gl(X:Cx)(x:Str):Prop:=X.env.kindOf x=some .globalImplicit
theorem fW{E:Value->Shared->Prop}{pins:List (Addr×Obj)}{s:Shared}{σ:St}{H:Hp}{x:Str}{u:Value}{pos:Pos}{Q:Value->Shared->Prop}(I:Inv X pins σ H s)(hg:Gl X x)(hm:X.mg x=some u)(h:Q u s)(hd:(x==("__debug__":Str))=false:=by decide):wpAny (model X.prog X.w) X.A (eval (.Name x pos) X.env) Q E s:=
 Calls.Name_function_global I.ok.kind hg (Calls.loadGlobal_global (by rw[I.ok.glob];exact I.mod.glob.keeps I.bk) hm h) hd
theorem lg{E:Value->Shared->Prop}{pins:List (Addr×Obj)}{s:Shared}{σ:St}{H:Hp}{x:Str}{u:Value}{pos:Pos}{Q:Value->Shared->Prop}(I:Inv X pins σ H s)(hg:Gl X x)(hm:X.mg x=none)(hv:bootBuiltins x=some u)(h:Q u s)(hn:x≠"__name__":=by decide)(hd:(x==("__debug__":Str))=false:=by decide):wpAny (model X.prog X.w) X.A (eval (.Name x pos) X.env) Q E s:=by
 obtain⟨mb,h1,h2⟩:=I.mod.blt;exact Calls.Name_function_global I.ok.kind hg (Calls.loadGlobal_builtin (by rw[I.ok.glob];exact I.mod.glob.keeps I.bk) hm (by rw[I.ok.blt];exact h1.keeps I.bk) ((h2 x hn).trans hv) h) hd
theorem gZ{x:Str}{v:V}{u:Value}{pos:Pos}(hg:Gl X x)(hm:X.mg x=some u)(r:RelV v u)(hd:(x==("__debug__":Str))=false:=by decide):PE X (.Name x pos) (tC v):=
 λ_ _ _ H _ I h=>fW I hg hm ⟨v,H,I,r,h⟩ hd
variable {a b:Expr} {ta tb:TE} {pos:Pos}
def PC(X:Cx)(op:CmpOp)(a b:Expr)(t:TE):Prop:=
 ∀(pins:List (Addr×Obj))(s:Shared)(σ:St)(H:Hp)(Q:VK),Inv X pins σ H s->t σ H Q->
  wpAny (model X.prog X.w) X.A (eval a X.env) (λv cD=>wpAny (model X.prog X.w) X.A (eval b X.env) (λu qO=>wpAny (model X.prog X.w) X.A (compareOp op v u) (EP X pins σ Q) X.xe qO) X.xe cD) X.xe s
def tB(t:TE):TT:=λσ H Q=>t σ H λx H1=>∃c,x=.bl c/\Q c H1
theorem Ab{op:CmpOp}{t:TE}(h:PC X op a b t)(h1:behindInMarks op b=false:=by first|exact Vb _ (by decide) (by decide)|rfl):PT X (.Compare a [op] [b] pos) (tB t):=by
 intro pins s σ H Q I hw;refine wpAny_isTrue_Compare1 (cB (h pins s σ H _ I hw) λv s1 h1=>cB h1 λu s2 h2=>cB h2 λc s3⟨x,H1,I1,r1,q1⟩=>?_) h1;obtain⟨d,rfl,q⟩:=q1;cases r1;exact wpAny_truthy_bool ⟨H1,I1,q⟩
theorem ny{e:Expr}{t:TE}(h:PE X e t)(he:∀whole,isTrue e X.env whole=(do let v<-whole;standAt e.pos;holding [v] (truthy v)):=by intro _;rfl):PT X e (tB t):=by
 intro pins s σ H Q I hw;refine isTrue_plain (cB (h pins s σ H _ I hw) λv s1⟨x,H1,I1,r1,q1⟩=>?_) (he _);obtain⟨d,rfl,q⟩:=q1;cases r1;exact wpAny_truthy_bool ⟨H1,I1,q⟩
variable {tA XF:TT} {rest:List Expr}
def RI(t u:TT):TT:=λσ H Q=>t σ H λc H1=>if c=true then u σ H1 Q else Q false H1
def Yv(t u:TT):TT:=λσ H Q=>t σ H λc H1=>if c=true then Q true H1 else u σ H1 Q
def RJ(t:TT):TT:=λσ H Q=>t σ H λc H1=>Q (!c) H1
theorem j4(ha:PT X a tA):PW X (.BoolOp .And [a] pos) tA:=by
 intro wh pins s σ H Q I h;refine isTrue_and (cB (ha pins s σ H Q I h) λc s1 e=>?_);cases c with
 |true=>exact isTrue_and_nil e
 |false=>exact e
theorem lh(ha:PT X a tA):PW X (.BoolOp .Or [a] pos) tA:=by
 intro wh pins s σ H Q I h;refine isTrue_or (cB (ha pins s σ H Q I h) λc s1 e=>?_);cases c with
 |false=>exact isTrue_or_nil e
 |true=>exact e
theorem mB(ha:PT X a tA)(hb:PW X (.BoolOp .And (b::rest) pos) XF):PW X (.BoolOp .And (a::b::rest) pos) (RI tA XF):=by
 intro wh pins s σ H Q I h;refine isTrue_and (cB (ha pins s σ H _ I h) λc s1⟨H1,I1,q1⟩=>?_);cases c with
 |true=>exact hb wh pins s1 σ H1 Q I1 q1
 |false=>exact⟨H1,I1,q1⟩
theorem oH(ha:PT X a tA)(hb:PW X (.BoolOp .Or (b::rest) pos) XF):PW X (.BoolOp .Or (a::b::rest) pos) (Yv tA XF):=by
 intro wh pins s σ H Q I h;refine isTrue_or (cB (ha pins s σ H _ I h) λc s1⟨H1,I1,q1⟩=>?_);cases c with
 |true=>exact⟨H1,I1,q1⟩
 |false=>exact hb wh pins s1 σ H1 Q I1 q1
theorem lj(ha:PT X a tA):PT X (.UnaryOp .Not a pos) (RJ tA):=by
 intro pins s σ H Q I h;exact isTrue_not (ha pins s σ H (λc H1=>Q (!c) H1) I h)
def Ki(ta tb:TE):TE:=λσ H Q=>ta σ H λx H1=>∃c,x=.bl c/\if c=true then tb σ H1 Q else Q (.bl false) H1
def Yw(ta tb:TE):TE:=λσ H Q=>ta σ H λx H1=>∃c,x=.bl c/\if c=true then Q (.bl true) H1 else tb σ H1 Q
def Vc(ta:TE):TE:=λσ H Q=>ta σ H λx H1=>∃c,x=.bl c/\Q (.bl (!c)) H1
theorem D8{op}{t:TE}(h:PE X a t):PE X (.BoolOp op [a] pos) t:=λpins s σ H Q I hw=>BoolOp_one (h pins s σ H Q I hw)
theorem Ac(ha:PE X a ta)(hb:PE X (.BoolOp .And (b::rest) pos) tb):PE X (.BoolOp .And (a::b::rest) pos) (Ki ta tb):=by
 intro pins s σ H Q I h;refine BoolOp_and (cB (ha pins s σ H _ I h) λv s1⟨x,H1,I1,r1,q1⟩=>?_);obtain⟨c,rfl,q1⟩:=q1;cases r1
 refine wpAny_truthy_bool ?_;cases c with
 |true=>exact hb pins s1 σ H1 Q I1 q1
 |false=>exact⟨.bl false,H1,I1,rfl,q1⟩
def Yx(t:TT)(ta tb:TE):TE:=λσ H Q=>t σ H λc H1=>if c=true then ta σ H1 Q else tb σ H1 Q
theorem bW{c:Expr}(hc:PT X c tA)(ha:PE X a ta)(hb:PE X b tb):PE X (.IfExp c a b pos) (Yx tA ta tb):=by
 intro pins s σ H Q I h;refine wpAny_IfExp (cB (hc pins s σ H _ I h) λd s1⟨H1,I1,q1⟩=>?_);cases d with
 |true=>exact ha pins s1 σ H1 Q I1 q1
 |false=>exact hb pins s1 σ H1 Q I1 q1
end
def ft(K:PySem.W.Frag)(H:Hp)(a:Addr)(xs:List V):Prop:=
 Rd H a (.lst xs)\/
  ∃(o:Obj)(bB:Array Value)(n:Nat),K.lookup a=some o/\o.cls=.type "list"/\o.dict=none/\o.data=.seq bB n/\bB.size<=sizeLine/\Vals xs bB.toList
def qB(K:PySem.W.Frag)(H:Hp)(a:Addr)(xs:List V):Prop:=
 Rd H a (.tup xs)\/
  ∃(o:Obj)(bB:Array Value)(n:Nat),K.lookup a=some o/\o.cls=.type "tuple"/\o.data=.seq bB n/\bB.size<=sizeLine/\Vals xs bB.toList
def Yy:Value->Option V
 |.none=>some .dH
 |.bool b=>some (.bl b)
 |.int i _=>some (.int i)
 |.str x _=>some (.str x)
 |.bytes b _=>some (.GC b)
 |.float b _=>some (.UH b)
 |.ref a=>some (.ref a)
 |.type n=>some (.ty n)
 |_=>none
theorem RelV.abs{x:V}{u:Value}(r:RelV x u):Yy u=some x:=by
 cases x with
 |dH=>cases r;rfl
 |bl _=>cases r;rfl
 |int _=>obtain⟨t,rfl⟩:=r;rfl
 |str _=>obtain⟨t,rfl⟩:=r;rfl
 |GC _=>obtain⟨t,rfl⟩:=r;rfl
 |UH _=>obtain⟨t,rfl⟩:=r;rfl
 |ref _=>cases r;rfl
 |ty _=>cases r;rfl
theorem RelV.inj{x y:V}{u:Value}(r:RelV x u)(q:RelV y u):x=y:=Option.some.inj (r.abs.symm.trans q.abs)
theorem Vals.inj:∀{xs ys:List V}{us:List Value},Vals xs us->Vals ys us->xs=ys
 |_,_,_,.nil,.nil=>rfl
 |_,_,_,.cons r t,.cons r' t'=>by rw[r.inj r',Vals.inj t t']
section
variable {X:Cx} {pins:List (Addr×Obj)} {σ:St} {H:Hp} {s:Shared} {a:Addr} {xs ys:List V}
theorem ft.of{K:PySem.W.Frag}(h:H a=some (.lst xs)):ft K H a xs:=.inl (.inl h)
theorem Inv.list(I:Inv X pins σ H s)(h:ft X.K H a xs):∃bB:List Value,Vals xs bB/\PlainL s.heap a bB.toArray/\xs.length<=sizeLine:=by
 rcases h with h|⟨o,bB,n,hk,hc,hd,hs,hz,r⟩
 ·obtain⟨z,bB,n,r,e⟩:=h.ok I.b_;exact⟨bB,r,⟨_,n,e,rfl,rfl,rfl⟩,z⟩
 ·refine⟨bB.toList,r,⟨o,n,I.o9 a o hk,hc,hd,by simpa using hs⟩,?_⟩;have e:=r.length;simp only[Array.length_toList] at e;lia
theorem Inv.tuple(I:Inv X pins σ H s)(h:qB X.K H a xs):∃bB:List Value,Vals xs bB/\IsTup s.heap a bB.toArray/\xs.length<=sizeLine:=by
 rcases h with h|⟨o,bB,n,hk,hc,hs,hz,r⟩
 ·obtain⟨z,bB,r,p⟩:=h.ok I.b_;exact⟨bB,r,p,z⟩
 ·refine⟨bB.toList,r,⟨o,I.o9 a o hk,hc,n,by simpa using hs⟩,?_⟩;have e:=r.length;simp only[Array.length_toList] at e;lia
theorem Inv.mP(I:Inv X pins σ H s)(h:ft X.K H a xs)(h':ft X.K H a ys):xs=ys:=by
 obtain⟨bB,r,⟨o,n,e,_,_,d⟩,_⟩:=I.list h;obtain⟨its',r',⟨o',n',e',_,_,d'⟩,_⟩:=I.list h';rw[e] at e';cases e';rw[d] at d';injection d' with d1 _;have:bB=its':=by simpa using congrArg Array.toList d1
 subst this;exact r.inj r'
theorem Inv.Ik(I:Inv X pins σ H s)(h:qB X.K H a xs)(h':qB X.K H a ys):xs=ys:=by
 obtain⟨bB,r,⟨o,e,_,n,d⟩,_⟩:=I.tuple h;obtain⟨its',r',⟨o',e',_,n',d'⟩,_⟩:=I.tuple h';rw[e] at e';cases e';rw[d] at d';injection d' with d1 _;have:bB=its':=by simpa using congrArg Array.toList d1
 subst this;exact r.inj r'
end
abbrev Cx.yU(X:Cx)(E:Value->Shared->Prop):Cx:={X with xe:=E}
abbrev Cx.J7(X:Cx):Cx:=X.yU λ_ _=>False
theorem Cx.Ok.yU{X:Cx}(ok:X.Ok)(E:Value->Shared->Prop):(X.yU E).Ok:=
 ⟨ok.mod,ok.kind,ok.glob,ok.blt,ok.above,ok.inj,ok.has,ok.Qf,ok.hd,ok.frames,ok.RH,ok.U_,ok.bs,ok.GD,ok.xb,ok.D7,ok.oZ,ok.J6⟩
theorem Cx.Ok.o_{X:Cx}{E:Value->Shared->Prop}(ok:(X.yU E).Ok):X.Ok:=
 ⟨ok.mod,ok.kind,ok.glob,ok.blt,ok.above,ok.inj,ok.has,ok.Qf,ok.hd,ok.frames,ok.RH,ok.U_,ok.bs,ok.GD,ok.xb,ok.D7,ok.oZ,ok.J6⟩
section
variable {X:Cx} {pins:List (Addr×Obj)} {σ:St} {H:Hp} {s:Shared} {E:Value->Shared->Prop}
theorem Inv.yU(I:Inv X pins σ H s)(E:Value->Shared->Prop):Inv (X.yU E) pins σ H s:=⟨I.ok.yU E,I.os,I.bare,I.base,I.loc,I.cell,I.free,I.jD,I.pin,I.b_,I.len⟩
theorem Inv.o_(I:Inv (X.yU E) pins σ H s):Inv X pins σ H s:=⟨I.ok.o_,I.os,I.bare,I.base,I.loc,I.cell,I.free,I.jD,I.pin,I.b_,I.len⟩
theorem SP.o_{D:Ends}{f:Flow}{s':Shared}(h:SP (X.yU E) pins D f s'):SP X pins D f s':=by
 cases f with
 |next=>obtain⟨cH,H',I,q⟩:=h;exact⟨cH,H',I.o_,q⟩
 |brk=>obtain⟨cH,H',I,q⟩:=h;exact⟨cH,H',I.o_,q⟩
 |cont=>obtain⟨cH,H',I,q⟩:=h;exact⟨cH,H',I.o_,q⟩
 |ret u=>obtain⟨v,cH,H',I,r,q⟩:=h;exact⟨v,cH,H',I.o_,r,q⟩
theorem vJ.J7{st:List Stmt}{t:TS}(h:vJ X.J7 st t):vJ X st t:=λpins s σ H D I hw=>
 wpAny_mono (h pins s σ H D (I.yU _) hw) (λ_ _ q=>q.o_) λ_ _ z=>False.elim z
end
section
variable {X:Cx} {st:Stmt} {rest:List Stmt} {t u:TS} {e:Expr} {te:TE} {pos:Pos}
def B2:TS:=λD σ H=>D.nx σ H
def Ae(t u:TS):TS:=λD σ H=>t {D with nx:=u D} σ H
theorem aO:vJ X [] B2:=λ_ _ σ H _ I h=>wpAny_execs_nil ⟨σ,H,I,h⟩
theorem ag(h1:PS X st t)(h2:vJ X rest u):vJ X (st::rest) (Ae t u):=by
 intro pins s σ H D I h;refine wpAny_execs_cons (cB (h1 pins s σ H {D with nx:=u D} I h) λf s1 q=>?_);cases f with
 |next=>
  obtain⟨cH,H',I',q⟩:=q;exact h2 pins s1 cH H' D I' q
 |ret v=>exact q
 |brk=>exact q
 |cont=>exact q
theorem aq(h1:PS X st t):vJ X [st] t:=by
 intro pins s σ H D I h;refine wpAny_execs_cons (cB (h1 pins s σ H D I h) λf s1 q=>?_);cases f with
 |next=>exact wpAny_execs_nil q
 |ret v=>exact q
 |brk=>exact q
 |cont=>exact q
theorem Inv.quiet{pins:List (Addr×Obj)}{σ:St}{H:Hp}{s:Shared}(I:Inv X pins σ H s):interactive X.env=false:=by simp[interactive,I.ok.kind]
def B3(te:TE):TS:=λD σ H=>te σ H λ_ H1=>D.nx σ H1
theorem gC(he:PE X e te)(hs:swapsWith e none pos.line X.env=pure false:=by rfl):PS X (.Expr e pos) (B3 te):=by
 intro pins s σ H D I h;exact wpAny_Expr_any (cB (he pins s σ H _ I h) λv s1⟨x,H1,I1,r1,q1⟩=>⟨σ,H1,I1,q1⟩) I.quiet hs
def Af(te:TE):TS:=λD σ H=>te σ H D.rt
theorem aC(he:PE X e te):PS X (.Return (some e) pos) (Af te):=by
 intro pins s σ H D I h;exact wpAny_Return_some (cB (he pins s σ H _ I h) λv s1⟨x,H1,I1,r1,q1⟩=>⟨x,σ,H1,I1,r1,q1⟩)
def RK(c:TT)(t u:TS):TS:=λD σ H=>c σ H λb H1=>if b=true then t D σ H1 else u D σ H1
theorem bj{c:Expr}{a b:List Stmt}{tc:TT}(hc:PT X c tc)(ha:vJ X a t)(hb:vJ X b u):PS X (.If c a b pos) (RK tc t u):=by
 intro pins s σ H D I h;refine wpAny_If (cB (hc pins s σ H _ I h) λd s1⟨H1,I1,q1⟩=>?_);cases d with
 |true=>exact ha pins s1 σ H1 D I1 q1
 |false=>exact hb pins s1 σ H1 D I1 q1
def RL:TS:=λ_ _ _=>False
theorem dQ:PS X st RL:=λ_ _ _ _ _ _ h=>h.elim
end
abbrev TG:=V->St->Hp->(St->Hp->Prop)->Prop
abbrev Nr:=List V->St->Hp->(St->Hp->Prop)->Prop
def PG(X:Cx)(target:Expr)(t:TG):Prop:=
 ∀(pins:List (Addr×Obj))(s:Shared)(σ:St)(H:Hp)(v:V)(u:Value)(Q:St->Hp->Prop),Inv X pins σ H s->RelV v u->t v σ H Q->
  wpAny (model X.prog X.w) X.A (assign target X.env u) (λ_ s'=>∃cH H',Inv X pins cH H' s'/\Q cH H') X.xe s
def Vd(X:Cx)(ts:List Expr)(t:Nr):Prop:=
 ∀(pins:List (Addr×Obj))(s:Shared)(σ:St)(H:Hp)(vs:List V)(us:List Value)(Q:St->Hp->Prop),Inv X pins σ H s->Vals vs us->t vs σ H Q->
  wpAny (model X.prog X.w) X.A (assignInOrder ((assignEach ts X.env).map (·.2)) us) (λ_ s'=>∃cH H',Inv X pins cH H' s'/\Q cH H') X.xe s
abbrev NQ:=V->V->V->Hp->(Hp->Prop)->Prop
def Ve(X:Cx)(t:NQ):Prop:=
 ∀(pins:List (Addr×Obj))(s:Shared)(σ:St)(H:Hp)(o i v:V)(ov iv u:Value)(Q:Hp->Prop),Inv X pins σ H s->RelV o ov->RelV i iv->RelV v u->t o i v H Q->
  wpAny (model X.prog X.w) X.A (setItem ov iv u) (λ_ s'=>∃H',Inv X pins σ H' s'/\Q H') X.xe s
section
variable {X:Cx} {pos:Pos}
def fj(i:Nat):TG:=λv σ H Q=>Q (σ.set i (some v)) H
theorem bp{i:Nat}{x:Str}(hN:X.N.Nodup)(hi:X.N[i]?=some x)(hx:Loc X.env.scope x)(hf:X.fn x=true\/X.env.scope.names.lookup x=some .local:=by first|exact .inl rfl|exact .inr rfl|assumption):PG X (.Name x pos) (fj i):=by
 intro pins s σ H v u Q I r h;exact wpAny_assign_Name (xf I hN hi hx r (λs' I'=>⟨_,H,I',h⟩) hf)
def B4:Nr:=λvs σ H Q=>vs=[]/\Q σ H
def ma(t:TG)(u:Nr):Nr:=λvs σ H Q=>∃v r,vs=v::r/\t v σ H λcH H'=>u r cH H' Q
theorem g_:Vd X [] B4:=by
 intro pins s σ H vs us Q I r h;obtain⟨e,h⟩:=h;subst e;cases r;exact assignInOrder_nil ⟨σ,H,I,h⟩
theorem bZ{e:Expr}{es:List Expr}{t:TG}{u:Nr}(h1:PG X e t)(h2:Vd X es u)(hs:(assignEach (e::es) X.env).map (·.2)=assign e X.env::(assignEach es X.env).map (·.2):=by rfl):Vd X (e::es) (ma t u):=by
 intro pins s σ H vs us Q I r h;obtain⟨v,vr,e1,h⟩:=h;subst e1;cases r with
 |cons r rr=>
  rw[hs];refine assignInOrder_cons (cB (h1 pins s σ H _ _ _ I r h) λ_ s1 ⟨bc,H1,I1,q1⟩=>?_);exact h2 pins s1 bc H1 _ _ Q I1 rr q1
def Ag(K:PySem.W.Frag)(n:Nat)(t:Nr):TG:=λv σ H Q=>∃a xs,v=.ref a/\qB K H a xs/\xs.length=n/\t xs σ H Q
theorem qP{es:List Expr}{k:Nat}{t:Nr}{n:Nat}(hc:X.calm=true)(h:Vd X es t)(hn:(assignEach es X.env).length=n:=by rfl)(qQ:(assignEach es X.env).findIdx? (·.1)=none:=by rfl):PG X (.Tuple es k pos) (Ag X.K n t):=by
 intro pins s σ H v u Q I r hw;obtain⟨a,xs,e1,hq,hl,hw⟩:=hw;subst e1;cases r;obtain⟨bB,rv,ht,hz⟩:=I.tuple hq;refine assign_Tuple_tuple (I.ok.hd hc) ht (by simp[hn,<-hl,rv.length]) qQ λh' hx=>?_;have I1:Inv X pins σ H {s with heap:=h'}:=I.kept (t':=s.toks) λb o e=>hx b o (Nat.ne_of_lt (Heap.lt_size e)) e;exact h pins _ σ H xs _ Q I1 (by simpa using rv) hw
def RM(to ti:TE)(t:NQ):TG:=λv σ H Q=>to σ H λo H1=>ti σ H1 λi H2=>t o i v H2 λH3=>Q σ H3
theorem xi{o i:Expr}{to ti:TE}{t:NQ}(ho:PE X o to)(hi:PE X i ti)(hs:Ve X t)(ha:∀v,assign (.Subscript o i pos) X.env v=(do
 let ov<-holding [v] (eval o X.env)
 let iv<-holding [v,ov] (eval i X.env)
 standAt pos
 holding [v,ov,iv] (setItem ov iv v)
 release [v,ov,iv] []):=by intro _;rfl):PG X (.Subscript o i pos) (RM to ti t):=by
 intro pins s σ H v u Q I r h;rw[ha];refine wpAny_bind (wpAny_holding (cB (ho pins s σ H _ I h) λov s1⟨x,H1,I1,r1,q1⟩=>?_));refine wpAny_bind (wpAny_holding (cB (hi pins s1 σ H1 _ I1 q1) λiv s2⟨y,H2,I2,r2,q2⟩=>?_));refine wpAny_bind (wpAny_standAt (wpAny_bind (wpAny_holding (cB (hs pins s2 σ H2 x y v ov iv u _ I2 r1 r2 r q2) λ_ s3 ⟨H3,I3,q3⟩=>?_))));exact wpAny_release ⟨σ,H3,I3,q3⟩
def sG(te:TE)(g:TG):TS:=λD σ H=>te σ H λx H1=>g x σ H1 D.nx
theorem uq{tg e:Expr}{te:TE}{g:TG}(he:PE X e te)(hg:PG X tg g)(hs:swapsWithSole [tg] e pos.line X.env=pure false:=by rfl)(hw:swappedStores [tg] e X.env=pure none:=by rfl)(h1:(assignEach [tg] X.env).map (·.2)=[assign tg X.env]:=by rfl):PS X (.Assign [tg] e pos) (sG te g):=by
 intro pins s σ H D I h;refine wpAny_Assign_stores (cB (he pins s σ H _ I h) λv s1⟨x,H1,I1,r1,q1⟩=>?_) hs hw;rw[h1];exact cB (hg pins s1 σ H1 x v _ I1 r1 q1) λ_ s2 q=>q
theorem aw{i:Nat}{x:Str}{e:Expr}{te:TE}{pos':Pos}(hN:X.N.Nodup)(hi:X.N[i]?=some x)(hx:Loc X.env.scope x)(he:PE X e te)(hs:swapsWith e (some (.Name x pos')) pos.line X.env=pure false:=by rfl)(hf:X.fn x=true\/X.env.scope.names.lookup x=some .local:=by first|exact .inl rfl|exact .inr rfl|assumption):
 PS X (.Assign [.Name x pos'] e pos) (sG te (fj i)):=by
 intro pins s σ H D I h;refine wpAny_Assign_Name (cB (he pins s σ H _ I h) λv s1⟨y,H1,I1,r1,q1⟩=>?_) hs;exact xf I1 hN hi hx r1 (λs2 I2=>⟨_,H1,I2,q1⟩) hf
end
section
variable {X:Cx} {pos:Pos}
def D9(c:TT)(tb:TS):TS:=λD σ H=>∃W:Nat->St->Hp->Prop,(∃m,W m σ H)/\∀m σ H,W m σ H->
 c σ H λb H1=>if b=true then ∃N:St->Hp->Prop,(∀cH H',N cH H'->∃m',m'<m/\W m' cH H')/\tb {D with nx:=N,ct:=N,bk:=D.nx} σ H1 else D.nx σ H1
theorem dj{c:Expr}{body:List Stmt}{tc:TT}{tb:TS}(hp:PassesOwn (model X.prog X.w) X.A X.env X.xe)(hc:PT X c tc)(hb:vJ X body tb):PS X (.While c body [] pos) (D9 tc tb):=by
 intro pins s σ H D I h;obtain⟨W,⟨m0,w0⟩,turn⟩:=h;refine wpAny_While (codeAny_whileLoop (λn s'=>∃cH H',Inv X pins cH H' s'/\W n cH H') ?_ m0 ⟨σ,H,I,w0⟩);rintro n s1 ⟨bc,H1,I1,w1⟩;refine wpAny_passesOwn hp (cB (hc pins s1 bc H1 _ I1 (turn n bc H1 w1)) λb s2⟨H2,I2,q2⟩=>?_);cases b with
 |true=>
  obtain⟨N,hN,q2⟩:=q2;rw[if_pos rfl];refine wpAny_passesOwn hp (cB (hb pins s2 bc H2 _ I2 q2) λf s3 q3=>?_);cases f with
  |next=>
   obtain⟨sH,H3,I3,n3⟩:=q3;obtain⟨m',hm,w3⟩:=hN sH H3 n3;exact⟨m',hm,sH,H3,I3,w3⟩
  |cont=>
   obtain⟨sH,H3,I3,n3⟩:=q3;obtain⟨m',hm,w3⟩:=hN sH H3 n3;exact⟨m',hm,sH,H3,I3,w3⟩
  |brk=>exact q3
  |ret v=>exact q3
 |false=>
  rw[if_neg Bool.false_ne_true];exact wpAny_execs_nil ⟨bc,H2,I2,q2⟩
end
structure It where
 go:Nat->Hp->Prop
 Kj:Nat->Hp->V->Hp->Prop
 stop:Nat->Hp->Prop
def lY(X:Cx)(pins:List (Addr×Obj))(H:Hp)(b:Addr):Prop:=
 H b=none/\b≠X.env.locals/\b∉X.fs/\(b∈X.ex\/X.ku.heap.objs.size<=b)/\(∀x c,X.env.cells.lookup x=some c->c≠b)/\∀p∈X.pn++pins,p.1≠b
theorem Inv.ur{X:Cx}{pins:List (Addr×Obj)}{σ:St}{H H':Hp}{s:Shared}{b:Addr}(I:Inv X pins σ H s)(hb:s.heap.objs.size<=b)(hn:H' b=none):lY X pins H' b:=by
 refine⟨hn,Nat.ne_of_gt (Nat.lt_of_lt_of_le I.lt hb),I.Yr hb,.inr (Nat.le_trans I.sz hb),λx c e z=>?_,λp hp z=>?_⟩
 ·obtain⟨v,q⟩:=I.cell x c e;exact absurd (Nat.lt_of_lt_of_le q.lt (by rw[z];exact hb)) (Nat.lt_irrefl _)
 ·exact absurd (Nat.lt_of_lt_of_le (Heap.lt_size (I.pin p hp).1) (by rw[z];exact hb)) (Nat.lt_irrefl _)
structure Turn(P:Program)(w:World)(K:PySem.W.Frag)(tg:Expr)(J:It)(fp:List Addr)(it:Addr)(tn:Nat->Heap->Prop):Prop where
 mem:it∈fp
 obj:∀i h,tn i h->∀b∈fp,∃o,h.get? b=some o/\∀v,o.data≠.cell v
 keep:∀i h h',tn i h->(∀b∈fp,∀o,h.get? b=some o->h'.get? b=some o)->tn i h'
 item:∀(X:Cx),X.prog=P->X.w=w->X.K=K->X.calm=true->∀(i:Nat)(pins:List (Addr×Obj))(s:Shared)(σ:St)(H:Hp)(E:Value->Shared->Prop),Inv X pins σ H s->(∀b∈fp,lY X pins H b)->tn i s.heap->J.go i H->
  wpAny (model P w) X.A (pyNext (.ref it)) (λr s1=>∃u,r=some u/\
   wpAny (model P w) X.A (letOwnedTupleGo tg (.ref it) u) (λ_ s2=>∃x H',Inv X pins σ H' s2/\RelV x u/\J.Kj i H x H'/\tn (i+1) s2.heap/\∀b∈fp,H' b=none) E s1) E s
 done:∀(X:Cx),X.prog=P->X.w=w->X.K=K->X.calm=true->∀(i:Nat)(pins:List (Addr×Obj))(s:Shared)(σ:St)(H:Hp)(E:Value->Shared->Prop),Inv X pins σ H s->(∀b∈fp,lY X pins H b)->tn i s.heap->J.stop i H->
  wpAny (model P w) X.A (pyNext (.ref it)) (λr s1=>r=none/\Inv X pins σ H s1) E s
 self:∀(A:Around)(i:Nat)(s:Shared)(Q:Value->Shared->Prop)(E:Value->Shared->Prop),tn i s.heap->Q (.ref it) s->wpAny (model P w) A (pyIter (.ref it)) Q E s
abbrev TI:=St->Hp->(It->Hp->Prop)->Prop
def PIE(X:Cx)(pins:List (Addr×Obj))(σ:St)(tg:Expr)(R:It->Hp->Prop)(RN:Value)(s2:Shared):Prop:=
 ∃(it:Addr)(fp:List Addr)(tn:Nat->Heap->Prop)(J:It)(H':Hp),RN=.ref it/\Inv X pins σ H' s2/\Turn X.prog X.w X.K tg J fp it tn/\tn 0 s2.heap/\(∀b∈fp,lY X pins H' b)/\R J H'
def PI(X:Cx)(tg iter:Expr)(wi:TI):Prop:=
 ∀(pins:List (Addr×Obj))(s:Shared)(σ:St)(H:Hp)(R:It->Hp->Prop),Inv X pins σ H s->wi σ H R->
  wpAny (model X.prog X.w) X.A (eval iter X.env) (λv s1=>wpAny (model X.prog X.w) X.A (pyIter v) (PIE X pins σ tg R) X.xe s1) X.xe s
theorem GG{M:Model}{A:Around}{E:Value->Shared->Prop}{s:Shared}{tg:Expr}{it:Addr}{u:Value}{o:Obj}{n:String}{vs:Array Value}{Q:Unit->Shared->Prop}(ho:s.heap.get? it=some o)(hc:o.cls=.type n)(hd:o.data=.fields vs)(hn:["enumerate","zip","dict_itemiterator","dict_reverseitemiterator","odict_iterator","itertools.zip_longest","itertools.pairwise"].contains n=false)(hQ:Q () s):wpAny M A (letOwnedTupleGo tg (.ref it) u) Q E s:=by
 unfold letOwnedTupleGo;cases tg<;>first
  |exact wpAny_pure hQ
  |(cases u<;>first
     |exact wpAny_pure hQ
     |(refine wpAny_bind (wpAny_load ho ?_)
       rw[hc,hd]
       show wpAny M A (if(["enumerate","zip","dict_itemiterator","dict_reverseitemiterator","odict_iterator","itertools.zip_longest","itertools.pairwise"].contains n&&vs[0]?==some (rawInt _))=true then _ else _) Q E s
       rw[if_neg (by intro h;rw[hn,Bool.false_and] at h;cases h)]
       exact wpAny_pure hQ))
def Vf(K:PySem.W.Frag)(a:Addr):It:=
 ⟨λi H=>∃xs x,ft K H a xs/\xs[i]?=some x,λi H x H'=>H'=H/\∀xs,ft K H a xs->xs[i]?=some x,λi H=>∃xs,ft K H a xs/\xs.length<=i⟩
def Nt(lo:Int)(n:Nat):It:=⟨λi _=>i<n,λi H x H'=>H'=H/\x=.int (lo+i),λi _=>n<=i⟩
theorem Il{P:Program}{w:World}{K:PySem.W.Frag}{tg:Expr}(a it:Addr):Turn P w K tg (Vf K a) [it] it (λi h=>h.IsListIter it a i) where
 mem:=by simp
 obj:=λi h st b hb=>by
  have e:b=it:=by simpa using hb
  subst e;obtain⟨o,e,c,d⟩:=st;exact⟨o,e,λv z=>by rw[d] at z;cases z⟩
 keep:=λi h h' st k=>st.at λo e=>k it (by simp) o e
 item:=by
  intro X hP hw hK hc i pins s σ H E I hf st hg;subst hP hw hK;obtain⟨xs,x,hq,hx⟩:=hg;obtain⟨bB,rv,p,hz⟩:=I.list hq;obtain⟨u,hu,ru⟩:=rv.get hx;obtain⟨f0,f1,f2,f3,f4,f5⟩:=hf it (by simp);refine wpAny_pyNext_list_item st p.isList (x:=u) (by simpa using hu) λh' Vg sb=>?_;have I1:Inv X pins σ H {s with heap:=h'}:=I.turned (t':=s.toks) (λb o hb e=>(sb.2 b hb).trans e) f0 f1 f3 f4 f5;obtain⟨o,e,c,d⟩:=id Vg;exact⟨u,rfl,GG (s:={s with heap:=h'}) e c d (by decide) ⟨x,H,I1,ru,⟨rfl,λys hy=>by rw[I.mP hy hq];exact hx⟩,Vg,λb hb=>(hf b hb).1⟩⟩
 done:=by
  intro X hP hw hK hc i pins s σ H E I hf st hg;subst hP hw hK;obtain⟨xs,hq,hx⟩:=hg;obtain⟨bB,rv,p,hz⟩:=I.list hq;obtain⟨f0,f1,f2,f3,f4,f5⟩:=hf it (by simp);have hl:=rv.length;exact wpAny_pyNext_list_end (I.ok.hd hc) st p.isList (by simp;lia) λh' eb=>⟨rfl,I.turned (t':=s.toks) (λb o hb e=>eb b o hb e) f0 f1 f3 f4 f5⟩
 self:=λ_ _ _ _ _ st h=>wpAny_pyIter_listiter st h
theorem D_{P:Program}{w:World}{K:PySem.W.Frag}{tg:Expr}(it:Addr)(lo:Int)(n:Nat):Turn P w K tg (Nt lo n) [it] it (λi h=>IsRangeIter h it (lo+(i:Nat)*1) ((n:Int)-(i:Nat)) 1) where
 mem:=by simp
 obj:=λi h st b hb=>by
  have e:b=it:=by simpa using hb
  subst e;exact⟨_,st,λv z=>by
   have z':Data.fields _=Data.cell v:=z
   cases z'⟩
 keep:=λi h h' st k=>k it (by simp) _ st
 item:=by
  intro X hP hw hK hc i pins s σ H E I hf st hg;subst hP hw hK;obtain⟨f0,f1,f2,f3,f4,f5⟩:=hf it (by simp);have W:=Walks.range (prog:=X.prog) (w:=X.w) (I.ok.hd hc) it lo 1 n;refine W.item i s _ _ hg st λv h' tk hv Vg kk=>?_;obtain⟨t,rfl⟩:=hv;have I1:Inv X pins σ H {s with heap:=h',toks:=tk}:=I.turned (λb o hb e=>kk b o (by simpa using hb) e) f0 f1 f3 f4 f5;refine⟨_,rfl,GG (s:={s with heap:=h',toks:=tk}) (n:="range_iterator") Vg rfl rfl (by decide) ⟨.int (lo+i),H,I1,⟨t,?_⟩,⟨rfl,rfl⟩,Vg,λb hb=>(hf b hb).1⟩⟩;rw[Int.mul_one]
 done:=by
  intro X hP hw hK hc i pins s σ H E I hf st hg;subst hP hw hK;obtain⟨f0,f1,f2,f3,f4,f5⟩:=hf it (by simp);exact wpAny_pyNext_range_end (I.ok.hd hc) st (by have:n<=i:=hg;lia) λh' eb=>⟨rfl,I.turned (t':=s.toks) (λb o hb e=>eb b o hb e) f0 f1 f3 f4 f5⟩
 self:=λ_ _ _ _ _ st h=>wpAny_pyIter_rangeiter st h
section
variable {X:Cx} {tg:Expr}
def zy(K:PySem.W.Frag)(tl:TE):TI:=λσ H R=>tl σ H λx H1=>∃a,x=.ref a/\(∃xs,ft K H1 a xs)/\R (Vf K a) H1
theorem iZ{l:Expr}{tl:TE}(hl:PE X l tl):PI X tg l (zy X.K tl):=by
 intro pins s σ H R I h;refine cB (hl pins s σ H _ I h) λv s1⟨x,H1,I1,r1,q1⟩=>?_;obtain⟨a,e,⟨xs,hq⟩,q⟩:=q1;subst e;cases r1;obtain⟨bB,rv,p,hz⟩:=I1.list hq;refine wpAny_pyIter_list p.isList ?_;refine⟨s1.heap.objs.size,[s1.heap.objs.size],_,_,H1,rfl,I1.kept (t':=s1.toks) λb o e=>Heap.get?_push_of_some _ e,Il a _,⟨_,Heap.get?_push_size _ rfl,rfl,rfl⟩,λb hb=>?_,q⟩;have e:b=s1.heap.objs.size:=by simpa using hb
 subst e;exact I1.ur (Nat.le_refl _) (I1.b_.fresh (Nat.le_refl _))
theorem B5{pins:List (Addr×Obj)}{σ:St}{H:Hp}{s:Shared}{R:It->Hp->Prop}{E:Value->Shared->Prop}{lo hi:Int}{t u v:Tok}{tk:Nat}(I:Inv X pins σ H s)(h1:-(2^62)<=lo)(h2:lo<2^62)(h3:-(2^62)<=hi)(h4:hi<2^62)(q:R (Nt lo (hi-lo).toNat) H):wpAny (model X.prog X.w) X.A (pyIter (.ref s.heap.objs.size)) (PIE X pins σ tg R) E {s with heap:=s.heap.push {cls:=.type "range",data:=.fields #[.int lo t,.int hi u,.int 1 v]},toks:=tk}:=by
 refine wpAny_pyIter_range (IsRange.new ..) (small_one h1 h2 h3 h4) ?_;have I1:Inv X pins σ H {s with heap:=s.heap.push {cls:=.type "range",data:=.fields #[.int lo t,.int hi u,.int 1 v]},toks:=tk}:=I.kept λb o e=>Heap.get?_push_of_some _ e;refine⟨(s.heap.push {cls:=.type "range",data:=.fields #[.int lo t,.int hi u,.int 1 v]}).objs.size,[(s.heap.push {cls:=.type "range",data:=.fields #[.int lo t,.int hi u,.int 1 v]}).objs.size],_,_,H,rfl,
  I1.kept (t':=tk) λb o e=>Heap.get?_push_of_some _ e,D_ _ lo (hi-lo).toNat,?_,λb hb=>?_,q⟩
 ·have e1:lo+((0:Nat):Int)*1=lo:=by simp
  have e2:(((hi-lo).toNat:Nat):Int)-((0:Nat):Int)=Builtin.Range.rangeSize lo hi 1:=by rw[rangeSize_one];split<;>lia
  show IsRangeIter _ _ (lo+((0:Nat):Int)*1) ((((hi-lo).toNat:Nat):Int)-((0:Nat):Int)) 1;rw[e1,e2];exact Heap.get?_push_size _ rfl
 ·have e:b=(s.heap.push {cls:=.type "range",data:=.fields #[.int lo t,.int hi u,.int 1 v]}).objs.size:=by simpa using hb
  subst e;exact I1.ur (Nat.le_refl _) (I1.b_.fresh (Nat.le_refl _))
def Kk(ta:TA):TI:=λσ H R=>ta σ H λvs H1=>∃j:Int,vs=[.int j]/\-(2^62)<=j/\j<2^62/\R (Nt 0 j.toNat) H1
def Kl(ta:TA):TI:=λσ H R=>ta σ H λvs H1=>∃i j:Int,vs=[.int i,.int j]/\(-(2^62)<=i/\i<2^62/\-(2^62)<=j/\j<2^62)/\R (Nt i (j-i).toNat) H1
theorem zA{a:Expr}{ta:TA}{p pos:Pos}(hg:Gl X "range")(hm:X.mg "range"=none)(ha:PA X [a] ta)(hs:starEach [a] X.env=[(false,eval a X.env)]:=by rfl):PI X tg (.Call (.Name "range" p) [a] [] pos) (Kk ta):=by
 intro pins s σ H R I h;refine Call_ (lg I hg hm boot_range (PyProof.Rows.callWith_type1 (cB (ha pos pins s σ H _ I h) λus s1⟨vs,H1,I1,r1,q1⟩=>?_) hs rfl));obtain⟨j,e,q1,q2,q⟩:=q1;subst e;cases r1 with
 |cons r rr=>
  cases rr;obtain⟨t,rfl⟩:=r;exact call_range_1 (B5 I1 (by lia) (by lia) q1 q2 (by simpa using q))
theorem jH{a b:Expr}{ta:TA}{p pos:Pos}(hg:Gl X "range")(hm:X.mg "range"=none)(ha:PA X [a,b] ta)(hs:starEach [a,b] X.env=[(false,eval a X.env),(false,eval b X.env)]:=by rfl)(BU:starEach [b] X.env=[(false,eval b X.env)]:=by rfl):
 PI X tg (.Call (.Name "range" p) [a,b] [] pos) (Kl ta):=by
 intro pins s σ H R I h;refine Call_ (lg I hg hm boot_range (PyProof.Rows.callWith_type1 (cB (ha pos pins s σ H _ I h) λus s1⟨vs,H1,I1,r1,q1⟩=>?_) (by rw[hs,BU]) (by rw[BU];rfl)));obtain⟨i,j,e,⟨q1,q2,q3,q4⟩,q⟩:=q1;subst e;cases r1 with
 |cons r rr=>
  cases rr with
  |cons r' rr=>
   cases rr;obtain⟨t,rfl⟩:=r;obtain⟨t',rfl⟩:=r';exact call_range_2 (B5 I1 q1 q2 q3 q4 q)
def RO(wi:TI)(g:TG)(tb:TS):TS:=λD σ H=>wi σ H λJ H1=>∃W:Nat->Nat->St->Hp->Prop,(∃m,W 0 m σ H1)/\∀i m σ H,W i m σ H->
 (J.stop i H/\D.nx σ H)\/(J.go i H/\∃N:St->Hp->Prop,(∀cH H',N cH H'->∃m',m'<m/\W (i+1) m' cH H')/\∀x H',J.Kj i H x H'->g x σ H' λbQ H2=>tb {D with nx:=N,ct:=N,bk:=D.nx} bQ H2)
def Ah(fp:List Addr)(h:Heap):List (Addr×Obj):=fp.filterMap λb=>(h.get? b).map λo=>(b,o)
theorem eW{fp:List Addr}{h:Heap}{b:Addr}{o:Obj}(hb:b∈fp)(e:h.get? b=some o):(b,o)∈Ah fp h:=List.mem_filterMap.mpr ⟨b,hb,by rw[e];rfl⟩
theorem Im{fp:List Addr}{h:Heap}{p:Addr×Obj}(hp:p∈Ah fp h):p.1∈fp/\h.get? p.1=some p.2:=by
 obtain⟨b,hb,e⟩:=List.mem_filterMap.mp hp;cases q:h.get? b with
 |none=>rw[q] at e;cases e
 |some o=>
  rw[q] at e;have e':(b,o)=p:=Option.some.inj e;subst e';exact⟨hb,q⟩
theorem Inv.pinned{pins:List (Addr×Obj)}{σ:St}{H:Hp}{s:Shared}{fp:List Addr}(I:Inv X pins σ H s)(hf:∀b∈fp,lY X pins H b)(ho:∀b∈fp,∃o,s.heap.get? b=some o/\∀v,o.data≠.cell v):Inv X (pins++Ah fp s.heap) σ H s:=
 I.GF λp hp=>(List.mem_append.mp hp).elim (λz=>I.pin p (List.mem_append_right _ z)) λz=>by
  obtain⟨hb,e⟩:=Im z;obtain⟨f0,f1,f2,_⟩:=hf p.1 hb;obtain⟨o,e',d⟩:=ho p.1 hb;rw[e] at e';cases e';exact⟨e,f0,f1,f2,d⟩
theorem Inv.kf{pins pl:List (Addr×Obj)}{σ:St}{H:Hp}{s:Shared}(I:Inv X (pins++pl) σ H s):Inv X pins σ H s:=I.GF λp hp=>I.pin p (List.mem_append_right _ (List.mem_append_left _ hp))
theorem eB{iter:Expr}{body:List Stmt}{wi:TI}{g:TG}{tb:TS}{pos:Pos}(hp:PassesOwn (model X.prog X.w) X.A X.env X.xe)(hc:X.calm=true)(hi:PI X tg iter wi)(hg:PG X tg g)(hb:vJ X body tb)(hs:∀x,foldedSetIterable iter X.env x=pure x:=by intro _;rfl):PS X (.For tg iter body [] pos) (RO wi g tb):=by
 intro pins s σ H D I h;refine wpAny_For (cB (hi pins s σ H _ I h) λv s1 h1=>cB h1 λRN s2 h2=>?_) hs;obtain⟨it,fp,tn,J,H2,e,I2,T,wG,f2,W,⟨m0,w0⟩,turn⟩:=h2;subst e;have qR:∀{H':Hp},(∀b∈fp,H' b=none)->∀b∈fp,lY X pins H' b:=λhn b hb=>⟨hn b hb,(f2 b hb).2⟩;refine codeAny_forLoop_any (λn s'=>∃i cH H',Inv X pins cH H' s'/\tn i s'.heap/\(∀b∈fp,H' b=none)/\W i n cH H') ?_ m0 ⟨0,σ,H2,I2,wG,λb hb=>(f2 b hb).1,w0⟩;rintro n s3 ⟨i,sH,H3,I3,B6,fr3,w3⟩;rcases turn i n sH H3 w3 with⟨stop,qn⟩|⟨go,N,hN,step⟩
 ·refine wpAny_passesOwn hp (cB (T.done X rfl rfl rfl hc i pins s3 sH H3 X.xe I3 (qR fr3) B6 stop) λr s4⟨hr,I4⟩=>?_);subst hr;exact wpAny_execs_nil ⟨sH,H3,I4,qn⟩
 ·refine wpAny_passesOwn hp (cB (T.item X rfl rfl rfl hc i pins s3 sH H3 X.xe I3 (qR fr3) B6 go) λr s4⟨u,hr,h4⟩=>?_);subst hr;refine wpAny_passesOwn hp (cB h4 λ_ s5 ⟨x,H5,I5,r5,y5,yP,Nu⟩=>?_);have I5':=I5.pinned (qR Nu) (T.obj _ _ yP);refine wpAny_passesOwn hp (cB (hg _ s5 sH H5 x u _ I5' r5 (step x H5 y5)) λ_ s6 ⟨D0,H6,I6,q6⟩=>?_);refine wpAny_passesOwn hp (cB (hb _ s6 D0 H6 _ I6 q6) λf s7 q7=>?_);have again:∀{yQ:St}{H7:Hp},Inv X (pins++Ah fp s5.heap) yQ H7 s7->N yQ H7->∃m,m<n/\∃i cH H',Inv X pins cH H' s7/\tn i s7.heap/\(∀b∈fp,H' b=none)/\W i m cH H':=λ{yQ H7} I7 n7=>by
   obtain⟨m',hm,w7⟩:=hN yQ H7 n7;refine⟨m',hm,i+1,yQ,H7,I7.kf,T.keep _ _ _ yP λb hb o e=>(I7.pin (b,o) (List.mem_append_right _ (List.mem_append_right _ (eW hb e)))).1,λb hb=>?_,w7⟩;obtain⟨o,e,d⟩:=T.obj _ _ yP b hb;exact(I7.pin (b,o) (List.mem_append_right _ (List.mem_append_right _ (eW hb e)))).2.1
  cases f with
  |next=>obtain⟨yQ,H7,I7,n7⟩:=q7;exact again I7 n7
  |cont=>obtain⟨yQ,H7,I7,n7⟩:=q7;exact again I7 n7
  |brk=>obtain⟨yQ,H7,I7,q7⟩:=q7;exact⟨yQ,H7,I7.kf,q7⟩
  |ret v=>obtain⟨x7,yQ,H7,I7,r7,q7⟩:=q7;exact⟨x7,yQ,H7,I7.kf,r7,q7⟩
end
theorem Io{lo:Int}{n:Nat}{g:TG}{tb:TS}{D:Ends}{σ:St}{H:Hp}(Pv:Nat->St->Hp->Prop)(h0:Pv 0 σ H)(hs:∀i σ H,i<n->Pv i σ H->g (.int (lo+i)) σ H λbQ H2=>tb {D with nx:=Pv (i+1),ct:=Pv (i+1),bk:=D.nx} bQ H2)(hd:∀σ H,Pv n σ H->D.nx σ H):
 ∃W:Nat->Nat->St->Hp->Prop,(∃m,W 0 m σ H)/\∀i m σ H,W i m σ H->
  ((Nt lo n).stop i H/\D.nx σ H)\/((Nt lo n).go i H/\∃N:St->Hp->Prop,(∀cH H',N cH H'->∃m',m'<m/\W (i+1) m' cH H')/\∀x H',(Nt lo n).Kj i H x H'->g x σ H' λbQ H2=>tb {D with nx:=N,ct:=N,bk:=D.nx} bQ H2):=by
 refine⟨λi m σ H=>m=n-i/\i<=n/\Pv i σ H,⟨n,by simp,Nat.zero_le _,h0⟩,?_⟩;rintro i m σ H ⟨rfl,hi,p⟩;by_cases nz:i<n
 ·refine .inr ⟨nz,Pv (i+1),λcH H' p'=>⟨n-(i+1),by lia,rfl,nz,p'⟩,λx H' y=>?_⟩;obtain⟨e,y⟩:=y;subst e y;exact hs i σ _ nz p
 ·have e:i=n:=by lia
  subst e;exact .inl ⟨Nat.le_refl _,hd σ H p⟩
abbrev R2:=V->V->Hp->VK->Prop
def qC(X:Cx)(f:Value->Value->Sem Value)(r:R2):Prop:=
 ∀(pins:List (Addr×Obj))(s:Shared)(σ:St)(H:Hp)(x y:V)(v u:Value)(Q:VK),Inv X pins σ H s->RelV x v->RelV y u->r x y H Q->
  wpAny (model X.prog X.w) X.A (f v u) (EP X pins σ Q) X.xe s
def Yz(X:Cx)(f:Value->Sem Value)(r:V->Hp->VK->Prop):Prop:=
 ∀(pins:List (Addr×Obj))(s:Shared)(σ:St)(H:Hp)(x:V)(v:Value)(Q:VK),Inv X pins σ H s->RelV x v->r x H Q->
  wpAny (model X.prog X.w) X.A (f v) (EP X pins σ Q) X.xe s
def ll(X:Cx)(f:Value)(r:List V->Hp->VK->Prop):Prop:=
 ∀(pins:List (Addr×Obj))(s:Shared)(σ:St)(H:Hp)(xs:List V)(us:List Value)(Q:VK),Inv X pins σ H s->Vals xs us->r xs H Q->
  wpAny (model X.prog X.w) X.A (call f us) (EP X pins σ Q) X.xe s
def YA(X:Cx)(r:V->Hp->(Bool->Hp->Prop)->Prop):Prop:=
 ∀(pins:List (Addr×Obj))(s:Shared)(σ:St)(H:Hp)(x:V)(v:Value)(Q:Bool->Hp->Prop),Inv X pins σ H s->RelV x v->r x H Q->
  wpAny (model X.prog X.w) X.A (truthy v) (TP X pins σ Q) X.xe s
def lp(r:R2)(ta tb:TE):TE:=λσ H Q=>ta σ H λx H1=>tb σ H1 λy H2=>r x y H2 Q
def XG(r:V->Hp->VK->Prop)(ta:TE):TE:=λσ H Q=>ta σ H λx H1=>r x H1 Q
def rI(C:Int->Int->Prop)(g:Int->Int->V):R2:=λx y H Q=>∃i j,x=.int i/\y=.int j/\C i j/\Q (g i j) H
def B7(g:Int->Int->V):R2:=λx y H Q=>∃i j,x=.int i/\y=.int j/\Q (g i j) H
def rU(g:Int->V):V->Hp->VK->Prop:=λx H Q=>∃i,x=.int i/\Q (g i) H
section
variable {X:Cx} {a b c:Expr} {ta tb tc:TE} {pos:Pos}
theorem RP(ha:PE X a ta)(hb:PE X b tb){pins:List (Addr×Obj)}{s:Shared}{σ:St}{H:Hp}{R:V->V->Hp->Prop}(I:Inv X pins σ H s)(h:ta σ H λx H1=>tb σ H1 λy H2=>R x y H2){Q:Value->Shared->Prop}{f:Value->Value->Sem Value}(hf:∀v u s2 x y H2,Inv X pins σ H2 s2->RelV x v->RelV y u->R x y H2->wpAny (model X.prog X.w) X.A (f v u) Q X.xe s2):
 wpAny (model X.prog X.w) X.A (eval a X.env) (λv cD=>wpAny (model X.prog X.w) X.A (eval b X.env) (λu qO=>wpAny (model X.prog X.w) X.A (f v u) Q X.xe qO) X.xe cD) X.xe s:=by
 refine cB (ha pins s σ H _ I h) λv s1⟨x,H1,I1,r1,q1⟩=>?_;refine cB (hb pins s1 σ H1 _ I1 q1) λu s2⟨y,H2,I2,r2,q2⟩=>?_;exact hf v u s2 x y H2 I2 r1 r2 q2
theorem aH{op:Operator}{r:R2}(ho:qC X (binaryOp op) r)(ha:PE X a ta)(hb:PE X b tb):PE X (.BinOp a op b pos) (lp r ta tb):=by
 intro pins s σ H Q I h;exact wpAny_BinOp (RP ha hb I h λv u s2 x y H2 I2 rx ry q=>ho pins s2 σ H2 x y v u Q I2 rx ry q)
theorem cQ{op:UnaryOp}{r:V->Hp->VK->Prop}(ho:Yz X (unaryOp op) r)(ha:PE X a ta):PE X (.UnaryOp op a pos) (XG r ta):=by
 intro pins s σ H Q I h;exact UnaryOp_ (cB (ha pins s σ H _ I h) λv s1⟨x,H1,I1,r1,q1⟩=>ho pins s1 σ H1 x v Q I1 r1 q1)
theorem XH{f:Value->Value->Sem Value}{C:Int->Int->Prop}{g:Int->Int->Int}(rule:∀(i j:Int)(t u:Tok)(s:Shared)(Q:Value->Shared->Prop)(E:Value->Shared->Prop),C i j->Q (.int (g i j) s.toks) {s with toks:=s.toks+1}->wpAny (model X.prog X.w) X.A (f (.int i t) (.int j u)) Q E s):
 qC X f (rI C λi j=>.int (g i j)):=by
 intro pins s σ H x y v u Q I rx ry h;obtain⟨i,j,rfl,rfl,hc,q⟩:=h;obtain⟨t,rfl⟩:=rx;obtain⟨t',rfl⟩:=ry;exact rule i j t t' s _ _ hc ⟨.int (g i j),H,I.tok _,⟨_,rfl⟩,q⟩
theorem Vh{f:Value->Value->Sem Value}{g:Int->Int->Int}(rule:∀(i j:Int)(t u:Tok)(s:Shared)(Q:Value->Shared->Prop)(E:Value->Shared->Prop),Q (.int (g i j) s.toks) {s with toks:=s.toks+1}->wpAny (model X.prog X.w) X.A (f (.int i t) (.int j u)) Q E s):
 qC X f (B7 λi j=>.int (g i j)):=by
 intro pins s σ H x y v u Q I rx ry h;obtain⟨i,j,rfl,rfl,q⟩:=h;obtain⟨t,rfl⟩:=rx;obtain⟨t',rfl⟩:=ry;exact rule i j t t' s _ _ ⟨.int (g i j),H,I.tok _,⟨_,rfl⟩,q⟩
theorem NR{f:Value->Value->Sem Value}{g:Int->Int->Bool}(rule:∀(i j:Int)(t u:Tok)(s:Shared)(Q:Value->Shared->Prop)(E:Value->Shared->Prop),Q (.bool (g i j)) s->wpAny (model X.prog X.w) X.A (f (.int i t) (.int j u)) Q E s):
 qC X f (B7 λi j=>.bl (g i j)):=by
 intro pins s σ H x y v u Q I rx ry h;obtain⟨i,j,rfl,rfl,q⟩:=h;obtain⟨t,rfl⟩:=rx;obtain⟨t',rfl⟩:=ry;exact rule i j t t' s _ _ ⟨.bl (g i j),H,I,rfl,q⟩
def RQ(i j:Int):Prop:=0<=j/\j<=1000000/\i.natAbs<2^64
theorem bF:qC X (binaryOp .Add) (B7 λi j=>.int (i+j)):=Vh λ_ _ _ _ _ _ _ q=>add_int q
theorem dI:qC X (binaryOp .Sub) (B7 λi j=>.int (i-j)):=Vh λ_ _ _ _ _ _ _ q=>sub_int q
theorem iH:qC X (binaryOp .Mod) (rI (λ_ j=>j≠0) λi j=>.int (i.fmod j)):=XH λ_ _ _ _ _ _ _ hc q=>mod_int' hc q
theorem xj:qC X (binaryOp .Pow) (rI RQ λi j=>.int (i^j.toNat)):=XH λ_ _ _ _ _ _ _ hc q=>pow_int_small hc.1 hc.2.1 hc.2.2 q
theorem unI{f:Value->Sem Value}{g:Int->Int}(rule:∀(i:Int)(t:Tok)(s:Shared)(Q:Value->Shared->Prop)(E:Value->Shared->Prop),Q (.int (g i) s.toks) {s with toks:=s.toks+1}->wpAny (model X.prog X.w) X.A (f (.int i t)) Q E s):
 Yz X f (rU λi=>.int (g i)):=by
 intro pins s σ H x v Q I rx h;obtain⟨i,rfl,q⟩:=h;obtain⟨t,rfl⟩:=rx;exact rule i t s _ _ ⟨.int (g i),H,I.tok _,⟨_,rfl⟩,q⟩
theorem bU:Yz X (unaryOp .USub) (rU λi=>.int (-i)):=unI λ_ _ _ _ _ q=>neg_int q
end
def Vi:V->V->Bool
 |.dH,.dH=>true|.dH,.int _=>true|.int _,.dH=>true|.dH,.bl _=>true|.bl _,.dH=>true|.dH,.str _=>true|.str _,.dH=>true
 |.int _,.int _=>true|.bl _,.bl _=>true|.str _,.str _=>true|.GC _,.GC _=>true
 |.int _,.str _=>true|.str _,.int _=>true|.bl _,.str _=>true|.str _,.bl _=>true
 |_,_=>false
def Vj:R2:=λx y H Q=>Vi x y=true/\Q (.bl (decide (x=y))) H
def RR:R2:=λx y H Q=>Vi x y=true/\Q (.bl (!decide (x=y))) H
theorem GH{i j:Int}:decide (V.int i=V.int j)=(i==j):=by
 rw[Bool.eq_iff_iff];simp
theorem Km{i j:Bool}:decide (V.bl i=V.bl j)=(i==j):=by
 rw[Bool.eq_iff_iff];simp
theorem GI{i j:Str}:decide (V.str i=V.str j)=(i==j):=by
 rw[Bool.eq_iff_iff];simp
theorem GJ{i j:Array UInt8}:decide (V.GC i=V.GC j)=(i.toList==j.toList):=by
 rw[Bool.eq_iff_iff];cases i;cases j;simp
section
variable {X:Cx} {a b c:Expr} {ta tb tc:TE} {pos:Pos}
theorem cI{pins:List (Addr×Obj)}{σ:St}{H:Hp}{s:Shared}{Q:VK}{k k':Bool}(I:Inv X pins σ H s)(q:Q (.bl k) H)(e:k=k'):EP X pins σ Q (.bool k') s:=by
 subst e;exact⟨.bl k,H,I,rfl,q⟩
theorem bI:qC X (compareOp .Eq) Vj:=by
 intro pins s σ H x y v u Q I rx ry h;obtain⟨hs,q⟩:=h;cases x with
 |dH=>
  cases rx
  cases y with
  |dH=>cases ry;exact PySem.EqNone.eq_none_none (cI I q (by simp))
  |bl j=>cases ry;exact PySem.EqNone.eq_none_bool (cI I q (by simp))
  |int j=>obtain⟨t',rfl⟩:=ry;exact PySem.EqNone.eq_none_int (cI I q (by simp))
  |str j=>obtain⟨t',rfl⟩:=ry;exact PySem.EqNone.eq_none_str (cI I q (by simp))
  |_=>exact absurd (show false=true from hs) Bool.false_ne_true
 |bl i=>
  cases rx
  cases y with
  |dH=>cases ry;exact PySem.EqNone.eq_bool_none (cI I q (by simp))
  |bl j=>cases ry;exact eq_bool (cI I q Km)
  |str j=>obtain⟨t',rfl⟩:=ry;exact PySem.EqMixed.eq_bool_str (cI I q (by simp))
  |_=>exact absurd (show false=true from hs) Bool.false_ne_true
 |int i=>
  obtain⟨t,rfl⟩:=rx;cases y with
  |dH=>cases ry;exact PySem.EqNone.eq_int_none (cI I q (by simp))
  |int j=>obtain⟨t',rfl⟩:=ry;exact eq_int (cI I q GH)
  |str j=>obtain⟨t',rfl⟩:=ry;exact PySem.EqMixed.eq_int_str (cI I q (by simp))
  |_=>exact absurd (show false=true from hs) Bool.false_ne_true
 |str i=>
  obtain⟨t,rfl⟩:=rx;cases y with
  |dH=>cases ry;exact PySem.EqNone.eq_str_none (cI I q (by simp))
  |bl j=>cases ry;exact PySem.EqMixed.eq_str_bool (cI I q (by simp))
  |int j=>obtain⟨t',rfl⟩:=ry;exact PySem.EqMixed.eq_str_int (cI I q (by simp))
  |str j=>obtain⟨t',rfl⟩:=ry;exact eq_str (cI I q GI)
  |_=>exact absurd (show false=true from hs) Bool.false_ne_true
 |GC i=>
  obtain⟨t,rfl⟩:=rx;cases y with
  |GC j=>obtain⟨t',rfl⟩:=ry;exact PySem.W.eq_bytes (cI I q GJ)
  |_=>exact absurd (show false=true from hs) Bool.false_ne_true
 |_=>cases y<;>exact absurd (show false=true from hs) Bool.false_ne_true
theorem oJ:qC X (compareOp .NotEq) RR:=by
 intro pins s σ H x y v u Q I rx ry h;obtain⟨hs,q⟩:=h;cases x with
 |dH=>
  cases rx
  cases y with
  |dH=>cases ry;exact PySem.EqNone.ne_none_none (cI I q (by simp))
  |bl j=>cases ry;exact PySem.EqNone.ne_none_bool (cI I q (by simp))
  |int j=>obtain⟨t',rfl⟩:=ry;exact PySem.EqNone.ne_none_int (cI I q (by simp))
  |str j=>obtain⟨t',rfl⟩:=ry;exact PySem.EqNone.ne_none_str (cI I q (by simp))
  |_=>exact absurd (show false=true from hs) Bool.false_ne_true
 |bl i=>
  cases rx
  cases y with
  |dH=>cases ry;exact PySem.EqNone.ne_bool_none (cI I q (by simp))
  |bl j=>cases ry;exact ne_bool (cI I q (congrArg not Km))
  |str j=>obtain⟨t',rfl⟩:=ry;exact PySem.EqMixed.ne_bool_str (cI I q (by simp))
  |_=>exact absurd (show false=true from hs) Bool.false_ne_true
 |int i=>
  obtain⟨t,rfl⟩:=rx;cases y with
  |dH=>cases ry;exact PySem.EqNone.ne_int_none (cI I q (by simp))
  |int j=>obtain⟨t',rfl⟩:=ry;exact ne_int (cI I q (congrArg not GH))
  |str j=>obtain⟨t',rfl⟩:=ry;exact PySem.EqMixed.ne_int_str (cI I q (by simp))
  |_=>exact absurd (show false=true from hs) Bool.false_ne_true
 |str i=>
  obtain⟨t,rfl⟩:=rx;cases y with
  |dH=>cases ry;exact PySem.EqNone.ne_str_none (cI I q (by simp))
  |bl j=>cases ry;exact PySem.EqMixed.ne_str_bool (cI I q (by simp))
  |int j=>obtain⟨t',rfl⟩:=ry;exact PySem.EqMixed.ne_str_int (cI I q (by simp))
  |str j=>obtain⟨t',rfl⟩:=ry;exact ne_str (cI I q (congrArg not GI))
  |_=>exact absurd (show false=true from hs) Bool.false_ne_true
 |GC i=>
  obtain⟨t,rfl⟩:=rx;cases y with
  |GC j=>obtain⟨t',rfl⟩:=ry;exact PySem.W.ne_bytes (cI I q (congrArg not GJ))
  |_=>exact absurd (show false=true from hs) Bool.false_ne_true
 |_=>cases y<;>exact absurd (show false=true from hs) Bool.false_ne_true
theorem i5:qC X (compareOp .Lt) (B7 λi j=>.bl (decide (i<j))):=NR λ_ _ _ _ _ _ _ q=>lt_int q
theorem Qk:qC X (compareOp .LtE) (B7 λi j=>.bl (decide (i<=j))):=NR λ_ _ _ _ _ _ _ q=>le_int q
theorem jE:qC X (compareOp .Gt) (B7 λi j=>.bl (decide (j<i))):=NR λ_ _ _ _ _ _ _ q=>gt_int q
theorem GK:qC X (compareOp .GtE) (B7 λi j=>.bl (decide (j<=i))):=NR λ_ _ _ _ _ _ _ q=>ge_int q
theorem Ai:qC X (compareOp .Is) (λx y H Q=>y=.dH/\Q (.bl (decide (x=.dH))) H):=by
 intro pins s σ H x y v u Q I rx ry h;obtain⟨rfl,q⟩:=h;cases ry;refine is_none_gen (cI I q ?_);cases x<;>first
  |(cases rx;rfl)
  |(obtain⟨t,rfl⟩:=rx;rfl)
theorem j5:qC X (compareOp .IsNot) (λx y H Q=>y=.dH/\Q (.bl (!decide (x=.dH))) H):=by
 intro pins s σ H x y v u Q I rx ry h;obtain⟨rfl,q⟩:=h;cases ry;refine isnot_none_gen (cI I q ?_);cases x<;>first
  |(cases rx;rfl)
  |(obtain⟨t,rfl⟩:=rx;rfl)
theorem aN(b:Expr){op:CmpOp}(h:op≠.In:=by decide)(h2:op≠.NotIn:=by decide):behindInMarks op b=false:=by
 have e1:(op==CmpOp.In)=false:=by cases op<;>first|rfl|exact absurd rfl h
 have e2:(op==CmpOp.NotIn)=false:=by cases op<;>first|rfl|exact absurd rfl h2
 cases b<;>simp[behindInMarks,e1,e2]
theorem kI{op:CmpOp}{r:R2}(ho:qC X (compareOp op) r)(ha:PE X a ta)(hb:PE X b tb)(hm:behindInMarks op b=false):PE X (.Compare a [op] [b] pos) (lp r ta tb):=by
 intro pins s σ H Q I h;exact wpAny_Compare1 (RP ha hb I h λv u s2 x y H2 I2 rx ry q=>ho pins s2 σ H2 x y v u Q I2 rx ry q) hm
def B8(t:TE):TT:=λσ H Q=>t σ H λx H'=>∃k,x=.bl k/\Q k H'
theorem aG{op:CmpOp}{r:R2}(ho:qC X (compareOp op) r)(ha:PE X a ta)(hb:PE X b tb)(hm:behindInMarks op b=false):PT X (.Compare a [op] [b] pos) (B8 (lp r ta tb)):=by
 intro pins s σ H Q I h;refine wpAny_isTrue_Compare1 (cB (ha pins s σ H _ I h) λv s1⟨x,H1,I1,r1,q1⟩=>cB (hb pins s1 σ H1 _ I1 q1) λu s2⟨y,H2,I2,r2,q2⟩=>
  cB (ho pins s2 σ H2 x y v u _ I2 r1 r2 q2) λc s3⟨z,H3,I3,r3,k,e,q3⟩=>?_) hm;subst e;cases r3;exact wpAny_truthy_bool ⟨H3,I3,q3⟩
def Kn(r r':R2)(ta tb tc:TE):TE:=λσ H Q=>ta σ H λx H1=>tb σ H1 λy H2=>r x y H2 λz H3=>∃k,z=.bl k/\
 (if k=true then tc σ H3 λw' H4=>r' y w' H4 Q else Q (.bl false) H3)
theorem Ko{op YB:CmpOp}{r r':R2}(ho:qC X (compareOp op) r)(Kg:qC X (compareOp YB) r')(ha:PE X a ta)(hb:PE X b tb)(hc:PE X c tc)(hm:lastMarks [op,YB] [b,c]=false:=by with_unfolding_all rfl):PE X (.Compare a [op,YB] [b,c] pos) (Kn r r' ta tb tc):=by
 intro pins s σ H Q I h;refine Compare_chain (cB (ha pins s σ H _ I h) λv s1⟨x,H1,I1,r1,q1⟩=>chain_link (cB (hb pins s1 σ H1 _ I1 q1) λu s2⟨y,H2,I2,r2,q2⟩=>
  cB (ho pins s2 σ H2 x y v u _ I2 r1 r2 q2) λd s3⟨z,H3,I3,r3,k,e,q3⟩=>?_)) hm;subst e;cases r3
 refine wpAny_truthy_bool ?_;cases k with
 |false=>exact ite_ff ⟨.bl false,H3,I3,rfl,q3⟩
 |true=>exact ite_tt (chain_last (cB (hc pins s3 σ H3 _ I3 q3) λw' s4⟨z',H4,I4,r4,q4⟩=>Kg pins s4 σ H4 y z' u w' Q I4 r2 r4 q4))
def Kp(K:PySem.W.Frag)(x:V)(H:Hp)(k:Bool):Prop:=
 match x with
 |.dH=>k=false
 |.bl b=>k=b
 |.int i=>k=(i !=0)
 |.str y=>y.length<=sizeLine/\k=((y.length:Int)!=0)
 |.GC y=>y.size<=sizeLine/\k=((y.size:Int)!=0)
 |.ref p=>(∃xs,ft K H p xs/\k=!xs.isEmpty)\/(∃xs,qB K H p xs/\k=!xs.isEmpty)\/∃bw,H p=some (.dK bw)/\k=!bw.isEmpty
 |_=>False
theorem Ea{κ:Type}{bw:List (κ×V)}{vs:List (κ×Value)}(r:KV bw vs):(!vs.isEmpty)=!bw.isEmpty:=by
 cases r<;>rfl
theorem xl{xs:List V}{bB:List Value}(r:Vals xs bB):(!bB.toArray.isEmpty)=!xs.isEmpty:=by
 cases r<;>simp
theorem qS:(sizeLine:Nat)<2^63:=by rw[sizeLine_eq];decide
theorem RS:YA X (λx H Q=>∃k,Kp X.K x H k/\Q k H):=by
 intro pins s σ H x v Q I rx h;obtain⟨k,e,q⟩:=h;have hl:=qS;have hs:sizeLine=16777216:=sizeLine_eq;cases x with
 |dH=>
  cases rx;have e':k=false:=e;subst e';exact truthy_none ⟨H,I,q⟩
 |bl b=>
  cases rx;have e':k=b:=e;subst e';exact wpAny_truthy_bool ⟨H,I,q⟩
 |int i=>
  obtain⟨t,rfl⟩:=rx;have e':k=(i !=0):=e;subst e';exact PySem.P.truthy_int ⟨H,I,q⟩
 |str y=>
  obtain⟨t,rfl⟩:=rx;obtain⟨hy,e'⟩:y.length<=sizeLine/\k=((y.length:Int)!=0):=e;subst e';exact PySem.P.truthy_str (by lia) ⟨H,I.tok _,q⟩
 |GC y=>
  obtain⟨t,rfl⟩:=rx;obtain⟨hy,e'⟩:y.size<=sizeLine/\k=((y.size:Int)!=0):=e;subst e';exact PySem.W.truthy_bytes (by lia) ⟨H,I.tok _,q⟩
 |ref p=>
  cases rx;have e':(∃xs,ft X.K H p xs/\k=!xs.isEmpty)\/(∃xs,qB X.K H p xs/\k=!xs.isEmpty)\/∃bw,H p=some (.dK bw)/\k=!bw.isEmpty:=e;rcases e' with⟨xs,hx,e'⟩|⟨xs,hx,e'⟩|⟨bw,hx,e'⟩
  ·subst e';obtain⟨bB,r,pl,hz⟩:=I.list hx;have hlen:=r.length;exact wpAny_truthy_list pl.isList (by simp only[List.size_toArray];lia) ⟨H,I.tok _,by rw[xl r];exact q⟩
  ·subst e';obtain⟨bB,r,pl,hz⟩:=I.tuple hx;have hlen:=r.length;exact truthy_tuple pl (by simp only[List.size_toArray];lia) ⟨H,I.tok _,by rw[xl r];exact q⟩
  ·subst e';obtain⟨hz,hS,vs,r,m⟩:bw.length<=sizeLine/\(p==sysModules)=false/\∃vs,KV bw vs/\s.heap.DictOf (gB X.prog X.w) p vs:=I.b_ p _ hx;have hlen:bw.length=vs.length:=Paired.length r;exact wpAny_truthy_dict hS m (by lia) ⟨H,I.tok _,by rw[Ea r];exact q⟩
 |_=>exact(show False from e).elim
theorem cU(ha:PE X a ta)(he:∀whole,isTrue a X.env whole=(do let v<-whole;standAt a.pos;holding [v] (truthy v))):
 PT X a (λσ H Q=>ta σ H λx H'=>∃k,Kp X.K x H' k/\Q k H'):=by
 intro pins s σ H Q I h;exact isTrue_plain (cB (ha pins s σ H _ I h) λv s1⟨x,H1,I1,r1,q1⟩=>RS pins s1 σ H1 x v Q I1 r1 q1) (he _)
theorem gI:qC X (binaryOp .Add) (λx y H Q=>∃i j,x=.str i/\y=.str j/\i.length+j.length<=sizeLine/\Q (.str (i++j)) H):=by
 intro pins s σ H x y v u Q I rx ry h;obtain⟨i,j,rfl,rfl,hz,q⟩:=h;obtain⟨t,rfl⟩:=rx;obtain⟨t',rfl⟩:=ry;exact add_str (λt' tk=>⟨.str (i++j),H,I.tok _,⟨_,rfl⟩,q⟩) hz
theorem vals1{x:V}{us:List Value}(r:Vals [x] us):∃u,us=[u]/\RelV x u:=by
 cases r with
 |cons r1 r2=>cases r2;exact⟨_,rfl,r1⟩
theorem vals2{x y:V}{us:List Value}(r:Vals [x,y] us):∃u w',us=[u,w']/\RelV x u/\RelV y w':=by
 cases r with
 |cons r1 r2=>
  cases r2 with
  |cons r3 r4=>cases r4;exact⟨_,_,rfl,r1,r3⟩
theorem gJ:ll X (.builtin "abs") (λxs H Q=>∃i,xs=[.int i]/\Q (.int (if i<0 then -i else i)) H):=by
 intro pins s σ H xs us Q I r h;obtain⟨i,rfl,q⟩:=h;obtain⟨u,rfl,t,rfl⟩:=vals1 r;exact call_abs_int λu tk=>⟨.int (if i<0 then -i else i),H,I.tok _,⟨_,rfl⟩,q⟩
theorem Ip(hc:X.calm=true):ll X (.builtin "max") (λxs H Q=>∃i j,xs=[.int i,.int j]/\Q (.int (if j>i then j else i)) H):=by
 intro pins s σ H xs us Q I r h;obtain⟨i,j,rfl,q⟩:=h;obtain⟨u,w',rfl,⟨t,rfl⟩,⟨t',rfl⟩⟩:=vals2 r;refine max_two_ints (I.ok.hd hc) λh' tk k=>⟨_,H,I.kept k,?_,q⟩;by_cases hj:j>i
 ·rw[if_pos hj,if_pos hj];exact⟨_,rfl⟩
 ·rw[if_neg hj,if_neg hj];exact⟨_,rfl⟩
theorem qf(hc:X.calm=true):ll X (.builtin "min") (λxs H Q=>∃i j,xs=[.int i,.int j]/\Q (.int (if j<i then j else i)) H):=by
 intro pins s σ H xs us Q I r h;obtain⟨i,j,rfl,q⟩:=h;obtain⟨u,w',rfl,⟨t,rfl⟩,⟨t',rfl⟩⟩:=vals2 r;refine min_two_ints (I.ok.hd hc) λh' tk k=>⟨_,H,I.kept k,?_,q⟩;by_cases hj:j<i
 ·rw[if_pos hj,if_pos hj];exact⟨_,rfl⟩
 ·rw[if_neg hj,if_neg hj];exact⟨_,rfl⟩
theorem fX:ll X (.type "str") (λxs H Q=>∃i,xs=[.int i]/\i.natAbs.log2<1920/\Q (.str (toString i)) H):=by
 intro pins s σ H xs us Q I r h;obtain⟨i,rfl,hz,q⟩:=h;obtain⟨u,rfl,t,rfl⟩:=vals1 r;exact PySem.P.str_of_int hz ⟨.str _,H,I.tok _,⟨_,rfl⟩,q⟩
end
structure Eb(h:Heap)(x dx C:Addr)(mA:Str->Option Value):Prop where
 obj:h.get? x=some (PySem.W.instObj C dx)
 ns:h.Ns1 dx mA
 ne:dx≠x
theorem zB{h:Heap}{dx:Addr}{mA:Str->Option Value}(n:h.Ns1 dx mA):∃od,h.get? dx=some od/\∀name,PySem.W.lookIn name od=some (mA name):=by
 obtain⟨o,es,ep,ho,hd,hk,_,hm⟩:=n;refine⟨o,ho,λname=>?_⟩;have e:=hm name;unfold nsFind findBy at e;rw[<-Array.find?_toList] at e;unfold PySem.W.lookIn;rw[hd]
 dsimp only
 split
 ·rename_i y q;rw[q] at e;exact congrArg some e
 ·rename_i q;rw[q] at e;have a:es.toList.any (·.refKey)=false:=by
   rw[List.any_eq_false];intro y hy;obtain⟨z,t,YC⟩:=hk y (Array.mem_toList_iff.mp hy);simp[DictEntry.refKey,YC]
  have a':¬es.toList.any (·.refKey)=true:=by rw[a];exact Bool.false_ne_true
  rw[if_neg a'];exact congrArg some e
theorem Eb.look{h:Heap}{x dx C:Addr}{mA:Str->Option Value}(I:Eb h x dx C mA):∃od,PySem.W.InstAt h x (PySem.W.instObj C dx) C (some od)/\∀name,PySem.W.lookIn name od=some (mA name):=
 let⟨od,ho,hl⟩:=zB I.ns
 ⟨od,⟨I.obj,rfl,rfl,ho⟩,hl⟩
section
variable {prog:Program} {w:World} {A:Around} {E:Value->Shared->Prop} {s:Shared} {K:PySem.W.Frag} {x dx C f:Addr} {mA:Str->Option Value} {name:Str} {v:Value}
theorem get_map{expr:Bool}{Q:Value->Shared->Prop}(X:K.In s.heap)(I:Eb s.heap x dx C mA)(hg:PySem.W.plainGet K C name=true)(hh:PySem.W.hasDictIn K C=true)(ha:PySem.W.findIn K (.ref C) name=some none)(hv:mA name=some v)(NS:PySem.W.handedIn v=true)(h:Q v {s with toks:=s.toks+1}):
 wpAny (model prog w) A (getAttr (.ref x) name expr) Q E s:=by
 obtain⟨od,J,hl⟩:=I.look;exact PySem.W.get_value X J (PySem.W.plainGet_of hg).1 (PySem.W.findObj_own hh ha rfl (by rw[hl,hv])) NS h
theorem Kq{pl:Sem Bool}{Q:Value×List Value->Shared->Prop}(X:K.In s.heap)(I:Eb s.heap x dx C mA)(hg:PySem.W.plainGet K C name=true)(hf:PySem.W.findIn K (.ref C) name=some (some (.ref f)))(ht:PySem.W.isFn K (.ref f)=true)(hv:mA name=none)(h:Q (.ref f,[.ref x]) s):
 wpAny (model prog w) A (getMethod (.ref x) name pl) Q E s:=by
 obtain⟨od,J,hl⟩:=I.look;exact PySem.W.method_fn X J (PySem.W.plainGet_of hg).1 (PySem.W.plainGet_of hg).2 hf (beq_iff_eq.mp ht) (by show(PySem.W.lookIn name od).map (·.isSome)=some false;rw[hl,hv];rfl) h
theorem NT{ns:List Str}{Q:Unit->Shared->Prop}(X:K.In s.heap)(I:Eb s.heap x dx C mA)(hs:PySem.W.findIn K (.ref C) "__setattr__"=some (some (.builtin "object.__setattr__")))(hp:PySem.W.plainOver K C=true)(ht:PySem.W.takerIn K C name=some none)(hh:PySem.W.hasDictIn K C=true)(hw:PySem.Within mA ns)(hsz:ns.length<=sizeLine)(h:∀h',Eb h' x dx C (λy=>if y=name then some v else mA y)->Heap.SameBut dx s.heap h'->Q () {s with heap:=h',toks:=s.toks+2}):
 wpAny (model prog w) A (setAttr (.ref x) name v) Q E s:=by
 obtain⟨od,J,hl⟩:=I.look;refine PySem.W.set_plain X J hs (PySem.W.osa_open (s:={s with toks:=s.toks+1}) (r:=none) X J hp ht λb=>?_);obtain⟨cd,hc,Qg⟩:=PySem.W.any_some hh;have hx:s.heap.get? x=some ⟨.ref C,some dx,.plain,#[]⟩:=I.obj;refine wpAny_bind (wpAny_pure (wpAny_bind (wpAny_bind (wpAny_loadPart hx (wpAny_bind (PySem.W.Looks.here (s:={s with toks:=s.toks+1}) (PySem.W.looks_clsIn X hc) ?_))))));rw[Qg];refine wpAny_pure (a:=some dx) (wpAny_bind (wpAny_pure (wpAny_bind ?_)));refine wpAny_nsSet1 (s:={s with toks:=s.toks+1}) I.ns λh' XI BU=>?_;obtain⟨oD,esD,epD,YD,YE,YF⟩:=XI.count (PySem.Within.cons name v hw);refine wpAny_bind (wpAny_lookBehind YD (by rw[YE];exact pastItsLine_dict (Nat.le_trans YF (by rw[List.length_cons];lia))) ?_);exact wpAny_pure (h _ ⟨(BU.2 _ (Ne.symm I.ne)).trans I.obj,XI,I.ne⟩ BU)
theorem Kr{R:Result->Shared->Prop}{vs:List Value}{kw:List (Str×Value)}(X:K.In s.heap)(hm:PySem.W.makesIn K C=true)(hi:PySem.W.findIn K (.ref C) "__init__"=some (some (.ref f)))(hf:PySem.W.typeIn K (.ref f)=some (.type "function"))(h:codeAny (model prog w) (A.under (.builtin "type.__call__" ⟨.ref C::vs,kw⟩)) (.call (.ref f) ⟨.ref (s.heap.objs.size+1)::vs,kw⟩) (PySem.W.InitBack (s.heap.objs.size+1) R)
 {s with heap:=(s.heap.push PySem.W.emptyDict).push (PySem.W.instObj C s.heap.objs.size)}):
 codeAny (model prog w) A (.call (.ref C) ⟨vs,kw⟩) R s:=by
 obtain⟨hh,g,d,t,os⟩:=s;exact PySem.W.make_core (PySem.W.makes_of X hm) (PySem.W.looks_findIn X hi) (λself=>PySem.W.bind_fn X self hf) (.inl rfl) h
end
def mQ(f:Str)(v:V):List (Str×V)->List (Str×V)
 |[]=>[(f,v)]
 |(g,x)::r=>if g=f then(g,v)::r else(g,x)::mQ f v r
theorem vK(f g:Str)(v:V):∀fs:List (Str×V),(mQ f v fs).lookup g=if g=f then some v else fs.lookup g
 |[]=>by
  show List.lookup g [(f,v)]=_;by_cases h:g=f
  ·have hb:(g==f)=true:=beq_iff_eq.mpr h;simp only[List.lookup,hb,if_pos h]
  ·have hb:(g==f)=false:=beq_eq_false_iff_ne.mpr h;simp only[List.lookup,hb,if_neg h]
 |(k,x)::r=>by
  have ih:=vK f g v r;rw[show mQ f v ((k,x)::r)=(if k=f then(k,v)::r else(k,x)::mQ f v r) from rfl];by_cases hk:k=f
  ·rw[if_pos hk];by_cases h:g=k
   ·have hb:(g==k)=true:=beq_iff_eq.mpr h;simp only[List.lookup,hb,if_pos (h.trans hk)]
   ·have hb:(g==k)=false:=beq_eq_false_iff_ne.mpr h;simp only[List.lookup,hb,if_neg (λe:g=f=>h (e.trans hk.symm))]
  ·rw[if_neg hk];by_cases h:g=k
   ·have hb:(g==k)=true:=beq_iff_eq.mpr h;simp only[List.lookup,hb,if_neg (λe:g=f=>hk (h.symm.trans e))]
   ·have hb:(g==k)=false:=beq_eq_false_iff_ne.mpr h;simp only[List.lookup,hb];exact ih
theorem uv(f:Str)(v:V):∀fs:List (Str×V),f∈(mQ f v fs).map (·.1)/\∀g,g∈fs.map (·.1)->g∈(mQ f v fs).map (·.1)
 |[]=>⟨by simp[mQ],λg h=>by simp at h⟩
 |(k,x)::r=>by
  obtain⟨i1,i2⟩:=uv f v r;rw[show mQ f v ((k,x)::r)=(if k=f then(k,v)::r else(k,x)::mQ f v r) from rfl];by_cases hk:k=f
  ·rw[if_pos hk];subst hk;exact⟨by simp,λg h=>by simpa using h⟩
  ·rw[if_neg hk];refine⟨?_,λg h=>?_⟩
   ·rw[List.map_cons];exact List.mem_cons_of_mem _ i1
   ·rw[List.map_cons] at h ⊢;rcases List.mem_cons.mp h with e|e
    ·exact List.mem_cons.mpr (.inl e)
    ·exact List.mem_cons_of_mem _ (i2 g e)
theorem kg(f:Str)(v:V):∀fs:List (Str×V),(mQ f v fs).length<=fs.length+1
 |[]=>by simp[mQ]
 |(k,x)::r=>by
  have ih:=kg f v r;rw[show mQ f v ((k,x)::r)=(if k=f then(k,v)::r else(k,x)::mQ f v r) from rfl];by_cases hk:k=f
  ·rw[if_pos hk,List.length_cons,List.length_cons];lia
  ·rw[if_neg hk,List.length_cons,List.length_cons];lia
theorem oY.some_of{v:V}{o:Option Value}(r:oY (some v) o):∃u,o=some u/\RelV v u:=by
 cases o with
 |none=>exact(show False from r).elim
 |some u=>exact⟨u,rfl,r⟩
theorem oY.none_of{o:Option Value}(r:oY none o):o=none:=by
 cases o with
 |none=>rfl
 |some u=>exact(show False from r).elim
theorem zC{v:V}{u:Value}(r:RelV v u):PySem.W.handedIn u=true:=by
 cases v with
 |dH=>cases (show u=Value.none from r);rfl
 |bl b=>cases (show u=Value.bool b from r);rfl
 |int i=>obtain⟨t,e⟩:=(show ∃t,u=Value.int i t from r);cases e;rfl
 |str x=>obtain⟨t,e⟩:=(show ∃t,u=Value.str x t from r);cases e;rfl
 |GC b=>obtain⟨t,e⟩:=(show ∃t,u=Value.bytes b t from r);cases e;rfl
 |UH b=>obtain⟨t,e⟩:=(show ∃t,u=Value.float b t from r);cases e;rfl
 |ref a=>cases (show u=Value.ref a from r);rfl
 |ty n=>cases (show u=Value.type n from r);rfl
section
variable {P:Program} {w:World} {H H':Hp} {h h':Heap} {a C dx:Addr} {fs fs':List (Str×V)}
theorem Aj(b_:lW P w H h)(e:H a=some (.ins C dx fs)):∃mA,Eb h a dx C mA/\(∀f,oY (fs.lookup f) (mA f))/\PySem.Within mA (fs.map (·.1))/\fs.length<=1000/\H dx=some (.own a):=by
 obtain⟨d,z,ne,ob,mA,n,r,q⟩:=(show dX P w H h a (.ins C dx fs) from b_ a _ e);exact⟨mA,⟨ob,n,ne⟩,r,q,z,d⟩
end
structure B9(K:PySem.W.Frag)(C:Addr):Prop where
 pg:PySem.W.plainGet K C Str.empty=true
 hd:PySem.W.hasDictIn K C=true
 po:PySem.W.plainOver K C=true
 sa:PySem.W.findIn K (.ref C) "__setattr__"=some (some (.builtin "object.__setattr__"))
theorem B9.get{K:PySem.W.Frag}{C:Addr}(c:B9 K C)(f:Str):PySem.W.plainGet K C f=true:=c.pg
def jI(K:PySem.W.Frag)(C:Addr)(f:Str):Prop:=PySem.W.findIn K (.ref C) f=some none
theorem jI.Vk{K:PySem.W.Frag}{C:Addr}{f:Str}(n:jI K C f):PySem.W.takerIn K C f=some none:=by
 unfold PySem.W.takerIn;rw[show PySem.W.findIn K (.ref C) f=some none from n];rfl
structure Con(K:PySem.W.Frag)(C:Addr)(f:Str)(v:V)(u:Value):Prop where
 at_:PySem.W.findIn K (.ref C) f=some (some u)
 rel:RelV v u
 get:PySem.W.specialIn K u "__get__"=some none
 cp:PySem.W.copiedNames.contains f=false
structure Meth(K:PySem.W.Frag)(C:Addr)(m:Str)(f:Addr):Prop where
 at_:PySem.W.findIn K (.ref C) m=some (some (.ref f))
 fn:PySem.W.isFn K (.ref f)=true
 kp:PySem.W.keepIn K (.ref f)=true
section
variable {X:Cx} {pins:List (Addr×Obj)} {σ:St} {H:Hp} {s:Shared} {a C dx:Addr} {fs:List (Str×V)} {f:Str} {v:V} {A:Around} {E:Value->Shared->Prop}
theorem Ec{b:Bool}{Q:Value->Shared->Prop}(I:Inv X pins σ H s)(e:H a=some (.ins C dx fs))(c:B9 X.K C)(n:jI X.K C f)(l:fs.lookup f=some v)(h:∀u s',Inv X pins σ H s'->RelV v u->Q u s'):wpAny (model X.prog X.w) A (getAttr (.ref a) f b) Q E s:=by
 obtain⟨mA,O,r,_,_,_⟩:=Aj I.b_ e;obtain⟨u,hu,ru⟩:=oY.some_of (v:=v) (o:=mA f) (by rw[<-l];exact r f);exact get_map I.o9 O (c.get f) c.hd n hu (zC ru) (h u _ (I.tok _) ru)
theorem Ed{m:Str}{g:Addr}{pl:Sem Bool}{Q:Value×List Value->Shared->Prop}(I:Inv X pins σ H s)(e:H a=some (.ins C dx fs))(c:B9 X.K C)(k:Meth X.K C m g)(l:fs.lookup m=none)(h:Q (.ref g,[.ref a]) s):wpAny (model X.prog X.w) A (getMethod (.ref a) m pl) Q E s:=by
 obtain⟨mA,O,r,_,_,_⟩:=Aj I.b_ e;have hn:mA m=none:=oY.none_of (by rw[<-l];exact r m);exact Kq I.o9 O (c.get m) k.at_ k.fn hn h
theorem Ee{y:V}{u:Value}{Q:Unit->Shared->Prop}(I:Inv X pins σ H s)(e:H a=some (.ins C dx fs))(c:B9 X.K C)(n:jI X.K C f)(hl:fs.length<1000)(ry:RelV y u)(h:∀s',Inv X pins σ (upd H a (.ins C dx (mQ f y fs))) s'->Q () s'):wpAny (model X.prog X.w) A (setAttr (.ref a) f u) Q E s:=by
 obtain⟨mA,O,r,wi,_,ho⟩:=Aj I.b_ e;have hz:(fs.map (·.1)).length<=sizeLine:=by rw[List.length_map,sizeLine_eq];lia
 refine NT I.o9 O c.sa c.po n.Vk c.hd wi hz λh' O' sb=>h _ ?_;have hd:∃o,h'.get? dx=some o:=let⟨o,_,_,e',_⟩:=O'.ns;⟨o,e'⟩;refine I.write (x:=a) (e:=dx) (by rw[e];exact True.intro) (.inr ho) (λb q hb z=>(sb.2 b hb).trans z) hd ?_;refine⟨by rw[ay O.ne];exact ho,?_,O.ne,O'.obj,_,O'.ns,λg=>?_,λg hg=>?_⟩
 ·have:=kg f y fs;lia
 ·show oY ((mQ f y fs).lookup g) (if g=f then some u else mA g);rw[vK];by_cases q:g=f
  ·rw[if_pos q,if_pos q];exact ry
  ·rw[if_neg q,if_neg q];exact r g
 ·by_cases q:g=f
  ·rw[q];exact(uv f y fs).1
  ·refine(uv f y fs).2 g (wi g λz=>hg ?_);show(if g=f then some u else mA g)=none;rw[if_neg q];exact z
theorem Inv.made(I:Inv X pins σ H s):Inv X pins σ (upd (upd H s.heap.objs.size (.own (s.heap.objs.size+1))) (s.heap.objs.size+1) (.ins C s.heap.objs.size []))
 {s with heap:=(s.heap.push PySem.W.emptyDict).push (PySem.W.instObj C s.heap.objs.size)}:=by
 have e1:(s.heap.push PySem.W.emptyDict).get? s.heap.objs.size=some PySem.W.emptyDict:=Heap.get?_push_size s.heap rfl;have e2:((s.heap.push PySem.W.emptyDict).push (PySem.W.instObj C s.heap.objs.size)).get? (s.heap.objs.size+1)=some (PySem.W.instObj C s.heap.objs.size):=by
  have:=Heap.get?_push_size (s.heap.push PySem.W.emptyDict) (o:=PySem.W.instObj C s.heap.objs.size) rfl
  rwa [Heap.size_push] at this
 have e3:(s.heap.push PySem.W.emptyDict).Ns s.heap.objs.size (λ_=>none):=⟨PySem.W.emptyDict,#[],_,e1,rfl,(λe he=>absurd he (by simp)),λ_=>rfl⟩;have I1:=I.laid (a:=s.heap.objs.size) (o:=.own (s.heap.objs.size+1)) (h':=s.heap.push PySem.W.emptyDict) (t':=s.toks) (λb u q=>Heap.get?_push_of_some _ q) (Nat.le_refl _) ⟨_,e1⟩;refine I1.laid (a:=s.heap.objs.size+1) (o:=.ins C s.heap.objs.size []) (t':=s.toks) (λb u q=>Heap.get?_push_of_some _ q) (Nat.le_of_eq (Heap.size_push _ _)) ?_;have ne:s.heap.objs.size≠s.heap.objs.size+1:=Nat.ne_of_lt (Nat.lt_succ_self _);refine⟨by rw[ay ne,aE],Nat.zero_le _,ne,e2,λ_=>none,(Heap.Ns1.of_empty e3).at λo q=>Heap.get?_push_of_some _ q,λ_=>True.intro,λy hy=>absurd rfl hy⟩
theorem GL{prog:Program}{w:World}{env:Env}{e:Expr}{f:Str}{pos:Pos}{s:Shared}{Q:Value->Shared->Prop}(hb:attributeBase e f env (eval e env)=eval e env)(h:wpAny (model prog w) A (eval e env) (λo cD=>wpAny (model prog w) A (getAttr o f true) Q E cD) E s):wpAny (model prog w) A (eval (.Attribute e f pos) env) Q E s:=
 Attribute_any_ h (by rw[arm_eval_Attribute,hb])
end
def yV(K:PySem.W.Frag)(ta:TE)(f:Str):TE:=λσ H Q=>ta σ H λx H1=>∃a C dx fs v,x=.ref a/\H1 a=some (.ins C dx fs)/\B9 K C/\jI K C f/\fs.lookup f=some v/\Q v H1
def YG(K:PySem.W.Frag)(ta tv:TE)(f:Str):TS:=λD σ H=>tv σ H λy H1=>ta σ H1 λx H2=>∃a C dx fs,x=.ref a/\H2 a=some (.ins C dx fs)/\B9 K C/\jI K C f/\fs.length<1000/\
 D.nx σ (upd H2 a (.ins C dx (mQ f y fs)))
section
variable {X:Cx} {o e value:Expr} {f:Str} {pos pos' YH:Pos} {ta tv:TE}
theorem bX(he:PE X e ta)(hb:attributeBase e f X.env (eval e X.env)=eval e X.env):PE X (.Attribute e f pos) (yV X.K ta f):=by
 intro pins s σ H Q I h;refine GL hb (cB (he pins s σ H _ I h) λu s1⟨x,H1,I1,rx,a,C,dx,fs,v,ex,ea,c,n,l,q⟩=>?_);subst ex;obtain rfl:u=Value.ref a:=rx;exact Ec I1 ea c n l λu' s2 I2 ru=>⟨v,H1,I2,ru,q⟩
theorem Ak(ha:PE X o ta)(hv:PE X value tv)(hs:swapsWith value (some (.Attribute o f pos')) pos.line X.env=pure false):PS X (.Assign [.Attribute o f pos'] value pos) (YG X.K ta tv f):=by
 intro pins s σ H D I h;refine plainObj_wpAny_Assign_Attribute (cB (hv pins s σ H _ I h) λu s1⟨y,H1,I1,ry,q⟩=>cB (ha pins s1 σ H1 _ I1 q) λov s2⟨x,H2,I2,rx,a,C,dx,fs,ex,ea,c,n,l,q2⟩=>?_) hs;subst ex;obtain rfl:ov=Value.ref a:=rx;exact Ee I2 ea c n l ry λs3 I3=>⟨σ,_,I3,q2⟩
end
section
variable {X:Cx} {pins:List (Addr×Obj)} {σ:St} {H:Hp} {s:Shared} {A:Around} {E:Value->Shared->Prop} {Q:Value->Shared->Prop} {c:Value} {b:Bool}
inductive xm(K:PySem.W.Frag)(H:Hp):V->Value->Prop where
 |dH:xm K H .dH (.type "NoneType")
 |bl (x:Bool):xm K H (.bl x) (.type "bool")
 |int (i:Int):xm K H (.int i) (.type "int")
 |str (x:Str):xm K H (.str x) (.type "str")
 |UH (x:UInt64):xm K H (.UH x) (.type "float")
 |lst {a:Addr} {xs:List V} (e:H a=some (.lst xs)):xm K H (.ref a) (.type "list")
 |vY {a:Addr} {o:Obj} {xs:List V} (e:H a=some (.vY o (.lst xs))):xm K H (.ref a) (.type "list")
 |tup {a:Addr} {xs:List V} (e:H a=some (.tup xs)):xm K H (.ref a) (.type "tuple")
 |dK {a:Addr} {bw:List (Key×V)} (e:H a=some (.dK bw)):xm K H (.ref a) (.type "dict")
 |dT {a:Addr} {bw:List (List Key×V)} (e:H a=some (.dT bw)):xm K H (.ref a) (.type "dict")
 |ins {a C dx:Addr} {fs:List (Str×V)} (e:H a=some (.ins C dx fs)) (cl:B9 K C) (ha:PySem.W.findIn K (.ref C) "__class__"=some (some (.builtin "object.__class__")))
  (hn:PySem.W.specialIn K (.builtin "object.__class__") "__get__"=some (some (.builtin "getset_descriptor.__get__"))) (htk:PySem.W.takesIn K (.builtin "object.__class__")=some true)
  (hm:PySem.W.mroIn K C (.type "object")=some true):xm K H (.ref a) (.ref C)
end
structure fv(k:Nat)(A:Around):Prop where
 hd:A.handled=none
 dp:A.depth+3*k+5<recursionLimit
 un:A.units+16*k+200<cLine
theorem fv.mono{j k:Nat}{A:Around}(r:fv k A)(h:j<=k):fv j A:=⟨r.hd,by have:=r.dp;lia,by have:=r.un;lia⟩
theorem fv.deeper{k:Nat}{A:Around}(r:fv (k+1) A)(env:Env):fv k (A.deeper env):=
 ⟨r.hd,by have:=r.dp;show A.depth+1+3*k+5<_;lia,by have:=r.un;show A.units+3+16*k+200<_;lia⟩
theorem Ef{A:Around}{C:Addr}{us:List Value}{kw:List (Str×Value)}:(A.under (.builtin "type.__call__" ⟨.ref C::us,kw⟩)).depth=A.depth+1:=by
 first|rfl|simp[Around.under,Code.weight,Code.isCreation,Code.isGuard,Code.isCaller,Code.frames,Code.isFrame,guardIds]
theorem Eg{A:Around}{C:Addr}{us:List Value}{kw:List (Str×Value)}:(A.under (.builtin "type.__call__" ⟨.ref C::us,kw⟩)).units=A.units+1:=by
 first|rfl|simp[Around.under,Code.cUnits,Code.frames,Code.isFrame]
theorem fv.make{k:Nat}{A:Around}(r:fv (k+1) A)(C:Addr)(us:List Value)(kw:List (Str×Value)):fv k (A.under (.builtin "type.__call__" ⟨.ref C::us,kw⟩)):=
 ⟨r.hd,by have:=r.dp;rw[Ef];lia,by have:=r.un;rw[Eg];lia⟩
theorem fv.depth{k:Nat}{A:Around}(r:fv k A):A.depth<recursionLimit:=by have:=r.dp;lia
theorem fv.Eh{k:Nat}{A:Around}(r:fv k A):A.units<cLine:=by have:=r.un;lia
def iY:TA:=λ_ H Q=>Q [] H
def dm(ta:TE)(tr:TA):TA:=λσ H Q=>ta σ H λx H1=>tr σ H1 λxs H2=>Q (x::xs) H2
section
variable {X:Cx} {e:Expr} {es:List Expr} {te:TE} {t:TA} {pos:Pos}
theorem ah:PA X [] iY:=λ_ _ _ _ H Q I h=>Calls.spliced_nil ⟨[],H,I,.nil,h⟩
theorem aa(ha:PE X e te)(hr:PA X es t)(hs:starEach (e::es) X.env=(false,eval e X.env)::starEach es X.env:=by rfl):PA X (e::es) (dm te t):=by
 intro pos pins s σ H Q I h;rw[hs];show wpAny _ _ (spliced ((false,eval e X.env)::backTo pos (starEach es X.env))) _ _ s;refine Calls.spliced_cons (cB (ha pins s σ H _ I h) λu s1⟨x,H1,I1,r1,q1⟩=>?_);exact cB (hr pos pins s1 σ H1 _ I1 q1) λus s2⟨xs,H2,I2,r2,q2⟩=>⟨x::xs,H2,I2,.cons r1 r2,q2⟩
def Iq(t:TA):TE:=λσ H Q=>t σ H λxs H1=>xs.length<=sizeLine/\∀p,H1 p=none->Q (.ref p) (upd H1 p (.tup xs))
def Ir(t:TA):TE:=λσ H Q=>t σ H λxs H1=>xs.length<=sizeLine/\∀p,H1 p=none->Q (.ref p) (upd H1 p (.lst xs))
theorem bV{x1}(h:PA X es t):PE X (.Tuple es x1 pos) (Iq t):=by
 intro pins s σ H Q I hq;refine wpAny_Tuple_spliced (cB (h pos pins s σ H _ I hq) λus s1⟨xs,H1,I1,r,z,q⟩=>⟨by rw[<-r.length];exact z,?_⟩);have hf:H1 s1.heap.objs.size=none:=I1.b_.fresh (Nat.le_refl _);refine⟨.ref s1.heap.objs.size,upd H1 s1.heap.objs.size (.tup xs),I1.laid (t':=s1.toks) (λb u e=>Heap.get?_push_of_some _ e) (Nat.le_refl _) ?_,rfl,q _ hf⟩;exact⟨z,us,r,⟨_,Heap.get?_push_size _ rfl,rfl,_,rfl⟩⟩
theorem bN(h:PA X es t):PE X (.List es pos) (Ir t):=by
 intro pins s σ H Q I hq;refine wpAny_List_spliced (cB (h pos pins s σ H _ I hq) λus s1⟨xs,H1,I1,r,z,q⟩=>⟨by rw[<-r.length];exact z,?_⟩);have hf:H1 s1.heap.objs.size=none:=I1.b_.fresh (Nat.le_refl _);refine⟨.ref s1.heap.objs.size,upd H1 s1.heap.objs.size (.lst xs),I1.laid (t':=s1.toks) (λb u e=>Heap.get?_push_of_some _ e) (Nat.le_refl _) ?_,rfl,q _ hf⟩;exact⟨z,us,0,r,Heap.get?_push_size _ rfl⟩
end
abbrev Sp:=List V->Hp->VK->XK->Prop
abbrev vL:=List Env->Hp->Shared->XK->Value->Shared->Prop
structure xn(P:Program)(w:World)(K:PySem.W.Frag)(mg:Str->Option Value)(base:Heap)(A:Around)(outer:List Env)(s:Shared)(H:Hp):Prop where
 frames:A.frames=some outer
 mod:Mod K mg base
 bs:∀b o,base.get? b=some o->s.heap.get? b=some o/\H b=none
 GD:base.objs.size<=s.heap.objs.size
 oZ:s.heap.FunFrames base outer
 J6:∀b∈v_ outer,H b=none
 b_:lW P w H s.heap
 bare:AllBare s.gens
def CE(outer:List Env)(P:Program)(w:World)(H:Hp)(s:Shared)(Q:VK)(u:Value)(s':Shared):Prop:=
 ∃v H',s'.os=s.os/\AllBare s'.gens/\Un (v_ outer) [] H H' s.heap s'.heap/\lW P w H' s'.heap/\RelV v u/\Q v H'
def CR(CX:vL)(outer:List Env)(P:Program)(w:World)(H:Hp)(s:Shared)(Q:VK)(E:XK)(r:Result)(s':Shared):Prop:=
 match r with
 |.ok (.ret u)=>CE outer P w H s Q u s'
 |.ok _=>False
 |.error e=>CX outer H s E e s'
structure dU(P:Program)(w:World)(K:PySem.W.Frag)(mg:Str->Option Value)(base:Heap)(CX:vL)(k:Nat)(f:Addr)(fd:FuncData)(ps:List Str)(sp:Sp):Prop where
 len:∀vs H Q E,sp vs H Q E->vs.length=ps.length
 run:∀(A:Around)(outer:List Env)(s:Shared)(H:Hp)(args:Args)(us:List Value)(vs:List V)(Q:VK)(E:XK),fv k A->xn P w K mg base A outer s H->BindsTo s fd args (ps.zip us)->Vals vs us->sp vs H Q E->
  codeAny (model P w) A (.call (.ref f) args) (CR CX outer P w H s Q E) s
theorem dU.mono{P:Program}{w:World}{K:PySem.W.Frag}{mg:Str->Option Value}{base:Heap}{CX:vL}{j k:Nat}{f:Addr}{fd:FuncData}{ps:List Str}{sp:Sp}(F:dU P w K mg base CX j f fd ps sp)(h:j<=k):
 dU P w K mg base CX k f fd ps sp:=⟨F.len,λA outer s H args us vs Q E hr=>F.run A outer s H args us vs Q E (hr.mono h)⟩
theorem dU.imp{P:Program}{w:World}{K:PySem.W.Frag}{mg:Str->Option Value}{base:Heap}{CX:vL}{k:Nat}{f:Addr}{fd:FuncData}{ps:List Str}{sp Vl:Sp}(F:dU P w K mg base CX k f fd ps sp)(h:∀vs H Q E,Vl vs H Q E->sp vs H Q E):dU P w K mg base CX k f fd ps Vl:=
 ⟨λvs H Q E q=>F.len vs H Q E (h _ _ _ _ q),λA outer s H args us vs Q E hr he hb hv hs=>F.run A outer s H args us vs Q E hr he hb hv (h _ _ _ _ hs)⟩
theorem xn.make{P:Program}{w:World}{K:PySem.W.Frag}{mg:Str->Option Value}{base:Heap}{A:Around}{outer:List Env}{s:Shared}{H:Hp}(e:xn P w K mg base A outer s H)(C:Addr)(us:List Value)(kw:List (Str×Value)):
 xn P w K mg base (A.under (.builtin "type.__call__" ⟨.ref C::us,kw⟩)) outer s H:=⟨by first|exact e.frames|(simpa[Around.under,Code.envs,Code.isFrame,pushEnvs] using e.frames),e.mod,e.bs,e.GD,e.oZ,e.J6,e.b_,e.bare⟩
section
variable {X:Cx} {pins:List (Addr×Obj)} {σ:St} {H:Hp} {s s':Shared}
theorem Inv.env0(I:Inv X pins σ H s):xn X.prog X.w X.K X.mg X.base X.A X.stack s H:=
 ⟨I.ok.frames,I.ok.mod,I.bs,Nat.le_trans I.ok.GD I.sz,I.stack,I.wF,I.b_,I.bare⟩
theorem Inv.after{Q:VK}{u:Value}(I:Inv X pins σ H s)(h:CE X.stack X.prog X.w H s Q u s'):EP X pins σ Q u s':=by
 obtain⟨v,H',os,bare,un,b_,r,q⟩:=h;obtain⟨hh,g,d,t,os'⟩:=s';obtain rfl:os'=s.os:=os;exact⟨v,H',I.call (h':=hh) (g':=g) (d':=d) (t':=t) (ch:=[]) un b_ bare (λb z=>absurd z (by simp)),r,q⟩
end
def pb(sp:Sp)(dvs:List V)(E:XK)(t:TA):TE:=λσ H Q=>t σ H λvs H1=>sp (vs++dvs) H1 Q E
def GN(C:Addr)(m:Str)(sp:Sp)(dvs:List V)(E:XK)(ta:TE)(t:TA):TE:=λσ H Q=>ta σ H λx H1=>∃a dx fs,x=.ref a/\H1 a=some (.ins C dx fs)/\fs.lookup m=none/\
 t σ H1 λvs H2=>sp (x::(vs++dvs)) H2 Q E
def B_(C:Addr)(sp:Sp)(dvs:List V)(E:XK)(t:TA):TE:=λσ H Q=>t σ H λvs H1=>∀x dx,H1 x=none->H1 dx=none->dx≠x->
 sp (.ref x::(vs++dvs)) (upd (upd H1 dx (.own x)) x (.ins C dx [])) (λv H2=>v=.dH/\Q (.ref x) H2) E
def Binds(K:PySem.W.Frag)(fd:FuncData)(ps:List Str)(ds:List Value):Prop:=
 ∀(s:Shared)(us:List Value),K.In s.heap->(us++ds).length=ps.length->BindsTo s fd ⟨us,[]⟩ (ps.zip (us++ds))
theorem Binds.all{K:PySem.W.Frag}{fd:FuncData}{ps:List Str}(h:∀us:List Value,us.length=ps.length->bindArgs fd ⟨us,[]⟩=pure (ps.zip us)):Binds K fd ps []:=λs us _ hl=>by
 rw[List.append_nil] at hl ⊢;exact .of_eq (h us hl)
def Passes(CX:vL)(X:Cx)(E:XK):Prop:=∀(pins:List (Addr×Obj))(σ:St)(H:Hp)(s:Shared)(e:Value)(s':Shared),Inv X pins σ H s->CX X.stack H s E e s'->X.xe e s'
section
variable {X:Cx} {CX:vL} {k:Nat} {f C:Addr} {fd:FuncData} {ps:List Str} {sp:Sp} {dvs:List V} {ds:List Value} {E:XK} {x m:Str} {p pos apos:Pos} {e o:Expr} {es:List Expr} {ta:TE} {t:TA}
theorem Ei{pins:List (Addr×Obj)}{σ:St}{H:Hp}{s:Shared}{Q:VK}{us:List Value}{vs:List V}(F:dU X.prog X.w X.K X.mg X.base CX k f fd ps sp)(hr:fv k X.A)(hb:Binds X.K fd ps ds)(hd:Vals dvs ds)(hx:Passes CX X E)(I:Inv X pins σ H s)(r:Vals vs us)(h:sp (vs++dvs) H Q E):wpAny (model X.prog X.w) X.A (call (.ref f) us) (EP X pins σ Q) X.xe s:=by
 have r2:Vals (vs++dvs) (us++ds):=r.append hd;have hl:(us++ds).length=ps.length:=by rw[<-r2.length];exact F.len _ _ _ _ h
 refine wpAny_call (codeAny_mono (F.run X.A X.stack s H ⟨us,[]⟩ (us++ds) (vs++dvs) Q E hr I.env0 (hb s us I.o9 hl) r2 h) λr s' hq=>?_);cases r with
 |error e=>exact hx pins σ H s e s' I hq
 |ok fl=>
  cases fl with
  |ret u=>exact I.after hq
  |next=>exact False.elim hq
  |brk=>exact False.elim hq
  |cont=>exact False.elim hq
theorem NU(F:dU X.prog X.w X.K X.mg X.base CX k f fd ps sp)(hr:fv k X.A)(hg:Gl X x)(hm:X.mg x=some (.ref f))(hk:PySem.W.keepIn X.K (.ref f)=true)(hb:Binds X.K fd ps ds)(hd:Vals dvs ds)(hx:Passes CX X E)(ha:PA X (e::es) t)(uw:(x==("__debug__":Str))=false:=by decide)(he:starEach (e::es) X.env=(false,eval e X.env)::starEach es X.env:=by rfl)(pe:(backTo pos (starEach es X.env)).any (·.1)=false:=by rfl):
 PE X (.Call (.Name x p) (e::es) [] pos) (pb sp dvs E t):=by
 intro pins s σ H Q I h;refine wpAny_Call_Name_kw (fW I hg hm ?_ uw);refine PySem.W.callWith_K (h₀:=X.base) I.ok.mod.Kf hk (cB (ha pos pins s σ H _ I h) λus s1⟨vs,H1,I1,r,q⟩=>⟨I1.o9,?_⟩) he pe;exact Ei F hr hb hd hx I1 r q
theorem wH{pl:Sem Bool}(he:PE X o ta)(c:B9 X.K C)(hm:Meth X.K C m f)(F:dU X.prog X.w X.K X.mg X.base CX k f fd ps sp)(hr:fv k X.A)(hb:Binds X.K fd ps ds)(hd:Vals dvs ds)(hx:Passes CX X E)(ha:PA X (e::es) t)(qQ:starEach (e::es) X.env=(false,eval e X.env)::starEach es X.env:=by rfl)(pe:(backTo pos (starEach es X.env)).any (·.1)=false:=by rfl)(ht:eval (.Call (.Attribute o m apos) (e::es) [] pos) X.env=(do
 let ov<-eval o X.env
 standAt apos.atName
 let(f,first)<-holding [ov] (getMethod ov m pl)
 callWith pos f first (backTo pos (starEach (e::es) X.env)) (backToKw pos (keywordEach [] X.env))):=by rfl):
 PE X (.Call (.Attribute o m apos) (e::es) [] pos) (GN C m sp dvs E ta t):=by
 intro pins s σ H Q I h;refine PySem.W.methodCall_KW (pl:=pl) (cB (he pins s σ H _ I h) λu s1⟨x,H1,I1,rx,a,dx,fs,ex,ea,l,q⟩=>?_) ht;subst ex;obtain rfl:u=Value.ref a:=rx;refine Ed I1 ea c hm l ?_;refine PySem.W.callWith_K (first:=[.ref a]) (h₀:=X.base) I.ok.mod.Kf hm.kp (cB (ha pos pins s1 σ H1 _ I1 q) λus s2⟨vs,H2,I2,r,q2⟩=>⟨I2.o9,?_⟩) qQ pe;exact Ei (us:=.ref a::us) (vs:=.ref a::vs) F hr hb hd hx I2 (.cons rfl r) q2
structure Mk(K:PySem.W.Frag)(C f:Addr):Prop where
 makes:PySem.W.makesIn K C=true
 init:PySem.W.findIn K (.ref C) "__init__"=some (some (.ref f))
 fn:PySem.W.isFn K (.ref f)=true
 kp:PySem.W.keepIn K (.ref C)=true
theorem B'{pins:List (Addr×Obj)}{σ:St}{H:Hp}{s:Shared}{Q:VK}{us:List Value}{vs:List V}(M:Mk X.K C f)(F:dU X.prog X.w X.K X.mg X.base CX k f fd ps sp)(hr:fv (k+1) X.A)(hb:Binds X.K fd ps ds)(hd:Vals dvs ds)(hx:Passes CX X E)(I:Inv X pins σ H s)(r:Vals vs us)(h:∀x dx,H x=none->H dx=none->dx≠x->sp (.ref x::(vs++dvs)) (upd (upd H dx (.own x)) x (.ins C dx [])) (λv H2=>v=.dH/\Q (.ref x) H2) E):
 wpAny (model X.prog X.w) X.A (call (.ref C) us) (EP X pins σ Q) X.xe s:=by
 have hq:=h (s.heap.objs.size+1) s.heap.objs.size (I.b_.fresh (Nat.le_succ _)) (I.b_.fresh (Nat.le_refl _)) (Nat.ne_of_lt (Nat.lt_succ_self _));have I2:=Inv.made (C:=C) I;have r2:Vals (V.ref (s.heap.objs.size+1)::(vs++dvs)) (Value.ref (s.heap.objs.size+1)::(us++ds)):=.cons rfl (r.append hd);have hl:(Value.ref (s.heap.objs.size+1)::us++ds).length=ps.length:=by
  have e:=r2.length;rw[F.len _ _ _ _ hq] at e;exact e.symm
 refine wpAny_call (Kr (f:=f) I.o9 M.makes M.init (beq_iff_eq.mp M.fn) (codeAny_mono (F.run _ X.stack _ _ ⟨Value.ref (s.heap.objs.size+1)::us,[]⟩ (Value.ref (s.heap.objs.size+1)::(us++ds)) _ _ E (hr.make C us [])
  (I2.env0.make C us []) (hb _ (Value.ref (s.heap.objs.size+1)::us) I2.o9 hl) r2 hq) λr s' wb=>?_));cases r with
 |error e=>exact hx pins σ _ _ e s' I2 wb
 |ok fl=>
  cases fl with
  |ret u=>
   obtain⟨v,H',I3,rv,ev,q3⟩:=I2.after wb;subst ev;exact⟨rv,⟨V.ref (s.heap.objs.size+1),H',I3,rfl,q3⟩⟩
  |next=>exact False.elim wb
  |brk=>exact False.elim wb
  |cont=>exact False.elim wb
theorem qg(M:Mk X.K C f)(F:dU X.prog X.w X.K X.mg X.base CX k f fd ps sp)(hr:fv (k+1) X.A)(hg:Gl X x)(hm:X.mg x=some (.ref C))(hb:Binds X.K fd ps ds)(hd:Vals dvs ds)(hx:Passes CX X E)(ha:PA X (e::es) t)(uw:(x==("__debug__":Str))=false:=by decide)(he:starEach (e::es) X.env=(false,eval e X.env)::starEach es X.env:=by rfl)(pe:(backTo pos (starEach es X.env)).any (·.1)=false:=by rfl):
 PE X (.Call (.Name x p) (e::es) [] pos) (B_ C sp dvs E t):=by
 intro pins s σ H Q I h;refine wpAny_Call_Name_kw (fW I hg hm ?_ uw);refine PySem.W.callWith_K (h₀:=X.base) I.ok.mod.Kf M.kp (cB (ha pos pins s σ H _ I h) λus s1⟨vs,H1,I1,r,q⟩=>⟨I1.o9,?_⟩) he pe;exact B' M F hr hb hd hx I1 r q
theorem Ks(M:Mk X.K C f)(F:dU X.prog X.w X.K X.mg X.base CX k f fd ps sp)(hr:fv (k+1) X.A)(hg:Gl X x)(hm:X.mg x=some (.ref C))(hb:Binds X.K fd ps ds)(hd:Vals dvs ds)(hx:Passes CX X E)(uw:(x==("__debug__":Str))=false:=by decide):PE X (.Call (.Name x p) [] [] pos) (B_ C sp dvs E iY):=by
 intro pins s σ H Q I h;refine wpAny_Call_Name_kw (fW I hg hm ?_ uw);exact PySem.W.callWith_K0 I.o9 M.kp (B' (us:=[]) M F hr hb hd hx I .nil h)
end
section
variable {X:Cx} {CX:vL} {k:Nat} {f C:Addr} {fd:FuncData} {ps ks:List Str} {sp:Sp} {E:XK} {x m:Str} {p pos apos aak:Pos} {e o:Expr} {es:List Expr} {kws:List Keyword} {te ta:TE} {t tk:TA} {nm:Option Str}
structure YI(K:PySem.W.Frag)(fd:FuncData)(ps ks:List Str)(g:List Value->List Value->List Value)(gV:List V->List V->List V):Prop where
 to:∀(s:Shared)(us ws:List Value),K.In s.heap->(g us ws).length=ps.length->BindsTo s fd ⟨us,ks.zip ws⟩ (ps.zip (g us ws))
 rel:∀{vs:List V}{us:List Value}{zs:List V}{ws:List Value},Vals vs us->Vals zs ws->Vals (gV vs zs) (g us ws)
variable {g:List Value->List Value->List Value} {gV:List V->List V->List V}
end
structure aI(N P:List Str)(sc:Scope):Prop where
 kind:sc.kind=.function
 co:sc.isCoroutine=false
 gen:sc.isGenerator=false
 nd:N.Nodup
 pre:N.take P.length=P
 par:∀x∈P,sc.names.lookup x=some .local\/sc.names.lookup x=some .cell
 RT:∀y∈sc.names,y.2≠.free
theorem zD{kindOf:Str->Option NameKind}{x:Str}:∀{binds:List (Str×Value)}{m:Str->Option Value},(∀v,(x,v)∉binds)->bindL kindOf binds m x=m x
 |[],_,_=>rfl
 |(n,v)::r,m,h=>by
  unfold bindL;rw[zD λw hw=>h w (List.mem_cons_of_mem _ hw)];split
  ·have:x≠n:=by rintro rfl;exact h v List.mem_cons_self
   simp[this]
  ·rfl
theorem zE{kindOf:Str->Option NameKind}{x:Str}:∀{binds:List (Str×Value)}{m:Str->Option Value},(∀v,(x,v)∉binds)->bindC kindOf binds m x=m x
 |[],_,_=>rfl
 |(n,v)::r,m,h=>by
  unfold bindC;rw[zE λw hw=>h w (List.mem_cons_of_mem _ hw)];split
  ·rfl
  ·have:x≠n:=by rintro rfl;exact h v List.mem_cons_self
   simp[this]
theorem zF{kindOf:Str->Option NameKind}{x:Str}{v:Value}:∀{P:List Str}{vs:List Value}{i:Nat}{m:Str->Option Value},P.Nodup->P[i]?=some x->vs[i]?=some v->kindOf x=some .local->
 bindL kindOf (P.zip vs) m x=some v
 |[],_,_,_,_,h,_,_=>by simp at h
 |_::_,[],_,_,_,_,h,_=>by simp at h
 |p::P,w::vs,0,m,nd,h1,h2,hk=>by
  simp at h1 h2;subst h1;subst h2;show bindL kindOf ((p,w)::P.zip vs) m p=_;unfold bindL;rw[zD λv hv=>(List.nodup_cons.mp nd).1 (List.of_mem_zip hv).1,if_pos hk];simp
 |p::P,w::vs,i+1,m,nd,h1,h2,hk=>by
  show bindL kindOf ((p,w)::P.zip vs) m x=_;unfold bindL;exact zF (i:=i) (List.nodup_cons.mp nd).2 (by simpa using h1) (by simpa using h2) hk
theorem zG{kindOf:Str->Option NameKind}{x:Str}{v:Value}:∀{P:List Str}{vs:List Value}{i:Nat}{m:Str->Option Value},P.Nodup->P[i]?=some x->vs[i]?=some v->kindOf x≠some .local->
 bindC kindOf (P.zip vs) m x=some v
 |[],_,_,_,_,h,_,_=>by simp at h
 |_::_,[],_,_,_,_,h,_=>by simp at h
 |p::P,w::vs,0,m,nd,h1,h2,hk=>by
  simp at h1 h2;subst h1;subst h2;show bindC kindOf ((p,w)::P.zip vs) m p=_;unfold bindC;rw[zE λv hv=>(List.nodup_cons.mp nd).1 (List.of_mem_zip hv).1,if_neg hk];simp
 |p::P,w::vs,i+1,m,nd,h1,h2,hk=>by
  show bindC kindOf ((p,w)::P.zip vs) m x=_;unfold bindC;exact zG (i:=i) (List.nodup_cons.mp nd).2 (by simpa using h1) (by simpa using h2) hk
def start(N:List Str)(vs:List V):St:=vs.map some++List.replicate (N.length-vs.length) none
def xp(CX:vL)(P:Program)(w:World)(K:PySem.W.Frag)(mg:Str->Option Value)(base:Heap)(N:List Str)(qual:Str)(scope:Scope)(f:Addr)(cd:Value)(A:Around)(outer:List Env)(s:Shared)(H:Hp)(E:XK):Cx where
 prog:=P
 w:=w
 K:=K
 mg:=mg
 base:=base
 A:=A.deeper (envOfC qual scope s.heap.objs.size f cd)
 N:=N
 ku:=s
 Ij:=H
 env:=envOfC qual scope s.heap.objs.size f cd
 outer:=outer
 stack:=envOfC qual scope s.heap.objs.size f cd::outer
 ex:=[]
 calm:=true
 fn:=λ_=>true
 pn:=[]
 xe:=λe s'=>wpAny (model P w) (A.deeper (envOfC qual scope s.heap.objs.size f cd)) (leaving (envOfC qual scope s.heap.objs.size f cd) e) (λ_ RU=>CX outer H s E e RU) (λe' RU=>CX outer H s E e' RU) s'
theorem Ca{sc:Scope}{n:Nat}{x:Str}(h:sc.names.lookup x=some .cell):∃c,(cellsFrom n sc.names []).lookup x=some c:=by
 have q:=PySem.W.cellsFrom_some sc.names n [] (.inl h);exact Option.isSome_iff_exists.mp q
theorem zH{CX:vL}{P:Program}{w:World}{K:PySem.W.Frag}{mg:Str->Option Value}{base:Heap}{N ps:List Str}{qual:Str}{scope:Scope}{f:Addr}{cd:Value}{A:Around}{outer:List Env}{s s1:Shared}{H:Hp}{E:XK}{us:List Value}{vs:List V}(S:aI N ps scope)(hd:A.handled=none)(e0:xn P w K mg base A outer s H)(hl:vs.length=ps.length)(r:Vals vs us)(x:InCallC s s.heap.objs.size (bindL (envOfC qual scope s.heap.objs.size f cd).kindOf (ps.zip us) λ_=>none) (cellsFrom (s.heap.objs.size+1) scope.names []) (bindC (envOfC qual scope s.heap.objs.size f cd).kindOf (ps.zip us) λ_=>none) s1):
 Inv (xp CX P w K mg base N qual scope f cd A outer s H E) [] (start N vs) H s1:=by
 have pe:ps.length<=N.length:=by have:=congrArg List.length S.pre;rw[List.length_take] at this;lia
 obtain⟨h1,tk,rfl,hk⟩:=x.done;have Kt:∀b:Addr,b∉(xp CX P w K mg base N qual scope f cd A outer s H E).ex:=λb z=>absurd (show b∈([]:List Addr) from z) (by simp);refine⟨⟨e0.mod,S.kind,rfl,rfl,Nat.le_refl _,λy z c h1 h2=>?_,λy hy=>?_,λy c _ h=>?_,λ_=>hd,Around.frames_deeper e0.frames,.inr ⟨rfl,rfl⟩,λb z=>absurd z (Kt b),e0.bs,e0.GD,λb _ _=>Kt b,λb z=>absurd z (Kt b),e0.oZ,e0.J6⟩,
  rfl,e0.bare,Un.kept hk,⟨_,x.toInCall.ns,λi y v h1 h2 h3=>?_⟩,λy c h=>⟨_,x.cell y c h⟩,e0.b_.fresh (Nat.le_refl _),λy c h=>?_,λp hp=>absurd (show p∈([]:List (Addr×Obj)) from hp) (by simp),e0.b_.kept hk,?_⟩
 ·exact name_of_addr x.apart (PySem.mem_of_lookup h1) (PySem.mem_of_lookup h2)
 ·have hy:scope.names.lookup y=some .cell\/scope.names.lookup y=some .free:=hy;rcases hy with hy|hy
  ·exact Ca hy
  ·exact absurd rfl (S.RT _ (PySem.mem_of_lookup hy))
 ·exact Nat.le_of_lt (x.above y c (PySem.mem_of_lookup h))
 ·have hi:i<vs.length:=by
   unfold start at h2;by_cases hi:i<vs.length
   ·exact hi
   ·rw[List.getElem?_append_right (by simpa using hi)] at h2;rw[List.getElem?_replicate] at h2;split at h2<;>cases h2
  have ha:vs[i]?=some v:=by
   unfold start at h2;rw[List.getElem?_append_left (by simpa using hi),List.getElem?_map] at h2;cases e:vs[i]? with
   |none=>rw[e] at h2;cases h2
   |some a=>rw[e] at h2;cases h2;rfl
  obtain⟨u,hu,rv⟩:=r.get ha;have hp:ps[i]?=some y:=by
   rw[<-S.pre,List.getElem?_take_of_lt (by lia)];exact h1
  have ndP:ps.Nodup:=by rw[<-S.pre];exact S.nd.sublist (List.take_sublist _ _)
  refine⟨u,rv,?_⟩;rcases S.par y (List.mem_of_getElem? hp) with k|k
  ·exact .inl ⟨k,zF ndP hp hu k⟩
  ·obtain⟨c,e⟩:=Ca (n:=s.heap.objs.size+1) k;refine .inr ⟨.inl k,c,e,?_⟩;have q:=x.cell y c e;rw[zG ndP hp hu (by show scope.names.lookup y≠_;rw[k];decide)] at q;exact q
 ·exact e0.b_.fresh (Nat.le_of_lt (x.above y c (PySem.mem_of_lookup h)))
 ·unfold start;show _=N.length;rw[List.length_append,List.length_map,List.length_replicate];lia
theorem Ku{CX:vL}{P:Program}{w:World}{K:PySem.W.Frag}{mg:Str->Option Value}{base:Heap}{k:Nat}{f:Addr}{name qual:Str}{params:Arguments}{body:List Stmt}{scope:Scope}{dV kV doc pm bH ct oc:Value}{an od:Option Addr}{vM:Array (Option Value)}{N ps:List Str}{sp:Sp}(lk:K.lookup f=some ⟨oc,od,.func (PySem.W.fnOf name qual params body scope dV kV doc pm an bH ct),vM⟩)(iq:PySem.W.codeIn K bH qual=true)(S:aI N ps scope)(len:∀vs H Q E,sp vs H Q E->vs.length=ps.length)(pf:∀(A:Around)(outer:List Env)(s:Shared)(H:Hp)(vs:List V)(Q:VK)(E:XK),fv k (A.deeper (envOfC qual scope s.heap.objs.size f bH))->sp vs H Q E->
 ∃t,vJ (xp CX P w K mg base N qual scope f bH A outer s H E) body t/\t {nx:=λ_ H'=>Q .dH H',rt:=Q} (start N vs) H):
 dU P w K mg base CX (k+1) f (PySem.W.fnOf name qual params body scope dV kV doc pm an bH ct) ps sp:=by
 refine⟨len,λA outer s H args us vs Q E hr e0 hb r GO=>?_⟩;have hl:=len _ _ _ _ GO;have KX:K.In s.heap:=e0.mod.Kf.keeps λb o e=>(e0.bs b o e).1;have lim:s.heap.NoLimit:=e0.mod.nolimit.keeps λb o e=>(e0.bs b o e).1;have Vm:∀y∈ps.zip us,scope.names.lookup y.1=some .local\/(scope.names.lookup y.1=some .cell/\((cellsFrom (s.heap.objs.size+1) scope.names []).lookup y.1).isSome=true):=λ⟨n,v⟩ hy=>by
  rcases S.par n (List.of_mem_zip hy).1 with q|q
  ·exact .inl q
  ·exact .inr ⟨q,PySem.W.cellsFrom_some _ _ _ (.inl q)⟩
 refine codeAny_call_function hr.depth (KX _ _ lk) rfl S.co S.gen rfl (PySem.W.codeRec_of KX iq) (hb _ _ _ _ ?_);refine wpAny_newFunctionEnv_cells S.kind Vm λenv he s1 x=>?_;subst he;refine⟨lim.keeps x.toInCall.keep,codeAny_func ?_⟩;obtain⟨t,ht,hq⟩:=pf A outer s H vs Q E (hr.deeper _) GO;have I:Inv (xp CX P w K mg base N qual scope f bH A outer s H E) [] (start N vs) H s1:=zH S hr.hd e0 hl r x;refine wpAny_mono (ht [] s1 (start N vs) H _ I hq) (λfl s' hs=>?_) λe s' hs=>hs;have fin:∀{cH:St}{H':Hp}{v:V}{u:Value},Inv (xp CX P w K mg base N qual scope f bH A outer s H E) [] cH H' s'->RelV v u->Q v H'->CE outer P w H s Q u s':=
  λ{cH H' v u} J rv q=>⟨v,H',J.os,J.bare,J.base,J.b_,rv,q⟩
 cases fl with
 |ret u=>
  obtain⟨v,cH,H',J,rv,q⟩:=hs;exact fin J rv q
 |next=>
  obtain⟨cH,H',J,q⟩:=hs;exact fin (v:=V.dH) (u:=Value.none) J rfl q
 |brk=>
  obtain⟨_,_,_,q⟩:=hs;exact False.elim q
 |cont=>
  obtain⟨_,_,_,q⟩:=hs;exact False.elim q
section
variable {X:Cx} {x:Str} {p pos:Pos} {e:Expr} {es:List Expr} {t:TA} {id T:String} {r:List V->Hp->VK->Prop}
def Cb(r:List V->Hp->VK->Prop)(t:TA):TE:=λσ H Q=>t σ H λvs H1=>r vs H1 Q
theorem ba(hc:ll X (.builtin id) r)(hg:Gl X x)(hm:X.mg x=none)(hv:bootBuiltins x=some (.builtin id))(ha:PA X (e::es) t)(hn:x≠"__name__":=by decide)(uw:(x==("__debug__":Str))=false:=by decide)(he:starEach (e::es) X.env=(false,eval e X.env)::starEach es X.env:=by rfl)(pe:(backTo pos (starEach es X.env)).any (·.1)=false:=by rfl):PE X (.Call (.Name x p) (e::es) [] pos) (Cb r t):=by
 intro pins s σ H Q I h;refine wpAny_Call_Name_kw (lg I hg hm hv ?_ hn uw);exact PyProof.Rows.callWith_builtin1 (cB (ha pos pins s σ H _ I h) λus s1⟨vs,H1,I1,r1,q1⟩=>hc pins s1 σ H1 vs us Q I1 r1 q1) he pe
theorem fw(hc:ll X (.type T) r)(hg:Gl X x)(hm:X.mg x=none)(hv:bootBuiltins x=some (.type T))(ha:PA X (e::es) t)(hn:x≠"__name__":=by decide)(uw:(x==("__debug__":Str))=false:=by decide)(he:starEach (e::es) X.env=(false,eval e X.env)::starEach es X.env:=by rfl)(pe:(backTo pos (starEach es X.env)).any (·.1)=false:=by rfl):PE X (.Call (.Name x p) (e::es) [] pos) (Cb r t):=by
 intro pins s σ H Q I h;refine wpAny_Call_Name_kw (lg I hg hm hv ?_ hn uw);exact PyProof.Rows.callWith_type1 (cB (ha pos pins s σ H _ I h) λus s1⟨vs,H1,I1,r1,q1⟩=>hc pins s1 σ H1 vs us Q I1 r1 q1) he pe
end
end L2
namespace HT
open PySem PyProof.Rows
section
open PySem.SeqAt
open PySem.AutoSeq1 (wpAny_loadPart')
open PySem.MeetsSeq PySem.MeetsSeq2 PySem.MeetsSeq3
end
section
variable {prog:Program} {w:World} {A:Around} {E:Value->Shared->Prop} {s:Shared}
def yW(n d:Nat):Option Int->Nat
 |none=>d
 |some v=>if v<0 then(v+(n:Int)).toNat else min v.toNat n
end
end HT
namespace L2
open PySem PySem.Spec PyProof.Rows
abbrev TO:=St->Hp->(Option Int->Hp->Prop)->Prop
def PO(X:Cx)(e:Option Expr)(t:TO):Prop:=
 ∀(pins:List (Addr×Obj))(s:Shared)(σ:St)(H:Hp)(Q:Option Int->Hp->Prop),Inv X pins σ H s->t σ H Q->
  wpAny (model X.prog X.w) X.A (evalPart e X.env) (λu s'=>∃o H',Inv X pins σ H' s'/\IsPart u o/\Q o H') X.xe s
def Al:TO:=λ_ H Q=>Q none H
def Kv(t:TE):TO:=λσ H Q=>t σ H λx H1=>∃i,x=.int i/\Q (some i) H1
theorem intsAre_of{ns:List Int}:∀{us:List Value},Vals (ns.map V.int) us->IntsAre us ns:=by
 induction ns with
 |nil=>intro us r;rw[List.map_nil] at r;cases r;exact .nil
 |cons n ns ih=>
  intro us r;rw[List.map_cons] at r;cases r with
  |cons r1 r2=>
   obtain⟨t,e⟩:=r1;subst e;exact .cons n t (ih r2)
section
variable {X:Cx} {e:Expr} {te:TE} {lo hi:Option Expr} {tl th:TO} {pos p2:Pos}
theorem kJ:PO X none Al:=by
 intro pins s σ H Q I h;rw[evalPart_none];exact wpAny_pure ⟨none,H,I,.none,h⟩
theorem hU(h:PE X e te):PO X (some e) (Kv te):=by
 intro pins s σ H Q I hw;rw[evalPart_some];refine cB (h pins s σ H _ I hw) λu s1⟨x,H1,I1,r1,q1⟩=>?_;obtain⟨i,rfl,q⟩:=q1;obtain⟨t,rfl⟩:=r1;exact⟨some i,H1,I1,.int i t,q⟩
def YJ(X:Cx)(r:V->Option Int->Option Int->Hp->VK->Prop):Prop:=
 ∀(pins:List (Addr×Obj))(s:Shared)(σ:St)(H:Hp)(x:V)(v vl vu:Value)(lo hi:Option Int)(sl:Addr)(Q:VK),Inv X pins σ H s->RelV x v->s.heap.IsSliceOf sl vl vu .none->IsPart vl lo->IsPart vu hi->r x lo hi H Q->
  ∃T id,typeLookup (.type T) "__getitem__"=pure (some (.builtin id))/\s.TypeIs v T/\wpAny (model X.prog X.w) X.A (getItem v (.ref sl)) (EP X pins σ Q) X.xe s
def XJ(r:V->Option Int->Option Int->Hp->VK->Prop)(te:TE)(tl th:TO):TE:=λσ H Q=>te σ H λx H1=>tl σ H1 λl H2=>th σ H2 λu H3=>r x l u H3 Q
theorem gK{r:V->Option Int->Option Int->Hp->VK->Prop}(hr:YJ X r)(he:PE X e te)(hl:PO X lo tl)(hu:PO X hi th):PE X (.Subscript e (.Slice lo hi none p2) pos) (XJ r te tl th):=by
 intro pins s σ H Q I h;refine Subscript_ (cB (he pins s σ H _ I h) λv s1⟨x,H1,I1,r1,q1⟩=>?_);refine wpAny_Slice (cB (hl pins s1 σ H1 _ I1 q1) λvl s2⟨l,H2,I2,pl,q2⟩=>cB (hu pins s2 σ H2 _ I2 q2) λvu s3⟨u,H3,I3,pu,q3⟩=>?_);rw[evalPart_none];refine wpAny_pure ?_;have I4:Inv X pins σ H3 {s3 with heap:=s3.heap.push {cls:=.type "slice",data:=.fields #[vl,vu,.none]}}:=I3.kept (t':=s3.toks) λb ob q=>Heap.get?_push_of_some _ q;obtain⟨T,id,hT,ht,hg⟩:=hr pins {s3 with heap:=s3.heap.push {cls:=.type "slice",data:=.fields #[vl,vu,.none]}} σ H3 x v vl vu l u s3.heap.objs.size Q I4 r1 (Heap.IsSliceOf.new ..) pl pu q3;show wpAny (model X.prog X.w) X.A (subscriptTail e (.Slice lo hi none p2) v (.ref s3.heap.objs.size)) (EP X pins σ Q) X.xe {s3 with heap:=s3.heap.push {cls:=.type "slice",data:=.fields #[vl,vu,.none]}};exact tail_any (ops:=[.ref s3.heap.objs.size,v]) ht hT hg (by with_unfolding_all rfl)
def Iu(xs:List V)(lo hi:Option Int):List V:=(xs.drop (HT.yW xs.length 0 lo)).take (HT.yW xs.length xs.length hi-HT.yW xs.length 0 lo)
theorem Ce(xs:List V)(lo hi:Option Int):(Iu xs lo hi).length<=xs.length:=by
 unfold Iu;rw[List.length_take,List.length_drop];lia
end
def Nv(n:Nat)(i:Int):Option Nat:=if 0<=i then(if i<n then some i.toNat else none) else if -(n:Int)<=i then some (i+n).toNat else none
def Nw{α:Type}(xs:List α)(i:Int):Option α:=(Nv xs.length i).bind λj=>xs[j]?
theorem GP{n:Nat}{i:Int}{j:Nat}(h:Nv n i=some j):seqIndex? i n=some j/\j<n/\-(n:Int)<=i/\i<n:=by
 unfold Nv at h;by_cases h0:0<=i
 ·rw[if_pos h0] at h;by_cases h1:i<n
  ·rw[if_pos h1] at h;have e:i.toNat=j:=Option.some.inj h;exact⟨by rw[seqIndex_of h0 h1,e],by lia,by lia,h1⟩
  ·rw[if_neg h1] at h;cases h
 ·rw[if_neg h0] at h;by_cases h1:-(n:Int)<=i
  ·rw[if_pos h1] at h;have e:(i+n).toNat=j:=Option.some.inj h;exact⟨by rw[seqIndex_neg (by lia) h1,e],by lia,h1,by lia⟩
  ·rw[if_neg h1] at h;cases h
theorem Am{α:Type}{xs:List α}{i:Int}{v:α}(h:Nw xs i=some v):∃j,seqIndex? i xs.length=some j/\xs[j]?=some v/\j<xs.length/\-(xs.length:Int)<=i/\i<xs.length:=by
 unfold Nw at h;cases e:Nv xs.length i with
 |none=>rw[e] at h;cases h
 |some j=>
  rw[e] at h;obtain⟨h1,h2,h3,h4⟩:=GP e;exact⟨j,h1,h,h2,h3,h4⟩
theorem wI{α:Type}{xs:List α}{j:Nat}{v:α}(h:xs[j]?=some v):Nw xs (j:Int)=some v:=by
 have hj:j<xs.length:=(List.getElem?_eq_some_iff.mp h).1;have e:Nv xs.length (j:Int)=some j:=by
  unfold Nv;rw[if_pos (by lia),if_pos (by lia)];simp
 unfold Nw;rw[e];exact h
def NV(b:Expr):Prop:=∀o i,subscripted b false o i=operate [o,i] (getItem o i)
def Vn(X:Cx)(r:R2):Prop:=
 ∀(value slice:Expr)(pins:List (Addr×Obj))(s:Shared)(σ:St)(H:Hp)(x y:V)(v u:Value)(Q:VK),Inv X pins σ H s->RelV x v->RelV y u->r x y H Q->
  subscripted slice false v u=operate [v,u] (getItem v u)->wpAny (model X.prog X.w) X.A (subscriptTail value slice v u) (EP X pins σ Q) X.xe s
def MtR(X:Cx)(id:String)(r:V->List V->Hp->VK->Prop):Prop:=
 ∀(pins:List (Addr×Obj))(s:Shared)(σ:St)(H:Hp)(x:V)(xs:List V)(v:Value)(us:List Value)(Q:VK),Inv X pins σ H s->RelV x v->Vals xs us->r x xs H Q->
  wpAny (model X.prog X.w) X.A (call (.builtin id) (v::us)) (EP X pins σ Q) X.xe s
section
variable {X:Cx} {a b:Expr} {ta tb:TE} {pos:Pos}
theorem aD{r:R2}(hr:Vn X r)(ha:PE X a ta)(hb:PE X b tb)(hs:NV b):PE X (.Subscript a b pos) (lp r ta tb):=by
 intro pins s σ H Q I h;exact Subscript_ (RP ha hb I h λv u s2 x y H2 I2 rx ry q=>hr a b pins s2 σ H2 x y v u Q I2 rx ry q (hs _ _))
def Ej(K:PySem.W.Frag):R2:=λx y H Q=>∃p xs i v,x=.ref p/\y=.int i/\ft K H p xs/\Nw xs i=some v/\Q v H
def Vo(K:PySem.W.Frag):R2:=λx y H Q=>∃p xs i v,x=.ref p/\y=.int i/\qB K H p xs/\Nw xs i=some v/\Q v H
def Vp:R2:=λx y H Q=>∃z i c,x=.str z/\y=.int i/\z.length<=sizeLine/\Nw z.cps.toList i=some c/\Q (.str ⟨#[c]⟩) H
theorem aZ:Vn X (Ej X.K):=by
 intro value slice pins s σ H x y v u Q I rx ry h hs;obtain⟨p,xs,i,z,rfl,rfl,hq,he,q⟩:=h;cases rx;obtain⟨t,rfl⟩:=ry;obtain⟨bB,r,pl,hz⟩:=I.list hq;obtain⟨j,h1,h2,h3,h4,h5⟩:=Am he;obtain⟨w,ew,NW⟩:=r.get h2;have hl:=r.length;have hn:=qS;have fin:EP X pins σ Q w s:=⟨z,H,I,NW,q⟩;by_cases h0:0<=i
 ·have hj:i.toNat=j:=by
   rw[seqIndex_of h0 h5] at h1;exact Option.some.inj h1
  exact item_listR pl.isList h0 (by lia) (by rw[hj];simpa using ew) fin hs
 ·have hj:(i+(bB.toArray.size:Int)).toNat=j:=by
   rw[seqIndex_neg (by lia) h4] at h1;rw[List.size_toArray,<-hl];exact Option.some.inj h1
  exact subscriptTail_builtinR (x:=w) pl.isList.typeIs slot_list_getitem.lookup
   (wpAny_getItem_list_neg (Q:=λr s'=>r=w/\EP X pins σ Q r s') pl.isList (by lia) (by rw[List.size_toArray]<;>lia) (by lia) (by rw[hj];simpa using ew) ⟨rfl,fin⟩) hs
theorem aL:Vn X (Vo X.K):=by
 intro value slice pins s σ H x y v u Q I rx ry h hs;obtain⟨p,xs,i,z,rfl,rfl,hq,he,q⟩:=h;cases rx;obtain⟨t,rfl⟩:=ry;obtain⟨bB,r,pl,hz⟩:=I.tuple hq;obtain⟨j,h1,h2,h3,h4,h5⟩:=Am he;obtain⟨w,ew,NW⟩:=r.get h2;have hl:=r.length;have hn:=qS;have fin:EP X pins σ Q w s:=⟨z,H,I,NW,q⟩;exact subscriptTail_builtinR (x:=w) pl.typeIs slot_tuple_getitem.lookup
  (getItem_tuple (j:=j) (Q:=λr s'=>r=w/\EP X pins σ Q r s') pl (by lia) (by lia) (by rw[List.size_toArray,<-hl];exact h1) (by simpa using ew) ⟨rfl,fin⟩) hs
theorem RV:Vn X Vp:=by
 intro value slice pins s σ H x y v u Q I rx ry h hs;obtain⟨z,i,c,rfl,rfl,hz,he,q⟩:=h;obtain⟨t,rfl⟩:=rx;obtain⟨t',rfl⟩:=ry;obtain⟨j,h1,h2,h3,h4,h5⟩:=Am he;have hl:z.cps.toList.length=z.length:=by simp[Str.length]
 rw[hl] at h1 h4 h5;have hn:=qS;exact tail_any (typeIs_str s z t) slot_str_getitem.lookup (getItem_str (c:=c) (by
  have e1:decide (i< -(2^63:Int))=false:=decide_eq_false (by lia)
  have e2:decide (i>=2^63)=false:=decide_eq_false (by lia)
  rw[e1,e2,Bool.or_false]) (by rw[h1];simpa using h2) ⟨.str ⟨#[c]⟩,H,I.tok _,⟨_,rfl⟩,q⟩) hs
theorem Ek(bB:List Value)(n j:Nat)(u:Value):Obj.mapSeq (·.setIfInBounds j u) {cls:=.type "list",data:=.seq bB.toArray n}={cls:=.type "list",data:=.seq (bB.set j u).toArray n}:=by
 simp[Obj.mapSeq]
theorem Inv.lst{pins:List (Addr×Obj)}{σ:St}{H:Hp}{s:Shared}{p:Addr}{xs:List V}(I:Inv X pins σ H s)(h:H p=some (.lst xs)):
 ∃(bB:List Value)(n:Nat),Vals xs bB/\s.heap.get? p=some {cls:=.type "list",data:=.seq bB.toArray n}/\xs.length<=sizeLine:=by
 obtain⟨z,bB,n,r,e⟩:=I.b_ p _ h;exact⟨bB,n,r,e,z⟩
theorem Inv.RW{pins:List (Addr×Obj)}{σ:St}{H:Hp}{s:Shared}{p:Addr}{xs ys:List V}{bB its':List Value}{n n':Nat}{f:Obj->Obj}(I:Inv X pins σ H s)(h:H p=some (.lst xs))(ho:s.heap.get? p=some {cls:=.type "list",data:=.seq bB.toArray n})(hf:f {cls:=.type "list",data:=.seq bB.toArray n}={cls:=.type "list",data:=.seq its'.toArray n'})(r:Vals ys its')(hz:ys.length<=sizeLine)(t:Nat):
 Inv X pins σ (upd H p (.lst ys)) {s with heap:=s.heap.update p f,toks:=t}:=by
 have e:(s.heap.update p f).get? p=some {cls:=.type "list",data:=.seq its'.toArray n'}:=by
  rw[Heap.get?_update_self f ho (by rw[hf]<;>rfl),hf]
 refine I.write (x:=p) (e:=p) (by rw[h];trivial) (.inl rfl) (λb u hb q=>(Heap.get?_update_other _ _ (Ne.symm hb)).trans q) ⟨_,e⟩ ?_;exact⟨hz,its',n',r,e⟩
def Ql:V->V->V->Hp->(Hp->Prop)->Prop:=λo i v H Q=>∃p xs k j,o=.ref p/\i=.int k/\H p=some (.lst xs)/\Nv xs.length k=some j/\Q (upd H p (.lst (xs.set j v)))
theorem set_list:Ve X Ql:=by
 intro pins s σ H o i v ov iv u Q I ro ri rv h;obtain⟨p,xs,k,j,rfl,rfl,hp,hj,q⟩:=h;cases ro;obtain⟨t,rfl⟩:=ri;obtain⟨bB,n,r,ho,hz⟩:=I.lst hp;obtain⟨h1,h2,h3,h4⟩:=GP hj;have hl:=r.length;have hn:=qS;have I':Inv X pins σ (upd H p (.lst (xs.set j v))) {s with heap:=s.heap.update p (Obj.mapSeq (·.setIfInBounds j u))}:=
  I.RW hp ho (Ek bB n j u) (r.set rv j) (by rw[List.length_set];exact hz) s.toks
 by_cases h0:0<=k
 ·have hk:k.toNat=j:=by
   rw[seqIndex_of h0 h4] at h1;exact Option.some.inj h1
  exact PySem.W.ki_setAt ho h0 (by lia) (by rw[List.size_toArray,<-hl];exact h4) (by rw[hk];exact⟨_,I',q⟩)
 ·have hk:(k+(bB.toArray.size:Int)).toNat=j:=by
   rw[seqIndex_neg (by lia) h3] at h1;rw[List.size_toArray,<-hl];exact Option.some.inj h1
  exact PySem.W.ki_setBack ho (by lia) (by rw[List.size_toArray,<-hl];exact h3) (by lia) (by rw[hk];exact⟨_,I',q⟩)
theorem An(lo hi:Option Int)(n:Nat):(sliceBounds lo hi none n).1=((HT.yW n 0 lo:Nat):Int)/\(sliceBounds lo hi none n).2.1=((HT.yW n n hi:Nat):Int)/\(sliceBounds lo hi none n).2.2=1:=by
 refine⟨?_,?_,rfl⟩
 ·cases lo with
  |none=>simp[sliceBounds,HT.yW]
  |some i=>
   simp only[sliceBounds,HT.yW,Option.getD_none,show(1:Int)>0 by decide,if_true];by_cases h:i<0
   ·simp only[h,if_true]<;>lia
   ·simp only[h,if_false]<;>lia
 ·cases hi with
  |none=>simp[sliceBounds,HT.yW]
  |some i=>
   simp only[sliceBounds,HT.yW,Option.getD_none,show(1:Int)>0 by decide,if_true];by_cases h:i<0
   ·simp only[h,if_true]<;>lia
   ·simp only[h,if_false]<;>lia
theorem yX(bB:List Value)(lo hi:Option Int):slicePick bB.toArray lo hi none=((bB.drop (HT.yW bB.length 0 lo)).take (HT.yW bB.length bB.length hi-HT.yW bB.length 0 lo)).toArray:=by
 obtain⟨h1,h2,h3⟩:=An lo hi bB.toArray.size;unfold slicePick;rw[h1,h2,h3];simp only[sliceRange_one,pick_run,List.size_toArray]<;>rfl
def Vq(K:PySem.W.Frag):V->Option Int->Option Int->Hp->VK->Prop:=λx lo hi H Q=>∃a xs,x=.ref a/\ft K H a xs/\∀p,H p=none->Q (.ref p) (upd H p (.lst (Iu xs lo hi)))
theorem nA:YJ X (Vq X.K):=by
 intro pins s σ H x v vl vu lo hi sl Q I rx hs pl pu h;obtain⟨a,xs,rfl,hx,q⟩:=h;cases rx;obtain⟨bB,r,ht,hz⟩:=I.list hx;have hlen:=r.length;refine⟨"list",_,slot_list_getitem.lookup,ht.isList.typeIs,?_⟩;refine wpAny_getItem_list_slice ht.isList hs pl pu .none (by simp) ?_ (by rw[List.size_toArray]<;>lia);rw[yX,<-hlen];refine⟨.ref s.heap.objs.size,_,I.laid (t':=s.toks) (o:=.lst (Iu xs lo hi)) (λb ob q=>Heap.get?_push_of_some _ q) (Nat.le_refl _) ?_,rfl,q _ (I.b_.fresh (Nat.le_refl _))⟩;exact⟨Nat.le_trans (Ce xs lo hi) hz,_,0,(r.drop (HT.yW xs.length 0 lo)).take (HT.yW xs.length xs.length hi-HT.yW xs.length 0 lo),Heap.get?_push_size _ rfl⟩
def oK:V->Bool
 |.dH=>true
 |.bl _=>true
 |.int _=>true
 |.str _=>true
 |_=>false
def Iv:V->V->Bool
 |.dH,.dH=>true
 |.bl a,.bl b=>a==b
 |.bl a,.int b=>(if a then 1 else 0)==b
 |.int a,.bl b=>a==(if b then 1 else 0)
 |.int a,.int b=>a==b
 |.str a,.str b=>a==b
 |_,_=>false
theorem RX{A:Around}{s:Shared}{y x:V}{u v:Value}(ry:RelV y u)(rx:RelV x v)(fy:oK y=true)(fx:oK x=true):SeqAt.EqAt A s u v (Iv y x):=by
 cases y with
 |dH=>
  cases ry
  cases x with
  |dH=>cases rx;exact SeqAt.EqAt.same _
  |bl b=>cases rx;exact SeqAt.EqAt.none_bool b
  |int b=>obtain⟨t,rfl⟩:=rx;exact SeqAt.EqAt.none_int b t
  |str b=>obtain⟨t,rfl⟩:=rx;exact SeqAt.EqAt.none_str b t
  |_=>exact absurd (show false=true from fx) Bool.false_ne_true
 |bl a=>
  cases ry
  cases x with
  |dH=>cases rx;exact SeqAt.EqAt.bool_none a
  |bl b=>cases rx;exact SeqAt.EqAt.bool_bool a b
  |int b=>obtain⟨t,rfl⟩:=rx;exact SeqAt.EqAt.bool_int a b t
  |str b=>obtain⟨t,rfl⟩:=rx;exact SeqAt.EqAt.bool_str a b t
  |_=>exact absurd (show false=true from fx) Bool.false_ne_true
 |int a=>
  obtain⟨t',rfl⟩:=ry;cases x with
  |dH=>cases rx;exact SeqAt.EqAt.int_none a t'
  |bl b=>cases rx;exact SeqAt.EqAt.int_bool a t' b
  |int b=>obtain⟨t,rfl⟩:=rx;exact SeqAt.EqAt.int_int a t' b t
  |str b=>obtain⟨t,rfl⟩:=rx;exact SeqAt.EqAt.int_str a t' b t
  |_=>exact absurd (show false=true from fx) Bool.false_ne_true
 |str a=>
  obtain⟨t',rfl⟩:=ry;cases x with
  |dH=>cases rx;exact SeqAt.EqAt.str_none a t'
  |bl b=>cases rx;exact SeqAt.EqAt.str_bool a t' b
  |int b=>obtain⟨t,rfl⟩:=rx;exact SeqAt.EqAt.str_int a t' b t
  |str b=>obtain⟨t,rfl⟩:=rx;exact SeqAt.EqAt.str_str a t' b t
  |_=>exact absurd (show false=true from fx) Bool.false_ne_true
 |_=>exact absurd (show false=true from fy) Bool.false_ne_true
def El(x:V)(u:Value):Bool:=match u with
 |.none=>Iv .dH x
 |.bool b=>Iv (.bl b) x
 |.int i _=>Iv (.int i) x
 |.str z _=>Iv (.str z) x
 |_=>false
theorem Kw{x y:V}{u:Value}(r:RelV y u)(f:oK y=true):El x u=Iv y x:=by
 cases y with
 |dH=>cases r;rfl
 |bl b=>cases r;rfl
 |int i=>obtain⟨t,rfl⟩:=r;rfl
 |str z=>obtain⟨t,rfl⟩:=r;rfl
 |_=>exact absurd (show false=true from f) Bool.false_ne_true
theorem sI{x:V}:∀{xs:List V}{us:List Value},Vals xs us->xs.all oK=true->us.any (El x)=xs.any λy=>Iv y x
 |_,_,.nil,_=>rfl
 |y::xs,u::us,.cons r t,f=>by
  rw[List.all_cons,Bool.and_eq_true] at f;rw[List.any_cons,List.any_cons,Kw r f.1,sI t f.2]
theorem pj{A:Around}{s:Shared}{x:V}{v:Value}(rx:RelV x v)(fx:oK x=true):∀{xs:List V}{us:List Value},Vals xs us->xs.all oK=true->∀u∈us,SeqAt.EqAt A s u v (El x u)
 |_,_,.nil,_=>λu hu=>by cases hu
 |y::xs,u::us,.cons r t,f=>λu' hu=>by
  rw[List.all_cons,Bool.and_eq_true] at f;rcases List.mem_cons.mp hu with rfl|hu
  ·rw[Kw r f.1];exact RX r rx f.1 fx
  ·exact pj rx fx t f.2 u' hu
def Qm(x:V)(xs:List V):Bool:=xs.any λy=>Iv y x
def XM(K:PySem.W.Frag)(neg:Bool):R2:=λx y H Q=>∃p xs,y=.ref p/\(ft K H p xs\/qB K H p xs)/\oK x=true/\xs.all oK=true/\Q (.bl (if neg then !Qm x xs else Qm x xs)) H
theorem Iw:qC X (compareOp .In) (XM X.K false):=by
 intro pins s σ H x y v u Q I rx ry h;obtain⟨p,xs,rfl,hq,fx,fs,q⟩:=h;cases ry
 rcases hq with hq|hq
 ·obtain⟨bB,r,pl,hz⟩:=I.list hq;refine SeqAt.in_listAt (El x) pl.isList (λw hw=>pj rx fx r fs w (by simpa using hw)) ⟨.bl _,H,I,rfl,?_⟩;rw[show bB.toArray.any (El x)=bB.any (El x) by simp,sI r fs];exact q
 ·obtain⟨bB,r,pl,hz⟩:=I.tuple hq;refine SeqAt.in_tupleAt (El x) pl (λw hw=>pj rx fx r fs w (by simpa using hw)) ⟨.bl _,H,I,rfl,?_⟩;rw[show bB.toArray.any (El x)=bB.any (El x) by simp,sI r fs];exact q
theorem Ao:qC X (compareOp .NotIn) (XM X.K true):=by
 intro pins s σ H x y v u Q I rx ry h;obtain⟨p,xs,rfl,hq,fx,fs,q⟩:=h;cases ry
 rcases hq with hq|hq
 ·obtain⟨bB,r,pl,hz⟩:=I.list hq;refine SeqAt.notIn_listAt (El x) pl.isList (λw hw=>pj rx fx r fs w (by simpa using hw)) ⟨.bl _,H,I,rfl,?_⟩;rw[show bB.toArray.any (El x)=bB.any (El x) by simp,sI r fs];exact q
 ·obtain⟨bB,r,pl,hz⟩:=I.tuple hq;refine SeqAt.notIn_tupleAt (El x) pl (λw hw=>pj rx fx r fs w (by simpa using hw)) ⟨.bl _,H,I,rfl,?_⟩;rw[show bB.toArray.any (El x)=bB.any (El x) by simp,sI r fs];exact q
theorem bg:ll X (.builtin "len") (λxs H Q=>∃p ys,xs=[.ref p]/\(ft X.K H p ys\/qB X.K H p ys)/\Q (.int ys.length) H):=by
 intro pins s σ H xs us Q I r h;obtain⟨p,ys,rfl,hq,q⟩:=h;obtain⟨u,rfl,rx⟩:=vals1 r;cases rx
 have hn:=qS;rcases hq with hq|hq
 ·obtain⟨bB,r',pl,hz⟩:=I.list hq;have hlen:=r'.length;exact Calls.call_len_list pl.isList (by simp only[List.size_toArray]<;>lia) ⟨.int ys.length,H,I.tok _,⟨s.toks+1,by rw[List.size_toArray,hlen]⟩,q⟩
 ·obtain⟨bB,r',pl,hz⟩:=I.tuple hq;have hlen:=r'.length;exact len_tuple pl (by simp only[List.size_toArray]<;>lia) ⟨.int ys.length,H,I.tok _,⟨s.toks+1,by rw[List.size_toArray,hlen]⟩,q⟩
theorem hV:ll X (.builtin "len") (λxs H Q=>∃z,xs=[.str z]/\z.length<=sizeLine/\Q (.int z.length) H):=by
 intro pins s σ H xs us Q I r h;obtain⟨z,rfl,hz,q⟩:=h;obtain⟨u,rfl,t,rfl⟩:=vals1 r;have hn:=qS;exact len_str (by lia) ⟨.int z.length,H,I.tok _,⟨_,rfl⟩,q⟩
theorem sJ:ll X (.type "list") (λxs H Q=>∃p ys,xs=[.ref p]/\(ft X.K H p ys\/qB X.K H p ys)/\∀l,H l=none->Q (.ref l) (upd H l (.lst ys))):=by
 intro pins s σ H xs us Q I r h;obtain⟨p,ys,rfl,hq,q⟩:=h;obtain⟨u,rfl,rx⟩:=vals1 r;cases rx;have fin:∀(bB:List Value),Vals ys bB->ys.length<=sizeLine->∀(h':Heap)(c':Nat),(∀b o',s.heap.get? b=some o'->h'.get? b=some o')->
  h'.get? s.heap.objs.size=some {cls:=.type "list",dict:=none,data:=.seq bB.toArray c',slots:=#[]}->EP X pins σ Q (.ref s.heap.objs.size) {s with heap:=h'}:=λbB r' hz h' c' kp e=>
  ⟨.ref s.heap.objs.size,_,I.laid (t':=s.toks) kp (Nat.le_refl _) (show dX X.prog X.w _ h' _ (.lst ys) from⟨hz,bB,c',r',e⟩),rfl,q _ (I.b_.fresh (Nat.le_refl _))⟩
 rcases hq with hq|hq
 ·obtain⟨bB,r',pl,hz⟩:=I.list hq;have hlen:=r'.length;obtain⟨o,ho,hc,n,hd⟩:=pl.isList;exact call_list_seq p (.inl rfl) ho hc hd (λh' c' kp e=>fin bB r' hz h' c' kp e) (by simp only[List.size_toArray]<;>lia)
 ·obtain⟨bB,r',pl,hz⟩:=I.tuple hq;have hlen:=r'.length;obtain⟨o,ho,hc,n,hd⟩:=pl;exact call_list_seq p (.inr rfl) ho hc hd (λh' c' kp e=>fin bB r' hz h' c' kp e) (by simp only[List.size_toArray]<;>lia)
def YK(K:PySem.W.Frag)(T:String)(x:V)(H:Hp):Prop:=match x with
 |.str _=>T="str"
 |.int _=>T="int"
 |.ref p=>(T="list"/\∃xs,ft K H p xs)\/(T="tuple"/\∃o,K.lookup p=some o/\o.cls=.type "tuple"/\o.dict=none)\/
  (T="dict"/\((∃bw,H p=some (.dK bw))\/∃bw,H p=some (.dT bw)))\/(T="set"/\∃S n,H p=some (.set S n))
 |_=>False
theorem Kx{pins:List (Addr×Obj)}{σ:St}{H:Hp}{s:Shared}{T:String}{x:V}{v:Value}(I:Inv X pins σ H s)(r:RelV x v)(ty:YK X.K T x H):
 s.TypeIs v T/\∀a,v=.ref a->∃ob,s.heap.get? a=some ob/\ob.dict=none:=by
 cases x with
 |str z=>
  obtain⟨t,rfl⟩:=r;cases (show T="str" from ty);exact⟨typeIs_str s z t,λ_ e=>nomatch e⟩
 |int i=>
  obtain⟨t,rfl⟩:=r;cases (show T="int" from ty);exact⟨typeIs_int s i t,λ_ e=>nomatch e⟩
 |ref p=>
  cases r
  rcases ty with⟨rfl,xs,hq⟩|⟨rfl,o,hk,hc,hd⟩|⟨rfl,hk⟩|⟨rfl,S,n,hk⟩
  ·obtain⟨bB,_,pl,_⟩:=I.list hq;refine⟨pl.isList.typeIs,λa e=>?_⟩;cases e;obtain⟨o,n,e,c,hd,_⟩:=pl;exact⟨o,e,hd⟩
  ·refine⟨⟨o,I.o9 p o hk,hc⟩,λa e=>?_⟩;cases e;exact⟨o,I.o9 _ o hk,hd⟩
  ·have z:∃o,s.heap.get? p=some o/\o.ExactDict:=by
    rcases hk with⟨bw,hk⟩|⟨bw,hk⟩
    ·obtain⟨_,_,_,_,o,_,_,e,ex,_⟩:=I.b_ p _ hk;exact⟨o,e,ex⟩
    ·obtain⟨_,_,_,_,o,_,_,e,ex,_⟩:=I.b_ p _ hk;exact⟨o,e,ex⟩
   obtain⟨o,e,ex⟩:=z;refine⟨⟨o,e,ex.1⟩,λa e2=>?_⟩;cases e2;exact⟨o,e,ex.2.1⟩
  ·obtain⟨o,_,_,_,e,ex,_⟩:=I.b_ p _ hk;refine⟨⟨o,e,ex.1⟩,λa e2=>?_⟩;cases e2;exact⟨o,e,ex.2.1⟩
 |_=>exact False.elim ty
def RY(K:PySem.W.Frag)(T:String)(r:V->List V->Hp->VK->Prop)(to:TE):TE:=λσ H Q=>to σ H λx H1=>YK K T x H1/\r x [] H1 Q
def Iy(K:PySem.W.Frag)(T:String)(r:V->List V->Hp->VK->Prop)(to:TE)(t:TA):TE:=λσ H Q=>to σ H λx H1=>YK K T x H1/\t σ H1 λxs H2=>r x xs H2 Q
variable {o e:Expr} {es:List Expr} {to:TE} {t:TA} {name:Str} {apos ux:Pos} {T id:String} {r:V->List V->Hp->VK->Prop}
theorem Ap(pa:PlainAttrs T)(slot:Slot T name id)(YL:typeOf (.builtin id)=pure (.type "method_descriptor"))(hm:MtR X id r)(ho:PE X o to)(Cf:attributeBase o name X.env (eval o X.env)=eval o X.env:=by rfl)(Ky:(apos.endLine==ux.line)=true:=by rfl):PE X (.Call (.Attribute o name apos) [] [] ux) (RY X.K T r to):=by
 intro pins s σ H Q I h;refine wpAny_Call_method0_late Cf Ky (cB (ho pins s σ H _ I h) λv s1⟨x,H1,I1,r1,ty,q1⟩=>?_);obtain⟨h1,h2⟩:=Kx I1 r1 ty;exact⟨T,id,pa,slot,YL,h1,h2,Calls.callWith_builtin rfl (PySem.evalArgs_none (hm pins s1 σ H1 x [] v [] Q I1 r1 .nil q1))⟩
theorem eJ(pa:PlainAttrs T)(slot:Slot T name id)(YL:typeOf (.builtin id)=pure (.type "method_descriptor"))(hm:MtR X id r)(ho:PE X o to)(ha:PA X (e::es) t)(Cf:attributeBase o name X.env (eval o X.env)=eval o X.env:=by rfl)(YM:((backTo ux (starEach (e::es) X.env)).all (λx=>!x.1)&&(backToKw ux (keywordEach [] X.env)).all (λx=>x.1.isSome)
 &&decide ((e::es).length+([]:List Keyword).length+(if([]:List Keyword).isEmpty then 0 else 1)<30))=true:=by rfl)(Ky:(apos.endLine==ux.line)=true:=by rfl)(hs:starEach (e::es) X.env=(false,eval e X.env)::starEach es X.env:=by rfl)(RZ:(backTo ux (starEach es X.env)).any (·.1)=false:=by rfl):
 PE X (.Call (.Attribute o name apos) (e::es) [] ux) (Iy X.K T r to t):=by
 intro pins s σ H Q I h;refine wpAny_Call_method_late Cf YM Ky rfl (cB (ho pins s σ H _ I h) λv s1⟨x,H1,I1,r1,ty,q1⟩=>?_);obtain⟨h1,h2⟩:=Kx I1 r1 ty;refine⟨T,id,pa,slot,YL,h1,h2,?_⟩;have hA:=ha ux pins s1 σ H1 _ I1 q1;rw[hs] at hA ⊢;refine Calls.callWith_builtin (by show(false||(backTo ux (starEach es X.env)).any (·.1))=false;rw[RZ]<;>rfl) (Calls.evalArgs_plain ?_);exact cB hA λus s2⟨vs,H2,I2,r2,q2⟩=>hm pins s2 σ H2 x vs v us Q I2 r1 r2 q2
end
def Nx(X:Cx)(id:String)(r:V->List V->Hp->VK->Prop):Prop:=
 ∀(pins:List (Addr×Obj))(s:Shared)(σ:St)(H:Hp)(x:V)(xs:List V)(v:Value)(us:List Value)(Q:VK),Inv X pins σ H s->RelV x v->Vals xs us->r x xs H Q->
  wpAny (model X.prog X.w) X.A (call (.builtin id) (v::us)) (EP X pins σ Q) X.xe s
theorem Vals.one:∀{x:V}{us:List Value},Vals [x] us->∃u,us=[u]/\RelV x u
 |_,_,.cons r .nil=>⟨_,rfl,r⟩
theorem Vals.zero:∀{us:List Value},Vals [] us->us=[]
 |_,.nil=>rfl
theorem Vals.dropLast{xs:List V}{us:List Value}(h:Vals xs us):Vals xs.dropLast us.dropLast:=by
 induction h with
 |nil=>exact .nil
 |cons r t ih=>
  cases t with
  |nil=>exact .nil
  |cons q t'=>exact .cons r ih
theorem Vals.rep{xs:List V}{us:List Value}(h:Vals xs us):∀k:Nat,Vals (List.replicate k xs).flatten (List.replicate k us).flatten
 |0=>.nil
 |k+1=>by
  rw[List.replicate_succ,List.replicate_succ,List.flatten_cons,List.flatten_cons];exact Vals.append h (Vals.rep h k)
theorem Em{α:Type}(l:List α):l.eraseIdx (l.length-1)=l.dropLast:=by
 induction l with
 |nil=>rfl
 |cons a r ih=>
  cases r with
  |nil=>rfl
  |cons b r=>
   have e:(a::b::r).length-1=((b::r).length-1)+1:=by
    have h1:(a::b::r).length=r.length+2:=rfl;have h2:(b::r).length=r.length+1:=rfl;lia
   rw[e,List.eraseIdx_cons_succ,ih]
   all_goals rfl
theorem foldl_rep(bB:List Value):∀(k:Nat)(acc:List Value),
 List.foldl (λx1 x2=>x1++x2) acc.toArray (List.replicate k bB.toArray)=(acc++(List.replicate k bB).flatten).toArray
 |0,acc=>by simp
 |k+1,acc=>by
  have e:acc.toArray++bB.toArray=(acc++bB).toArray:=by simp
  have e2:(acc++bB)++(List.replicate k bB).flatten=acc++(List.replicate (k+1) bB).flatten:=by
   rw[List.replicate_succ,List.flatten_cons,List.append_assoc]
  rw[<-e2,<-foldl_rep bB k (acc++bB),<-e,List.replicate_succ,List.foldl_cons]
section
variable {X:Cx} {pins:List (Addr×Obj)} {σ:St} {H:Hp} {s:Shared} {l b:Addr} {xs ys zs:List V}
theorem Inv.Vr{bB its':List Value}{n:Nat}{f:Array Value->Array Value}{t':Nat}(I:Inv X pins σ H s)(hH:H l=some (.lst xs))(e:s.heap.get? l=some {cls:=.type "list",data:=.seq bB.toArray n})(hf:f bB.toArray=its'.toArray)(hv:Vals ys its')(hz:ys.length<=sizeLine):
 Inv X pins σ (upd H l (.lst ys)) {s with heap:=s.heap.update l (Obj.mapSeq f),toks:=t'}:=by
 have q:=PySem.IsL.update e f;rw[hf] at q;refine I.write (x:=l) (e:=l) (by rw[hH];exact trivial) (.inl rfl) (λb' u hb hu=>(Heap.get?_update_other s.heap (Obj.mapSeq f) (Ne.symm hb)).trans hu) ⟨_,q⟩ ?_;exact⟨hz,its',_,hv,q⟩
theorem Inv.En{bB:List Value}{t':Nat}(I:Inv X pins σ H s)(hv:Vals ys bB)(hz:ys.length<=sizeLine):
 Inv X pins σ (upd H s.heap.objs.size (.lst ys)) {s with heap:=s.heap.push {cls:=.type "list",data:=.seq bB.toArray},toks:=t'}:=
 I.laid (λ_ _ q=>Heap.get?_push_of_some _ q) (Nat.le_refl _) ⟨hz,bB,0,hv,Heap.get?_push_size _ rfl⟩
theorem Inv.fresh(I:Inv X pins σ H s):H s.heap.objs.size=none:=I.b_.fresh (Nat.le_refl _)
theorem Inv.Kz(I:Inv X pins σ H s)(hH:H l=some (.lst xs)):xs.length<=sizeLine/\∃(bB:List Value)(n:Nat),Vals xs bB/\xs.length=bB.length/\s.heap.get? l=some {cls:=.type "list",data:=.seq bB.toArray n}:=by
 obtain⟨z,bB,n,r,e⟩:=I.b_ l _ hH;exact⟨z,bB,n,r,r.length,e⟩
theorem KA{n:Nat}(h:n<=sizeLine):Builtin.List.listTooLong n=false:=by
 unfold Builtin.List.listTooLong;exact decide_eq_false (by lia)
end
section
variable {X:Cx}
def wJ:V->List V->Hp->VK->Prop:=λx vs H Q=>∃l xs y,x=.ref l/\vs=[y]/\H l=some (.lst xs)/\xs.length<sizeLine/\Q .dH (upd H l (.lst (xs++[y])))
theorem dh:Nx X "list.append" wJ:=by
 intro pins s σ H x vs v us Q I rx rv h;obtain⟨l,xs,y,rfl,rfl,hH,hz,q⟩:=h;cases rx;obtain⟨u,rfl,ru⟩:=rv.one;obtain⟨z,bB,n,r,hl,e⟩:=I.Kz hH;refine call_meets F.slot_list_append ⟨_,e,rfl⟩ F.entry_list_append (F.args_list_append_2 _ _) (PySem.list_append l bB.toArray n u (by rw[List.size_toArray];lia)) ⟨e,?_⟩;refine⟨.dH,_,I.Vr (its':=bB++[u]) hH e (by simp) (r.append (.cons ru .nil)) ?_,rfl,q⟩;rw[List.length_append,List.length_singleton];lia
def Vs:V->List V->Hp->VK->Prop:=λx vs H Q=>∃l xs y,x=.ref l/\vs=[]/\H l=some (.lst xs)/\xs[xs.length-1]?=some y/\Q y (upd H l (.lst xs.dropLast))
theorem Eo:Nx X "list.pop" Vs:=by
 intro pins s σ H x vs v us Q I rx rv h;obtain⟨l,xs,y,rfl,rfl,hH,hy,q⟩:=h;cases rx;have hus:=rv.zero;subst hus;obtain⟨z,bB,n,r,hl,e⟩:=I.Kz hH;obtain⟨u,hu,ru⟩:=r.get hy;have YN:bB.toArray[bB.toArray.size-1]?=some u:=by
  show bB.toArray[bB.length-1]?=some u;rw[<-Array.getElem?_toList,<-hl];exact hu
 refine call_meets F.slot_list_pop ⟨_,e,rfl⟩ F.entry_list_pop (F.args_list_pop_1 _) (MeetsSeq.list_pop_last l bB.toArray n u YN (by rw[List.size_toArray];lia)) ⟨e,?_⟩;refine⟨y,_,I.Vr (its':=bB.dropLast) hH e ?_ r.dropLast ?_,ru,q⟩
 ·show bB.toArray.eraseIdxIfInBounds (bB.toArray.size-1)=bB.dropLast.toArray;rw[List.size_toArray,List.eraseIdxIfInBounds_toArray,Em]
 ·rw[List.length_dropLast];lia
def Iz:R2:=λx y H Q=>∃l b xs zs,x=.ref l/\y=.ref b/\H l=some (.lst xs)/\H b=some (.lst zs)/\xs.length+zs.length<=sizeLine/\∀p,H p=none->Q (.ref p) (upd H p (.lst (xs++zs)))
theorem xq:qC X (binaryOp .Add) Iz:=by
 intro pins s σ H x y v u Q I rx ry h;obtain⟨l,b,xs,zs,rfl,rfl,hH,hB,hz,q⟩:=h;cases rx;cases ry;obtain⟨z,bB,n,r,hl,e⟩:=I.Kz hH;obtain⟨z2,Cg,n2,r2,R0,e2⟩:=I.Kz hB;refine PySem.P.add_list e e2 ?_ (by rw[List.size_toArray,List.size_toArray];lia);have ea:bB.toArray++Cg.toArray=(bB++Cg).toArray:=by simp
 rw[ea];exact⟨.ref _,_,I.En (t':=s.toks) (r.append r2) (by rw[List.length_append];lia),rfl,q _ I.fresh⟩
def Vt:R2:=λx y H Q=>∃l k xs,x=.ref l/\y=.int k/\H l=some (.lst xs)/\-(2^63)<=k/\k<2^63/\xs.length*k.toNat<=sizeLine/\
 ∀p,H p=none->Q (.ref p) (upd H p (.lst (List.replicate k.toNat xs).flatten))
theorem len_rep{α:Type}(xs:List α)(k:Nat):(List.replicate k xs).flatten.length=k*xs.length:=by
 induction k with
 |zero=>simp
 |succ k ih=>rw[List.replicate_succ,List.flatten_cons,List.length_append,ih,Nat.succ_mul,Nat.add_comm]
theorem Ep:qC X (binaryOp .Mult) Vt:=by
 intro pins s σ H x y v u Q I rx ry h;obtain⟨l,k,xs,rfl,rfl,hH,h1,h2,hz,q⟩:=h;cases rx;obtain⟨t,rfl⟩:=ry;obtain⟨z,bB,n,r,hl,e⟩:=I.Kz hH;have hlen:bB.toArray.size*k.toNat<=sizeLine:=by rw[List.size_toArray,<-hl];exact hz
 have YO:¬bB.toArray.size*k.toNat>(2^63-1)/8:=by
  have:(sizeLine:Nat)<=(2^63-1)/8:=by decide
  lia
 have YQ:¬(!Builtin.List.listFitsIndex k)=true:=by
  rw[fitsIndex_both h1 h2];exact Bool.false_ne_true
 have Vu:¬Builtin.List.listTooLong (bB.toArray.size*k.toNat)=true:=by
  rw[KA hlen];exact Bool.false_ne_true
 have YR:List.foldl (λx1 x2=>x1++x2) #[] (List.replicate (if bB.toArray.isEmpty=true then 0 else k.toNat) bB.toArray)=(List.replicate k.toNat bB).flatten.toArray:=by
  have f0:∀m:Nat,List.foldl (λx1 x2=>x1++x2) #[] (List.replicate m bB.toArray)=(List.replicate m bB).flatten.toArray:=λm=>by
   have:=foldl_rep bB m [];rw[List.nil_append] at this;exact this
  rw[f0];cases bB with
  |nil=>simp
  |cons a r'=>rw[if_neg (by simp)]
 refine wpAny_binaryOp_repeat_ref (T:="list") (U:="int") (by decide) ⟨_,e,rfl⟩ (λs'=>typeIs_int s' k t) noFill_list_mul F.fills_int_mul F.slot_int_rmul repeat_list F.slot_int_index.lookup
  (call_meets F.slot_int_rmul (typeIs_int s k t) F.entry_int_rmul (F.args_int_rmul_2 _ _) (int___rmul___int_list k t l bB.toArray n)
   ⟨e,rfl,⟨_,e,rfl⟩,call_meets F.slot_list_mul ⟨_,e,rfl⟩ F.entry_list_mul (F.args_list_mul_2 _ _) (AutoListH.list___mul___list_int_3 l bB.toArray n k t YQ YO Vu) ⟨e,?_⟩⟩)
 rw[YR];exact⟨.ref _,_,I.En (t':=s.toks) (r.rep k.toNat) (by rw[len_rep,Nat.mul_comm];exact hz),rfl,q _ I.fresh⟩
end
section
variable {prog:Program} {w:World} {A:Around} {E:Value->Shared->Prop} {s:Shared}
end
section
variable {X:Cx}
end
end L2
namespace Att
open PySem PySem.W PySem.Calls PyProof.Rows
theorem wc{P:Params}{h:Heap}:∀(ns:List Int)(vs:List Value),WellAll P h vs (ns.map WData.int)->IntsAre vs ns:=by
 intro ns
 induction ns with
 |nil=>
  intro vs w;rw[List.map_nil] at w;cases w;exact .nil
 |cons n ns ih=>
  intro vs w;rw[List.map_cons] at w;cases w with
  |cons a b=>
   cases a;exact .cons _ _ (ih _ b)
theorem IA{l:OpenLaw}{n:Nat}(hn:l.most=some n){P:Params}{h:Heap}{args:List WData}{vals:List Value}(NX:l.row.toRowW.claim.pre args=true)(YS:WellAll P h vals args):
 ∃a vs ns,vals=[Value.ref a]/\args=[WData.list (ns.map WData.int)]/\h.get? a=some {cls:=.type "list",data:=.seq vs.toArray}/\IntsAre vs ns/\ns.length<=n:=by
 have hsh:WShape.hasAll [] args [.list .int]=true:=(pre_splitW NX).1;have hc:l.pre.holds [] {args:=args}=true:=(pre_splitW NX).2;obtain⟨d,r,rfl,h1,h2⟩:=hasAllW_cons hsh;obtain rfl:=hasAllW_nil h2;obtain⟨xs,rfl,h3⟩:=hasW_list h1;obtain⟨ns,rfl⟩:=items_int h3;have hlen:ns.length<=n:=by
  unfold OpenLaw.pre at hc;have h4:(WTm.not (.lt (.lit (.int (n:Int))) (.len (.arg 0)))).holds [] {args:=[.list (ns.map .int)]}=true:=by
   have h4:=(holds_andW hc).1;rw[hn] at h4;exact h4
  have h5:=condW_of h4 (w_not (w_lt w_lit (w_len_list (w_arg rfl))));rw[List.length_map] at h5;refine Nat.le_of_not_lt λq=>?_;have q':(n:Int)<((ns.length:Nat):Int):=by lia
  first
   |(rw[decide_eq_true q'] at h5;exact absurd h5 (by decide))
   |(simp at h5;lia)
 cases YS with
 |cons w1 w2=>
  cases w2
  cases w1 with
  |list ho YT=>exact⟨_,_,ns,rfl,rfl,ho,wc ns _ YT,hlen⟩
theorem IB(l:OpenLaw)(args:List WData):l.row.toRowW.claim.post args (.bool true) args=true:=
 postW_of (r:=l.row.toRowW) (X:=(true==true))
  (show WShape.has [] (.bool true) .bool=true by first|rfl|decide|simp[WShape.has,WShape.arms,WShape.armsAll])
  (show(WTm.eq .res (.lit (.bool true))).value [] {args:=args,res:=some (.bool true),after:=args}=some (.bool (true==true)) from w_eq_bool (w_res rfl) w_lit) rfl
theorem Ci{l:OpenLaw}{n:Nat}{q:Program}{loose:List Str}{XP:(Str->Option Value)->Heap->Prop}{YP:World->Heap->Prop}{d:DefRec}(hn:l.most=some n)(Vv:d.params.defaults=[])(call:∀(w:World)(ku cD:Shared)(mg mb:Str->Option Value)(fa:Addr)(o:Obj)(pm cd doc:Value)(a:Addr)(vs:List Value)(ns:List Int),
 Ground q loose [] XP w ku mg mb cD.heap->YP w cD.heap->
 cD.heap.get? fa=some o->o.data=.func (docDef d.name d.params d.body d.scope pm cd doc)->cD.heap.CodeRec cd d.name->mg d.name=some (.ref fa)->
 cD.heap.get? a=some {cls:=.type "list",data:=.seq vs.toArray}->IntsAre vs ns->ns.length<=n->cD.gens=#[]->
 codeAny (model l.prog w) callerA (.call (.ref fa) ⟨[.ref a],[]⟩) (λr s'=>r=.ok (.ret (.bool true))/\OldK cD.heap s'.heap/\s'.os=cD.os/\AllBare s'.gens) cD):
 WalkO q loose XP YP l.row.toRowW d [] (λf vs=>PySem.call f vs):=by
 intro w ku cD mg mb G Y fa o pm cd doc dV kV ho hd iq hD Vw hg args vals as NX aal hrd YS XN;obtain rfl:dV=.none:=Dflts.none hD Vv;obtain rfl:kV=.none:=Dflts.noKw hD;obtain⟨a,vs,ns,rfl,rfl,R1,hints,hlen⟩:=IA hn NX YS;refine enter_call (codeAny_mono (call w ku cD mg mb fa o pm cd doc a vs ns G Y ho (fd_plain hd) iq Vw R1 hints hlen hg) λr s' hq=>?_);obtain⟨rfl,h2,h3,h4⟩:=hq;exact⟨.inl ⟨.bool true,.bool true,[],rfl,λ_=>rfl,.bool true,IB l _,λ_=>⟨List.Pairwise.nil,λ_ hm=>(nomatch hm)⟩⟩,h2,h3,h4⟩
section
variable {prog:Program} {w:World} {A:Around} {E:Value->Shared->Prop} {s:Shared} {K:Frag}
end
end Att
namespace L2
open PySem PySem.Spec PyProof.Rows
theorem zI:∀{vs:List Value}{ns:List Int},IntsAre vs ns->Vals (ns.map V.int) vs
 |_,_,.nil=>.nil
 |_,_,.cons n t h=>.cons ⟨t,rfl⟩ (zI h)
def uy(H:Hp):Prop:=∀b,H b=none\/∃o xs,H b=some (.vY o (.lst xs))
abbrev KOf{K:PySem.W.Frag}{h:Heap}(_:K.In h):PySem.W.Frag:=K
end L2
namespace L2
open PySem PySem.Spec PyProof.Rows
def inClass(s:Stmt)(j:Nat):Stmt:=match s with
 |.ClassDef _ _ _ body _ _ _ _ _ _ _=>body.getD j (.Pass ⟨0,0,0,0⟩)
 |_=>.Pass ⟨0,0,0,0⟩
def fu(s:Stmt):Arguments:=match s with
 |.FunctionDef _ a _ _ _ _ _ _ _ _=>a
 |_=>{posonlyargs:=[],args:=[],vararg:=none,kwonlyargs:=[],kw_defaults:=[],kwarg:=none,defaults:=[]}
def dc(s:Stmt):List Stmt:=match s with
 |.FunctionDef _ _ b _ _ _ _ _ _ _=>b
 |_=>[]
def ax(s:Stmt):Scope:=match s with
 |.FunctionDef _ _ _ _ _ _ sc _ _ _=>sc
 |_=>{kind:=.function,names:=[],isGenerator:=false,isCoroutine:=false}
abbrev kr:vL:=λ_ _ _ _ _ _=>False
abbrev E0:XK:=λ_ _ _=>False
theorem fA{X:Cx}:Passes kr X E0:=λ_ _ _ _ _ _ _ h=>h.elim
structure ue(K:PySem.W.Frag)(x qual:Str)(st:Stmt)(f:Addr)(fd:FuncData):Prop where
 ex:∃(oc:Value)(od:Option Addr)(kV doc pm:Value)(an:Option Addr)(bH ct:Value)(vM:Array (Option Value)),
  fd=PySem.W.fnOf x qual (fu st) (dc st) (ax st) .none kV doc pm an bH ct/\K.lookup f=some ⟨oc,od,.func fd,vM⟩/\PySem.W.codeIn K bH qual=true
 kp:PySem.W.keepIn K (.ref f)=true
section
variable {P:Program} {w:World} {K:PySem.W.Frag} {mg:Str->Option Value} {base:Heap}
theorem ue.ok{x qual:Str}{st:Stmt}{f:Addr}{fd:FuncData}{N ps:List Str}{k:Nat}{sp:Sp}(F:ue K x qual st f fd)(S:aI N ps (ax st))(len:∀vs H Q E,sp vs H Q E->vs.length=ps.length)(pf:∀(bH:Value)(A:Around)(outer:List Env)(s:Shared)(H:Hp)(vs:List V)(Q:VK)(E:XK),fv k (A.deeper (envOfC qual (ax st) s.heap.objs.size f bH))->sp vs H Q E->
 ∃t,vJ (xp kr P w K mg base N qual (ax st) f bH A outer s H E).J7 (dc st) t/\t {nx:=λ_ H'=>Q .dH H',rt:=Q} (start N vs) H):dU P w K mg base kr (k+1) f fd ps sp:=by
 obtain⟨oc,od,kV,doc,pm,an,bH,ct,vM,rfl,lk,iq⟩:=F.ex;refine Ku lk iq S len λA outer s H vs Q E hr GO=>?_;obtain⟨t,h,q⟩:=pf bH A outer s H vs Q E hr GO;exact⟨t,h.J7,q⟩
theorem ue.binds{x qual:Str}{st:Stmt}{f:Addr}{fd:FuncData}{ps:List Str}(F:ue K x qual st f fd)(h:∀(kV doc pm:Value)(an:Option Addr)(bH ct:Value)(us:List Value),us.length=ps.length->bindArgs (PySem.W.fnOf x qual (fu st) (dc st) (ax st) .none kV doc pm an bH ct) ⟨us,[]⟩=pure (ps.zip us)):Binds K fd ps []:=by
 obtain⟨oc,od,kV,doc,pm,an,bH,ct,vM,rfl,lk,iq⟩:=F.ex;exact .all (h kV doc pm an bH ct)
theorem Aq{x qual:Str}{st:Stmt}{f:Addr}{oc:Value}{od an:Option Addr}{vM:Array (Option Value)}{kV doc pm bH ct:Value}(l:K.lookup f=some ⟨oc,od,.func (PySem.W.fnOf x qual (fu st) (dc st) (ax st) .none kV doc pm an bH ct),vM⟩)(c:PySem.W.codeIn K bH qual=true)(k:PySem.W.keepIn K (.ref f)=true):ue K x qual st f (PySem.W.fnOf x qual (fu st) (dc st) (ax st) .none kV doc pm an bH ct):=⟨⟨oc,od,kV,doc,pm,an,bH,ct,vM,rfl,l,c⟩,k⟩
end
theorem IC{n:Nat}(h:n<=1000):n<sizeLine:=Nat.lt_of_le_of_lt h (by decide)
section
variable {X:Cx}
theorem pv(i:Nat){x:Str}{pos:Pos}(hN:X.N[i]?=some x:=by rfl)(hv:UJ X.env.scope x:=by first|exact Or.inl rfl|exact Or.inr (Or.inl rfl)|exact Or.inr (Or.inr rfl))(hd:(x==("__debug__":Str))=false:=by decide)(iq:(x==("__classdict__":Str))=false:=by decide):PE X (.Name x pos) (eA i):=xg hN hv hd iq
end
theorem qD{A B:Prop}(h:B):if false=true then A else B:=by
 rw[if_neg Bool.false_ne_true];exact h
theorem mR{A B:Prop}(h:A):if true=true then A else B:=by
 rw[if_pos rfl];exact h
theorem NY{c A B:Prop}[Decidable c](h1:c->A)(h2:¬c->B):if c then A else B:=by
 by_cases h:c
 ·rw[if_pos h];exact h1 h
 ·rw[if_neg h];exact h2 h
def aJ(H H':Hp):Prop:=∀b o,H b=some o->H' b=some o
theorem aJ.trans{H H1 H2:Hp}(a:aJ H H1)(b:aJ H1 H2):aJ H H2:=λc o h=>b c o (a c o h)
theorem aJ.seq{K:PySem.W.Frag}{H H':Hp}{a:Addr}{xs:List V}(e:aJ H H')(h:ft K H a xs):ft K H' a xs:=by
 rcases h with(h|⟨o,h⟩)|h
 ·exact .inl (.inl (e _ _ h))
 ·exact .inl (.inr ⟨o,e _ _ h⟩)
 ·exact .inr h
end L2
set_option maxHeartbeats 4000000
namespace L2
open PySem PySem.Spec PyProof.Rows
section
variable {X:Cx} {a b c:Expr} {ta tb tc:TE} {pos:Pos}
theorem aT:qC X (binaryOp .Mult) (rI (λi j=>IntMulOk i j) λi j=>.int (i*j)):=
 XH λ_ _ _ _ _ _ _ hc q=>mul_int q hc
theorem KC:qC X (binaryOp .FloorDiv) (rI (λ_ j=>j≠0/\j.natAbs.log2<9000) λi j=>.int (i.fdiv j)):=
 XH λ_ _ _ _ _ _ _ hc q=>floordiv_int hc.1 q (.inl (PyProof.noPylong_of_log2 hc.2))
def YU(K:PySem.W.Frag):R2:=λx y H Q=>∃(p q:Addr)(xs ys:List Int),x=.ref p/\y=.ref q/\ft K H p (xs.map V.int)/\ft K H q (ys.map V.int)/\Q (.bl (decide (xs=ys))) H
theorem int_at{xs:List Int}{bB:List Value}(r:Vals (xs.map V.int) bB){j:Nat}(h:j<xs.length)(h':j<bB.length):∃t,bB[j]=Value.int xs[j] t:=by
 have e:(xs.map V.int)[j]?=some (V.int xs[j]):=by rw[List.getElem?_map,List.getElem?_eq_getElem h]<;>rfl
 obtain⟨u,hu,t,rfl⟩:=r.get e;rw[List.getElem?_eq_getElem h'] at hu;exact⟨t,Option.some.inj hu⟩
theorem R3(xs ys:List Int)(hl:xs.length=ys.length):((List.range xs.length).all λj=>xs.getD j 0==ys.getD j 0)=decide (xs=ys):=by
 rw[Bool.eq_iff_iff,List.all_eq_true,decide_eq_true_eq];constructor
 ·intro h;refine List.ext_getElem hl λj h1 h2=>?_;have:=h j (List.mem_range.mpr h1);rw[beq_iff_eq,List.getD_eq_getElem?_getD,List.getD_eq_getElem?_getD,List.getElem?_eq_getElem h1,List.getElem?_eq_getElem h2] at this;exact this
 ·rintro rfl j _;exact beq_self_eq_true _
theorem R4(hu:X.A.units<cLine):qC X (compareOp .Eq) (YU X.K):=by
 intro pins s σ H x y v u Q I rx ry h;obtain⟨p,q,xs,ys,rfl,rfl,hp,hq,h⟩:=h;cases rx;cases ry;obtain⟨bB,r,pl,hz⟩:=I.list hp;obtain⟨Cg,r2,NZ,UM⟩:=I.list hq;have l1:=r.length;have l2:=r2.length;rw[List.length_map] at l1 l2;by_cases hl:xs.length=ys.length
 ·refine SeqAt.eq_listAt (e:=λj=>xs.getD j 0==ys.getD j 0) pl.isList NZ.isList (by simp only[List.size_toArray];lia) hu (λj h1 h2=>?_) ?_
  ·simp only[List.size_toArray] at h1 h2;obtain⟨t,e⟩:=int_at r (j:=j) (by lia) h1;obtain⟨t',e'⟩:=int_at r2 (j:=j) (by lia) h2;have z:SeqAt.EqAt X.A.in1 s bB[j] Cg[j] (xs[j]==ys[j]):=by
    rw[e,e'];exact SeqAt.EqAt.int_int _ _ _ _
   rw[List.getD_eq_getElem?_getD,List.getD_eq_getElem?_getD,List.getElem?_eq_getElem (show j<xs.length by lia),List.getElem?_eq_getElem (show j<ys.length by lia)];simpa using z
  ·have e:(List.range bB.toArray.size).all (λj=>xs.getD j 0==ys.getD j 0)=decide (xs=ys):=by
    rw[<-R3 xs ys hl,l1,List.size_toArray]
   rw[e];exact⟨.bl _,H,I,rfl,h⟩
 ·have e:decide (xs=ys)=false:=decide_eq_false λz=>hl (by rw[z]);rw[e] at h;exact SeqAt.eq_list_lengthsAt pl.isList NZ.isList (by simp only[List.size_toArray,bne_iff_ne,ne_eq];lia) hu ⟨.bl false,H,I,rfl,h⟩
end
def R5(lo st:Int)(n:Nat):It:=⟨λi _=>i<n,λi H x H'=>H'=H/\x=.int (lo+i*st),λi _=>n<=i⟩
theorem Cj{P:Program}{w:World}{K:PySem.W.Frag}{tg:Expr}(it:Addr)(lo st:Int)(n:Nat):
 Turn P w K tg (R5 lo st n) [it] it (λi h=>IsRangeIter h it (lo+(i:Nat)*st) ((n:Int)-(i:Nat)) st) where
 mem:=List.mem_singleton.mpr rfl
 obj:=λi h q b hb=>by
  obtain rfl:=List.mem_singleton.mp hb;exact⟨_,q,λv z=>by cases (show Data.fields _=Data.cell v from z)⟩
 keep:=λi h h' q k=>k it (List.mem_singleton.mpr rfl) _ q
 item:=by
  intro X e1 e2 e3 hc i pins s σ H E I hf q hg;subst e1 e2 e3;obtain⟨f0,f1,f2,f3,f4,f5⟩:=hf it (List.mem_singleton.mpr rfl);refine(Walks.range (prog:=X.prog) (w:=X.w) (I.ok.hd hc) it lo st n).item i s _ _ hg q λv h' tk hv q' kk=>?_;obtain⟨t,rfl⟩:=hv;have I1:Inv X pins σ H {s with heap:=h',toks:=tk}:=I.turned (λb o hb e=>kk b o (λz=>hb (List.mem_singleton.mp z)) e) f0 f1 f3 f4 f5;exact⟨_,rfl,GG (s:={s with heap:=h',toks:=tk}) (n:="range_iterator") q' rfl rfl (by decide) ⟨.int (lo+i*st),H,I1,⟨t,rfl⟩,⟨rfl,rfl⟩,q',λb hb=>(hf b hb).1⟩⟩
 done:=by
  intro X e1 e2 e3 hc i pins s σ H E I hf q hg;subst e1 e2 e3;obtain⟨f0,f1,f2,f3,f4,f5⟩:=hf it (List.mem_singleton.mpr rfl);exact wpAny_pyNext_range_end (I.ok.hd hc) q (by have:n<=i:=hg;lia) λh' eb=>⟨rfl,I.turned (t':=s.toks) (λb o hb e=>eb b o hb e) f0 f1 f3 f4 f5⟩
 self:=λ_ _ _ _ _ q h=>wpAny_pyIter_rangeiter q h
def KD(ta:TA):TI:=λσ H R=>ta σ H λvs H1=>∃(i j k:Int)(n:Nat),vs=[.int i,.int j,.int k]/\k≠0/\k.natAbs<1073741824/\Builtin.Range.small i j k=true/\Builtin.Range.rangeSize i j k=n/\R (R5 i k n) H1
theorem ID{X:Cx}{tg a b c:Expr}{ta:TA}{p pos:Pos}(hg:Gl X "range")(hm:X.mg "range"=none)(ha:PA X [a,b,c] ta)(hs:starEach [a,b,c] X.env=[(false,eval a X.env),(false,eval b X.env),(false,eval c X.env)]:=by rfl)(BU:starEach [b,c] X.env=[(false,eval b X.env),(false,eval c X.env)]:=by rfl):PI X tg (.Call (.Name "range" p) [a,b,c] [] pos) (KD ta):=by
 intro pins s σ H R I h;refine Call_ (lg I hg hm boot_range (PyProof.Rows.callWith_type1 (cB (ha pos pins s σ H _ I h) λus s1 q1=>?_) (by rw[hs,BU]) (by rw[BU];rfl)));obtain⟨vs,H1,I1,r1,i,j,k,n,rfl,hk,hkb,hsm,hn,q⟩:=q1;cases r1 with
 |cons ra rr=>
  cases rr with
  |cons rb rr=>
   cases rr with
   |cons rc rr=>
    cases rr;obtain⟨t,rfl⟩:=ra;obtain⟨u,rfl⟩:=rb;obtain⟨v,rfl⟩:=rc;refine call_range_3 hk ?_ (.inl (PyProof.noPylong_small hkb));refine wpAny_pyIter_range (IsRange.new ..) hsm ?_;have I2:Inv X pins σ H1 {s1 with heap:=s1.heap.push {cls:=.type "range",data:=.fields #[.int i t,.int j u,.int k v]}}:=I1.kept (t':=s1.toks) λb o e=>Heap.get?_push_of_some _ e;refine⟨_,[_],_,_,H1,rfl,I2.kept (t':=s1.toks) λb o e=>Heap.get?_push_of_some _ e,Cj _ i k n,?_,λb hb=>?_,q⟩
    ·have e1:i+((0:Nat):Int)*k=i:=by simp
     have e2:((n:Nat):Int)-((0:Nat):Int)=Builtin.Range.rangeSize i j k:=by rw[hn];simp
     show IsRangeIter _ _ (i+((0:Nat):Int)*k) (((n:Nat):Int)-((0:Nat):Int)) k;rw[e1,e2];exact Heap.get?_push_size _ rfl
    ·obtain rfl:=List.mem_singleton.mp hb;exact I2.ur (Nat.le_refl _) (I2.b_.fresh (Nat.le_refl _))
structure bo(P:Program)(w:World)(K:PySem.W.Frag)(mg:Str->Option Value)(base:Heap)(k:Nat)(x:Str)(ps:List Str)(sp:Sp):Prop where
 ex:∃f fd,dU P w K mg base kr k f fd ps sp/\mg x=some (.ref f)/\PySem.W.keepIn K (.ref f)=true/\Binds K fd ps []
structure aU(K:PySem.W.Frag)(mg:Str->Option Value)(x:Str)(st:Stmt)(ps:List Str):Prop where
 ex:∃f fd,ue K x x st f fd/\mg x=some (.ref f)/\Binds K fd ps []
section
variable {P:Program} {w:World} {K:PySem.W.Frag} {mg:Str->Option Value} {base:Heap} {x:Str} {st:Stmt} {N ps:List Str} {j k:Nat} {sp Vl:Sp}
theorem bo.mono(F:bo P w K mg base j x ps sp)(h:j<=k:=by decide):bo P w K mg base k x ps sp:=
 let⟨f,fd,a,b,c,d⟩:=F.ex
 ⟨f,fd,a.mono h,b,c,d⟩
theorem bo.imp(F:bo P w K mg base k x ps sp)(h:∀vs H Q E,Vl vs H Q E->sp vs H Q E):bo P w K mg base k x ps Vl:=
 let⟨f,fd,a,b,c,d⟩:=F.ex
 ⟨f,fd,a.imp h,b,c,d⟩
theorem aU.ok(D:aU K mg x st ps)(S:aI N ps (ax st))(len:∀vs H Q E,sp vs H Q E->vs.length=ps.length)(pf:∀(f:Addr)(bH:Value)(A:Around)(outer:List Env)(s:Shared)(H:Hp)(vs:List V)(Q:VK)(E:XK),fv k (A.deeper (envOfC x (ax st) s.heap.objs.size f bH))->sp vs H Q E->
 ∃t,vJ (xp kr P w K mg base N x (ax st) f bH A outer s H E).J7 (dc st) t/\t {nx:=λ_ H'=>Q .dH H',rt:=Q} (start N vs) H):bo P w K mg base (k+1) x ps sp:=
 let⟨f,fd,a,b,c⟩:=D.ex
 ⟨f,fd,a.ok S len λbH A outer s H vs Q E=>pf f bH A outer s H vs Q E,b,a.kp,c⟩
end
theorem aX{K:PySem.W.Frag}{h:Heap}{mg:Str->Option Value}{x:Str}{st:Stmt}{ps:List Str}{f:Addr}{od an:Option Addr}{sl:Array (Option Value)}{oc kV doc pm cd ct:Value}(X:K.In h)(G:h.Ns mainGlobals mg)(a:PySem.W.nsIn K mainGlobals x=some (some (.ref f)))(l:K.lookup f=some ⟨oc,od,.func (PySem.W.fnOf x x (fu st) (dc st) (ax st) .none kV doc pm an cd ct),sl⟩)(c:PySem.W.codeIn K cd x=true)(k:PySem.W.keepIn K (.ref f)=true)(b:∀(kV doc pm:Value)(an:Option Addr)(bH ct:Value)(us:List Value),us.length=ps.length->bindArgs (PySem.W.fnOf x x (fu st) (dc st) (ax st) .none kV doc pm an bH ct) ⟨us,[]⟩=pure (ps.zip us)):aU K mg x st ps:=
 have F:=Aq (st:=st) l c k
 ⟨_,_,F,PySem.W.mg_of X G a,F.binds b⟩
theorem aB{X:Cx}{k:Nat}{x:Str}{ps:List Str}{sp:Sp}{p pos:Pos}{e:Expr}{es:List Expr}{t:TA}(F:bo X.prog X.w X.K X.mg X.base k x ps sp)(hr:fv k X.A)(ha:PA X (e::es) t)(hg:Gl X x:=by rfl)(uw:(x==("__debug__":Str))=false:=by decide)(he:starEach (e::es) X.env=(false,eval e X.env)::starEach es X.env:=by rfl)(pe:(backTo pos (starEach es X.env)).any (·.1)=false:=by rfl):PE X (.Call (.Name x p) (e::es) [] pos) (pb sp [] E0 t):=
 let⟨_,_,a,b,c,d⟩:=F.ex
 NU a hr hg b c d .nil fA ha uw he pe
section
variable {σ:St} {H:Hp} {Q:VK} {D:Ends} {te ta tb:TE} {tr:TA} {ts us:TS} {tt uu:TT} {QB:Bool->Hp->Prop} {QA:List V->Hp->Prop}
theorem fM(h:ts {D with nx:=us D} σ H):Ae ts us D σ H:=h
theorem kh{i:Nat}(h:te σ H λx H1=>D.nx (σ.set i (some x)) H1):sG te (fj i) D σ H:=h
theorem Qn{g:TG}(h:te σ H λx H1=>g x σ H1 D.nx):sG te g D σ H:=h
theorem oM(h:te σ H D.rt):Af te D σ H:=h
theorem R6(h:te σ H λ_ H1=>D.nx σ H1):B3 te D σ H:=h
theorem R7(h:D.nx σ H):B2 D σ H:=h
theorem Vx{i:Nat}{v:V}(e:σ[i]?=some (some v))(h:Q v H):eA i σ H Q:=⟨v,e,h⟩
theorem Vy{wi:TI}{g:TG}(h:wi σ H λJ H1=>∃W:Nat->Nat->St->Hp->Prop,(∃m,W 0 m σ H1)/\∀i m σ H,W i m σ H->
 (J.stop i H/\D.nx σ H)\/(J.go i H/\∃N:St->Hp->Prop,(∀cH H',N cH H'->∃m',m'<m/\W (i+1) m' cH H')/\∀x H',J.Kj i H x H'->g x σ H' λbQ H2=>ts {D with nx:=N,ct:=N,bk:=D.nx} bQ H2)):RO wi g ts D σ H:=h
theorem R8{R:It->Hp->Prop}(h:tr σ H λvs H1=>∃(i j k:Int)(n:Nat),vs=[.int i,.int j,.int k]/\k≠0/\k.natAbs<1073741824/\Builtin.Range.small i j k=true/\Builtin.Range.rangeSize i j k=n/\R (R5 i k n) H1):KD tr σ H R:=h
theorem GQ{i:Nat}{v:V}{R:St->Hp->Prop}(h:R (σ.set i (some v)) H):fj i v σ H R:=h
theorem R9{K:PySem.W.Frag}{n:Nat}{t:Nr}{a:Addr}{xs:List V}{R:St->Hp->Prop}(hs:qB K H a xs)(hl:xs.length=n)(h:t xs σ H R):Ag K n t (.ref a) σ H R:=⟨a,xs,rfl,hs,hl,h⟩
theorem N0{t:TG}{u:Nr}{v:V}{r:List V}{R:St->Hp->Prop}(h:t v σ H λcH H'=>u r cH H' R):ma t u (v::r) σ H R:=⟨v,r,rfl,h⟩
theorem R_{R:St->Hp->Prop}(h:R σ H):B4 [] σ H R:=⟨rfl,h⟩
theorem N3{v:V}(h:Q v H):tC v σ H Q:=h
theorem Ar{r:R2}(h:ta σ H λx H1=>tb σ H1 λy H2=>r x y H2 Q):lp r ta tb σ H Q:=h
theorem YV{r:V->Hp->VK->Prop}(h:ta σ H λx H1=>r x H1 Q):XG r ta σ H Q:=h
theorem YW{g:Int->Int->V}{i j:Int}(h:Q (g i j) H):B7 g (.int i) (.int j) H Q:=⟨i,j,rfl,rfl,h⟩
theorem Er{C:Int->Int->Prop}{g:Int->Int->V}{i j:Int}(c:C i j)(h:Q (g i j) H):rI C g (.int i) (.int j) H Q:=⟨i,j,rfl,rfl,c,h⟩
theorem r_u{g:Int->V}{i:Int}(h:Q (g i) H):rU g (.int i) H Q:=⟨i,rfl,h⟩
theorem R'(h:te σ H λx H'=>∃k,x=.bl k/\QB k H'):B8 te σ H QB:=h
theorem YX(h:te σ H λx H'=>∃k,x=.bl k/\QB k H'):tB te σ H QB:=h
theorem YY{k:Bool}{R:Bool->Prop}(h:R k):∃k',V.bl k=.bl k'/\R k':=⟨k,rfl,h⟩
theorem Qo{i j:Int}(h:Q (.bl (decide (i=j))) H):Vj (.int i) (.int j) H Q:=⟨rfl,by rw[show decide (V.int i=V.int j)=decide (i=j) by rw[Bool.eq_iff_iff];simp];exact h⟩
theorem Qp{i j:Int}(h:Q (.bl (!decide (i=j))) H):RR (.int i) (.int j) H Q:=⟨rfl,by rw[show decide (V.int i=V.int j)=decide (i=j) by rw[Bool.eq_iff_iff];simp];exact h⟩
theorem qI(h:tt σ H λb H1=>if b=true then ts D σ H1 else us D σ H1):RK tt ts us D σ H:=h
theorem Vz(h:tt σ H λc H1=>if c=true then ta σ H1 Q else tb σ H1 Q):Yx tt ta tb σ H Q:=h
theorem VA(h:tt σ H λc H1=>if c=true then uu σ H1 QB else QB false H1):RI tt uu σ H QB:=h
theorem YZ(h:tt σ H λc H1=>if c=true then QB true H1 else uu σ H1 QB):Yv tt uu σ H QB:=h
theorem VB(h:tt σ H λc H1=>QB (!c) H1):RJ tt σ H QB:=h
theorem Sb(h:ta σ H λx H1=>∃c,x=.bl c/\if c=true then tb σ H1 Q else Q (.bl false) H1):Ki ta tb σ H Q:=h
theorem VC(h:ta σ H λx H1=>∃c,x=.bl c/\if c=true then Q (.bl true) H1 else tb σ H1 Q):Yw ta tb σ H Q:=h
theorem Sd(h:ta σ H λx H1=>∃c,x=.bl c/\Q (.bl (!c)) H1):Vc ta σ H Q:=h
theorem ki(h:QA [] H):iY σ H QA:=h
theorem kx(h:te σ H λx H1=>tr σ H1 λxs H2=>QA (x::xs) H2):dm te tr σ H QA:=h
theorem pk{sp:Sp}{E:XK}(h:tr σ H λvs H1=>sp (vs++[]) H1 Q E):pb sp [] E tr σ H Q:=h
theorem Se{r:List V->Hp->VK->Prop}(h:tr σ H λvs H1=>r vs H1 Q):Cb r tr σ H Q:=h
theorem VD(h:tr σ H λxs H1=>xs.length<=sizeLine/\∀p,H1 p=none->Q (.ref p) (upd H1 p (.tup xs))):Iq tr σ H Q:=h
theorem xr(h:tr σ H λxs H1=>xs.length<=sizeLine/\∀p,H1 p=none->Q (.ref p) (upd H1 p (.lst xs))):Ir tr σ H Q:=h
theorem VE{K:PySem.W.Frag}{i:Int}{R:Bool->Prop}(h:R (i !=0)):∃k,Kp K (.int i) H k/\R k:=⟨_,rfl,h⟩
theorem Qq{K:PySem.W.Frag}{p:Addr}{xs:List V}{i:Int}{v:V}(hs:ft K H p xs)(he:Nw xs i=some v)(h:Q v H):Ej K (.ref p) (.int i) H Q:=⟨p,xs,i,v,rfl,rfl,hs,he,h⟩
theorem cR{n:Nat}(h:n<=1000):n<=sizeLine:=Nat.le_of_lt (IC h)
theorem aJ.tup{K:PySem.W.Frag}{H H':Hp}{a:Addr}{xs:List V}(e:aJ H H')(h:qB K H a xs):qB K H' a xs:=by
 rcases h with(h|⟨o,h⟩)|h
 ·exact .inl (.inl (e _ _ h))
 ·exact .inl (.inr ⟨o,e _ _ h⟩)
 ·exact .inr h
theorem aJ.new{H:Hp}{p:Addr}(h:H p=none)(o:HO):aJ H (upd H p o):=λb u q=>by rw[ay (aW q h)];exact q
end
def Y0(K:PySem.W.Frag)(a:Addr):It:=
 ⟨λi H=>∃xs x,ft K H a xs/\xs[i]?=some x,λi H x H'=>∃p y,H p=none/\x=.ref p/\H'=upd H p (.tup [.int (i:Int),y])/\∀xs,ft K H a xs->xs[i]?=some y,λi H=>∃xs,ft K H a xs/\xs.length<=i⟩
def Y1(K:PySem.W.Frag)(a:Addr)(n:Nat):It:=
 ⟨λi H=>i<n/\∃xs x,ft K H a xs/\xs[n-1-i]?=some x,λi H x H'=>H'=H/\∀xs,ft K H a xs->xs[n-1-i]?=some x,λi _=>i=n⟩
theorem wK{b e it:Addr}(h:b∈[e,it]):b=e\/b=it:=by
 rcases List.mem_cons.mp h with z|z
 ·exact .inl z
 ·exact .inr (List.mem_singleton.mp z)
theorem IE{P:Program}{w:World}{K:PySem.W.Frag}{es:List Expr}{k:Nat}{tp:Pos}(a e it:Addr)(jJ:e≠it):
 Turn P w K (.Tuple es k tp) (Y0 K a) [e,it] e (λi h=>∃old,IsEnum h e it ((i:Nat):Int) old/\h.IsListIter it a i) where
 mem:=List.mem_cons_self
 obj:=λi h q b hb=>by
  obtain⟨old,q1,o,q2,c2,d2⟩:=q;rcases wK hb with rfl|rfl
  ·exact⟨_,q1,λv z=>by cases (show Data.fields _=Data.cell v from z)⟩
  ·exact⟨o,q2,λv z=>by rw[d2] at z;cases z⟩
 keep:=λi h h' q kk=>by
  obtain⟨old,q1,q2⟩:=q;exact⟨old,kk e List.mem_cons_self _ q1,q2.at λo z=>kk it (List.mem_cons_of_mem _ (List.mem_singleton.mpr rfl)) o z⟩
 item:=by
  intro X e1 e2 e3 hc i pins s σ H E I hf q hg;subst e1 e2 e3;obtain⟨old,q1,q2⟩:=q;obtain⟨xs,x,hq,hx⟩:=hg;obtain⟨bB,rv,pl,hz⟩:=I.list hq;obtain⟨u,hu,ru⟩:=rv.get hx;obtain⟨f0,f1,f2,f3,f4,f5⟩:=hf e List.mem_cons_self;obtain⟨g0,g1,g2,g3,g4,g5⟩:=hf it (List.mem_cons_of_mem _ (List.mem_singleton.mpr rfl));refine wpAny_pyNext_enum_item q1 q2 pl.isList (x:=u) (by simpa using hu) jJ λh1 eo it1 tu hsz hk=>?_;refine⟨_,rfl,wpAny_letOwnedTupleGo_enum eo λh2 Y2 sb=>?_⟩;have Ck:Heap.SameBut e h1 h2:=sb;have mO:H s.heap.objs.size=none:=I.fresh;have hp:e≠s.heap.objs.size:=Nat.ne_of_lt (Heap.lt_size q1);have kp:∀b o,b≠e->b≠it->s.heap.get? b=some o->h2.get? b=some o:=λb o h3 h4 z=>Ck.extBut b o h3 (hk b o h3 h4 z);have D1:∀b o,H b=some o->b≠e/\b≠it:=λb o z=>⟨aW z f0,aW z g0⟩;have Cm:IsTup h2 s.heap.objs.size [Value.int (i:Int) s.toks,u].toArray:=⟨_,(Ck.2 _ (Ne.symm hp)).trans tu,rfl,_,rfl⟩;have rt:Vals [V.int (i:Int),x] [Value.int (i:Int) s.toks,u]:=.cons ⟨_,rfl⟩ (.cons ru .nil);have b_:lW X.prog X.w (upd H s.heap.objs.size (.tup [.int (i:Int),x])) h2:=λb o z=>by
   by_cases hb:b=s.heap.objs.size
   ·subst hb;rw[aE] at z;cases z;exact⟨by show 2<=sizeLine;decide,_,rt,Cm⟩
   ·rw[ay hb] at z;refine(I.b_ b o z).nv (λc v wa r=>?_) (λc r=>by rw[ay (aW r mO)];exact r) λc ys r=>by rw[ay (aW r mO)];exact r
    rcases wa with rfl|wa
    ·exact kp _ _ (D1 _ _ z).1 (D1 _ _ z).2 r
    ·exact kp _ _ (D1 _ _ wa).1 (D1 _ _ wa).2 r
  have UN:∀{b:Addr},b∉[e,it]->b≠e/\b≠it:=λh3=>⟨λz=>h3 (by rw[z];exact List.mem_cons_self),λz=>h3 (by rw[z];exact List.mem_cons_of_mem _ (List.mem_singleton.mpr rfl))⟩;have un:Un (v_ X.stack) [e,it] H (upd H s.heap.objs.size (.tup [.int (i:Int),x])) s.heap h2:=
   ⟨λb o z _ _ h4=>kp b o (UN h4).1 (UN h4).2 z,λb o z _ _ h4=>⟨o.slots,kp b o (UN h4).1 (UN h4).2 z⟩,
    λb o z n _=>by rw[ay (Nat.ne_of_lt (Heap.lt_size z))];exact n,λb o z h4=>⟨o,kp b o (UN h4).1 (UN h4).2 z⟩,
    λb ys z=>by rw[ay (aW z mO)];exact z,λb o u z=>by rw[ay (aW z mO)];exact z,λb ps z=>⟨#[],by rw[ay (aW z mO),z];simp⟩⟩
  have I2:Inv X pins σ (upd H s.heap.objs.size (.tup [.int (i:Int),x])) {s with heap:=h2,toks:=s.toks+1}:=
   I.call (g':=s.gens) (d':=s.drawn) (t':=s.toks+1) (ch:=[e,it]) un b_ I.bare λb hb=>by
    rcases wK hb with rfl|rfl
    ·exact⟨f3,f1,f4,f5⟩
    ·exact⟨g3,g1,g4,g5⟩
  have i2:h2.IsListIter it a (i+1):=it1.at λo z=>Ck.extBut it o (Ne.symm jJ) z;refine⟨.ref s.heap.objs.size,_,I2,rfl,⟨_,x,mO,rfl,rfl,λys hy=>by rw[I.mP hy hq];exact hx⟩,⟨u,Y2,i2⟩,λb hb=>?_⟩;rcases wK hb with rfl|rfl
  ·rw[ay hp];exact f0
  ·obtain⟨o,z,_⟩:=q2;rw[ay (Nat.ne_of_lt (Heap.lt_size z))];exact g0
 done:=by
  intro X e1 e2 e3 hc i pins s σ H E I hf q hg;subst e1 e2 e3;obtain⟨old,q1,q2⟩:=q;obtain⟨xs,hq,hx⟩:=hg;obtain⟨bB,rv,pl,hz⟩:=I.list hq;have hl:=rv.length;obtain⟨g0,g1,g2,g3,g4,g5⟩:=hf it (List.mem_cons_of_mem _ (List.mem_singleton.mpr rfl));exact wpAny_pyNext_enum_end (I.ok.hd hc) q1 q2 pl.isList (by simp;lia) λh' eb=>⟨rfl,I.turned (t':=s.toks) (λb o hb z=>eb b o hb z) g0 g1 g3 g4 g5⟩
 self:=λ_ _ _ _ _ q h=>let⟨_,q1,_⟩:=q;wpAny_pyIter_enum q1 h
def KG(K:PySem.W.Frag)(ta:TA):TI:=λσ H R=>ta σ H λvs H1=>∃a,vs=[.ref a]/\(∃xs,ft K H1 a xs)/\R (Y0 K a) H1
theorem nB{X:Cx}{es:List Expr}{k:Nat}{tp:Pos}{a:Expr}{ta:TA}{p pos:Pos}(hg:Gl X "enumerate")(hm:X.mg "enumerate"=none)(ha:PA X [a] ta)(hs:starEach [a] X.env=[(false,eval a X.env)]:=by rfl):
 PI X (.Tuple es k tp) (.Call (.Name "enumerate" p) [a] [] pos) (KG X.K ta):=by
 intro pins s σ H R I h;refine Call_ (lg I hg hm boot_enumerate (PyProof.Rows.callWith_type1 (cB (ha pos pins s σ H _ I h) λus s1 q1=>?_) hs rfl));obtain⟨vs,H1,I1,r1,l,rfl,⟨xs,hq⟩,q⟩:=q1;obtain⟨u,rfl,rx⟩:=vals1 r1;cases rx;obtain⟨bB,rv,pl,hz⟩:=I1.list hq;refine call_enumerate_list pl.isList λh' he hit hsz hk=>?_;have I2:Inv X pins σ H1 {s1 with heap:=h'}:=I1.kept (t':=s1.toks) hk;refine wpAny_pyIter_enum he ?_;have old:∀b,s1.heap.objs.size<=b->lY X pins H1 b:=λb hb=>I1.ur hb (I1.b_.fresh hb);refine⟨_,[_,_],_,_,H1,rfl,I2,IE l _ _ (Nat.succ_ne_self _),⟨_,he,hit⟩,λb hb=>?_,q⟩;rcases wK hb with rfl|rfl
 ·exact old _ (Nat.le_succ _)
 ·exact old _ (Nat.le_refl _)
theorem KH{P:Program}{w:World}{K:PySem.W.Frag}{tg:Expr}(a it:Addr)(n:Nat):Turn P w K tg (Y1 K a n) [it] it (λi h=>i<=n/\h.IsRevIter it a ((n:Int)-1-(i:Nat))) where
 mem:=List.mem_singleton.mpr rfl
 obj:=λi h q b hb=>by
  obtain rfl:=List.mem_singleton.mp hb;obtain⟨_,o,e,c,d⟩:=q;exact⟨o,e,λv z=>by rw[d] at z;cases z⟩
 keep:=λi h h' q kk=>⟨q.1,q.2.at λo z=>kk it (List.mem_singleton.mpr rfl) o z⟩
 item:=by
  intro X e1 e2 e3 hc i pins s σ H E I hf q hg;subst e1 e2 e3;obtain⟨hin,q⟩:=q;obtain⟨hi,xs,x,hq,hx⟩:=hg;obtain⟨bB,rv,pl,hz⟩:=I.list hq;obtain⟨u,hu,ru⟩:=rv.get hx;obtain⟨f0,f1,f2,f3,f4,f5⟩:=hf it (List.mem_singleton.mpr rfl);have ei:(n:Int)-1-(i:Nat)=((n-1-i:Nat):Int):=by lia
  rw[ei] at q;refine wpAny_pyNext_rev_item q pl.isList (x:=u) (by simpa using hu) λh' q' sb=>?_;have I1:Inv X pins σ H {s with heap:=h'}:=I.turned (t':=s.toks) (λb o hb z=>sb.extBut b o hb z) f0 f1 f3 f4 f5;obtain⟨o,eo,co,do'⟩:=id q';refine⟨u,rfl,GG (s:={s with heap:=h'}) eo co do' (by decide) ⟨x,H,I1,ru,⟨rfl,λys hy=>by rw[I.mP hy hq];exact hx⟩,⟨by lia,?_⟩,λb hb=>(hf b hb).1⟩⟩;have e2:(n:Int)-1-((i+1:Nat):Int)=((n-1-i:Nat):Int)-1:=by lia
  show h'.IsRevIter it a ((n:Int)-1-((i+1:Nat):Int));rw[e2];exact q'
 done:=by
  intro X e1 e2 e3 hc i pins s σ H E I hf q hg;subst e1 e2 e3;obtain⟨hin,q⟩:=q;have Y3:i=n:=hg;subst Y3;obtain⟨f0,f1,f2,f3,f4,f5⟩:=hf it (List.mem_singleton.mpr rfl);have ei:(i:Int)-1-(i:Nat)=-1:=by lia
  rw[ei] at q;exact wpAny_pyNext_rev_end (I.ok.hd hc) q λh' eb=>⟨rfl,I.turned (t':=s.toks) (λb o hb z=>eb b o hb z) f0 f1 f3 f4 f5⟩
 self:=λ_ _ _ _ _ q h=>wpAny_pyIter_revIter q.2 h
def Sf(K:PySem.W.Frag)(ta:TA):TI:=λσ H R=>ta σ H λvs H1=>∃a xs,vs=[.ref a]/\ft K H1 a xs/\R (Y1 K a xs.length) H1
theorem uz{X:Cx}{tg a:Expr}{ta:TA}{p pos:Pos}(hg:Gl X "reversed")(hm:X.mg "reversed"=none)(ha:PA X [a] ta)(hs:starEach [a] X.env=[(false,eval a X.env)]:=by rfl):
 PI X tg (.Call (.Name "reversed" p) [a] [] pos) (Sf X.K ta):=by
 intro pins s σ H R I h;refine Call_ (lg I hg hm boot_reversed (PyProof.Rows.callWith_type1 (cB (ha pos pins s σ H _ I h) λus s1 q1=>?_) hs rfl));obtain⟨vs,H1,I1,r1,l,xs,rfl,hq,q⟩:=q1;obtain⟨u,rfl,rx⟩:=vals1 r1;cases rx;obtain⟨bB,rv,pl,hz⟩:=I1.list hq;refine call_reversed_list pl.isList ?_;have e0:(bB.toArray.size:Int)-1=(xs.length:Int)-1-((0:Nat):Int):=by rw[List.size_toArray,<-rv.length];simp
 rw[e0];have I2:Inv X pins σ H1 {s1 with heap:=s1.heap.push (revObj l ((xs.length:Int)-1-((0:Nat):Int)))}:=I1.kept (t':=s1.toks) λb o e=>Heap.get?_push_of_some _ e;have q0:(s1.heap.push (revObj l ((xs.length:Int)-1-((0:Nat):Int)))).IsRevIter s1.heap.objs.size l ((xs.length:Int)-1-((0:Nat):Int)):=⟨_,Heap.get?_push_size _ rfl,rfl,rfl⟩;refine wpAny_pyIter_revIter q0 ?_;refine⟨_,[_],_,_,H1,rfl,I2,KH l _ xs.length,⟨Nat.zero_le _,q0⟩,λb hb=>?_,q⟩;obtain rfl:=List.mem_singleton.mp hb;exact I1.ur (Nat.le_refl _) (I1.b_.fresh (Nat.le_refl _))
section
variable {prog:Program} {w:World} {A:Around} {R:Result->Shared->Prop} {s:Shared}
theorem IF{elt tg Qr:Expr}{sc:Scope}{ps:Pos}{it acc:Value}{en:Env}(J:Nat->Shared->Prop)(turn:∀n s,J n s->wpAny (model prog w) A (pyNext it) (λr s1=>match r with
 |none=>R (.ok .next) s1
 |some v=>wpAny (model prog w) A (letOwnedTupleGo tg it v) (λ_ s2=>wpAny (model prog w) A (assign tg en v) (λ_ s3=>wpAny (model prog w) A (eval elt en) (λx s4=>
  wpAny (model prog w) A (call (.builtin "list.append") [acc,x]) (λ_ s5=>∃m,m<n/\J m s5) (λ_ _=>False) s4) (λ_ _=>False) s3) (λ_ _=>False) s2) (λ_ _=>False) s1) (λ_ _=>False) s)(n:Nat)(h:J n s):codeAny (model prog w) A (.compLoop (.ListComp elt [⟨tg,Qr,[],0⟩] sc ps) 0 it acc en) R s:=by
 refine codeAny_loop rfl J (λn s hJ=>?_) n h;show wpAny (model prog w) A ((compTurn (.ListComp elt [⟨tg,Qr,[],0⟩] sc ps) 0 it acc en).onRaise (λx=>do noteFrame x en;theTreesLotGoes x)) _ _ s;refine wpAny_noted ?_;rw[compTurn_list1];have no:∀{α:Type}{t:Sem α}{Q:α->Shared->Prop}{E:Value->Shared->Prop}{s:Shared},wpAny (model prog w) A t Q (λ_ _=>False) s->wpAny (model prog w) A t Q E s:=
  λh=>wpAny_mono h (λ_ _ q=>q) λ_ _ z=>z.elim
 refine wpAny_bind (wpAny_standAt (wpAny_bind (cB (no (turn n s hJ)) λr s1 h1=>?_)));cases r with
 |none=>exact wpAny_pure h1
 |some v=>
  refine wpAny_bind (cB (no h1) λ_ s2 h2=>?_);refine wpAny_bind (cB (no h2) λ_ s3 h3=>?_);refine wpAny_bind (wpAny_bind (cB (no h3) λx s4 h4=>?_));refine wpAny_bind (cB (no h4) λ_ s5 h5=>?_);exact wpAny_pure (wpAny_pure ⟨rfl,h5⟩)
end
def cw(X:Cx)(scope:Scope)(cl:List (Str×Addr))(C:Addr)(s:Shared)(H:Hp)(M:List Str)(ex:List Addr)(pins:List (Addr×Obj)):Cx:=
 {X with N:=M,ku:=s,Ij:=H,env:=compEnvC scope cl C X.env,outer:=X.stack,ex:=ex,fn:=λ_=>false,pn:=X.pn++pins,xe:=λ_ _=>False}
structure mC(X:Cx)(scope:Scope)(cl:List (Str×Addr))(own:List Str)(fr:List Nat)(M:List Str):Prop where
 Cn:closureFor scope X.env=pure cl
 kind:scope.kind=.function
 names:∀x∈scope.names,x.2=.local->scope.names.lookup x.1=some .local
 lq:∀x∈scope.names,x.2≠.cell
 cls:∀x c,cl.lookup x=some c->X.env.cells.lookup x=some c
 has:∀x,((relabel scope X.env).names.lookup x=some .cell\/(relabel scope X.env).names.lookup x=some .free)->∃c,cl.lookup x=some c
 len:M.length=own.length+fr.length
 Y4:∀(i:Nat) x,own[i]?=some x->M[i]?=some x
 Qs:∀(j i:Nat) x,fr[j]?=some i->M[own.length+j]?=some x->X.N[i]?=some x/\X.env.scope.names.lookup x=some .cell/\(∃c,cl.lookup x=some c)/\((relabel scope X.env).names.lookup x=some .cell\/(relabel scope X.env).names.lookup x=some .free)
def i6(own:List Str)(fr:List Nat)(σ:St):St:=List.replicate own.length none++fr.map λi=>(σ[i]?).join
section
variable {X:Cx} {pins:List (Addr×Obj)} {σ:St} {H:Hp} {s:Shared} {scope:Scope} {cl:List (Str×Addr)} {own:List Str} {fr:List Nat} {M:List Str}
theorem Inv.comp(I:Inv X pins σ H s)(K:mC X scope cl own fr M){fp:List Addr}(hf:∀b∈fp,lY X pins H b)(ho:∀b∈fp,∃o,s.heap.get? b=some o/\∀v,o.data≠.cell v){h':Heap}{m:Str->Option Value}{tk:Nat}(hn:h'.Ns s.heap.objs.size m)(hk:∀b u,s.heap.get? b=some u->h'.get? b=some u):
 Inv (cw X scope cl s.heap.objs.size s H M fp pins) [] (i6 own fr σ) H {s with heap:=h',toks:=tk}:=by
 have hC:H s.heap.objs.size=none:=I.b_.fresh (Nat.le_refl _);have Y5:∀{b o},s.heap.get? b=some o->b≠s.heap.objs.size:=λe=>Nat.ne_of_lt (Heap.lt_size e);have U':∀x c,X.env.cells.lookup x=some c->c≠s.heap.objs.size:=λx c e=>by
  obtain⟨v,o,q,_⟩:=I.cell x c e;exact Y5 q
 have nfs:∀b,b≠X.env.locals->b∉X.fs->b∉v_ X.stack:=λb h1 h2 z=>(List.mem_cons.mp (I.um b z)).elim h1 h2;refine⟨⟨I.ok.mod,K.kind,I.ok.glob,I.ok.blt,Nat.le_refl _,λx y c h1 h2=>I.ok.inj x y c (K.cls x c h1) (K.cls y c h2),λx hx=>K.has x hx,(λx c h _=>Bool.noConfusion h),I.ok.hd,I.ok.frames,.inl rfl,λb hb=>?_,I.bs,Nat.le_trans I.ok.GD I.sz,λb o e hb=>?_,λb hb=>?_,I.stack,I.wF⟩,
  rfl,I.bare,Un.kept hk,⟨m,hn,λi x v h1 h2 h3=>?_⟩,λx c h=>?_,hC,λx c h=>I.jD x c (K.cls x c h),λp hp=>?_,I.b_.kept hk,?_⟩
 ·obtain⟨o,e,_⟩:=ho b hb;exact⟨Y5 e,λx c h z=>(hf b hb).2.2.2.2.1 x c (K.cls x c h) z⟩
 ·have:=(hf b hb);rcases this.2.2.2.1 with z|z
  ·exact I.ok.xb b o e z
  ·exact absurd (Nat.lt_of_lt_of_le (Heap.lt_size e) (Nat.le_trans I.ok.GD z)) (Nat.lt_irrefl _)
 ·exact nfs b (hf b hb).2.1 (hf b hb).2.2.1
 ·unfold i6 at h2;by_cases hi:i<own.length
  ·rw[List.getElem?_append_left (by simpa using hi),List.getElem?_replicate,if_pos hi] at h2;cases h2
  ·obtain⟨j,rfl⟩:∃j,i=own.length+j:=⟨i-own.length,by lia⟩;rw[List.getElem?_append_right (by simp),List.length_replicate,Nat.add_sub_cancel_left,List.getElem?_map] at h2;cases e:fr[j]? with
   |none=>rw[e] at h2;cases h2
   |some k=>
    rw[e] at h2;have XO:(σ[k]?).join=some v:=Option.some.inj h2;obtain⟨q1,q2,⟨c,q3⟩,q4⟩:=K.Qs j k x e h1;have h5:σ[k]?=some (some v):=by
     cases z:σ[k]? with
     |none=>rw[z] at XO;cases XO
     |some y=>
      rw[z] at XO;exact congrArg some XO
    obtain⟨m0,_,hl⟩:=I.loc;obtain⟨u,r,l⟩:=hl k x v q1 h5 (.inr (.inl q2));refine⟨u,r,.inr ⟨q4,c,q3,?_⟩⟩;rcases l with⟨k1,_⟩|⟨_,c',e1,z⟩
    ·have k1':X.env.scope.names.lookup x=some .local:=k1;rw[q2] at k1';cases k1'
    ·have e2:=K.cls x c q3;rw[e1] at e2;cases e2;obtain⟨o,eo,ed⟩:=z;exact⟨o,hk _ _ eo,ed⟩
 ·obtain⟨v,o,eo,ed⟩:=I.cell x c (K.cls x c h);exact⟨v,o,hk _ _ eo,ed⟩
 ·have hp':p∈X.pn++pins:=by
   rcases List.mem_append.mp hp with z|z
   ·exact z
   ·cases z
  obtain⟨e,n,ne,nf,d⟩:=I.pin p hp';exact⟨hk _ _ e,n,Y5 e,nfs _ ne nf,d⟩
 ·unfold i6;rw[List.length_append,List.length_replicate,List.length_map];exact K.len.symm
theorem Inv.As{h:Heap}{s':Shared}{H':Hp}{cH:St}{C:Addr}{fp:List Addr}(I:Inv X pins σ H s)(hf:∀b∈fp,lY X pins H b)(I':Inv (cw X scope cl C s H M fp pins) [] cH H' s'):Inv X pins σ H' s':=
 I.Qi I'.os I'.base I'.b_ I'.bare λb hb=>⟨(hf b hb).2.2.2.1,(hf b hb).2.1,(hf b hb).2.2.2.2.1,(hf b hb).2.2.2.2.2⟩
def vN(own:List Str)(fr:List Nat)(wi:TI)(g:TG)(te:TE):TE:=λσ H Q=>wi σ H λJ H1=>∀D,H1 D=none->∃W:Nat->Nat->St->Hp->Prop,(∃m,W 0 m (i6 own fr σ) (upd H1 D (.lst [])))/\∀i m bQ H2,W i m bQ H2->
 (J.stop i H2/\Q (.ref D) H2)\/(J.go i H2/\∀x H3,J.Kj i H2 x H3->g x bQ H3 λqh H4=>te qh H4 λy H5=>∃ys,H5 D=some (.lst ys)/\ys.length<sizeLine/\∃m',m'<m/\W (i+1) m' qh (upd H5 D (.lst (ys++[y]))))
theorem qT{elt tg iter:Expr}{ps:Pos}{g:TG}{te:TE}{it D:Addr}{fp:List Addr}{tn:Nat->Heap->Prop}{J:It}{H1:Hp}{s3:Shared}{W:Nat->Nat->St->Hp->Prop}{Qz:Hp->Prop}{Rz:Result->Shared->Prop}{C:Addr}(hc:X.calm=true)(K:mC X scope cl own fr M)(I3:Inv X pins σ H1 s3)(T:Turn X.prog X.w X.K tg J fp it tn)(st:tn 0 s3.heap)(hf:∀b∈fp,lY X pins H1 b)(hg:PG (cw X scope cl C s3 H1 M fp pins) tg g)(he:PE (cw X scope cl C s3 H1 M fp pins) elt te)(w0:∃m,W 0 m (i6 own fr σ) H1)(turn:∀i m bQ H2,W i m bQ H2->(J.stop i H2/\Qz H2)\/(J.go i H2/\∀x H3,J.Kj i H2 x H3->g x bQ H3 λqh H4=>te qh H4 λy H5=>∃ys,H5 D=some (.lst ys)/\ys.length<sizeLine/\∃m',m'<m/\W (i+1) m' qh (upd H5 D (.lst (ys++[y]))))){h':Heap}{m0:Str->Option Value}{tk:Nat}(hC:C=s3.heap.objs.size)(hn:h'.Ns C m0)(hk:∀b u,s3.heap.get? b=some u->h'.get? b=some u)(fin:∀s' H' m',Inv X pins σ H' s'->H' C=none->s'.heap.Ns C m'->Qz H'->Rz (.ok .next) s'):
 codeAny (model X.prog X.w) X.A (.compStart (.ListComp elt [⟨tg,iter,[],0⟩] scope ps) 0 (.ref it) (.ref D) (compEnvC scope cl C X.env)) Rz {s3 with heap:=h',toks:=tk}:=by
 subst hC;have I4:=I3.comp K hf (T.obj _ _ st) (tk:=tk) hn hk;have zJ:tn 0 h':=T.keep _ _ _ st λb _ o e=>hk b o e;have qR:∀{H':Hp},(∀b∈fp,H' b=none)->∀b∈fp,lY (cw X scope cl s3.heap.objs.size s3 H1 M fp pins) [] H' b:=λ{H'} hz b hb=>by
  obtain⟨o,e,_⟩:=T.obj _ _ st b hb;obtain⟨_,f1,f2,f3,f4,f5⟩:=hf b hb;refine⟨hz b hb,Nat.ne_of_lt (Heap.lt_size e),λz=>(List.mem_cons.mp (I3.um b z)).elim f1 f2,.inl hb,λx c h=>f4 x c (K.cls x c h),λp hp=>f5 p ?_⟩;rcases List.mem_append.mp hp with z|z
  ·exact z
  ·cases z
 have loop:codeAny (model X.prog X.w) X.A (.compLoop (.ListComp elt [⟨tg,iter,[],0⟩] scope ps) 0 (.ref it) (.ref D) (compEnvC scope cl s3.heap.objs.size X.env)) Rz {s3 with heap:=h',toks:=tk}:=by
  obtain⟨m,w0⟩:=w0;refine IF (λn s'=>∃i cH H',Inv (cw X scope cl s3.heap.objs.size s3 H1 M fp pins) [] cH H' s'/\tn i s'.heap/\(∀b∈fp,H' b=none)/\W i n cH H') (λn s5 hJ=>?_) m ⟨0,_,H1,I4,zJ,λb hb=>(hf b hb).1,w0⟩;obtain⟨i,zK,H5,I5,yP,Nu,w5⟩:=hJ;rcases turn i n zK H5 w5 with⟨stop,qz⟩|⟨go,step⟩
  ·refine cB (T.done (cw X scope cl s3.heap.objs.size s3 H1 M fp pins) rfl rfl rfl hc i [] s5 zK H5 _ I5 (qR Nu) yP stop) λr s6 q6=>?_;obtain⟨hr,I6⟩:=q6;subst hr;obtain⟨m6,n6,_⟩:=I6.loc;exact fin s6 H5 m6 (I3.As (h:=h') hf I6) I6.free n6 qz
  ·refine cB (T.item (cw X scope cl s3.heap.objs.size s3 H1 M fp pins) rfl rfl rfl hc i [] s5 zK H5 _ I5 (qR Nu) yP go) λr s6 q6=>?_;obtain⟨u,hr,h6⟩:=q6;subst hr;refine cB h6 λ_ s7 q7=>?_;obtain⟨x,H7,I7,r7,y7,D2,VF⟩:=q7;have VG:=I7.pinned (qR VF) (T.obj _ _ D2);refine cB (hg _ s7 zK H7 x u _ VG r7 (step x H7 y7)) λ_ s8 q8=>?_;obtain⟨Es,H8,I8,q8⟩:=q8;refine cB (he _ s8 Es H8 _ I8 q8) λv s9 q9=>?_;obtain⟨y,H9,I9,r9,ys,hD,hz,m',hm,w9⟩:=q9;refine cB (dh (X:=cw X scope cl s3.heap.objs.size s3 H1 M fp pins) _ s9 Es H9 (.ref D) [y] (.ref D) [v] (λv' H'=>v'=.dH/\H'=upd H9 D (.lst (ys++[y]))) I9 rfl (.cons r9 .nil) ⟨D,ys,y,rfl,rfl,hD,hz,rfl,rfl⟩) λv' KI VH=>?_;obtain⟨v10,VI,Et,_,rfl,rfl⟩:=VH;refine⟨m',hm,i+1,Es,_,Et.kf,T.keep _ _ _ D2 λb hb o e=>(Et.pin (b,o) (List.mem_append_right _ (List.mem_append_right _ (eW hb e)))).1,λb hb=>?_,w9⟩;obtain⟨o,e,_⟩:=T.obj _ _ D2 b hb;exact(Et.pin (b,o) (List.mem_append_right _ (List.mem_append_right _ (eW hb e)))).2.1
 exact codeAny_compStart_list loop (T.self X.A 0 _ _ _ zJ loop)
theorem j6{elt tg iter:Expr}{ps:Pos}{wi:TI}{g:TG}{te:TE}(hc:X.calm=true)(hx:X.xe=λ_ _=>False)(K:mC X scope cl own fr M)(hi:PI X tg iter wi)(hg:∀C s3 H1 fp pins,PG (cw X scope cl C s3 H1 M fp pins) tg g)(he:∀C s3 H1 fp pins,PE (cw X scope cl C s3 H1 M fp pins) elt te)(hs:∀x,foldedSetIterable iter X.env x=pure x:=by intro _;rfl):PE X (.ListComp elt [⟨tg,iter,[],0⟩] scope ps) (vN own fr wi g te):=by
 intro pins s σ H Q I h;rw[eval_ListComp];refine wpAny_comprehension_free (use:=none) rfl hs K.Cn K.kind K.names ?_;show wpAny _ _ (eval iter X.env) _ _ _;refine cB (hi pins s σ H _ I h) λv s1 h1=>cB h1 λRN s2 h2=>?_;obtain⟨it,fp,tn,J,H2,e,I2,T,wG,f2,hW⟩:=h2;subst e;refine wpAny_newObj_type (hd:=by size_fits) ?_;have I3:Inv X pins σ (upd H2 s2.heap.objs.size (.lst [])) {s2 with heap:=s2.heap.push {cls:=.type "list",dict:=none,data:=.seq ([]:List Value).toArray}}:=I2.En (t':=s2.toks) .nil (Nat.zero_le _);obtain⟨W,w0,turn⟩:=hW s2.heap.objs.size I2.fresh;have B6:tn 0 (s2.heap.push {cls:=.type "list",dict:=none,data:=.seq ([]:List Value).toArray}):=T.keep _ _ _ wG λb _ o e=>Heap.get?_push_of_some _ e;have f3:∀b∈fp,lY X pins (upd H2 s2.heap.objs.size (.lst [])) b:=λb hb=>by
  obtain⟨o,e,_⟩:=T.obj _ _ wG b hb;obtain⟨f0,f'⟩:=f2 b hb;exact⟨by rw[ay (Nat.ne_of_lt (Heap.lt_size e))];exact f0,f'⟩
 refine wpAny_newFunctionEnv K.lq (λy hy=>nomatch hy) (λh' wL D3=>?_) K.kind;have hk:∀b u,(s2.heap.push {cls:=.type "list",dict:=none,data:=.seq ([]:List Value).toArray}).get? b=some u->h'.get? b=some u:=λb u e=>
  D3.extBut b u (Nat.ne_of_lt (Heap.lt_size e)) (Heap.get?_push_of_some _ e)
 refine qT (g:=g) (te:=te) (W:=W) (Qz:=λH'=>Q (.ref s2.heap.objs.size) H') hc K I3 T B6 f3 (hg _ _ _ _ _) (he _ _ _ _ _) w0 turn rfl wL hk λs' H' m' J1 Co KJ qz=>?_;refine⟨m',KJ,λh2 sb=>⟨.ref s2.heap.objs.size,H',?_,rfl,qz⟩⟩;obtain⟨_,f1,_,KL,f4,f5⟩:=I3.ur (H':=H') (Nat.le_refl _) Co;exact J1.turned (t':=s'.toks) (λb o hb e=>sb.extBut b o hb e) Co f1 KL f4 f5
theorem N4{i:Nat}{y:Str}{py:Pos}{elt tg iter:Expr}{ps KN:Pos}{wi:TI}{g:TG}{te:TE}(hN:X.N.Nodup)(Y6:X.N[i]?=some y)(hc:X.calm=true)(hx:X.xe=λ_ _=>False)(K:mC X scope cl own fr M)(hi:PI X tg iter wi)(hg:∀C s3 H1 fp pins,PG (cw X scope cl C s3 H1 M fp pins) tg g)(he:∀C s3 H1 fp pins,PE (cw X scope cl C s3 H1 M fp pins) elt te)(hy:X.env.scope.names.lookup y=some .local)(Y7:swapsWith (.ListComp elt [⟨tg,iter,[],0⟩] scope ps) (some (.Name y py)) KN.line X.env=pure true:=by rfl)(hs:∀x,foldedSetIterable iter X.env x=pure x:=by intro _;rfl):PS X (.Assign [.Name y py] (.ListComp elt [⟨tg,iter,[],0⟩] scope ps) KN) (sG (vN own fr wi g te) (fj i)):=by
 intro pins s σ H D I h;rw[exec_Assign_Name_used _ _ _ _ Y7];refine wpAny_bind (wpAny_standAt (wpAny_bind ?_));show wpAny _ _ (do let _<-comprehension (.ListComp elt [⟨tg,iter,[],0⟩] scope ps) scope X.env _ (newList []) false (eval iter X.env) (some (assign (.Name y py) X.env))) _ _ s;refine wpAny_bind (cB (Q:=λ_ s'=>SP X pins D .next s') (wpAny_comprehension_free (use:=some (assign (.Name y py) X.env)) rfl hs K.Cn K.kind K.names ?_) λ_ s' q=>wpAny_pure (wpAny_pure q));refine cB (hi pins s σ H _ I h) λv s1 h1=>cB h1 λRN s2 h2=>?_;obtain⟨it,fp,tn,J,H2,e,I2,T,wG,f2,hW⟩:=h2;subst e;refine wpAny_newObj_type (hd:=by size_fits) ?_;have I3:Inv X pins σ (upd H2 s2.heap.objs.size (.lst [])) {s2 with heap:=s2.heap.push {cls:=.type "list",dict:=none,data:=.seq ([]:List Value).toArray}}:=I2.En (t':=s2.toks) .nil (Nat.zero_le _);obtain⟨W,w0,turn⟩:=hW s2.heap.objs.size I2.fresh;have B6:tn 0 (s2.heap.push {cls:=.type "list",dict:=none,data:=.seq ([]:List Value).toArray}):=T.keep _ _ _ wG λb _ o e=>Heap.get?_push_of_some _ e;have f3:∀b∈fp,lY X pins (upd H2 s2.heap.objs.size (.lst [])) b:=λb hb=>by
  obtain⟨o,e,_⟩:=T.obj _ _ wG b hb;obtain⟨f0,f'⟩:=f2 b hb;exact⟨by rw[ay (Nat.ne_of_lt (Heap.lt_size e))];exact f0,f'⟩
 refine wpAny_newFunctionEnv K.lq (λy hy=>nomatch hy) (λh' wL D3=>?_) K.kind;have hk:∀b u,(s2.heap.push {cls:=.type "list",dict:=none,data:=.seq ([]:List Value).toArray}).get? b=some u->h'.get? b=some u:=λb u e=>
  D3.extBut b u (Nat.ne_of_lt (Heap.lt_size e)) (Heap.get?_push_of_some _ e)
 refine qT (g:=g) (te:=te) (W:=W) (Qz:=λH'=>fj i (.ref s2.heap.objs.size) σ H' D.nx) hc K I3 T B6 f3 (hg _ _ _ _ _) (he _ _ _ _ _) w0 turn rfl wL hk λs' H' m' J1 Co KJ qz=>?_;show wpAny _ _ (assign (.Name y py) X.env (.ref s2.heap.objs.size)) _ _ s';obtain⟨_,f1,_,KL,f4,f5⟩:=I3.ur (H':=H') (Nat.le_refl _) Co;refine wpAny_assign_Name (uo J1 hN Y6 (.inl hy) (v:=.ref s2.heap.objs.size) rfl (λs4 J2 sb=>?_) (.inr hy));obtain⟨a,sa,Y8⟩:=sb;have jJ:(s2.heap.push {cls:=.type "list",dict:=none,data:=.seq ([]:List Value).toArray}).objs.size≠a:=by
  rcases Y8 with z|z
  ·rw[z];exact f1
  ·exact λe=>f4 y a z e.symm
 refine⟨m',KJ.sameBut sa jJ,λh2 Y9=>⟨_,H',?_,qz⟩⟩;exact J2.turned (t':=s4.toks) (λb o hb e=>Y9.extBut b o hb e) Co f1 KL f4 f5
end
section
variable {X:Cx}
theorem IG(hc:X.calm=true):ll X (.builtin "sum") (λxs H Q=>∃(p:Addr)(ns:List Int),xs=[.ref p]/\ft X.K H p (ns.map V.int)/\Q (.int ns.sum) H):=by
 intro pins s σ H xs us Q I r h;obtain⟨p,ns,rfl,hp,q⟩:=h;obtain⟨u,rfl,rx⟩:=vals1 r;cases rx;obtain⟨bB,rv,pl,hz⟩:=I.list hp;have hi:IntsAre bB ns:=intsAre_of rv;obtain⟨ys,hx⟩:=hi.allInts.items;have N5:s.heap.IsList p (intItems ys):=hx▸pl.isList;refine sum_intListG (I.ok.hd hc) N5 λh' tk t' hk=>?_;have e1:ns=ys.toList.map (·.1):=by
  rw[<-nums_intItems,<-hx];exact(show numsOf bB.toArray.toList=ns from hi.numsOf).symm
 have e2:preSum (numAt ys) ys.size=ns.sum:=by
  rw[preSum_eq,e1,List.take_of_length_le (by simp)]
 rw[e2];exact⟨.int ns.sum,H,I.kept hk,⟨t',rfl⟩,q⟩
end
def KO(env:Env):List (Str×Addr)->Prop
 |[]=>True
 |p::r=>env.cells.lookup p.1=some p.2/\KO env r
def Cp(X:Cx)(scope:Scope)(cl:List (Str×Addr)):List Nat->List Str->Prop
 |[],[]=>True
 |i::r,x::y=>(X.N[i]?=some x/\X.env.scope.names.lookup x=some .cell/\(cl.lookup x).isSome=true/\((relabel scope X.env).names.lookup x=some .cell\/(relabel scope X.env).names.lookup x=some .free))/\Cp X scope cl r y
 |_,_=>False
theorem KO.get{env:Env}:∀{cl:List (Str×Addr)},KO env cl->∀x c,cl.lookup x=some c->env.cells.lookup x=some c
 |[],_,x,c,h=>by simp at h
 |(y,d)::r,k,x,c,h=>by
  rw[List.lookup_cons] at h;cases e:x==y with
  |true=>
   rw[e] at h;have e1:x=y:=eq_of_beq e;have e2:d=c:=Option.some.inj h;rw[e1,<-e2];exact k.1
  |false=>
   rw[e] at h;exact KO.get k.2 x c h
theorem Cp.len{X:Cx}{scope:Scope}{cl:List (Str×Addr)}:∀{fr:List Nat}{fs:List Str},Cp X scope cl fr fs->fr.length=fs.length
 |[],[],_=>rfl
 |_::r,_::y,h=>congrArg Nat.succ (Cp.len (fr:=r) (fs:=y) h.2)
 |[],_::_,h=>h.elim
 |_::_,[],h=>h.elim
theorem Cp.get{X:Cx}{scope:Scope}{cl:List (Str×Addr)}:∀{fr:List Nat}{fs:List Str},Cp X scope cl fr fs->∀(j i:Nat) x,fr[j]?=some i->fs[j]?=some x->
 X.N[i]?=some x/\X.env.scope.names.lookup x=some .cell/\(∃c,cl.lookup x=some c)/\((relabel scope X.env).names.lookup x=some .cell\/(relabel scope X.env).names.lookup x=some .free)
 |[],[],_,j,i,x,h,_=>by simp at h
 |k::r,z::y,H,0,i,x,h1,h2=>by
  simp at h1 h2;subst h1 h2;exact⟨H.1.1,H.1.2.1,Option.isSome_iff_exists.mp H.1.2.2.1,H.1.2.2.2⟩
 |k::r,z::y,H,j+1,i,x,h1,h2=>Cp.get (fr:=r) (fs:=y) H.2 j i x (by simpa using h1) (by simpa using h2)
 |[],_::_,h,_,_,_,_,_=>h.elim
 |_::_,[],h,_,_,_,_,_=>h.elim
theorem iL{X:Cx}{scope:Scope}{cl:List (Str×Addr)}{own fs:List Str}{fr:List Nat}(Cn:closureFor scope X.env=pure cl)(kind:scope.kind=.function)(names:∀x∈scope.names,x.2=.local->scope.names.lookup x.1=some .local)(lq:∀x∈scope.names,x.2≠.cell)(c:KO X.env cl)(h:((relabel scope X.env).names.all λp=>!(p.2==.cell||p.2==.free)||(cl.lookup p.1).isSome)=true)(f:Cp X scope cl fr fs):mC X scope cl own fr (own++fs) where
 Cn:=Cn
 kind:=kind
 names:=names
 lq:=lq
 cls:=c.get
 has:=λx hx=>by
  have hm:∃k,(x,k)∈(relabel scope X.env).names/\(k=.cell\/k=.free):=by
   rcases hx with z|z
   ·exact⟨_,PySem.mem_of_lookup z,.inl rfl⟩
   ·exact⟨_,PySem.mem_of_lookup z,.inr rfl⟩
  obtain⟨k,hk,hkk⟩:=hm;have:=List.all_eq_true.mp h (x,k) hk;rcases hkk with rfl|rfl
  ·exact Option.isSome_iff_exists.mp (by simpa using this)
  ·exact Option.isSome_iff_exists.mp (by simpa using this)
 len:=by rw[List.length_append,f.len]
 Y4:=λi x hi=>by
  rw[List.getElem?_append_left (List.getElem?_eq_some_iff.mp hi).1];exact hi
 Qs:=λj i x h1 h2=>by
  rw[List.getElem?_append_right (Nat.le_add_right _ _),Nat.add_sub_cancel_left] at h2;exact f.get j i x h1 h2
section
variable {own:List Str} {fr:List Nat} {g:TG} {te:TE} {σ:St} {H1:Hp} {Q:VK}
end
theorem Cq{c:TT}{tb:TS}{D:Ends}{σ:St}{H:Hp}(Pv:Nat->St->Hp->Prop)(h0:∃m,Pv m σ H)(hs:∀m σ H,Pv m σ H->c σ H λb H1=>if b=true then ∃N:St->Hp->Prop,(∀cH H',N cH H'->∃m',m'<m/\Pv m' cH H')/\tb {D with nx:=N,ct:=N,bk:=D.nx} σ H1 else D.nx σ H1):D9 c tb D σ H:=⟨Pv,h0,hs⟩
section
variable {σ:St} {H:Hp} {R:It->Hp->Prop} {tl:TE} {tr:TA} {Q:VK}
theorem N6{K:PySem.W.Frag}(h:tl σ H λx H1=>∃a,x=.ref a/\(∃xs,ft K H1 a xs)/\R (Vf K a) H1):zy K tl σ H R:=h
theorem Sg(h:tr σ H λvs H1=>∃j:Int,vs=[.int j]/\-(2^62)<=j/\j<2^62/\R (Nt 0 j.toNat) H1):Kk tr σ H R:=h
theorem Sh(h:tr σ H λvs H1=>∃i j:Int,vs=[.int i,.int j]/\(-(2^62)<=i/\i<2^62/\-(2^62)<=j/\j<2^62)/\R (Nt i (j-i).toNat) H1):Kl tr σ H R:=h
theorem N7{K:PySem.W.Frag}(h:tr σ H λvs H1=>∃a,vs=[.ref a]/\(∃xs,ft K H1 a xs)/\R (Y0 K a) H1):KG K tr σ H R:=h
theorem Si{K:PySem.W.Frag}(h:tr σ H λvs H1=>∃a xs,vs=[.ref a]/\ft K H1 a xs/\R (Y1 K a xs.length) H1):Sf K tr σ H R:=h
theorem Sj{te:TE}{S:Option Int->Hp->Prop}(h:te σ H λx H1=>∃i,x=.int i/\S (some i) H1):Kv te σ H S:=h
theorem KP{S:Option Int->Hp->Prop}(h:S none H):Al σ H S:=h
theorem N8{r:V->Option Int->Option Int->Hp->VK->Prop}{tlo thi:TO}(h:tl σ H λx H1=>tlo σ H1 λl H2=>thi σ H2 λu H3=>r x l u H3 Q):XJ r tl tlo thi σ H Q:=h
theorem VJ{to ti:TE}{t:NQ}{v:V}{S:St->Hp->Prop}(h:to σ H λo H1=>ti σ H1 λi H2=>t o i v H2 λH3=>S σ H3):RM to ti t v σ H S:=h
end
end L2
namespace SF
open Lean.Grind
section
variable {R:Type} [CommRing R]
def VL(f:Nat->R):Nat->R
 |0=>0
 |n+1=>VL f n+f n
end
end SF
namespace SF
def Bd(n:Nat)(x:Int):Prop:=x.natAbs<2^n
theorem Bd.log2{n:Nat}{x:Int}(h:Bd n x)(hn:n<=9000):x.natAbs.log2<9000:=by
 unfold Bd at h;rcases Nat.eq_zero_or_pos x.natAbs with h0|hp
 ·rw[h0];decide
 ·exact(Nat.log2_lt (Nat.ne_of_gt hp)).mpr (Nat.lt_of_lt_of_le h (Nat.pow_le_pow_right (by decide) hn))
theorem Bd.xt{n:Nat}{x:Int}(h1:0<=x)(h2:x<2^n):Bd n x:=by
 unfold Bd;have e:((2:Int)^n)=((2^n:Nat):Int):=by simp
 rw[e] at h2;lia
theorem sL{g l:Int}(hl:0<l):g.fmod l=g%l:=Int.fmod_eq_emod_of_nonneg g (by lia)
theorem KQ{g l:Int}(hg:0<=g)(hl:0<l):Int.gcd l (g%l)=Int.gcd g l:=by
 obtain⟨m,rfl⟩:=Int.eq_ofNat_of_zero_le hg;obtain⟨n,rfl⟩:=Int.eq_ofNat_of_zero_le (show 0<=l by lia);have e:((m:Int)%(n:Int))=((m%n:Nat):Int):=by simp
 rw[e];show Nat.gcd n (m%n)=Nat.gcd m n;rw[Nat.gcd_comm m n,Nat.gcd_rec n m,Nat.gcd_comm]
theorem N9{a b:Int}:Int.gcd (if a<0 then -a else a) (if b<0 then -b else b)=Int.gcd a b:=by
 split<;>split<;>simp[Int.gcd_neg,Int.neg_gcd]
theorem N_{g:Int}(hg:0<=g):((Int.gcd g 0:Nat):Int)=g:=by
 rw[Int.gcd_zero_right];lia
def rs(a b:Int):Int:=if b<0 then -((Int.gcd a b:Nat):Int) else((Int.gcd a b:Nat):Int)
def rt(a b:Int):Int:=a.fdiv (rs a b)
def ru(a b:Int):Int:=b.fdiv (rs a b)
structure Low(p q a b:Int):Prop where
 pos:0<q
 aai:p*b=a*q
 low:Int.gcd p q=1
end SF
namespace SF
open Lean.Grind
def co(xs:List Int)(i:Nat):Int:=xs.getD i 0
end SF
namespace SF
def Qt(xs:List Int):Nat:=xs.foldl (λg x=>Int.gcd g x) 0
def cont(xs:List Int):Int:=if co xs (xs.length-1)<0 then -((Qt xs:Nat):Int) else((Qt xs:Nat):Int)
def hv(t u:Int)(xs:List Int):Int:=VL (λi=>co xs i*(t^i*u^(xs.length-1-i))) xs.length
end SF
namespace SF
end SF
namespace L2
open PySem PySem.Spec PyProof.Rows
section
variable {X:Cx} {K:PySem.W.Frag} {pos:Pos}
theorem Cr(h:X.K=K):Vn X (Ej K):=by subst h;exact aZ
theorem nC{es:List Expr}{k:Nat}{t:Nr}{n:Nat}(hK:X.K=K)(hc:X.calm=true)(h:Vd X es t)(hn:(assignEach es X.env).length=n)(qQ:(assignEach es X.env).findIdx? (·.1)=none):PG X (.Tuple es k pos) (Ag K n t):=by subst hK;exact qP hc h hn qQ
end
section
variable {K:PySem.W.Frag} {own:List Str} {fr:List Nat} {g:TG} {te:TE} {σ:St} {H1:Hp} {Q:VK}
end
end L2
namespace PySem
open Sem (wp)
namespace F
theorem IH:typeLookup (.type "list_reverseiterator") "__len__"=pure none:=by rw[typeLookup_type,builtinLookup_eq_fast];kernel_rfl
theorem KR:typeLookup (.type "list_reverseiterator") "__length_hint__"=pure (some (.builtin "list_reverseiterator.__length_hint__")):=by rw[typeLookup_type,builtinLookup_eq_fast];kernel_rfl
end F
section
variable {prog:Program} {w:World} {A:Around} {E:Value->Shared->Prop} {s:Shared}
theorem KS{I:Addr}{Q:Bool->Shared->Prop}(hT:s.TypeIs (.ref I) "list_reverseiterator")(h:Q false s):wpAny (model prog w) A (Builtin.List.listLengthHint (.ref I)) Q E s:=by
 unfold Builtin.List.listLengthHint;refine wpAny_bind (wpAny_specialOf hT F.IH ?_);show wpAny _ _ (specialOf (Value.ref I) (Str.ofString "__length_hint__") >>= _) _ _ _;refine wpAny_bind (wpAny_specialOf hT F.KR ?_)
 (generalize hid:("list_reverseiterator.__length_hint__":String)=id0;wp_delta;rw[show splitId id0=some ("list_reverseiterator","__length_hint__") from by subst hid;decide +kernel];subst hid)
 refine wpAny_bind (wpAny_isInstance (b:=true) hT (by rw[isSubtype_type];kernel_rfl) ?_);exact wpAny_pure h
theorem Cs{I l:Addr}{items:Array Value}{Q:Value->Shared->Prop}(hh:A.handled=none)(hit:s.heap.IsRevIter I l ((items.size:Int)-1))(hl:s.heap.IsList l items)(jJ:l≠I)(hn:items.size<=sizeLine)(hQ:∀h' tk we c',(∀b o,b≠I->s.heap.get? b=some o->h'.get? b=some o)->h'.get? s.heap.objs.size=some {cls:=.type "list",dict:=none,data:=.seq we c',slots:=#[]}->
 ItemsOf (λi v=>items[items.size-1-i]?=some v) we items.size->Q (.ref s.heap.objs.size) {s with heap:=h',toks:=tk}):
 wpAny (model prog w) A (call (.type "list") [.ref I]) Q E s:=by
 refine callType_codes (Q₁:=λobj cD=>obj=.ref s.heap.objs.size/\cD={s with heap:=s.heap.push {cls:=.type "list",data:=.seq #[]}}) PySem.F.called_list (PySem.F.typeCall_list_1 _) PySem.F.entry_list_init
  (code_list_new _ ⟨rfl,rfl⟩) λobj cD lZ=>?_
 obtain⟨rfl,rfl⟩:=lZ;have hS:(s.heap.push {cls:=.type "list",data:=.seq #[]}).get? s.heap.objs.size=some {cls:=.type "list",data:=.seq #[]}:=Heap.get?_push_size _ rfl;have hI:I<s.heap.objs.size:=let⟨_,e,_⟩:=hit;Heap.lt_size e;have nz:l<s.heap.objs.size:=let⟨_,e,_⟩:=hl;Heap.lt_size e;refine⟨⟨_,hS,rfl⟩,PySem.F.args_list_init_2 _ _,?_⟩;show wpAny _ _ (do let old<-Builtin.List.listItems (.ref s.heap.objs.size);Builtin.List.listUpdate (.ref s.heap.objs.size) (λ_=>#[]);letGo old.toList.reverse;Builtin.List.listExtendWith (.ref s.heap.objs.size) (.ref I) .none) _ _ _;generalize Y_:s.heap.objs.size=S at hS ⊢;generalize Qu:s.heap.push {cls:=.type "list",data:=.seq #[]}=h1 at hS ⊢;have k1:∀b o,s.heap.get? b=some o->h1.get? b=some o:=λb o e=>by rw[<-Qu];exact Heap.get?_push_of_some _ e
 refine wpAny_bind ?_;unfold Builtin.List.listItems;refine wpAny_bind (wpAny_seqItems hS rfl (wpAny_pure ?_));show wpAny _ _ (updateSeq S (λ_=>#[]) >>= λ_=>letGo (#[]:Array Value).toList.reverse >>= λ_=>Builtin.List.listExtendWith (.ref S) (.ref I) .none) _ _ _;refine wpAny_bind (wpAny_updateSeq hS rfl ?_);have Qv:=Heap.get?_update_self (Obj.mapSeq (λ_=>(#[]:Array Value))) hS rfl;have XQ:∀b o,b≠S->h1.get? b=some o->(h1.update S (Obj.mapSeq (λ_=>(#[]:Array Value)))).get? b=some o:=
  λb o hb e=>(Heap.get?_update_other _ _ (Ne.symm hb)).trans e
 refine wpAny_bind (wpAny_letGo ?_);have Y':S≠I:=λe=>by rw[<-e,<-Y_] at hI;exact Nat.lt_irrefl _ hI
 have hSl:S≠l:=λe=>by rw[<-e,<-Y_] at nz;exact Nat.lt_irrefl _ nz
 generalize J8:h1.update S (Obj.mapSeq (λ_=>(#[]:Array Value)))=h2 at Qv XQ ⊢;have N':h2.IsRevIter I l ((items.size:Int)-1):=hit.at λo e=>XQ _ _ Y'.symm (k1 _ _ e);have R0:h2.IsList l items:=hl.at λo e=>XQ _ _ hSl.symm (k1 _ _ e);have W:=Walks.listRev (prog:=prog) (w:=w) (A:=A.in1.in1) hh I l jJ items;have e0:(items.size:Int)-1-((0:Nat):Int)=(items.size:Int)-1:=by lia
 have st0:(0:Nat)<=items.size/\h2.IsRevIter I l ((items.size:Int)-1-((0:Nat):Int))/\h2.IsList l items:=by
  rw[e0];exact⟨Nat.zero_le _,N',R0⟩
 unfold Builtin.List.listExtendWith;refine wpAny_bind (wpAny_typeOf (T:="list_reverseiterator") N'.typeIs ?_);have h3:Builtin.List.listSameRef (.ref S) (.ref I)=false:=by simp[Builtin.List.listSameRef,Y']
 rw[if_neg (by rw[h3];decide)];refine wpAny_bind (wpAny_pyIter_revIter N' ?_);refine wpAny_bind (wpAny_holding (KS N'.typeIs ?_));rw[if_neg (by decide)];refine wpAny_pure ⟨plainId_quiet PySem.F.plain_extend_loop _,?_⟩;obtain⟨c3,hS3⟩:∃c,h2.get? S=some {cls:=.type "list",dict:=none,data:=.seq #[] c,slots:=#[]}:=⟨_,Qv⟩;refine codeAny_extend_loopS W.toS hn S (by simp only[List.mem_cons,List.not_mem_nil,or_false,not_or];exact⟨Y',hSl⟩) .none items.size 0 {s with heap:=h2} #[] c3 rfl (Nat.zero_le _) st0 hS3 (ItemsOf.nil _) λs' we c' hm hS' Oa=>?_;rw[Moved.eq_with hm];subst Y_;refine⟨rfl,hQ s'.heap s'.toks we c' (λb o hb e=>hm.heap b o (λSk=>?_) (XQ b o ?_ (k1 b o e))) hS' Oa⟩
 ·rcases List.mem_cons.mp Sk with e'|Sk
  ·have:=Heap.lt_size e;rw[e'] at this;exact Nat.lt_irrefl _ this
  ·exact hb (List.mem_singleton.mp Sk)
 ·intro z;have:=Heap.lt_size e;rw[z] at this;exact Nat.lt_irrefl _ this
theorem xu{l:Addr}{items:Array Value}{Q:Value->Shared->Prop}(hl:s.heap.IsList l items)(h:∀qO:Shared,qO={s with heap:=s.heap.push {cls:=.type "list_iterator",data:=.fields #[.ref l,.int 0 0]}}->
 (qO.heap.IsListIter s.heap.objs.size l 0/\qO.heap.IsList l items)->l≠s.heap.objs.size->Q (.ref s.heap.objs.size) qO):
 wpAny (model prog w) A (pyIter (.ref l)) Q E s:=by
 have nz:l<s.heap.objs.size:=by obtain⟨_,e,_⟩:=hl;exact Heap.lt_size e
 exact wpAny_pyIter_list hl (h _ rfl ⟨⟨_,Heap.get?_push_size _ rfl,rfl,rfl⟩,hl.push _⟩ (Nat.ne_of_lt nz))
end
end PySem
namespace L2
open PySem PySem.Spec PyProof.Rows
section
variable {X:Cx}
theorem II(hc:X.calm=true):ll X (.builtin "any") (λxs H Q=>∃(p:Addr)(ns:List Int),xs=[.ref p]/\ft X.K H p (ns.map V.int)/\Q (.bl (ns.any (·!=0))) H):=by
 intro pins s σ H xs us Q I r h;obtain⟨p,ns,rfl,hp,q⟩:=h;obtain⟨u,rfl,rx⟩:=vals1 r;cases rx;obtain⟨bB,rv,pl,hz⟩:=I.list hp;have hlen:=rv.length;rw[List.length_map] at hlen;refine call_any_walk (xu pl.isList λqO e st Za=>?_);subst e;refine⟨_,_,_,_,_,_,λi=>(ns.getD i 0)!=0,rfl,Walks.list (A:=X.A.in1) (I.ok.hd hc) _ p Za bB.toArray,st,?_,λh' tk hk=>?_⟩
 ·intro i v s' Q' E' hv Zb;have NS:bB[i]?=some v:=by simpa using hv
  have hi:i<bB.length:=(List.getElem?_eq_some_iff.mp NS).1;obtain⟨t,e⟩:=int_at rv (j:=i) (by lia) hi;rw[List.getElem?_eq_getElem hi,e] at NS;cases NS;have VM:Q' (ns.getD i 0!=0) s':=Zb;rw[List.getD_eq_getElem?_getD,List.getElem?_eq_getElem (by lia)] at VM;exact truthy_int VM
 ·have e:(List.range bB.toArray.size).any (λi=>(ns.getD i 0)!=0)=ns.any (·!=0):=by
   rw[List.size_toArray,<-hlen,Bool.eq_iff_iff,List.any_eq_true,List.any_eq_true];constructor
   ·rintro⟨i,hi,h⟩;have hi:=List.mem_range.mp hi;rw[List.getD_eq_getElem?_getD,List.getElem?_eq_getElem hi] at h;exact⟨_,List.getElem_mem hi,h⟩
   ·rintro⟨x,hx,h⟩;obtain⟨i,hi,rfl⟩:=List.getElem_of_mem hx;refine⟨i,List.mem_range.mpr hi,?_⟩;rw[List.getD_eq_getElem?_getD,List.getElem?_eq_getElem hi];exact h
  rw[e];exact⟨.bl _,H,I.kept (old_kept hk),rfl,q⟩
theorem VN{xs:List Bool}{bB:List Value}(r:Vals (xs.map V.bl) bB){j:Nat}(h:j<xs.length)(h':j<bB.length):bB[j]=Value.bool xs[j]:=by
 have e:(xs.map V.bl)[j]?=some (V.bl xs[j]):=by rw[List.getElem?_map,List.getElem?_eq_getElem h]<;>rfl
 obtain⟨u,hu,hr⟩:=r.get e;rw[List.getElem?_eq_getElem h'] at hu;have hr':u=Value.bool xs[j]:=hr;rw[<-hr'];exact Option.some.inj hu
theorem IJ(hc:X.calm=true):ll X (.builtin "all") (λxs H Q=>∃(p:Addr)(bs:List Bool),xs=[.ref p]/\ft X.K H p (bs.map V.bl)/\Q (.bl (bs.all id)) H):=by
 intro pins s σ H xs us Q I r h;obtain⟨p,ns,rfl,hp,q⟩:=h;obtain⟨u,rfl,rx⟩:=vals1 r;cases rx;obtain⟨bB,rv,pl,hz⟩:=I.list hp;have hlen:=rv.length;rw[List.length_map] at hlen;refine call_all_walk (xu pl.isList λqO e st Za=>?_);subst e;refine⟨_,_,_,_,_,_,λi=>ns.getD i false,rfl,Walks.list (A:=X.A.in1) (I.ok.hd hc) _ p Za bB.toArray,st,?_,λh' tk hk=>?_⟩
 ·intro i v s' Q' E' hv Zb;have NS:bB[i]?=some v:=by simpa using hv
  have hi:i<bB.length:=(List.getElem?_eq_some_iff.mp NS).1;have e:=VN rv (j:=i) (by lia) hi;rw[List.getElem?_eq_getElem hi,e] at NS;cases NS;have VM:Q' (ns.getD i false) s':=Zb;rw[List.getD_eq_getElem?_getD,List.getElem?_eq_getElem (by lia)] at VM;exact wpAny_truthy_bool VM
 ·have e:(List.range bB.toArray.size).all (λi=>ns.getD i false)=ns.all id:=by
   rw[List.size_toArray,<-hlen,Bool.eq_iff_iff,List.all_eq_true,List.all_eq_true];constructor
   ·intro h x hx;obtain⟨i,hi,rfl⟩:=List.getElem_of_mem hx;have:=h i (List.mem_range.mpr hi);rw[List.getD_eq_getElem?_getD,List.getElem?_eq_getElem hi] at this;exact this
   ·intro h i hi;have hi:=List.mem_range.mp hi;rw[List.getD_eq_getElem?_getD,List.getElem?_eq_getElem hi];exact h _ (List.getElem_mem hi)
  rw[e];exact⟨.bl _,H,I.kept (old_kept hk),rfl,q⟩
theorem zL(hc:X.calm=true):ll X (.builtin "max") (λxs H Q=>∃(p:Addr)(ns:List Int),xs=[.ref p]/\ft X.K H p (ns.map V.int)/\ns≠[]/\∀m,m∈ns->(∀x∈ns,x<=m)->Q (.int m) H):=by
 intro pins s σ H xs us Q I r h;obtain⟨p,ns,rfl,hp,jJ,q⟩:=h;obtain⟨u,rfl,rx⟩:=vals1 r;cases rx;obtain⟨bB,rv,pl,hz⟩:=I.list hp;have hi:IntsAre bB ns:=intsAre_of rv;obtain⟨ys,e⟩:=hi.allInts.items;have wL:ns=ys.toList.map (·.1):=by
  rw[<-hi.numsOf,<-nums_intItems,<-e]
 have hsz:0<ys.size:=by
  have h3:=List.length_pos_iff.mpr jJ;rw[wL,List.length_map,Array.length_toList] at h3;exact h3
 have N5:s.heap.IsList p (intItems ys):=e▸pl.isList;refine max_intList (I.ok.hd hc) N5 hsz λv h' tk hv hk=>?_;obtain⟨t,rfl⟩:=intItems_at hv;obtain⟨h1,h2⟩:=argBest_gt (numAt ys) (ys.size-1);refine⟨.int _,H,I.kept hk,⟨t,rfl⟩,q _ ?_ λa ha=>?_⟩
 ·rw[wL,numAt_eq];exact getD_mem (by rw[List.length_map,Array.length_toList];lia)
 ·rw[wL] at ha;obtain⟨j,hj,rfl⟩:=mem_getD ha;rw[List.length_map,Array.length_toList] at hj;rw[<-numAt_eq];exact h2 j (by lia)
theorem Ct:∀{xs:List V}{us:List Value},Vals xs us->Vals xs.reverse us.reverse
 |_,_,.nil=>.nil
 |_,_,.cons a b=>by
  rw[List.reverse_cons,List.reverse_cons];exact(Ct b).append (.cons a .nil)
def Qw(K:PySem.W.Frag)(ta:TA):TE:=λσ H Q=>ta σ H λvs H1=>∃(p:Addr)(ys:List V),vs=[.ref p]/\ft K H1 p ys/\∀l,H1 l=none->Q (.ref l) (upd H1 l (.lst ys.reverse))
theorem Ob{a:Expr}{ta:TA}{p p' pos pos':Pos}(hc:X.calm=true)(hg:Gl X "reversed")(hm:X.mg "reversed"=none)(Y3:Gl X "list")(hm':X.mg "list"=none)(ha:PA X [a] ta)(hs:starEach [a] X.env=[(false,eval a X.env)]:=by rfl)(hs':starEach [Expr.Call (.Name "reversed" p) [a] [] pos] X.env=[(false,eval (Expr.Call (.Name "reversed" p) [a] [] pos) X.env)]:=by rfl):
 PE X (.Call (.Name "list" p') [.Call (.Name "reversed" p) [a] [] pos] [] pos') (Qw X.K ta):=by
 intro pins s σ H Q I h;refine wpAny_Call_Name_kw (lg I Y3 hm' boot_list ?_);refine PyProof.Rows.callWith_type1 ?_ hs' rfl;rw[hs'];show wpAny _ _ (spliced [(false,eval (Expr.Call (.Name "reversed" p) [a] [] pos) X.env)]) _ _ _;refine Calls.spliced_cons ?_;refine Call_ (lg I hg hm boot_reversed (PyProof.Rows.callWith_type1 (cB (ha pos pins s σ H _ I h) λus s1 q1=>?_) hs rfl));obtain⟨vs,H1,I1,r1,l,ys,rfl,hq,q⟩:=q1;obtain⟨u,rfl,rx⟩:=vals1 r1;cases rx;obtain⟨bB,rv,pl,hz⟩:=I1.list hq;have hlen:=rv.length;refine call_reversed_list pl.isList ?_;refine Calls.spliced_nil ?_;have nz:l<s1.heap.objs.size:=by obtain⟨_,e,_⟩:=pl.isList;exact Heap.lt_size e
 have UM:bB.toArray.size<=sizeLine:=by rw[List.size_toArray];lia
 refine Cs (items:=bB.toArray) (I.ok.hd hc) ⟨_,Heap.get?_push_size _ rfl,rfl,rfl⟩ (pl.isList.push _) (Nat.ne_of_lt nz) UM λh' tk we c' hk hS Oa=>?_;have hk':∀b o,s1.heap.get? b=some o->h'.get? b=some o:=λb o e=>hk b o (Nat.ne_of_lt (Heap.lt_size e)) (Heap.get?_push_of_some _ e);have hsz:s1.heap.objs.size<=(s1.heap.push (revObj l ((bB.toArray.size:Int)-1))).objs.size:=by rw[Heap.size_push];lia
 have Qx:we.size=bB.toArray.size:=Oa.1;have rr:Vals ys.reverse we.toList:=by
  have e:we.toList=bB.reverse:=by
   refine List.ext_getElem ?_ λi h1 h2=>?_
   ·rw[Array.length_toList,Qx,List.size_toArray,List.length_reverse]
   ·have h3:i<we.size:=by simpa using h1
    have:=Oa.2 i we[i] (by simp[h3]);have h4:bB.toArray.size-1-i<bB.length:=by rw[List.size_toArray];rw[Qx,List.size_toArray] at h3;lia
    have h5:bB[bB.toArray.size-1-i]?=some we[i]:=by simpa using this
    rw[List.getElem?_eq_getElem h4] at h5;rw[List.getElem_reverse];simp only[Array.getElem_toList];rw[<-Option.some.inj h5];simp
  rw[e];exact Ct rv
 refine⟨.ref _,_,I1.laid (t':=tk) hk' hsz (show dX X.prog X.w _ h' _ (.lst ys.reverse) from⟨by rw[List.length_reverse];exact hz,we.toList,c',rr,by rw[Array.toArray_toList];exact hS⟩),rfl,q _ (I1.b_.fresh hsz)⟩
end
structure Dv(X:Cx):Prop where
 tree:X.prog.given.tree=none
 top:∃(env:Env)(l:List Env),X.stack=env::l/\env.scope.isGenerator=false/\env.scope.isCoroutine=false/\env.builtins=builtinsNs/\env.globals=mainGlobals
 dp:X.A.depth+100<recursionLimit
theorem fv.py{k:Nat}{A:Around}(r:fv (k+32) A):A.depth+100<recursionLimit:=by have:=r.dp;lia
theorem cV{X:Cx}(h:Dv X):qC X (binaryOp .FloorDiv) (rI (λ_ j=>j≠0) λi j=>.int (i.fdiv j)):=by
 intro pins s σ H x y v u Q I rx ry hh;obtain⟨i,j,rfl,rfl,hc,q⟩:=hh;obtain⟨t,rfl⟩:=rx;obtain⟨t',rfl⟩:=ry;obtain⟨env,l,e,h1,h2,h3,h4⟩:=h.top;refine floordiv_int hc ?_ (.inr (PySem.PylongRoom.of I.nolimit h.dp (PySem.SeerAt.of (I.ok.mod.seer.keeps I.bk) h.tree (by rw[I.ok.frames,e]) h1 h2 h3 h4)));exact⟨.int (i.fdiv j),H,I.tok _,⟨_,rfl⟩,q⟩
section
variable {X:Cx}
end
inductive xw:List Expr->List Int->Prop
 |nil:xw [] []
 |pos {n:Int} {j:Nat} {p:Pos} {es:List Expr} {ns:List Int} (h:xw es ns):xw (.Constant (.int n) j p::es) (n::ns)
 |neg {n:Int} {j:Nat} {p p':Pos} {es:List Expr} {ns:List Int} (h:xw es ns):xw (.UnaryOp .USub (.Constant (.int n) j p) p'::es) (-n::ns)
section
variable {X:Cx}
def VO(K:PySem.W.Frag):R2:=λx y H Q=>∃(p q:Addr)(a b c d:Int),x=.ref p/\y=.ref q/\qB K H p [.int a,.int b]/\qB K H q [.int c,.int d]/\Q (.bl (a==c&&b==d)) H
theorem KU(hu:X.A.units<cLine):qC X (compareOp .Eq) (VO X.K):=by
 intro pins s σ H x y v u Q I rx ry h;obtain⟨p,q,a,b,c,d,rfl,rfl,hp,hq,h⟩:=h;cases rx;cases ry;obtain⟨bB,r,pl,hz⟩:=I.tuple hp;obtain⟨Cg,r2,NZ,UM⟩:=I.tuple hq;obtain⟨u1,u2,rfl,⟨t1,rfl⟩,⟨t2,rfl⟩⟩:=vals2 r;obtain⟨w1,w2,rfl,⟨t3,rfl⟩,⟨t4,rfl⟩⟩:=vals2 r2;have z:=SeqAt.RcAt.tuples (A:=X.A) (s:=s) (e:=λj=>if j=0 then a==c else b==d) pl NZ hu (λj h1 h2=>by
  match j,h1,h2 with
  |0,_,_=>exact SeqAt.EqAt.int_int _ _ _ _
  |1,_,_=>exact SeqAt.EqAt.int_int _ _ _ _
  |j+2,h1,_=>exact absurd h1 (by simp));refine z X.prog X.w X.xe _ ?_;have e3:((List.range (min [Value.int a t1,Value.int b t2].toArray.size [Value.int c t3,Value.int d t4].toArray.size)).all (λj=>if j=0 then a==c else b==d)&&[Value.int a t1,Value.int b t2].toArray.size==[Value.int c t3,Value.int d t4].toArray.size)=(a==c&&b==d):=by
  show(((a==c)&&((b==d)&&true))&&true)=_;cases (a==c)<;>cases (b==d)<;>rfl
 rw[e3];exact⟨.bl _,H,I,rfl,h⟩
end
def Itz(K:PySem.W.Frag)(a b:Addr):It:=
 ⟨λi H=>∃xs ys x y,ft K H a xs/\ft K H b ys/\xs[i]?=some x/\ys[i]?=some y,λi H v H'=>∃p x y,H p=none/\v=.ref p/\H'=upd H p (.tup [x,y])/\(∀xs,ft K H a xs->xs[i]?=some x)/\∀ys,ft K H b ys->ys[i]?=some y,
  λi H=>∃xs ys,ft K H a xs/\ft K H b ys/\(xs.length<=i\/ys.length<=i)⟩
theorem IK{b z TI TO i1 i2:Addr}(h:b∈[z,TI,TO,i1,i2]):b=z\/b=TI\/b=TO\/b=i1\/b=i2:=by simpa using h
theorem zM{n l1 l2:Nat}(h1:l1<n)(h2:l2<n):ZipApart (n+4) (n+2) (n+3) n (n+1) l1 l2:=by
 constructor<;>(intro(h:(_:Nat)=_);lia)
theorem KW{P:Program}{w:World}{K:PySem.W.Frag}{es:List Expr}{k:Nat}{tp:Pos}(l1 l2 z TI TO i1 i2:Addr)(D:ZipApart z TI TO i1 i2 l1 l2):
 Turn P w K (.Tuple es k tp) (Itz K l1 l2) [z,TI,TO,i1,i2] z (λi h=>∃u v,IsZip h z TI TO .none/\IsPair h TI (.ref i1) (.ref i2)/\IsPair h TO u v/\h.IsListIter i1 l1 i/\h.IsListIter i2 l2 i) where
 mem:=List.mem_cons_self
 obj:=λi h q b hb=>by
  obtain⟨u,v,q1,q2,q3,⟨o4,q4,c4,d4⟩,⟨o5,q5,c5,d5⟩⟩:=q;rcases IK hb with rfl|rfl|rfl|rfl|rfl
  ·exact⟨_,q1,λv z=>by cases (show Data.fields _=Data.cell v from z)⟩
  ·exact⟨_,q2,λv z=>by cases (show Data.seq _ _=Data.cell v from z)⟩
  ·exact⟨_,q3,λv z=>by cases (show Data.seq _ _=Data.cell v from z)⟩
  ·exact⟨o4,q4,λv z=>by rw[d4] at z;cases z⟩
  ·exact⟨o5,q5,λv z=>by rw[d5] at z;cases z⟩
 keep:=λi h h' q kk=>by
  obtain⟨u,v,q1,q2,q3,q4,q5⟩:=q;exact⟨u,v,kk z (by simp) _ q1,kk TI (by simp) _ q2,kk TO (by simp) _ q3,q4.at λo z=>kk i1 (by simp) o z,q5.at λo z=>kk i2 (by simp) o z⟩
 item:=by
  intro X e1 e2 e3 hc i pins s σ H E I hf q hg;subst e1 e2 e3;obtain⟨u0,v0,q1,q2,q3,q4,q5⟩:=q;obtain⟨xs,ys,x,y,hq,wb,hx,hy⟩:=hg;obtain⟨bB,rv,pl,hz⟩:=I.list hq;obtain⟨its',Oc,zN,Od⟩:=I.list wb;obtain⟨u,hu,ru⟩:=rv.get hx;obtain⟨u',XR,Zc⟩:=Oc.get hy;have mO:H s.heap.objs.size=none:=I.fresh;refine wpAny_pyNext_zip_item D q1 q2 q3 q4 q5 pl.isList zN.isList (x:=u) (y:=u') (by simpa using hu) (by simpa using XR) λh1 z1 z2 z3 z4 z5 z6 hk=>?_;refine⟨_,rfl,wpAny_letOwnedTupleGo_zip z1 λh2 Zd sb=>?_⟩;have Ck:Heap.SameBut z h1 h2:=sb;have hp:z≠s.heap.objs.size:=Nat.ne_of_lt (Heap.lt_size q1);have kp:∀b o,b∉[z,TI,TO,i1,i2]->s.heap.get? b=some o->h2.get? b=some o:=λb o hb e=>by
   simp only[List.mem_cons,List.not_mem_nil,or_false,not_or] at hb;exact Ck.extBut b o hb.1 (hk b o hb.1 hb.2.2.1 hb.2.2.2.1 hb.2.2.2.2 e)
  have D1:∀b o,H b=some o->b∉[z,TI,TO,i1,i2]:=λb o e m=>by
   have:=(hf b m).1;rw[e] at this;cases this
  have Cm:IsTup h2 s.heap.objs.size [u,u'].toArray:=⟨_,(Ck.2 _ (Ne.symm hp)).trans z5,rfl,_,rfl⟩;have rt:Vals [x,y] [u,u']:=.cons ru (.cons Zc .nil);have b_:lW X.prog X.w (upd H s.heap.objs.size (.tup [x,y])) h2:=λb o e=>by
   by_cases hb:b=s.heap.objs.size
   ·subst hb;rw[aE] at e;cases e;exact⟨by show 2<=sizeLine;decide,_,rt,Cm⟩
   ·rw[ay hb] at e;refine(I.b_ b o e).nv (λc v wa r=>?_) (λc r=>by rw[ay (aW r mO)];exact r) λc ys r=>by rw[ay (aW r mO)];exact r
    rcases wa with rfl|wa
    ·exact kp _ _ (D1 _ _ e) r
    ·exact kp _ _ (D1 _ _ wa) r
  have un:Un (v_ X.stack) [z,TI,TO,i1,i2] H (upd H s.heap.objs.size (.tup [x,y])) s.heap h2:=
   ⟨λb o e _ _ h4=>kp b o h4 e,λb o e _ _ h4=>⟨o.slots,kp b o h4 e⟩,
    λb o e n _=>by rw[ay (Nat.ne_of_lt (Heap.lt_size e))];exact n,λb o e h4=>⟨o,kp b o h4 e⟩,
    λb ys e=>by rw[ay (aW e mO)];exact e,λb o u e=>by rw[ay (aW e mO)];exact e,λb ps e=>⟨#[],by rw[ay (aW e mO),e];simp⟩⟩
  have I2:Inv X pins σ (upd H s.heap.objs.size (.tup [x,y])) {s with heap:=h2}:=
   I.call (g':=s.gens) (d':=s.drawn) (t':=s.toks) (ch:=[z,TI,TO,i1,i2]) un b_ I.bare λb hb=>by
    obtain⟨f0,f1,f2,f3,f4,f5⟩:=hf b hb;exact⟨f3,f1,f4,f5⟩
  refine⟨.ref s.heap.objs.size,_,I2,rfl,⟨_,x,y,mO,rfl,rfl,λzs hy=>by rw[I.mP hy hq];exact hx,λzs hz=>by rw[I.mP hz wb];exact hy⟩,⟨u,u',Zd,?_,?_,?_,?_⟩,λb hb=>?_⟩
  ·exact Ck.extBut _ _ D.TIz (hk _ _ D.TIz D.TITO D.TIi1 D.TIi2 q2)
  ·exact Ck.extBut _ _ D.TOz z2
  ·exact z3.at λo e=>Ck.extBut i1 o D.i1z e
  ·exact z4.at λo e=>Ck.extBut i2 o D.i2z e
  ·have nz:b≠s.heap.objs.size:=by
    rcases IK hb with rfl|rfl|rfl|rfl|rfl
    ·exact hp
    ·exact Nat.ne_of_lt (Heap.lt_size q2)
    ·exact Nat.ne_of_lt (Heap.lt_size q3)
    ·obtain⟨o,e,_⟩:=q4;exact Nat.ne_of_lt (Heap.lt_size e)
    ·obtain⟨o,e,_⟩:=q5;exact Nat.ne_of_lt (Heap.lt_size e)
   rw[ay nz];exact(hf b hb).1
 done:=by
  intro X e1 e2 e3 hc i pins s σ H E I hf q hg;subst e1 e2 e3;obtain⟨u0,v0,q1,q2,q3,q4,q5⟩:=q;obtain⟨xs,ys,hq,wb,hx⟩:=hg;obtain⟨bB,rv,pl,hz⟩:=I.list hq;obtain⟨its',Oc,zN,Od⟩:=I.list wb;have hl:=rv.length;have N5:=Oc.length;refine wpAny_pyNext_zip_end (I.ok.hd hc) D q1 q2 q3 q4 q5 pl.isList zN.isList ?_ λh' eb=>⟨rfl,?_⟩
  ·rcases hx with hx|hx
   ·left;simp;lia
   ·right;simp;lia
  ·have kp:∀b o,b∉[z,TI,TO,i1,i2]->s.heap.get? b=some o->h'.get? b=some o:=λb o hb e=>by
    simp only[List.mem_cons,List.not_mem_nil,or_false,not_or] at hb;exact eb b o hb.1 hb.2.2.1 hb.2.2.2.1 hb.2.2.2.2 e
   have D1:∀b o,H b=some o->b∉[z,TI,TO,i1,i2]:=λb o e m=>by
    have:=(hf b m).1;rw[e] at this;cases this
   have b_:lW X.prog X.w H h':=λb o e=>
    (I.b_ b o e).nv (λc v wa r=>by
     rcases wa with rfl|wa
     ·exact kp _ _ (D1 _ _ e) r
     ·exact kp _ _ (D1 _ _ wa) r) (λc r=>r) λc ys r=>r
   have un:Un (v_ X.stack) [z,TI,TO,i1,i2] H H s.heap h':=
    ⟨λb o e _ _ h4=>kp b o h4 e,λb o e _ _ h4=>⟨o.slots,kp b o h4 e⟩,λb o e n _=>n,λb o e h4=>⟨o,kp b o h4 e⟩,λb ys e=>e,λb o u e=>e,λb ps e=>⟨#[],by rw[e];simp⟩⟩
   exact I.call (g':=s.gens) (d':=s.drawn) (t':=s.toks) (ch:=[z,TI,TO,i1,i2]) un b_ I.bare λb hb=>by
    obtain⟨f0,f1,f2,f3,f4,f5⟩:=hf b hb;exact⟨f3,f1,f4,f5⟩
 self:=λ_ _ _ _ _ q h=>let⟨_,_,q1,_⟩:=q;wpAny_pyIter_zip q1 h
def VP(K:PySem.W.Frag)(ta:TA):TI:=λσ H R=>ta σ H λvs H1=>∃a b,vs=[.ref a,.ref b]/\(∃xs,ft K H1 a xs)/\(∃ys,ft K H1 b ys)/\R (Itz K a b) H1
theorem Sl{X:Cx}{es:List Expr}{k:Nat}{tp:Pos}{a b:Expr}{ta:TA}{p pos:Pos}(hg:Gl X "zip")(hm:X.mg "zip"=none)(ha:PA X [a,b] ta)(hs:starEach [a,b] X.env=[(false,eval a X.env),(false,eval b X.env)]:=by rfl)(BU:starEach [b] X.env=[(false,eval b X.env)]:=by rfl):
 PI X (.Tuple es k tp) (.Call (.Name "zip" p) [a,b] [] pos) (VP X.K ta):=by
 intro pins s σ H R I h;refine Call_ (lg I hg hm boot_zip (PyProof.Rows.callWith_type1 (cB (ha pos pins s σ H _ I h) λus s1 q1=>?_) (by rw[hs,BU]) (by rw[BU];rfl)));obtain⟨vs,H1,I1,r1,l1,l2,rfl,⟨xs,hq⟩,⟨ys,wb⟩,q⟩:=q1;obtain⟨u,u',rfl,rx,ry⟩:=vals2 r1;cases rx;cases ry;obtain⟨bB,rv,pl,hz⟩:=I1.list hq;obtain⟨its',Oc,zN,Od⟩:=I1.list wb;have p1:l1<s1.heap.objs.size:=by obtain⟨o,n,e,_⟩:=pl;exact Heap.lt_size e
 have p2:l2<s1.heap.objs.size:=by obtain⟨o,n,e,_⟩:=zN;exact Heap.lt_size e
 refine call_zip_2 pl.isList zN.isList λh' z1 z2 z3 z4 z5 hsz hk=>?_;have I2:Inv X pins σ H1 {s1 with heap:=h'}:=I1.kept (t':=s1.toks) hk;refine wpAny_pyIter_zip z1 ?_;have old:∀b,s1.heap.objs.size<=b->lY X pins H1 b:=λb hb=>I1.ur hb (I1.b_.fresh hb);refine⟨_,[_,_,_,_,_],_,_,H1,rfl,I2,KW l1 l2 (s1.heap.objs.size+4) (s1.heap.objs.size+2) (s1.heap.objs.size+3) s1.heap.objs.size (s1.heap.objs.size+1) (zM p1 p2),⟨_,_,z1,z2,z3,z4,z5⟩,λb hb=>?_,q⟩;rcases IK hb with rfl|rfl|rfl|rfl|rfl
 ·exact old _ (Nat.le_add_right _ _)
 ·exact old _ (Nat.le_add_right _ _)
 ·exact old _ (Nat.le_add_right _ _)
 ·exact old _ (Nat.le_refl _)
 ·exact old _ (Nat.le_add_right _ _)
section
variable {X:Cx}
theorem IL(hc:X.calm=true):ll X (.builtin "min") (λxs H Q=>∃(p:Addr)(ns:List Int),xs=[.ref p]/\ft X.K H p (ns.map V.int)/\ns≠[]/\∀m,m∈ns->(∀x∈ns,m<=x)->Q (.int m) H):=by
 intro pins s σ H xs us Q I r h;obtain⟨p,ns,rfl,hp,jJ,q⟩:=h;obtain⟨u,rfl,rx⟩:=vals1 r;cases rx;obtain⟨bB,rv,pl,hz⟩:=I.list hp;have hi:IntsAre bB ns:=intsAre_of rv;obtain⟨ys,e⟩:=hi.allInts.items;have wL:ns=ys.toList.map (·.1):=by
  rw[<-hi.numsOf,<-nums_intItems,<-e]
 have hsz:0<ys.size:=by
  have h3:=List.length_pos_iff.mpr jJ;rw[wL,List.length_map,Array.length_toList] at h3;exact h3
 have N5:s.heap.IsList p (intItems ys):=e▸pl.isList;refine min_intList (I.ok.hd hc) N5 hsz λv h' tk hv hk=>?_;obtain⟨t,rfl⟩:=intItems_at hv;obtain⟨h1,h2⟩:=argBest_lt (numAt ys) (ys.size-1);refine⟨.int _,H,I.kept hk,⟨t,rfl⟩,q _ ?_ λa ha=>?_⟩
 ·rw[wL,numAt_eq];exact getD_mem (by rw[List.length_map,Array.length_toList];lia)
 ·rw[wL] at ha;obtain⟨j,hj,rfl⟩:=mem_getD ha;rw[List.length_map,Array.length_toList] at hj;rw[<-numAt_eq];exact h2 j (by lia)
end
section
variable {X:Cx} {pins:List (Addr×Obj)} {σ:St} {H:Hp} {s:Shared} {scope:Scope} {cl:List (Str×Addr)} {own:List Str} {fr:List Nat} {M:List Str}
theorem KY{elt tg iter:Expr}{ps:Pos}{wi:TI}{g:TG}{te:TE}(hc:X.calm=true)(K:mC X scope cl own fr M)(hi:PI X tg iter wi)(hg:∀C s3 H1 fp pins,PG (cw X scope cl C s3 H1 M fp pins) tg g)(he:∀C s3 H1 fp pins,PE (cw X scope cl C s3 H1 M fp pins) elt te)(hs:∀x,foldedSetIterable iter X.env x=pure x:=by intro _;rfl):PE X (.ListComp elt [⟨tg,iter,[],0⟩] scope ps) (vN own fr wi g te):=by
 intro pins s σ H Q I h;rw[eval_ListComp];refine wpAny_comprehension_free (use:=none) rfl hs K.Cn K.kind K.names ?_;show wpAny _ _ (eval iter X.env) _ _ _;refine cB (hi pins s σ H _ I h) λv s1 h1=>cB h1 λRN s2 h2=>?_;obtain⟨it,fp,tn,J,H2,e,I2,T,wG,f2,hW⟩:=h2;subst e;refine wpAny_newObj_type (hd:=by size_fits) ?_;have I3:Inv X pins σ (upd H2 s2.heap.objs.size (.lst [])) {s2 with heap:=s2.heap.push {cls:=.type "list",dict:=none,data:=.seq ([]:List Value).toArray}}:=I2.En (t':=s2.toks) .nil (Nat.zero_le _);obtain⟨W,w0,turn⟩:=hW s2.heap.objs.size I2.fresh;have B6:tn 0 (s2.heap.push {cls:=.type "list",dict:=none,data:=.seq ([]:List Value).toArray}):=T.keep _ _ _ wG λb _ o e=>Heap.get?_push_of_some _ e;have f3:∀b∈fp,lY X pins (upd H2 s2.heap.objs.size (.lst [])) b:=λb hb=>by
  obtain⟨o,e,_⟩:=T.obj _ _ wG b hb;obtain⟨f0,f'⟩:=f2 b hb;exact⟨by rw[ay (Nat.ne_of_lt (Heap.lt_size e))];exact f0,f'⟩
 refine wpAny_newFunctionEnv K.lq (λy hy=>nomatch hy) (λh' wL D3=>?_) K.kind;have hk:∀b u,(s2.heap.push {cls:=.type "list",dict:=none,data:=.seq ([]:List Value).toArray}).get? b=some u->h'.get? b=some u:=λb u e=>
  D3.extBut b u (Nat.ne_of_lt (Heap.lt_size e)) (Heap.get?_push_of_some _ e)
 refine qT (g:=g) (te:=te) (W:=W) (Qz:=λH'=>Q (.ref s2.heap.objs.size) H') hc K I3 T B6 f3 (hg _ _ _ _ _) (he _ _ _ _ _) w0 turn rfl wL hk λs' H' m' J1 Co KJ qz=>?_;refine⟨m',KJ,λh2 sb=>⟨.ref s2.heap.objs.size,H',?_,rfl,qz⟩⟩;obtain⟨_,f1,_,KL,f4,f5⟩:=I3.ur (H':=H') (Nat.le_refl _) Co;exact J1.turned (t':=s'.toks) (λb o hb e=>sb.extBut b o hb e) Co f1 KL f4 f5
end
section
variable {prog:Program} {w:World} {A:Around} {R:Result->Shared->Prop} {s:Shared}
theorem Eu{elt tg Qr c:Expr}{sc:Scope}{ps:Pos}{it acc:Value}{en:Env}(J:Nat->Shared->Prop)(turn:∀n s,J n s->wpAny (model prog w) A (pyNext it) (λr s1=>match r with
 |none=>R (.ok .next) s1
 |some v=>wpAny (model prog w) A (letOwnedTupleGo tg it v) (λ_ s2=>wpAny (model prog w) A (assign tg en v) (λ_ s3=>wpAny (model prog w) A (isTrue c en (eval c en)) (λb s4=>match b with
  |true=>wpAny (model prog w) A (eval elt en) (λx s5=>wpAny (model prog w) A (call (.builtin "list.append") [acc,x]) (λ_ s6=>∃m,m<n/\J m s6) (λ_ _=>False) s5) (λ_ _=>False) s4
  |false=>∃m,m<n/\J m s4) (λ_ _=>False) s3) (λ_ _=>False) s2) (λ_ _=>False) s1) (λ_ _=>False) s)(n:Nat)(h:J n s):codeAny (model prog w) A (.compLoop (.ListComp elt [⟨tg,Qr,[c],0⟩] sc ps) 0 it acc en) R s:=by
 refine codeAny_loop rfl J (λn s hJ=>?_) n h;show wpAny (model prog w) A ((compTurn (.ListComp elt [⟨tg,Qr,[c],0⟩] sc ps) 0 it acc en).onRaise (λx=>do noteFrame x en;theTreesLotGoes x)) _ _ s;refine wpAny_noted ?_;rw[compTurn_list];have no:∀{α:Type}{t:Sem α}{Q:α->Shared->Prop}{E:Value->Shared->Prop}{s:Shared},wpAny (model prog w) A t Q (λ_ _=>False) s->wpAny (model prog w) A t Q E s:=
  λh=>wpAny_mono h (λ_ _ q=>q) λ_ _ z=>z.elim
 refine wpAny_bind (wpAny_standAt (wpAny_bind (cB (no (turn n s hJ)) λr s1 h1=>?_)));cases r with
 |none=>exact wpAny_pure h1
 |some v=>
  refine wpAny_bind (cB (no h1) λ_ s2 h2=>?_);refine wpAny_bind (cB (no h2) λ_ s3 h3=>?_);refine wpAny_bind (wpAny_tests_one (cB (no h3) λb s4 h4=>?_));cases b with
  |false=>exact wpAny_pure ⟨rfl,h4⟩
  |true=>exact wpAny_bind (wpAny_bind (cB (no h4) λx s5 h5=>wpAny_bind (cB (no h5) λ_ s6 h6=>wpAny_pure (wpAny_pure ⟨rfl,h6⟩))))
end
section
variable {X:Cx} {pins:List (Addr×Obj)} {σ:St} {H:Hp} {s:Shared} {scope:Scope} {cl:List (Str×Addr)} {own:List Str} {fr:List Nat} {M:List Str}
def Au(own:List Str)(fr:List Nat)(wi:TI)(g:TG)(tc:TT)(te:TE):TE:=λσ H Q=>wi σ H λJ H1=>∀D,H1 D=none->∃W:Nat->Nat->St->Hp->Prop,(∃m,W 0 m (i6 own fr σ) (upd H1 D (.lst [])))/\∀i m bQ H2,W i m bQ H2->
 (J.stop i H2/\Q (.ref D) H2)\/(J.go i H2/\∀x H3,J.Kj i H2 x H3->g x bQ H3 λqh H4=>tc qh H4 λb H5=>match b with
  |true=>te qh H5 λy H6=>∃ys,H6 D=some (.lst ys)/\ys.length<sizeLine/\∃m',m'<m/\W (i+1) m' qh (upd H6 D (.lst (ys++[y])))
  |false=>∃m',m'<m/\W (i+1) m' qh H5)
theorem Cu{elt tg iter c:Expr}{ps:Pos}{g:TG}{tc:TT}{te:TE}{it D:Addr}{fp:List Addr}{tn:Nat->Heap->Prop}{J:It}{H1:Hp}{s3:Shared}{W:Nat->Nat->St->Hp->Prop}{Qz:Hp->Prop}{Rz:Result->Shared->Prop}{C:Addr}(hc:X.calm=true)(K:mC X scope cl own fr M)(I3:Inv X pins σ H1 s3)(T:Turn X.prog X.w X.K tg J fp it tn)(st:tn 0 s3.heap)(hf:∀b∈fp,lY X pins H1 b)(hg:PG (cw X scope cl C s3 H1 M fp pins) tg g)(Ze:PT (cw X scope cl C s3 H1 M fp pins) c tc)(he:PE (cw X scope cl C s3 H1 M fp pins) elt te)(w0:∃m,W 0 m (i6 own fr σ) H1)(turn:∀i m bQ H2,W i m bQ H2->(J.stop i H2/\Qz H2)\/(J.go i H2/\∀x H3,J.Kj i H2 x H3->g x bQ H3 λqh H4=>tc qh H4 λb H5=>match b with
 |true=>te qh H5 λy H6=>∃ys,H6 D=some (.lst ys)/\ys.length<sizeLine/\∃m',m'<m/\W (i+1) m' qh (upd H6 D (.lst (ys++[y])))
 |false=>∃m',m'<m/\W (i+1) m' qh H5)){h':Heap}{m0:Str->Option Value}{tk:Nat}(hC:C=s3.heap.objs.size)(hn:h'.Ns C m0)(hk:∀b u,s3.heap.get? b=some u->h'.get? b=some u)(fin:∀s' H' m',Inv X pins σ H' s'->H' C=none->s'.heap.Ns C m'->Qz H'->Rz (.ok .next) s'):
 codeAny (model X.prog X.w) X.A (.compStart (.ListComp elt [⟨tg,iter,[c],0⟩] scope ps) 0 (.ref it) (.ref D) (compEnvC scope cl C X.env)) Rz {s3 with heap:=h',toks:=tk}:=by
 subst hC;have I4:=I3.comp K hf (T.obj _ _ st) (tk:=tk) hn hk;have zJ:tn 0 h':=T.keep _ _ _ st λb _ o e=>hk b o e;have qR:∀{H':Hp},(∀b∈fp,H' b=none)->∀b∈fp,lY (cw X scope cl s3.heap.objs.size s3 H1 M fp pins) [] H' b:=λ{H'} hz b hb=>by
  obtain⟨o,e,_⟩:=T.obj _ _ st b hb;obtain⟨_,f1,f2,f3,f4,f5⟩:=hf b hb;refine⟨hz b hb,Nat.ne_of_lt (Heap.lt_size e),λz=>(List.mem_cons.mp (I3.um b z)).elim f1 f2,.inl hb,λx c h=>f4 x c (K.cls x c h),λp hp=>f5 p ?_⟩;rcases List.mem_append.mp hp with z|z
  ·exact z
  ·cases z
 have loop:codeAny (model X.prog X.w) X.A (.compLoop (.ListComp elt [⟨tg,iter,[c],0⟩] scope ps) 0 (.ref it) (.ref D) (compEnvC scope cl s3.heap.objs.size X.env)) Rz {s3 with heap:=h',toks:=tk}:=by
  obtain⟨m,w0⟩:=w0;refine Eu (λn s'=>∃i cH H',Inv (cw X scope cl s3.heap.objs.size s3 H1 M fp pins) [] cH H' s'/\tn i s'.heap/\(∀b∈fp,H' b=none)/\W i n cH H') (λn s5 hJ=>?_) m ⟨0,_,H1,I4,zJ,λb hb=>(hf b hb).1,w0⟩;obtain⟨i,zK,H5,I5,yP,Nu,w5⟩:=hJ;rcases turn i n zK H5 w5 with⟨stop,qz⟩|⟨go,step⟩
  ·refine cB (T.done (cw X scope cl s3.heap.objs.size s3 H1 M fp pins) rfl rfl rfl hc i [] s5 zK H5 _ I5 (qR Nu) yP stop) λr s6 q6=>?_;obtain⟨hr,I6⟩:=q6;subst hr;obtain⟨m6,n6,_⟩:=I6.loc;exact fin s6 H5 m6 (I3.As (h:=h') hf I6) I6.free n6 qz
  ·refine cB (T.item (cw X scope cl s3.heap.objs.size s3 H1 M fp pins) rfl rfl rfl hc i [] s5 zK H5 _ I5 (qR Nu) yP go) λr s6 q6=>?_;obtain⟨u,hr,h6⟩:=q6;subst hr;refine cB h6 λ_ s7 q7=>?_;obtain⟨x,H7,I7,r7,y7,D2,VF⟩:=q7;have VG:=I7.pinned (qR VF) (T.obj _ _ D2);refine cB (hg _ s7 zK H7 x u _ VG r7 (step x H7 y7)) λ_ s8 q8=>?_;obtain⟨Es,H8,I8,q8⟩:=q8;refine cB (Ze _ s8 Es H8 _ I8 q8) λb s8' XS=>?_;obtain⟨H8',XT,XS⟩:=XS;cases b with
   |false=>
    obtain⟨m',hm,w9⟩:=XS;refine⟨m',hm,i+1,Es,_,XT.kf,T.keep _ _ _ D2 λb hb o e=>(XT.pin (b,o) (List.mem_append_right _ (List.mem_append_right _ (eW hb e)))).1,λb hb=>?_,w9⟩;obtain⟨o,e,_⟩:=T.obj _ _ D2 b hb;exact(XT.pin (b,o) (List.mem_append_right _ (List.mem_append_right _ (eW hb e)))).2.1
   |true=>
   refine cB (he _ s8' Es H8' _ XT XS) λv s9 q9=>?_;obtain⟨y,H9,I9,r9,ys,hD,hz,m',hm,w9⟩:=q9;refine cB (dh (X:=cw X scope cl s3.heap.objs.size s3 H1 M fp pins) _ s9 Es H9 (.ref D) [y] (.ref D) [v] (λv' H'=>v'=.dH/\H'=upd H9 D (.lst (ys++[y]))) I9 rfl (.cons r9 .nil) ⟨D,ys,y,rfl,rfl,hD,hz,rfl,rfl⟩) λv' KI VH=>?_;obtain⟨v10,VI,Et,_,rfl,rfl⟩:=VH;refine⟨m',hm,i+1,Es,_,Et.kf,T.keep _ _ _ D2 λb hb o e=>(Et.pin (b,o) (List.mem_append_right _ (List.mem_append_right _ (eW hb e)))).1,λb hb=>?_,w9⟩;obtain⟨o,e,_⟩:=T.obj _ _ D2 b hb;exact(Et.pin (b,o) (List.mem_append_right _ (List.mem_append_right _ (eW hb e)))).2.1
 exact codeAny_compStart_list loop (T.self X.A 0 _ _ _ zJ loop)
theorem Cv{elt tg iter c:Expr}{ps:Pos}{wi:TI}{g:TG}{tc:TT}{te:TE}(hc:X.calm=true)(K:mC X scope cl own fr M)(hi:PI X tg iter wi)(hg:∀C s3 H1 fp pins,PG (cw X scope cl C s3 H1 M fp pins) tg g)(Ze:∀C s3 H1 fp pins,PT (cw X scope cl C s3 H1 M fp pins) c tc)(he:∀C s3 H1 fp pins,PE (cw X scope cl C s3 H1 M fp pins) elt te)(hs:∀x,foldedSetIterable iter X.env x=pure x:=by intro _;rfl):PE X (.ListComp elt [⟨tg,iter,[c],0⟩] scope ps) (Au own fr wi g tc te):=by
 intro pins s σ H Q I h;rw[eval_ListComp];refine wpAny_comprehension_free (use:=none) rfl hs K.Cn K.kind K.names ?_;show wpAny _ _ (eval iter X.env) _ _ _;refine cB (hi pins s σ H _ I h) λv s1 h1=>cB h1 λRN s2 h2=>?_;obtain⟨it,fp,tn,J,H2,e,I2,T,wG,f2,hW⟩:=h2;subst e;refine wpAny_newObj_type (hd:=by size_fits) ?_;have I3:Inv X pins σ (upd H2 s2.heap.objs.size (.lst [])) {s2 with heap:=s2.heap.push {cls:=.type "list",dict:=none,data:=.seq ([]:List Value).toArray}}:=I2.En (t':=s2.toks) .nil (Nat.zero_le _);obtain⟨W,w0,turn⟩:=hW s2.heap.objs.size I2.fresh;have B6:tn 0 (s2.heap.push {cls:=.type "list",dict:=none,data:=.seq ([]:List Value).toArray}):=T.keep _ _ _ wG λb _ o e=>Heap.get?_push_of_some _ e;have f3:∀b∈fp,lY X pins (upd H2 s2.heap.objs.size (.lst [])) b:=λb hb=>by
  obtain⟨o,e,_⟩:=T.obj _ _ wG b hb;obtain⟨f0,f'⟩:=f2 b hb;exact⟨by rw[ay (Nat.ne_of_lt (Heap.lt_size e))];exact f0,f'⟩
 refine wpAny_newFunctionEnv K.lq (λy hy=>nomatch hy) (λh' wL D3=>?_) K.kind;have hk:∀b u,(s2.heap.push {cls:=.type "list",dict:=none,data:=.seq ([]:List Value).toArray}).get? b=some u->h'.get? b=some u:=λb u e=>
  D3.extBut b u (Nat.ne_of_lt (Heap.lt_size e)) (Heap.get?_push_of_some _ e)
 refine Cu (g:=g) (tc:=tc) (te:=te) (W:=W) (Qz:=λH'=>Q (.ref s2.heap.objs.size) H') hc K I3 T B6 f3 (hg _ _ _ _ _) (Ze _ _ _ _ _) (he _ _ _ _ _) w0 turn rfl wL hk λs' H' m' J1 Co KJ qz=>?_;refine⟨m',KJ,λh2 sb=>⟨.ref s2.heap.objs.size,H',?_,rfl,qz⟩⟩;obtain⟨_,f1,_,KL,f4,f5⟩:=I3.ur (H':=H') (Nat.le_refl _) Co;exact J1.turned (t':=s'.toks) (λb o hb e=>sb.extBut b o hb e) Co f1 KL f4 f5
end
end L2
namespace SF
open PySem PySem.Spec PyProof.Rows
section
variable {prog:Program} {w:World} {A:Around} {E:Value->Shared->Prop} {s:Shared} {it t:Addr} {i:Nat} {items:Array Value} {Q:Value->Shared->Prop}
theorem Ew{x:Value}(hit:IsTupIter s.heap it t i)(ht:IsTup s.heap t items)(hx:items[i]?=some x)(hQ:∀h',IsTupIter h' it t (i+1)->Heap.SameBut it s.heap h'->Q x {s with heap:=h'}):
 wpAny (model prog w) A (Builtin.SmallTypes.nextOf (.ref it)) Q E s:=by
 obtain⟨o,ho,hc,hd⟩:=id hit;obtain⟨ol,Zf,_,nl,Zg⟩:=ht;unfold Builtin.SmallTypes.nextOf;refine wpAny_bind (wpAny_callSpecial?_slot (name:=Str.ofString "__next__") hit.typeIs slot_tupleiter_next (wpAny_call_entry slot_tupleiter_next hit.typeIs entry_tupleiter_next ?_ (args_tupleiter_next _)));show wpAny _ _ (field (.ref it) 0 >>= _) _ _ s;refine wpAny_bind (wpAny_field ho hd (x:=.ref t) rfl ?_);show wpAny _ _ (if(Value.ref t==Value.none)=true then _ else _) _ _ s;rw[if_neg (show ¬((Value.ref t==Value.none)=true) from Bool.false_ne_true)];show wpAny _ _ (field (.ref it) 1 >>= _) _ _ s;refine wpAny_bind (wpAny_field ho hd (x:=.int i 0) rfl ?_);show wpAny _ _ (seqItems? (.ref t) >>= _) _ _ s;refine wpAny_bind (wpAny_seqItems Zf Zg ?_);simp only[Int.toNat_natCast,hx];refine wpAny_bind (wpAny_setField ho hd (by simp) (wpAny_pure ⟨x,rfl,wpAny_pure (hQ _ ?_ (Heap.SameBut.update ..))⟩));exact⟨_,Heap.get?_update_self _ ho (Obj.isFreed_of_fields (Obj.data_mapFields hd _)),(Obj.cls_mapFields ..).trans hc,by rw[Obj.data_mapFields hd];simp[rawInt]⟩
theorem IM(hh:A.handled=none)(hit:IsTupIter s.heap it t i)(ht:IsTup s.heap t items)(hx:items[i]?=none)(hE:∀h' e,Heap.ExtBut it s.heap h'->(∃o,h'.get? e=some o/\o.cls=.type "StopIteration")->E (.ref e) {s with heap:=h'}):
 wpAny (model prog w) A (Builtin.SmallTypes.nextOf (.ref it)) Q E s:=by
 obtain⟨o,ho,hc,hd⟩:=id hit;obtain⟨ol,Zf,_,nl,Zg⟩:=ht;unfold Builtin.SmallTypes.nextOf;refine wpAny_bind (wpAny_callSpecial?_slot (name:=Str.ofString "__next__") hit.typeIs slot_tupleiter_next (wpAny_call_entry slot_tupleiter_next hit.typeIs entry_tupleiter_next ?_ (args_tupleiter_next _)));show wpAny _ _ (field (.ref it) 0 >>= _) _ _ s;refine wpAny_bind (wpAny_field ho hd (x:=.ref t) rfl ?_);show wpAny _ _ (if(Value.ref t==Value.none)=true then _ else _) _ _ s;rw[if_neg (show ¬((Value.ref t==Value.none)=true) from Bool.false_ne_true)];show wpAny _ _ (field (.ref it) 1 >>= _) _ _ s;refine wpAny_bind (wpAny_field ho hd (x:=.int i 0) rfl ?_);show wpAny _ _ (seqItems? (.ref t) >>= _) _ _ s;refine wpAny_bind (wpAny_seqItems Zf Zg ?_);simp only[Int.toNat_natCast,hx];refine wpAny_bind (wpAny_rule (wpAny_bind (wpAny_setField ho hd (by simp) ?_)));show wpAny _ _ (newExc (.type "StopIteration") [] >>= _) _ _ _;refine wpAny_bind ?_;simp only[newExc,newTuple];refine wpAny_bind (wpAny_newObj_type ?_ (by size_fits));refine wpAny_bind (m:=firstArgMember _ _) (wpAny_of_eq (a:=Value.none) (by first|rfl|(simp only[firstArgMember];rfl)) ?_);refine wpAny_newObj_type ?_ (by size_fits);simp only[raiseNew];refine wpAny_bind (wpAny_handled ?_)
 first|rw[show A.in1.handled=none from hh]|rw[hh]
 refine wpAny_bind (wpAny_pure (wpAny_throw ?_));exact hE _ _ (((Heap.SameBut.update ..).extBut.push _).push _) ⟨_,Heap.get?_push_size _ rfl,rfl⟩
end
theorem _root_.PyProof.Rows.IsTupIter.at {h h':Heap}{a t:Addr}{i:Nat}(x:IsTupIter h a t i)(hs:∀o,h.get? a=some o->h'.get? a=some o):IsTupIter h' a t i:=let⟨o,ho,r⟩:=x;⟨o,hs o ho,r⟩
def Av(h:Heap)(e:Addr):Prop:=∃o,h.get? e=some o/\o.cls=.type "StopIteration"
def IP(P:Program)(w:World)(i:Addr)(N M:Heap->Prop):Option Value->Prop
 |some v=>∀(A:Around)(E:Value->Shared->Prop)(s:Shared)(Q:Value->Shared->Prop),N s.heap->(∀h',M h'->Heap.SameBut i s.heap h'->Q v {s with heap:=h'})->wpAny (model P w) A (Builtin.SmallTypes.nextOf (.ref i)) Q E s
 |none=>∀(A:Around)(E:Value->Shared->Prop)(s:Shared)(Q:Value->Shared->Prop),A.handled=none->N s.heap->(∀h' e,Heap.ExtBut i s.heap h'->Av h' e->E (.ref e) {s with heap:=h'})->wpAny (model P w) A (Builtin.SmallTypes.nextOf (.ref i)) Q E s
def uy(a b:Addr)(N:Heap->Prop):Prop:=∀h h',(∀c o,c=a\/c=b->h.get? c=some o->h'.get? c=some o)->N h->N h'
theorem uy.but{a b c:Addr}{N:Heap->Prop}{h h':Heap}(u:uy a b N)(e:Heap.ExtBut c h h')(ha:a≠c)(hb:b≠c)(n:N h):N h':=
 u h h' (λd o hd x=>e d o (by rcases hd with rfl|rfl<;>assumption) x) n
def KZ(z t i j:Addr)(h h':Heap):Prop:=∀c o,c≠z->c≠t->c≠i->c≠j->h.get? c=some o->h'.get? c=some o
section
variable {P:Program} {w:World} {A:Around} {E:Value->Shared->Prop} {s:Shared} {z TI TO i1 i2 l1 l2:Addr} {u v:Value} {N1 M1 N2 M2:Heap->Prop} {o1 o2:Option Value}
theorem K0{Q:Value->Shared->Prop}(hh:A.handled=none)(D:ZipApart z TI TO i1 i2 l1 l2)(a1:uy i1 l1 N1)(b1:uy i1 l1 M1)(a2:uy i2 l2 N2)(b2:uy i2 l2 M2)(t1:IP P w i1 N1 M1 o1)(t2:IP P w i2 N2 M2 o2)(hz:IsZip s.heap z TI TO .none)(hI:IsPair s.heap TI (.ref i1) (.ref i2))(hO:IsPair s.heap TO u v)(n1:N1 s.heap)(n2:N2 s.heap)(hQ:∀x y h',o1=some x->o2=some y->IsZip h' z TI TO (rawInt s.heap.objs.size)/\IsPair h' TO x y/\M1 h'/\M2 h'/\IsPair h' s.heap.objs.size x y/\h'.objs.size=s.heap.objs.size+1->KZ z TO i1 i2 s.heap h'->Q (.ref s.heap.objs.size) {s with heap:=h'})(hE:∀h' e,o1=none\/o2=none->KZ z TO i1 i2 s.heap h'->Av h' e->E (.ref e) {s with heap:=h'}):
 wpAny (model P w) A (Builtin.«zip.__next__» ⟨[.ref z],[]⟩) (λf s'=>∃r,f=.done (.ret r)/\Q r s') E s:=by
 have stop:∀{h h':Heap}{e:Addr}{f:Value},Av h e->IsZip h z TI TO f->Heap.SameBut z h h'->Av h' e:=λ{h h' e f}⟨o,ho,hc⟩ y b=>
  ⟨o,b.extBut e o (λq=>by rw[q,y] at ho;cases ho;simp at hc) ho,hc⟩
 show wpAny _ _ (field (.ref z) 2 >>= λ_=>field (.ref z) 3 >>= _) _ _ _;refine wpAny_bind (wpAny_field hz rfl (x:=.bool false) rfl (wpAny_bind (wpAny_field hz rfl (x:=.ref TI) rfl (wpAny_bind (wpAny_seqItems hI rfl ?_)))));show wpAny _ _ ((field (.ref z) 0 >>= λx=>_) >>= _) _ _ _;refine wpAny_bind (wpAny_bind (wpAny_field hz rfl (x:=.none) rfl (wpAny_pure ?_)));rw[if_pos rfl];refine wpAny_bind (wpAny_rule (wpAny_bind (wpAny_field hz rfl (x:=.ref TO) rfl (wpAny_bind (wpAny_setField_rec hz (by simp) λk1(y1:IsZip k1 z TI TO .ellipsis) d1=>wpAny_bind ?_)))));simp only[List.zipIdx_cons,List.zipIdx_nil,List.forIn_cons,List.forIn_nil];refine wpAny_bind (wpAny_bind (wpAny_onRaise (m:=Builtin.SmallTypes.nextOf (.ref i1) >>= _) (wpAny_bind ?_)));cases o1 with
 |none=>
  refine t1 _ _ _ _ hh (a1.but d1.extBut D.i1z D.l1z n1) λk2 e d2 he=>?_;have y2:IsZip k2 z TI TO .ellipsis:=d2 _ _ D.i1z.symm y1;exact wpAny_setField_rec y2 (by simp) λk3 _ d3=>hE k3 e (.inl rfl) (λc o c1 _ c3 _ g=>d3.extBut c o c1 (d2 c o c3 (d1.extBut c o c1 g))) (stop he y2 d3)
 |some x=>
  refine t1 _ _ _ _ (a1.but d1.extBut D.i1z D.l1z n1) λk2 m1 d2=>wpAny_pure ?_;have p2:IsPair k2 TO u v:=d2.extBut _ _ D.TOi1 (d1.extBut _ _ D.TOz hO);refine wpAny_bind (wpAny_seqItems p2 rfl (wpAny_bind (wpAny_updateSeq_pair p2 λk3(p3:IsPair k3 TO x v) d3=>wpAny_bind (wpAny_letGo (wpAny_pure ?_)))));have y3:IsZip k3 z TI TO .ellipsis:=d3.extBut _ _ D.TOz.symm (d2.extBut _ _ D.i1z.symm y1);have n3:N2 k3:=a2.but d3.extBut D.TOi2.symm D.l2TO (a2.but d2.extBut D.i12.symm D.l2i1 (a2.but d1.extBut D.i2z D.l2z n2));have q3:KZ z TO i1 i2 s.heap k3:=λc o c1 c2 c3 _ g=>d3.extBut c o c2 (d2.extBut c o c3 (d1.extBut c o c1 g));refine wpAny_bind (wpAny_bind (wpAny_onRaise (m:=Builtin.SmallTypes.nextOf (.ref i2) >>= _) (wpAny_bind ?_)));cases o2 with
  |none=>
   refine t2 _ _ _ _ hh n3 λk4 e d4 he=>?_;have y4:IsZip k4 z TI TO .ellipsis:=d4 _ _ D.i2z.symm y3;exact wpAny_setField_rec y4 (by simp) λk5 _ d5=>hE k5 e (.inr rfl) (λc o c1 c2 c3 c4 g=>d5.extBut c o c1 (d4 c o c4 (q3 c o c1 c2 c3 c4 g))) (stop he y4 d5)
  |some y=>
   refine t2 _ _ _ _ n3 λk4 m2 d4=>wpAny_pure ?_;have p4:IsPair k4 TO x v:=d4.extBut _ _ D.TOi2 p3;refine wpAny_bind (wpAny_seqItems p4 rfl (wpAny_bind (wpAny_updateSeq_pair p4 λk5(p5:IsPair k5 TO x y) d5=>wpAny_bind (wpAny_letGo (wpAny_pure (wpAny_pure ?_))))));refine wpAny_bind (wpAny_seqItems p5 rfl (wpAny_bind (wpAny_newTuple ?_)));have y5:IsZip k5 z TI TO .ellipsis:=d5.extBut _ _ D.TOz.symm (d4.extBut _ _ D.i2z.symm y3);have sz:k5.objs.size=s.heap.objs.size:=d5.1.trans (d4.1.trans (d3.1.trans (d2.1.trans d1.1)));have lz:k5.objs.size≠z:=Nat.ne_of_gt (Heap.lt_size y5);show wpAny _ _ (Builtin.SmallTypes.ownedTupleHandOut (.ref z) (.ref k5.objs.size) >>= λ_=>_) _ _ _;refine wpAny_bind (wpAny_bind (wpAny_setField_rec (Heap.get?_push_of_some {cls:=.type "tuple",data:=.seq #[x,y]} y5) (by simp) λk6(y6:IsZip k6 z TI TO (rawInt k5.objs.size)) d6=>
    wpAny_setField_rec y6 (by simp) λk7(y7:IsZip k7 z TI TO (rawInt k5.objs.size)) d7=>wpAny_pure ⟨_,rfl,?_⟩));have up:Heap.ExtBut z k5 k7:=λc o c1 g=>d7.extBut c o c1 (d6.extBut c o c1 (Heap.get?_push_of_some _ g));have p7:IsPair k7 k5.objs.size x y:=d7.extBut _ _ lz (d6.extBut _ _ lz (Heap.get?_push_size _ rfl));have s7:k7.objs.size=k5.objs.size+1:=d7.1.trans (d6.1.trans (Heap.size_push ..));show Q (.ref k5.objs.size) _;rw[sz] at y7 p7 s7 ⊢;exact hQ x y k7 rfl rfl ⟨y7,up _ _ D.TOz p5,b1.but up D.i1z D.l1z (b1.but d5.extBut D.TOi1.symm D.l1TO (b1.but d4.extBut D.i12 D.l1i2 (b1.but d3.extBut D.TOi1.symm D.l1TO m1))),b2.but up D.i2z D.l2z (b2.but d5.extBut D.TOi2.symm D.l2TO m2),p7,s7⟩
    λc o c1 c2 c3 c4 g=>up c o c1 (d5.extBut c o c2 (d4.extBut c o c4 (q3 c o c1 c2 c3 c4 g)))
theorem Cw{Q:Option Value->Shared->Prop}(hh:A.handled=none)(D:ZipApart z TI TO i1 i2 l1 l2)(a1:uy i1 l1 N1)(b1:uy i1 l1 M1)(a2:uy i2 l2 N2)(b2:uy i2 l2 M2)(t1:IP P w i1 N1 M1 o1)(t2:IP P w i2 N2 M2 o2)(hz:IsZip s.heap z TI TO .none)(hI:IsPair s.heap TI (.ref i1) (.ref i2))(hO:IsPair s.heap TO u v)(n1:N1 s.heap)(n2:N2 s.heap)(hQ:∀x y h',o1=some x->o2=some y->IsZip h' z TI TO (rawInt s.heap.objs.size)/\IsPair h' TO x y/\M1 h'/\M2 h'/\IsPair h' s.heap.objs.size x y/\h'.objs.size=s.heap.objs.size+1->KZ z TO i1 i2 s.heap h'->Q (some (.ref s.heap.objs.size)) {s with heap:=h'})(hE:∀h',o1=none\/o2=none->KZ z TO i1 i2 s.heap h'->Q none {s with heap:=h'}):wpAny (model P w) A (pyNext (.ref z)) Q E s:=by
 have ty:s.TypeIs (.ref z) "zip":=⟨_,hz,rfl⟩;unfold pyNext;refine wpAny_bind (wpAny_attempt (wpAny_callSpecial?_slot (name:=Str.ofString "__next__") ty F.slot_zip_next (wpAny_call_entry F.slot_zip_next ty F.entry_zip_next (K0 hh D a1 b1 a2 b2 t1 t2 hz hI hO n1 n2 (λx y h' e1 e2 f g=>wpAny_pure (hQ x y h' e1 e2 f g)) λh' e c g q=>?_) (F.args_zip_next_1 _))));exact wpAny_bind (wpAny_isInstance (T:="StopIteration") (b:=true) q isSubtype_stop (wpAny_pure (hE h' c g)))
end
def TupAt(i l:Addr)(k:Nat)(xs:Array Value)(h:Heap):Prop:=IsTupIter h i l k/\IsTup h l xs
def LstAt(i l:Addr)(k:Nat)(xs:Array Value)(h:Heap):Prop:=h.IsListIter i l k/\h.IsList l xs
theorem sM{i l:Addr}{k:Nat}{xs:Array Value}:uy i l (TupAt i l k xs):=λ_ _ f n=>
 ⟨n.1.at λo e=>f i o (.inl rfl) e,let⟨o,e,r⟩:=n.2;⟨o,f l o (.inr rfl) e,r⟩⟩
theorem sN{i l:Addr}{k:Nat}{xs:Array Value}:uy i l (LstAt i l k xs):=λ_ _ f n=>
 ⟨n.1.at λo e=>f i o (.inl rfl) e,let⟨o,e,r⟩:=n.2;⟨o,f l o (.inr rfl) e,r⟩⟩
theorem Cy{P:Program}{w:World}{i l:Addr}{k:Nat}{xs:Array Value}(d:l≠i):IP P w i (TupAt i l k xs) (TupAt i l (k+1) xs) xs[k]?:=by
 cases hx:xs[k]? with
 |some x=>exact λA E s Q n q=>Ew n.1 n.2 hx λh' g b=>q h' ⟨g,let⟨o,e,r⟩:=n.2;⟨o,b.extBut _ o d e,r⟩⟩ b
 |none=>exact λA E s Q hh n q=>IM hh n.1 n.2 hx q
theorem Cz{P:Program}{w:World}{i l:Addr}{k:Nat}{xs:Array Value}(d:l≠i):IP P w i (LstAt i l k xs) (LstAt i l (k+1) xs) xs[k]?:=by
 cases hx:xs[k]? with
 |some x=>exact λA E s Q n q=>wpAny_nextOf_list_item n.1 n.2 hx λh' g b=>q h' ⟨g,let⟨o,e,r⟩:=n.2;⟨o,b.extBut _ o d e,r⟩⟩ b
 |none=>exact λA E s Q hh n q=>wpAny_nextOf_list_end hh n.1 n.2 hx q
def Ex(n:Nat)(l1 l2:Addr):List Obj:=[{cls:=.type "tuple_iterator",data:=.fields #[.ref l1,.int 0 0]},{cls:=.type "list_iterator",data:=.fields #[.ref l2,.int 0 0]},
 {cls:=.type "tuple",data:=.seq #[.ref n,.ref (n+1)]},{cls:=.type "tuple",data:=.seq #[.none,.none]},{cls:=.type "zip",data:=.fields #[.none,.bool false,.bool false,.ref (n+2),.ref (n+3)]}]
theorem CA:∀(os:List Obj)(h:Heap),(os.foldl Heap.push h).objs.size=h.objs.size+os.length/\(∀c o,h.get? c=some o->(os.foldl Heap.push h).get? c=some o)/\∀i o,os[i]?=some o->o.isFreed=false->(os.foldl Heap.push h).get? (h.objs.size+i)=some o
 |[],h=>⟨rfl,λ_ _ e=>e,λi o e=>by simp at e⟩
 |p::os,h=>by
  obtain⟨a,b,c⟩:=CA os (h.push p);refine⟨by rw[List.foldl_cons,a,Heap.size_push,List.length_cons];lia,λd o e=>b d o (Heap.get?_push_of_some _ e),λi o e f=>?_⟩;cases i with
  |zero=>cases e;exact b _ _ (Heap.get?_push_size _ f)
  |succ i=>have:=c i o e f;rw[Heap.size_push] at this;rw[show h.objs.size+(i+1)=h.objs.size+1+i by lia];exact this
theorem Ey(l1 l2:Addr)(xs ys:Array Value):Meets (Builtin.«zip.__new__» ⟨[.type "zip",.ref l1,.ref l2],[]⟩) λ_ R s=>
 IsTup s.heap l1 xs/\s.heap.IsList l2 ys/\R (.ok (.ret (.ref (s.heap.objs.size+4)))) {s with heap:=(Ex s.heap.objs.size l1 l2).foldl Heap.push s.heap}:=
 .of_wp λprog w A R s h=>by
  obtain⟨hp,g,d,tk,os⟩:=s;obtain⟨f1,f2,f3⟩:=h;have sz:=sub_zip;have g1:IsTup (Shared.heap ⟨hp,g,d,tk,os⟩) l1 xs:=f1;have g2:Heap.IsList (Shared.heap ⟨hp.push {cls:=.type "tuple_iterator",data:=.fields #[.ref l1,.int 0 0]},g,d,tk,os⟩) l2 ys:=Heap.IsList.push f2 _;simp only[Ex,List.foldl_cons,List.foldl_nil] at f3
  wp_walk using iter_tuple g1,wpAny_pyIter_list g2
  refine⟨_,rfl,?_⟩;simp only[Heap.size_push,Nat.add_assoc];exact f3
theorem IQ{prog:Program}{w:World}{A:Around}{E:Value->Shared->Prop}{s:Shared}{l1 l2:Addr}{xs ys:Array Value}{Q:Value->Shared->Prop}(f1:IsTup s.heap l1 xs)(f2:s.heap.IsList l2 ys)(q:∀h',IsZip h' (s.heap.objs.size+4) (s.heap.objs.size+2) (s.heap.objs.size+3) .none/\IsPair h' (s.heap.objs.size+2) (.ref s.heap.objs.size) (.ref (s.heap.objs.size+1))/\IsPair h' (s.heap.objs.size+3) .none .none/\IsTupIter h' s.heap.objs.size l1 0/\h'.IsListIter (s.heap.objs.size+1) l2 0/\h'.objs.size=s.heap.objs.size+5->
 (∀c o,s.heap.get? c=some o->h'.get? c=some o)->Q (.ref (s.heap.objs.size+4)) {s with heap:=h'}):wpAny (model prog w) A (call (.type "zip") [.ref l1,.ref l2]) Q E s:=by
 refine callType_new F.called_zip (by decide) (F.typeCall_zip_2 _ _) (F.newCall_zip_2 _ _) (λobj=>F.args_object_init_3 obj _ _) F.entry_zip_new (Ey l1 l2 xs ys) ⟨f1,f2,?_⟩;obtain⟨a,b,c⟩:=CA (Ex s.heap.objs.size l1 l2) s.heap;exact⟨⟨_,c 4 _ rfl rfl,rfl⟩,q _ ⟨c 4 _ rfl rfl,c 2 _ rfl rfl,c 3 _ rfl rfl,⟨_,c 0 _ rfl rfl,rfl,rfl⟩,⟨_,c 1 _ rfl rfl,rfl,rfl⟩,a⟩ b⟩
end SF
namespace L2
open PySem PySem.Spec PyProof.Rows
def VQ(K:PySem.W.Frag)(a b:Addr):It:=
 ⟨λi H=>∃xs ys x y,qB K H a xs/\ft K H b ys/\xs[i]?=some x/\ys[i]?=some y,λi H v H'=>∃p x y,H p=none/\v=.ref p/\H'=upd H p (.tup [x,y])/\(∀xs,qB K H a xs->xs[i]?=some x)/\∀ys,ft K H b ys->ys[i]?=some y,
  λi H=>∃xs ys,qB K H a xs/\ft K H b ys/\(xs.length<=i\/ys.length<=i)⟩
theorem IS{P:Program}{w:World}{K:PySem.W.Frag}{es:List Expr}{k:Nat}{tp:Pos}(l1 l2 z TI TO i1 i2:Addr)(D:ZipApart z TI TO i1 i2 l1 l2):
 Turn P w K (.Tuple es k tp) (VQ K l1 l2) [z,TI,TO,i1,i2] z (λi h=>∃u v,IsZip h z TI TO .none/\IsPair h TI (.ref i1) (.ref i2)/\IsPair h TO u v/\IsTupIter h i1 l1 i/\h.IsListIter i2 l2 i) where
 mem:=List.mem_cons_self
 obj:=λi h q b hb=>by
  obtain⟨u,v,q1,q2,q3,⟨o4,q4,c4,d4⟩,⟨o5,q5,c5,d5⟩⟩:=q;rcases IK hb with rfl|rfl|rfl|rfl|rfl
  ·exact⟨_,q1,λv z=>by cases (show Data.fields _=Data.cell v from z)⟩
  ·exact⟨_,q2,λv z=>by cases (show Data.seq _ _=Data.cell v from z)⟩
  ·exact⟨_,q3,λv z=>by cases (show Data.seq _ _=Data.cell v from z)⟩
  ·exact⟨o4,q4,λv z=>by rw[d4] at z;cases z⟩
  ·exact⟨o5,q5,λv z=>by rw[d5] at z;cases z⟩
 keep:=λi h h' q kk=>by
  obtain⟨u,v,q1,q2,q3,q4,q5⟩:=q;exact⟨u,v,kk z (by simp) _ q1,kk TI (by simp) _ q2,kk TO (by simp) _ q3,q4.at λo z=>kk i1 (by simp) o z,q5.at λo z=>kk i2 (by simp) o z⟩
 item:=by
  intro X e1 e2 e3 hc i pins s σ H E I hf q hg;subst e1 e2 e3;obtain⟨u0,v0,q1,q2,q3,q4,q5⟩:=q;obtain⟨xs,ys,x,y,hq,wb,hx,hy⟩:=hg;obtain⟨bB,rv,pl,hz⟩:=I.tuple hq;obtain⟨its',Oc,zN,Od⟩:=I.list wb;obtain⟨u,hu,ru⟩:=rv.get hx;obtain⟨u',XR,Zc⟩:=Oc.get hy;have mO:H s.heap.objs.size=none:=I.fresh;refine SF.Cw (I.ok.hd hc) D SF.sM SF.sM SF.sN SF.sN (SF.Cy D.l1i1) (SF.Cz D.l2i2) q1 q2 q3 ⟨q4,pl⟩ ⟨q5,zN.isList⟩ (λx1 y1 h1 e1 e2⟨z1,z2,z3,z4,z5,z6⟩ hk=>?_) λh1 e _=>?_
  rotate_left
  ·rcases e with e|e
   ·rw[show bB.toArray[i]?=some u by simpa using hu] at e;cases e
   ·rw[show its'.toArray[i]?=some u' by simpa using XR] at e;cases e
  rw[show bB.toArray[i]?=some u by simpa using hu] at e1;rw[show its'.toArray[i]?=some u' by simpa using XR] at e2;cases e1;cases e2
  replace z3:=z3.1;replace z4:=z4.1
  refine⟨_,rfl,wpAny_letOwnedTupleGo_zip z1 λh2 Zd sb=>?_⟩;have Ck:Heap.SameBut z h1 h2:=sb;have hp:z≠s.heap.objs.size:=Nat.ne_of_lt (Heap.lt_size q1);have kp:∀b o,b∉[z,TI,TO,i1,i2]->s.heap.get? b=some o->h2.get? b=some o:=λb o hb e=>by
   simp only[List.mem_cons,List.not_mem_nil,or_false,not_or] at hb;exact Ck.extBut b o hb.1 (hk b o hb.1 hb.2.2.1 hb.2.2.2.1 hb.2.2.2.2 e)
  have D1:∀b o,H b=some o->b∉[z,TI,TO,i1,i2]:=λb o e m=>by
   have:=(hf b m).1;rw[e] at this;cases this
  have Cm:IsTup h2 s.heap.objs.size [u,u'].toArray:=⟨_,(Ck.2 _ (Ne.symm hp)).trans z5,rfl,_,rfl⟩;have rt:Vals [x,y] [u,u']:=.cons ru (.cons Zc .nil);have b_:lW X.prog X.w (upd H s.heap.objs.size (.tup [x,y])) h2:=λb o e=>by
   by_cases hb:b=s.heap.objs.size
   ·subst hb;rw[aE] at e;cases e;exact⟨by show 2<=sizeLine;decide,_,rt,Cm⟩
   ·rw[ay hb] at e;refine(I.b_ b o e).nv (λc v wa r=>?_) (λc r=>by rw[ay (aW r mO)];exact r) λc ys r=>by rw[ay (aW r mO)];exact r
    rcases wa with rfl|wa
    ·exact kp _ _ (D1 _ _ e) r
    ·exact kp _ _ (D1 _ _ wa) r
  have un:Un (v_ X.stack) [z,TI,TO,i1,i2] H (upd H s.heap.objs.size (.tup [x,y])) s.heap h2:=
   ⟨λb o e _ _ h4=>kp b o h4 e,λb o e _ _ h4=>⟨o.slots,kp b o h4 e⟩,
    λb o e n _=>by rw[ay (Nat.ne_of_lt (Heap.lt_size e))];exact n,λb o e h4=>⟨o,kp b o h4 e⟩,
    λb ys e=>by rw[ay (aW e mO)];exact e,λb o u e=>by rw[ay (aW e mO)];exact e,λb ps e=>⟨#[],by rw[ay (aW e mO),e];simp⟩⟩
  have I2:Inv X pins σ (upd H s.heap.objs.size (.tup [x,y])) {s with heap:=h2}:=
   I.call (g':=s.gens) (d':=s.drawn) (t':=s.toks) (ch:=[z,TI,TO,i1,i2]) un b_ I.bare λb hb=>by
    obtain⟨f0,f1,f2,f3,f4,f5⟩:=hf b hb;exact⟨f3,f1,f4,f5⟩
  refine⟨.ref s.heap.objs.size,_,I2,rfl,⟨_,x,y,mO,rfl,rfl,λzs hy=>by rw[I.Ik hy hq];exact hx,λzs hz=>by rw[I.mP hz wb];exact hy⟩,⟨u,u',Zd,?_,?_,?_,?_⟩,λb hb=>?_⟩
  ·exact Ck.extBut _ _ D.TIz (hk _ _ D.TIz D.TITO D.TIi1 D.TIi2 q2)
  ·exact Ck.extBut _ _ D.TOz z2
  ·exact z3.at λo e=>Ck.extBut i1 o D.i1z e
  ·exact z4.at λo e=>Ck.extBut i2 o D.i2z e
  ·have nz:b≠s.heap.objs.size:=by
    rcases IK hb with rfl|rfl|rfl|rfl|rfl
    ·exact hp
    ·exact Nat.ne_of_lt (Heap.lt_size q2)
    ·exact Nat.ne_of_lt (Heap.lt_size q3)
    ·obtain⟨o,e,_⟩:=q4;exact Nat.ne_of_lt (Heap.lt_size e)
    ·obtain⟨o,e,_⟩:=q5;exact Nat.ne_of_lt (Heap.lt_size e)
   rw[ay nz];exact(hf b hb).1
 done:=by
  intro X e1 e2 e3 hc i pins s σ H E I hf q hg;subst e1 e2 e3;obtain⟨u0,v0,q1,q2,q3,q4,q5⟩:=q;obtain⟨xs,ys,hq,wb,hx⟩:=hg;obtain⟨bB,rv,pl,hz⟩:=I.tuple hq;obtain⟨its',Oc,zN,Od⟩:=I.list wb;have hl:=rv.length;have N5:=Oc.length;refine SF.Cw (I.ok.hd hc) D SF.sM SF.sM SF.sN SF.sN (SF.Cy D.l1i1) (SF.Cz D.l2i2) q1 q2 q3 ⟨q4,pl⟩ ⟨q5,zN.isList⟩ (λx1 y1 h1 e1 e2 _ _=>?_) λh' _ eb=>⟨rfl,?_⟩
  ·have:=(Array.getElem?_eq_some_iff.mp e1).1;have:=(Array.getElem?_eq_some_iff.mp e2).1;simp only[List.size_toArray] at*;lia
  ·have kp:∀b o,b∉[z,TI,TO,i1,i2]->s.heap.get? b=some o->h'.get? b=some o:=λb o hb e=>by
    simp only[List.mem_cons,List.not_mem_nil,or_false,not_or] at hb;exact eb b o hb.1 hb.2.2.1 hb.2.2.2.1 hb.2.2.2.2 e
   have D1:∀b o,H b=some o->b∉[z,TI,TO,i1,i2]:=λb o e m=>by
    have:=(hf b m).1;rw[e] at this;cases this
   have b_:lW X.prog X.w H h':=λb o e=>
    (I.b_ b o e).nv (λc v wa r=>by
     rcases wa with rfl|wa
     ·exact kp _ _ (D1 _ _ e) r
     ·exact kp _ _ (D1 _ _ wa) r) (λc r=>r) λc ys r=>r
   have un:Un (v_ X.stack) [z,TI,TO,i1,i2] H H s.heap h':=
    ⟨λb o e _ _ h4=>kp b o h4 e,λb o e _ _ h4=>⟨o.slots,kp b o h4 e⟩,λb o e n _=>n,λb o e h4=>⟨o,kp b o h4 e⟩,λb ys e=>e,λb o u e=>e,λb ps e=>⟨#[],by rw[e];simp⟩⟩
   exact I.call (g':=s.gens) (d':=s.drawn) (t':=s.toks) (ch:=[z,TI,TO,i1,i2]) un b_ I.bare λb hb=>by
    obtain⟨f0,f1,f2,f3,f4,f5⟩:=hf b hb;exact⟨f3,f1,f4,f5⟩
 self:=λ_ _ _ _ _ q h=>let⟨_,_,q1,_⟩:=q;wpAny_pyIter_zip q1 h
def Qy(K:PySem.W.Frag)(ta:TA):TI:=λσ H R=>ta σ H λvs H1=>∃a b,vs=[.ref a,.ref b]/\(∃xs,qB K H1 a xs)/\(∃ys,ft K H1 b ys)/\R (VQ K a b) H1
theorem GR{X:Cx}{es:List Expr}{k:Nat}{tp:Pos}{a b:Expr}{ta:TA}{p pos:Pos}(hg:Gl X "zip")(hm:X.mg "zip"=none)(ha:PA X [a,b] ta)(hs:starEach [a,b] X.env=[(false,eval a X.env),(false,eval b X.env)]:=by rfl)(BU:starEach [b] X.env=[(false,eval b X.env)]:=by rfl):
 PI X (.Tuple es k tp) (.Call (.Name "zip" p) [a,b] [] pos) (Qy X.K ta):=by
 intro pins s σ H R I h;refine Call_ (lg I hg hm boot_zip (PyProof.Rows.callWith_type1 (cB (ha pos pins s σ H _ I h) λus s1 q1=>?_) (by rw[hs,BU]) (by rw[BU];rfl)));obtain⟨vs,H1,I1,r1,l1,l2,rfl,⟨xs,hq⟩,⟨ys,wb⟩,q⟩:=q1;obtain⟨u,u',rfl,rx,ry⟩:=vals2 r1;cases rx;cases ry;obtain⟨bB,rv,pl,hz⟩:=I1.tuple hq;obtain⟨its',Oc,zN,Od⟩:=I1.list wb;have p1:l1<s1.heap.objs.size:=by exact pl.lt
 have p2:l2<s1.heap.objs.size:=by obtain⟨o,n,e,_⟩:=zN;exact Heap.lt_size e
 refine SF.IQ pl zN.isList λh'⟨z1,z2,z3,z4,z5,hsz⟩ hk=>?_;have I2:Inv X pins σ H1 {s1 with heap:=h'}:=I1.kept (t':=s1.toks) hk;refine wpAny_pyIter_zip z1 ?_;have old:∀b,s1.heap.objs.size<=b->lY X pins H1 b:=λb hb=>I1.ur hb (I1.b_.fresh hb);refine⟨_,[_,_,_,_,_],_,_,H1,rfl,I2,IS l1 l2 (s1.heap.objs.size+4) (s1.heap.objs.size+2) (s1.heap.objs.size+3) s1.heap.objs.size (s1.heap.objs.size+1) (zM p1 p2),⟨_,_,z1,z2,z3,z4,z5⟩,λb hb=>?_,q⟩;rcases IK hb with rfl|rfl|rfl|rfl|rfl
 ·exact old _ (Nat.le_add_right _ _)
 ·exact old _ (Nat.le_add_right _ _)
 ·exact old _ (Nat.le_add_right _ _)
 ·exact old _ (Nat.le_refl _)
 ·exact old _ (Nat.le_add_right _ _)
end L2
namespace CV
open PySem PySem.Spec PyProof.Rows L2
inductive AV where
 |dH|bl (b:Bool)|int (i:Int)|str (s:Str)|tup (xs:List AV)|lst (xs:List AV)|root (p q w:AV)
inductive SV where
 |no|fz (x:AV)|op (xs:List AV)
abbrev Sa:=List SV
abbrev O:=Option AV
abbrev Ev(α:Type):=Sa->(AV->Sa->Option α)->Option α
abbrev xx(α:Type):=Sa->(Bool->Sa->Option α)->Option α
abbrev eE(α:Type):=Sa->(List AV->Sa->Option α)->Option α
abbrev cZ(α:Type):=Sa->(Sa->Option α)->Option α
abbrev J9(α:Type):=AV->Sa->(Sa->Option α)->Option α
variable {α:Type}
def fI(i:Int)(k:Int->Option α):Option α:=Int.rec (λn=>Nat.rec (k (.ofNat 0)) (λm _=>k (.ofNat (Nat.succ m))) n) (λn=>Nat.rec (k (.negSucc 0)) (λm _=>k (.negSucc (Nat.succ m))) n) i
theorem mS{i:Int}{k:Int->Option α}:fI i k=k i:=by
 cases i with
 |ofNat n=>cases n<;>rfl
 |negSucc n=>cases n<;>rfl
def mT(l:Sa):Nat->SV->(Sa->Option α)->Option α:=List.rec (motive:=λ_=>Nat->SV->(Sa->Option α)->Option α) (λ_ _ k=>k []) (λx xs ih i v k=>Nat.rec (k (v::xs)) (λj _=>ih j v λys=>k (x::ys)) i) l
theorem gD:∀{l:Sa}{i:Nat}{v:SV}{k:Sa->Option α},mT l i v k=k (l.set i v)
 |[],_,_,_=>rfl
 |_::_,0,_,_=>rfl
 |x::xs,i+1,v,k=>gD (l:=xs) (i:=i) (v:=v) (k:=λys=>k (x::ys))
def gx(l:Sa):Nat->SV:=List.rec (motive:=λ_=>Nat->SV) (λ_=>.no) (λx _ ih i=>Nat.rec x (λj _=>ih j) i) l
theorem j7:∀(l:Sa)(i:Nat),gx l i=(l[i]?).getD .no
 |[],_=>rfl
 |_::_,0=>rfl
 |_::xs,i+1=>by
  show gx xs i=_;rw[j7 xs i,List.getElem?_cons_succ]
theorem gj(l:Sa)(i j:Nat)(v:SV):gx (l.set i v) j=if i=j/\i<l.length then v else gx l j:=by
 rw[j7,j7,List.getElem?_set];by_cases e:i=j
 ·subst e;by_cases h:i<l.length
  ·rw[if_pos rfl,if_pos h,if_pos ⟨rfl,h⟩];rfl
  ·rw[if_pos rfl,if_neg h,if_neg (λz=>h z.2),List.getElem?_eq_none (by lia)]
 ·rw[if_neg e,if_neg (λz=>e z.1)]
theorem GS{l:Sa}{i:Nat}(h:gx l i≠.no):i<l.length:=by
 rw[j7] at h;by_cases z:i<l.length
 ·exact z
 ·rw[List.getElem?_eq_none (by lia)] at h;exact absurd rfl h
section
variable (K:PySem.W.Frag) (C:Addr)
mutual
inductive Rl(H:Hp):AV->V->Prop
 |dH:Rl H .dH .dH
 |bl {b:Bool}:Rl H (.bl b) (.bl b)
 |int {i:Int}:Rl H (.int i) (.int i)
 |str {s:Str}:Rl H (.str s) (.str s)
 |tup {a:Addr} {xs:List AV} {vs:List V} (h:qB K H a vs) (hs:d9 H xs vs):Rl H (.tup xs) (.ref a)
 |lst {a:Addr} {xs:List AV} {vs:List V} (h:H a=some (.lst vs)) (hs:d9 H xs vs):Rl H (.lst xs) (.ref a)
 |root {a dx:Addr} {p q w:AV} {vp vq vw:V} (h:H a=some (.ins C dx [("poly",vp),("pair",vq),("weight",vw)])) (hp:Rl H p vp) (hq:Rl H q vq) (hw:Rl H w vw):Rl H (.root p q w) (.ref a)
inductive d9(H:Hp):List AV->List V->Prop
 |nil:d9 H [] []
 |cons {x:AV} {v:V} {xs:List AV} {vs:List V} (h:Rl H x v) (hs:d9 H xs vs):d9 H (x::xs) (v::vs)
end
end
section
variable {K:PySem.W.Frag} {C:Addr}
theorem Rl.mono{H H':Hp}(s:aJ H H'){x:AV}{v:V}(h:Rl K C H x v):Rl K C H' x v:=
 Rl.rec (motive_1:=λx v _=>Rl K C H' x v) (motive_2:=λxs vs _=>d9 K C H' xs vs) .dH .bl .int .str (λh _ ih=>.tup (s.tup h) ih) (λh _ ih=>.lst (s _ _ h) ih) (λh _ _ _ a b c=>.root (s _ _ h) a b c) .nil (λ_ _ a b=>.cons a b) h
theorem d9.mono{H H':Hp}(s:aJ H H'){xs:List AV}{vs:List V}(h:d9 K C H xs vs):d9 K C H' xs vs:=
 d9.rec (motive_1:=λx v _=>Rl K C H' x v) (motive_2:=λxs vs _=>d9 K C H' xs vs) .dH .bl .int .str (λh _ ih=>.tup (s.tup h) ih) (λh _ ih=>.lst (s _ _ h) ih) (λh _ _ _ a b c=>.root (s _ _ h) a b c) .nil (λ_ _ a b=>.cons a b) h
theorem d9.length{H:Hp}:∀{xs:List AV}{vs:List V},d9 K C H xs vs->vs.length=xs.length
 |[],_,h=>by cases h;rfl
 |_::xs,_,h=>by
  cases h with
  |cons _ t=>rw[List.length_cons,List.length_cons,d9.length t]
theorem d9.get{H:Hp}:∀{xs:List AV}{vs:List V}{i:Nat}{x:AV},d9 K C H xs vs->xs[i]?=some x->∃v,vs[i]?=some v/\Rl K C H x v
 |[],_,_,_,_,e=>by simp at e
 |_::_,_,0,_,.cons r _,e=>by simp at e;subst e;exact⟨_,rfl,r⟩
 |_::xs,_,i+1,x,.cons _ t,e=>by
  obtain⟨v,h1,h2⟩:=d9.get (xs:=xs) (i:=i) (x:=x) t (by simpa using e);exact⟨v,by simpa using h1,h2⟩
theorem d9.append{H:Hp}:∀{xs ys:List AV}{vs ws:List V},d9 K C H xs vs->d9 K C H ys ws->d9 K C H (xs++ys) (vs++ws)
 |[],_,_,_,.nil,s=>s
 |_::_,_,_,_,.cons r t,s=>.cons r (d9.append t s)
theorem d9.set{H:Hp}{x:AV}{v:V}(r:Rl K C H x v):∀{xs:List AV}{vs:List V}(i:Nat),d9 K C H xs vs->d9 K C H (xs.set i x) (vs.set i v)
 |[],_,_,.nil=>.nil
 |_::_,_,0,.cons _ t=>.cons r t
 |_::_,_,i+1,.cons q t=>.cons q (d9.set r i t)
theorem d9.take{H:Hp}:∀{xs:List AV}{vs:List V}(n:Nat),d9 K C H xs vs->d9 K C H (xs.take n) (vs.take n)
 |_,_,0,_=>.nil
 |[],_,_+1,.nil=>.nil
 |_::_,_,n+1,.cons r t=>.cons r (d9.take n t)
theorem d9.drop{H:Hp}:∀{xs:List AV}{vs:List V}(n:Nat),d9 K C H xs vs->d9 K C H (xs.drop n) (vs.drop n)
 |_,_,0,r=>r
 |[],_,_+1,.nil=>.nil
 |_::_,_,n+1,.cons _ t=>d9.drop n t
theorem d9.reverse{H:Hp}:∀{xs:List AV}{vs:List V},d9 K C H xs vs->d9 K C H xs.reverse vs.reverse
 |[],_,.nil=>.nil
 |_::_,_,.cons r t=>by
  rw[List.reverse_cons,List.reverse_cons];exact(d9.reverse t).append (.cons r .nil)
theorem d9.ints {H:Hp}:∀{ns:List Int}{vs:List V},d9 K C H (ns.map AV.int) vs->vs=ns.map V.int
 |[],_,h=>by cases h;rfl
 |n::ns,_,h=>by
  cases h with
  |cons r t=>
   cases r;rw[d9.ints (ns:=ns) t];rfl
theorem d9.ofInts{H:Hp}:∀{ns:List Int},d9 K C H (ns.map AV.int) (ns.map V.int)
 |[]=>.nil
 |_::_=>.cons .int d9.ofInts
end
structure Good(K:PySem.W.Frag)(C:Addr)(Fo Hf H:Hp)(bE:Sa)(σ:L2.St):Prop where
 sub:aJ Hf H
 fo:∀b o,Fo b=some o->H b=some o/\Hf b=none
 len:σ.length=bE.length
 fz:∀i x,gx bE i=.fz x->∃v,σ[i]?=some (some v)/\Rl K C Hf x v
 op:∀i xs,gx bE i=.op xs->∃a vs,σ[i]?=some (some (.ref a))/\Hf a=none/\Fo a=none/\H a=some (.lst vs)/\d9 K C Hf xs vs
 inj:∀i j xs ys a,gx bE i=.op xs->gx bE j=.op ys->σ[i]?=some (some (.ref a))->σ[j]?=some (some (.ref a))->i=j
structure K1(K:PySem.W.Frag)(C:Addr)(Fo Hf H:Hp)(bE:Sa)(σ:L2.St)(a:Addr)(xs:List AV)(vs:List V):Prop where
 hf:Hf a=none
 fo:Fo a=none
 at_:H a=some (.lst vs)
 rl:d9 K C Hf xs vs
 own:∀j ys,gx bE j=.op ys->σ[j]?≠some (some (.ref a))
section
variable {K:PySem.W.Frag} {C:Addr} {Fo Hf H bL H':Hp} {bE:Sa} {σ:L2.St} {i:Nat} {x:AV} {v:V} {xs:List AV} {vs:List V} {p:Addr}
theorem aJ.VR{o:HO}(h:Hf p=none):aJ Hf (upd Hf p o):=aJ.new h o
theorem Good.nil(g:Good K C Fo Hf H bE σ)(h:H p=none):Hf p=none/\Fo p=none:=by
 constructor
 ·cases e:Hf p with
  |none=>rfl
  |some o=>rw[g.sub _ _ e] at h;cases h
 ·cases e:Fo p with
  |none=>rfl
  |some o=>rw[(g.fo _ _ e).1] at h;cases h
theorem Good.new(g:Good K C Fo Hf H bE σ)(h:H p=none)(o:HO):Good K C Fo (upd Hf p o) (upd H p o) bE σ where
 sub:=λb u e=>by
  by_cases z:b=p
  ·subst z;rw[aE] at e ⊢;exact e
  ·rw[ay z] at e ⊢;exact g.sub _ _ e
 fo:=λb u e=>by
  have h1:=g.fo b u e;have z:b≠p:=aW h1.1 h;rw[ay z,ay z];exact h1
 len:=g.len
 fz:=λi x e=>by
  obtain⟨v,a,b⟩:=g.fz i x e;exact⟨v,a,b.mono (aJ.new (g.nil h).1 o)⟩
 op:=λi xs e=>by
  obtain⟨a,vs,h1,h2,h3,h4,h5⟩:=g.op i xs e;have z:a≠p:=aW h4 h;exact⟨a,vs,h1,by rw[ay z];exact h2,h3,by rw[ay z];exact h4,h5.mono (aJ.new (g.nil h).1 o)⟩
 inj:=g.inj
theorem Good.side(g:Good K C Fo Hf H bE σ)(hf:Hf p=none)(fo:Fo p=none)(own:∀j ys,gx bE j=.op ys->σ[j]?≠some (some (.ref p)))(o:HO):Good K C Fo Hf (upd H p o) bE σ where
 sub:=λb u e=>by
  have z:b≠p:=aW e hf;rw[ay z];exact g.sub _ _ e
 fo:=λb u e=>by
  have z:b≠p:=aW e fo;rw[ay z];exact g.fo b u e
 len:=g.len
 fz:=g.fz
 op:=λi xs e=>by
  obtain⟨a,vs,h1,h2,h3,h4,h5⟩:=g.op i xs e;have z:a≠p:=λy=>own i xs e (by rw[h1,y]);exact⟨a,vs,h1,h2,h3,by rw[ay z];exact h4,h5⟩
 inj:=g.inj
theorem Good.sO(g:Good K C Fo Hf H bE σ)(h:H p=none):∀j ys,gx bE j=.op ys->σ[j]?≠some (some (.ref p)):=λj ys e z=>by
 obtain⟨a,vs,h1,h2,h3,h4,h5⟩:=g.op j ys e;rw[h1] at z;cases z;rw[h4] at h;cases h
theorem Good.call(g:Good K C Fo Hf H bE σ)(s1:aJ H H')(s2:aJ Hf bL)(s3:aJ bL H')(hn:∀b,Hf b=none->H b≠none->bL b=none):Good K C Fo bL H' bE σ where
 sub:=s3
 fo:=λb o e=>by
  obtain⟨h1,h2⟩:=g.fo b o e;exact⟨s1 _ _ h1,hn b h2 (by rw[h1];simp)⟩
 len:=g.len
 fz:=λi x e=>by
  obtain⟨v,a,b⟩:=g.fz i x e;exact⟨v,a,b.mono s2⟩
 op:=λi xs e=>by
  obtain⟨a,vs,h1,h2,h3,h4,h5⟩:=g.op i xs e;exact⟨a,vs,h1,hn a h2 (by rw[h4];simp),h3,s1 _ _ h4,h5.mono s2⟩
 inj:=g.inj
theorem slot_set{σ:L2.St}{i j:Nat}{v:V}(h:i<σ.length):(σ.set i (some v))[j]?=if i=j then some (some v) else σ[j]?:=by
 rw[List.getElem?_set];by_cases e:i=j
 ·rw[if_pos e,if_pos e,if_pos h]
 ·rw[if_neg e,if_neg e]
theorem Good.vO(g:Good K C Fo Hf H bE σ)(r:Rl K C Hf x v):Good K C Fo Hf H (bE.set i (.fz x)) (σ.set i (some v)):=by
 by_cases h:i<σ.length
 case neg=>
  have h':bE.length<=i:=by rw[<-g.len];lia
  rw[List.set_eq_of_length_le h',List.set_eq_of_length_le (by lia)];exact g
 have h':i<bE.length:=by rw[<-g.len];exact h
 refine⟨g.sub,g.fo,by rw[List.length_set,List.length_set];exact g.len,λj y e=>?_,λj ys e=>?_,λj k ys zs a e1 e2 e3 e4=>?_⟩
 ·rw[gj] at e;rw[slot_set h];by_cases z:i=j
  ·rw[if_pos ⟨z,h'⟩] at e;cases e;rw[if_pos z];exact⟨v,rfl,r⟩
  ·rw[if_neg (λq=>z q.1)] at e;rw[if_neg z];exact g.fz j y e
 ·rw[gj] at e;rw[slot_set h];by_cases z:i=j
  ·rw[if_pos ⟨z,h'⟩] at e;cases e
  ·rw[if_neg (λq=>z q.1)] at e;rw[if_neg z];exact g.op j ys e
 ·rw[gj] at e1 e2;rw[slot_set h] at e3 e4;by_cases z:i=j
  ·rw[if_pos ⟨z,h'⟩] at e1;cases e1
  ·by_cases z2:i=k
   ·rw[if_pos ⟨z2,h'⟩] at e2;cases e2
   ·rw[if_neg (λq=>z q.1)] at e1;rw[if_neg (λq=>z2 q.1)] at e2;rw[if_neg z] at e3;rw[if_neg z2] at e4;exact g.inj j k ys zs a e1 e2 e3 e4
theorem Good.setOp(g:Good K C Fo Hf H bE σ)(o:K1 K C Fo Hf H bE σ p xs vs):Good K C Fo Hf H (bE.set i (.op xs)) (σ.set i (some (.ref p))):=by
 by_cases h:i<σ.length
 case neg=>
  have h':bE.length<=i:=by rw[<-g.len];lia
  rw[List.set_eq_of_length_le h',List.set_eq_of_length_le (by lia)];exact g
 have h':i<bE.length:=by rw[<-g.len];exact h
 refine⟨g.sub,g.fo,by rw[List.length_set,List.length_set];exact g.len,λj y e=>?_,λj ys e=>?_,λj k ys zs a e1 e2 e3 e4=>?_⟩
 ·rw[gj] at e;rw[slot_set h];by_cases z:i=j
  ·rw[if_pos ⟨z,h'⟩] at e;cases e
  ·rw[if_neg (λq=>z q.1)] at e;rw[if_neg z];exact g.fz j y e
 ·rw[gj] at e;rw[slot_set h];by_cases z:i=j
  ·rw[if_pos ⟨z,h'⟩] at e;cases e;rw[if_pos z];exact⟨p,vs,rfl,o.hf,o.fo,o.at_,o.rl⟩
  ·rw[if_neg (λq=>z q.1)] at e;rw[if_neg z];exact g.op j ys e
 ·rw[gj] at e1 e2;rw[slot_set h] at e3 e4;by_cases z:i=j
  ·rw[if_pos z] at e3;by_cases z2:i=k
   ·exact z.symm.trans z2
   ·rw[if_neg (λq=>z2 q.1)] at e2;rw[if_neg z2] at e4;cases e3;exact absurd e4 (o.own k zs e2)
  ·rw[if_neg (λq=>z q.1)] at e1;rw[if_neg z] at e3;by_cases z2:i=k
   ·rw[if_pos z2] at e4;cases e4;exact absurd e3 (o.own j ys e1)
   ·rw[if_neg (λq=>z2 q.1)] at e2;rw[if_neg z2] at e4;exact g.inj j k ys zs a e1 e2 e3 e4
theorem Good.mut (g:Good K C Fo Hf H bE σ){ys:List AV}{ws:List V}(hi:gx bE i=.op xs)(hs:σ[i]?=some (some (.ref p)))(r:d9 K C Hf ys ws):Good K C Fo Hf (upd H p (.lst ws)) (bE.set i (.op ys)) σ:=by
 have h':i<bE.length:=GS (by rw[hi];nofun);obtain⟨a,us,q1,q2,q3,q4,q5⟩:=g.op i xs hi;rw[hs] at q1;cases q1;refine⟨λb u e=>?_,λb u e=>?_,by rw[List.length_set];exact g.len,λj y e=>?_,λj zs e=>?_,λj k zs us a e1 e2 e3 e4=>?_⟩
 ·rw[ay (aW e q2)];exact g.sub _ _ e
 ·rw[ay (aW e q3)];exact g.fo _ _ e
 ·rw[gj] at e;by_cases z:i=j
  ·rw[if_pos ⟨z,h'⟩] at e;cases e
  ·rw[if_neg (λq=>z q.1)] at e;exact g.fz j y e
 ·rw[gj] at e;by_cases z:i=j
  ·rw[if_pos ⟨z,h'⟩] at e;cases e;subst z;exact⟨p,ws,hs,q2,q3,aE,r⟩
  ·rw[if_neg (λq=>z q.1)] at e;obtain⟨a,us,h1,h2,h3,h4,h5⟩:=g.op j zs e;have ne:a≠p:=λy=>z (g.inj i j xs zs p hi e hs (by rw[h1,y]));exact⟨a,us,h1,h2,h3,by rw[ay ne];exact h4,h5⟩
 ·rw[gj] at e1 e2;have f1:∃zs,gx bE j=.op zs:=by
   by_cases z:i=j
   ·subst z;exact⟨_,hi⟩
   ·rw[if_neg (λq=>z q.1)] at e1;exact⟨_,e1⟩
  have f2:∃zs,gx bE k=.op zs:=by
   by_cases z:i=k
   ·subst z;exact⟨_,hi⟩
   ·rw[if_neg (λq=>z q.1)] at e2;exact⟨_,e2⟩
  obtain⟨_,f1⟩:=f1;obtain⟨_,f2⟩:=f2;exact g.inj j k _ _ a f1 f2 e3 e4
theorem Good.freeze(g:Good K C Fo Hf H bE σ)(hi:gx bE i=.op xs):∃a vs,σ[i]?=some (some (.ref a))/\H a=some (.lst vs)/\aJ Hf (upd Hf a (.lst vs))/\Good K C Fo (upd Hf a (.lst vs)) H (bE.set i (.fz (.lst xs))) σ/\Rl K C (upd Hf a (.lst vs)) (.lst xs) (.ref a):=by
 have h':i<bE.length:=GS (by rw[hi];nofun);obtain⟨a,vs,q1,q2,q3,q4,q5⟩:=g.op i xs hi;have sm:aJ Hf (upd Hf a (.lst vs)):=aJ.new q2 _;have rl:Rl K C (upd Hf a (.lst vs)) (.lst xs) (.ref a):=.lst aE (q5.mono sm);refine⟨a,vs,q1,q4,sm,⟨λb u e=>?_,λb u e=>?_,by rw[List.length_set];exact g.len,λj y e=>?_,λj zs e=>?_,λj k zs us c e1 e2 e3 e4=>?_⟩,rl⟩
 ·by_cases z:b=a
  ·subst z;rw[aE] at e;cases e;exact q4
  ·rw[ay z] at e;exact g.sub _ _ e
 ·have z:b≠a:=aW e q3;rw[ay z];exact g.fo b u e
 ·rw[gj] at e;by_cases z:i=j
  ·rw[if_pos ⟨z,h'⟩] at e;cases e;subst z;exact⟨_,q1,rl⟩
  ·rw[if_neg (λq=>z q.1)] at e;obtain⟨v,a1,b1⟩:=g.fz j y e;exact⟨v,a1,b1.mono sm⟩
 ·rw[gj] at e;by_cases z:i=j
  ·rw[if_pos ⟨z,h'⟩] at e;cases e
  ·rw[if_neg (λq=>z q.1)] at e;obtain⟨c,us,h1,h2,h3,h4,h5⟩:=g.op j zs e;have ne:c≠a:=λy=>z (g.inj i j xs zs a hi e q1 (by rw[h1,y]));exact⟨c,us,h1,by rw[ay ne];exact h2,h3,h4,h5.mono sm⟩
 ·rw[gj] at e1 e2;by_cases z:i=j
  ·rw[if_pos ⟨z,h'⟩] at e1;cases e1
  ·by_cases z2:i=k
   ·rw[if_pos ⟨z2,h'⟩] at e2;cases e2
   ·rw[if_neg (λq=>z q.1)] at e1;rw[if_neg (λq=>z2 q.1)] at e2;exact g.inj j k zs us c e1 e2 e3 e4
theorem Good.frozen(g:Good K C Fo Hf H bE σ)(o:K1 K C Fo Hf H bE σ p xs vs):aJ Hf (upd Hf p (.lst vs))/\Good K C Fo (upd Hf p (.lst vs)) H bE σ/\Rl K C (upd Hf p (.lst vs)) (.lst xs) (.ref p):=by
 have sm:aJ Hf (upd Hf p (.lst vs)):=aJ.new o.hf _;refine⟨sm,⟨λb u e=>?_,λb u e=>?_,g.len,λj y e=>?_,λj zs e=>?_,g.inj⟩,.lst aE (o.rl.mono sm)⟩
 ·by_cases z:b=p
  ·subst z;rw[aE] at e;cases e;exact o.at_
  ·rw[ay z] at e;exact g.sub _ _ e
 ·have z:b≠p:=aW e o.fo;rw[ay z];exact g.fo b u e
 ·obtain⟨v,a1,b1⟩:=g.fz j y e;exact⟨v,a1,b1.mono sm⟩
 ·obtain⟨c,us,h1,h2,h3,h4,h5⟩:=g.op j zs e;have ne:c≠p:=λy=>o.own j zs e (by rw[h1,y]);exact⟨c,us,h1,by rw[ay ne];exact h2,h3,h4,h5.mono sm⟩
theorem Good.vP(g:Good K C Fo Hf H bE σ)(h:H p=none)(r:d9 K C Hf xs vs):Good K C Fo Hf (upd H p (.lst vs)) bE σ/\K1 K C Fo Hf (upd H p (.lst vs)) bE σ p xs vs:=
 ⟨g.side (g.nil h).1 (g.nil h).2 (g.sO h) _,(g.nil h).1,(g.nil h).2,aE,r,g.sO h⟩
end
end CV
namespace CV
open PySem PySem.Spec PyProof.Rows L2
variable {α:Type}
def Oe(Fo Hf H:Hp):Prop:=aJ Hf H/\∀b o,Fo b=some o->H b=some o/\Hf b=none
def Ez(X:α->Hp->Hp->Hp->Prop)(r:α)(Fo Hf:Hp):Prop:=∀bL H',aJ Hf bL->Oe Fo bL H'->X r Fo bL H'
theorem Ez.up{X:α->Hp->Hp->Hp->Prop}{r:α}{Fo Hf bO:Hp}(h:Ez X r Fo Hf)(s:aJ Hf bO):Ez X r Fo bO:=λbL H' s' f=>h bL H' (λb o e=>s' b o (s b o e)) f
section
variable (K:PySem.W.Frag) (C:Addr) (X:α->Hp->Hp->Hp->Prop) (rt:AV->α)
def bR(e:Ev α)(t:TE):Prop:=∀bE k r,e bE k=some r->∀Fo Hf H σ,Good K C Fo Hf H bE σ->Ez X r Fo Hf->∀Q:VK,
 (∀x fY v bL H',k x fY=some r->aJ Hf bL->Good K C Fo bL H' fY σ->Rl K C bL x v->Q v H')->t σ H Q
def sP(e:eE α)(t:TE):Prop:=∀bE k r,e bE k=some r->∀Fo Hf H σ,Good K C Fo Hf H bE σ->Ez X r Fo Hf->∀Q:VK,
 (∀xs fY a vs bL H',k xs fY=some r->aJ Hf bL->Good K C Fo bL H' fY σ->K1 K C Fo bL H' fY σ a xs vs->Q (.ref a) H')->t σ H Q
def gm(e:eE α)(t:TA):Prop:=∀bE k r,e bE k=some r->∀Fo Hf H σ,Good K C Fo Hf H bE σ->Ez X r Fo Hf->∀Q:List V->Hp->Prop,
 (∀xs fY vs bL H',k xs fY=some r->aJ Hf bL->Good K C Fo bL H' fY σ->d9 K C bL xs vs->Q vs H')->t σ H Q
def kK(e:xx α)(t:TT):Prop:=∀bE k r,e bE k=some r->∀Fo Hf H σ,Good K C Fo Hf H bE σ->Ez X r Fo Hf->∀Q:Bool->Hp->Prop,
 (∀b fY bL H',k b fY=some r->aJ Hf bL->Good K C Fo bL H' fY σ->Q b H')->t σ H Q
def kL(e:cZ α)(t:TS):Prop:=∀bE nx r,e bE nx=some r->∀Fo Hf H σ,Good K C Fo Hf H bE σ->Ez X r Fo Hf->∀D:Ends,
 (∀fY cH bL H',nx fY=some r->aJ Hf bL->Good K C Fo bL H' fY cH->D.nx cH H')->(∀x v bL H',r=rt x->aJ Hf bL->Oe Fo bL H'->Rl K C bL x v->D.rt v H')->t D σ H
def Wk(J:It)(Hf:Hp)(xs:List AV):Prop:=∀cM H2,aJ Hf cM->aJ cM H2->
 (∀(i:Nat)(y:AV),xs[i]?=some y->J.go i H2/\∀x H3,J.Kj i H2 x H3->(H3=H2/\Rl K C cM y x)\/∃p ys vs,H2 p=none/\H3=upd H2 p (.tup vs)/\x=.ref p/\y=.tup ys/\d9 K C cM ys vs)/\J.stop xs.length H2
def uA(e:eE α)(t:TI):Prop:=∀bE k r,e bE k=some r->∀Fo Hf H σ,Good K C Fo Hf H bE σ->Ez X r Fo Hf->∀R:It->Hp->Prop,
 (∀xs fY J bL H',k xs fY=some r->aJ Hf bL->Good K C Fo bL H' fY σ->Wk K C J bL xs->R J H')->t σ H R
def K2(g:J9 α)(t:TG):Prop:=∀x bE nx r,g x bE nx=some r->∀Fo Hf H σ v,Good K C Fo Hf H bE σ->Rl K C Hf x v->∀R:L2.St->Hp->Prop,
 (∀fY cH,nx fY=some r->Good K C Fo Hf H fY cH->R cH H)->t v σ H R
end
theorem aJ.fO(H:Hp):aJ H H:=λ_ _ e=>e
theorem aJ.trans'{H H1 H2:Hp}(a:aJ H H1)(b:aJ H1 H2):aJ H H2:=λx o e=>b _ _ (a _ _ e)
def aj(i:Nat):Ev α:=λσ k=>SV.rec none (λx=>k x σ) (λxs=>mT σ i (.fz (.lst xs)) λcH=>k (.lst xs) cH) (gx σ i)
def eC(x:AV):Ev α:=λσ k=>k x σ
section
variable {K:PySem.W.Frag} {C:Addr} {X:α->Hp->Hp->Hp->Prop} {rt:AV->α}
theorem ae{i:Nat}:bR K C X (aj i) (eA i):=by
 intro bE k r h Fo Hf H σ g hx Q q;unfold aj at h;cases e:gx bE i with
 |no=>rw[e] at h;exact nomatch h
 |fz x=>
  rw[e] at h;obtain⟨v,h1,h2⟩:=g.fz i x e;exact⟨v,h1,q x bE v Hf H h (aJ.fO _) g h2⟩
 |op xs=>
  rw[e] at h;have h':mT bE i (.fz (.lst xs)) (λcH=>k (.lst xs) cH)=some r:=h;rw[gD] at h';obtain⟨a,vs,h1,h2,s,g',rl⟩:=g.freeze e;exact⟨_,h1,q _ _ _ _ _ h' s g' rl⟩
theorem XU{x:AV}{v:V}(h:∀H,Rl K C H x v):bR K C X (eC x) (tC v):=λ_ _ _ e _ Hf H _ g _ _ q=>q _ _ _ _ _ e (aJ.fO _) g (h Hf)
theorem av{n:Int}:bR K C X (eC (.int n)) (tC (.int n)):=XU λ_=>.int
theorem EA{b:Bool}:bR K C X (eC (.bl b)) (tC (.bl b)):=XU λ_=>.bl
theorem GU:bR K C X (eC .dH) (tC .dH):=XU λ_=>.dH
theorem VS{z:Str}:bR K C X (eC (.str z)) (tC (.str z)):=XU λ_=>.str
end
def oQ(x:AV)(k:Int->Option α):Option α:=AV.casesOn x none (λ_=>none) (λi=>k i) (λ_=>none) (λ_=>none) (λ_=>none) (λ_ _ _=>none)
def QC(x:AV)(k:Bool->Option α):Option α:=AV.casesOn x none (λb=>k b) (λ_=>none) (λ_=>none) (λ_=>none) (λ_=>none) (λ_ _ _=>none)
def yR(x:AV)(k:List AV->Option α):Option α:=AV.casesOn x none (λ_=>none) (λ_=>none) (λ_=>none) (λ_=>none) k (λ_ _ _=>none)
def XW(x:AV)(k:List AV->Option α):Option α:=AV.casesOn x none (λ_=>none) (λ_=>none) (λ_=>none) k (λ_=>none) (λ_ _ _=>none)
theorem cg{x:AV}{k:Int->Option α}{r:α}(h:oQ x k=some r):∃i,x=.int i/\k i=some r:=by
 cases x<;>first|exact⟨_,rfl,h⟩|exact nomatch h
theorem xA{x:AV}{k:Bool->Option α}{r:α}(h:QC x k=some r):∃i,x=.bl i/\k i=some r:=by
 cases x<;>first|exact⟨_,rfl,h⟩|exact nomatch h
theorem iM{x:AV}{k:List AV->Option α}{r:α}(h:yR x k=some r):∃i,x=.lst i/\k i=some r:=by
 cases x<;>first|exact⟨_,rfl,h⟩|exact nomatch h
theorem EB{x:AV}{k:List AV->Option α}{r:α}(h:XW x k=some r):∃i,x=.tup i/\k i=some r:=by
 cases x<;>first|exact⟨_,rfl,h⟩|exact nomatch h
def eX(c:Bool)(a b:Option α):Option α:=Bool.rec b a c
theorem cx{c:Bool}{a:Option α}{r:α}(h:eX c a none=some r):c=true/\a=some r:=by
 cases c
 ·exact nomatch h
 ·exact⟨rfl,h⟩
def gy(f:Int->Int->Int)(a b:Ev α):Ev α:=λσ k=>a σ λx bc=>b bc λy bQ=>oQ x λi=>oQ y λj=>fI (f i j) λn=>k (.int n) bQ
def bu(f:Int->Int->Int)(c:Int->Int->Bool)(a b:Ev α):Ev α:=λσ k=>a σ λx bc=>b bc λy bQ=>oQ x λi=>oQ y λj=>eX (c i j) (fI (f i j) λn=>k (.int n) bQ) none
def eV(f:Int->Int->Bool)(a b:Ev α):Ev α:=λσ k=>a σ λx bc=>b bc λy bQ=>oQ x λi=>oQ y λj=>eX (f i j) (k (.bl true) bQ) (k (.bl false) bQ)
def md(f:Int->Int)(a:Ev α):Ev α:=λσ k=>a σ λx bc=>oQ x λi=>fI (f i) λn=>k (.int n) bc
section
variable {K:PySem.W.Frag} {C:Addr} {X:α->Hp->Hp->Hp->Prop} {rt:AV->α} {a b:Ev α} {ta tb:TE}
theorem VT{f:Int->Int->Int}(ha:bR K C X a ta)(hb:bR K C X b tb):bR K C X (gy f a b) (lp (B7 λi j=>.int (f i j)) ta tb):=by
 intro bE k r h Fo Hf H σ g hx Q q;refine ha _ _ _ h Fo Hf H σ g hx _ λx bc v bO H1 h1 s1 g1 r1=>hb _ _ _ h1 Fo bO H1 σ g1 (hx.up s1) _ λy bQ u cM H2 h2 s2 g2 r2=>?_;obtain⟨i,rfl,h3⟩:=cg h2;obtain⟨j,rfl,h4⟩:=cg h3;rw[mS] at h4;cases r1;cases r2;exact⟨i,j,rfl,rfl,q _ _ _ _ _ h4 (aJ.trans' s1 s2) g2 .int⟩
theorem XX{f:Int->Int->Int}{c:Int->Int->Bool}{Cd:Int->Int->Prop}(hc:∀i j,c i j=true->Cd i j)(ha:bR K C X a ta)(hb:bR K C X b tb):bR K C X (bu f c a b) (lp (rI Cd λi j=>.int (f i j)) ta tb):=by
 intro bE k r h Fo Hf H σ g hx Q q;refine ha _ _ _ h Fo Hf H σ g hx _ λx bc v bO H1 h1 s1 g1 r1=>hb _ _ _ h1 Fo bO H1 σ g1 (hx.up s1) _ λy bQ u cM H2 h2 s2 g2 r2=>?_;obtain⟨i,rfl,h3⟩:=cg h2;obtain⟨j,rfl,h4⟩:=cg h3;obtain⟨h5,h6⟩:=cx h4;rw[mS] at h6;cases r1;cases r2;exact⟨i,j,rfl,rfl,hc i j h5,q _ _ _ _ _ h6 (aJ.trans' s1 s2) g2 .int⟩
theorem i7{f:Bool}{k:AV->Option α}{r:α}(h:eX f (k (.bl true)) (k (.bl false))=some r):k (.bl f)=some r:=by
 cases f<;>exact h
theorem Of{f f':Int->Int->Bool}(hf:∀i j,f i j=f' i j)(ha:bR K C X a ta)(hb:bR K C X b tb):bR K C X (eV f a b) (lp (B7 λi j=>.bl (f' i j)) ta tb):=by
 intro bE k r h Fo Hf H σ g hx Q q;refine ha _ _ _ h Fo Hf H σ g hx _ λx bc v bO H1 h1 s1 g1 r1=>hb _ _ _ h1 Fo bO H1 σ g1 (hx.up s1) _ λy bQ u cM H2 h2 s2 g2 r2=>?_;obtain⟨i,rfl,h3⟩:=cg h2;obtain⟨j,rfl,h4⟩:=cg h3;have h5:=i7 (k:=λz=>k z bQ) h4;cases r1;cases r2;refine⟨i,j,rfl,rfl,?_⟩
 dsimp only
 rw[<-hf];exact q _ _ _ _ _ h5 (aJ.trans' s1 s2) g2 .bl
theorem VU{f:Int->Int->Bool}(hf:∀i j,f i j=decide (i=j))(ha:bR K C X a ta)(hb:bR K C X b tb):bR K C X (eV f a b) (lp Vj ta tb):=by
 intro bE k r h Fo Hf H σ g hx Q q;refine ha _ _ _ h Fo Hf H σ g hx _ λx bc v bO H1 h1 s1 g1 r1=>hb _ _ _ h1 Fo bO H1 σ g1 (hx.up s1) _ λy bQ u cM H2 h2 s2 g2 r2=>?_;obtain⟨i,rfl,h3⟩:=cg h2;obtain⟨j,rfl,h4⟩:=cg h3;have h5:=i7 (k:=λz=>k z bQ) h4;cases r1;cases r2;refine Qo ?_;rw[<-hf];exact q _ _ _ _ _ h5 (aJ.trans' s1 s2) g2 .bl
theorem VV{f:Int->Int->Bool}(hf:∀i j,f i j=!decide (i=j))(ha:bR K C X a ta)(hb:bR K C X b tb):bR K C X (eV f a b) (lp RR ta tb):=by
 intro bE k r h Fo Hf H σ g hx Q q;refine ha _ _ _ h Fo Hf H σ g hx _ λx bc v bO H1 h1 s1 g1 r1=>hb _ _ _ h1 Fo bO H1 σ g1 (hx.up s1) _ λy bQ u cM H2 h2 s2 g2 r2=>?_;obtain⟨i,rfl,h3⟩:=cg h2;obtain⟨j,rfl,h4⟩:=cg h3;have h5:=i7 (k:=λz=>k z bQ) h4;cases r1;cases r2;refine Qp ?_;rw[<-hf];exact q _ _ _ _ _ h5 (aJ.trans' s1 s2) g2 .bl
theorem VW{f:Int->Int}(hf:∀i,f i=-i)(ha:bR K C X a ta):bR K C X (md f a) (XG (rU λi=>.int (-i)) ta):=by
 intro bE k r h Fo Hf H σ g hx Q q;refine ha _ _ _ h Fo Hf H σ g hx _ λx bc v bO H1 h1 s1 g1 r1=>?_;obtain⟨i,rfl,h3⟩:=cg h1;rw[mS] at h3;cases r1;refine⟨i,rfl,?_⟩
 dsimp only
 rw[<-hf];exact q _ _ _ _ _ h3 s1 g1 .int
end
def Ny(i:Int):Bool:=Int.rec (λn=>Nat.beq n 0) (λ_=>false) i
def K8(b:Bool):Bool:=Bool.rec true false b
theorem Aw{b:Bool}:K8 b=!b:=by cases b<;>rfl
theorem qU(i:Int):Ny i=decide (i=0):=by
 cases i with
 |ofNat n=>cases n with
  |zero=>rfl
  |succ n=>
   have h:¬(Int.ofNat (n+1))=0:=by simp only[Int.ofNat_eq_natCast];lia
   rw[decide_eq_false h];rfl
 |negSucc n=>rfl
def uf(_ j:Int):Bool:=K8 (Ny j)
theorem K9(i j:Int)(h:uf i j=true):j≠0:=by
 unfold uf at h;rw[Aw,qU] at h;simpa using h
def IT(i:Int):Nat:=Int.rec (λn=>n) (λn=>Nat.succ n) i
theorem qV(i:Int):IT i=i.natAbs:=by cases i<;>rfl
def eK(i j:Int):Bool:=Bool.rec false (Nat.ble (Nat.log2 (IT j)) 100000) (Nat.ble (Nat.log2 (IT i)) 100000)
theorem wM{n m:Nat}(h:Nat.log2 n<=m):n<2^(m+1):=by
 by_cases e:n=0
 ·subst e;exact Nat.two_pow_pos _
 ·exact(Nat.log2_lt e).mp (by lia)
theorem K_(i j:Int)(h:eK i j=true):IntMulOk i j:=by
 unfold eK at h;cases e:Nat.ble (Nat.log2 (IT i)) 100000 with
 |false=>rw[e] at h;exact nomatch h
 |true=>
  rw[e] at h;have h1:=Nat.le_of_ble_eq_true e;have h2:=Nat.le_of_ble_eq_true (h:Nat.ble (Nat.log2 (IT j)) 100000=true);rw[qV] at h1 h2;exact PySem.IntMulOk.of_le (PySem.intBits_le_iff.mpr (wM h1)) (PySem.intBits_le_iff.mpr (wM h2)) (by lia)
def ltI(i j:Int):Bool:=Int.rec (λm=>Int.rec (λn=>Nat.ble (Nat.succ m) n) (λ_=>false) j) (λm=>Int.rec (λ_=>true) (λn=>Nat.ble (Nat.succ n) m) j) i
theorem qW(i j:Int):ltI i j=decide (i<j):=by
 cases i with
 |ofNat m=>cases j with
  |ofNat n=>
   show Nat.ble (m+1) n=_;rw[Bool.eq_iff_iff,Nat.ble_eq,decide_eq_true_eq];simp only[Int.ofNat_eq_natCast];lia
  |negSucc n=>rw[decide_eq_false (by simp only[Int.ofNat_eq_natCast];lia)];rfl
 |negSucc m=>cases j with
  |ofNat n=>rw[decide_eq_true (by simp only[Int.ofNat_eq_natCast];lia)];rfl
  |negSucc n=>
   show Nat.ble (n+1) m=_;rw[Bool.eq_iff_iff,Nat.ble_eq,decide_eq_true_eq];lia
def BV(i j:Int):Bool:=ltI j i
theorem Sm(i j:Int):BV i j=decide (j<i):=qW j i
def K'(i j:Int):Bool:=K8 (ltI j i)
theorem Ax(i j:Int):K' i j=decide (i<=j):=by
 unfold K';rw[Aw,qW,Bool.eq_iff_iff];simp
def UO(i j:Int):Bool:=K8 (ltI i j)
theorem Sn(i j:Int):UO i j=decide (j<=i):=Ax j i
def nD(i j:Int):Bool:=Int.rec (λm=>Int.rec (λn=>Nat.beq m n) (λ_=>false) j) (λm=>Int.rec (λ_=>false) (λn=>Nat.beq m n) j) i
theorem uB(i j:Int):nD i j=decide (i=j):=by
 cases i with
 |ofNat m=>cases j with
  |ofNat n=>
   show Nat.beq m n=_;rw[Bool.eq_iff_iff,Nat.beq_eq,decide_eq_true_eq];simp only[Int.ofNat_eq_natCast];lia
  |negSucc n=>rw[decide_eq_false (by simp only[Int.ofNat_eq_natCast];lia)];rfl
 |negSucc m=>cases j with
  |ofNat n=>rw[decide_eq_false (by simp only[Int.ofNat_eq_natCast];lia)];rfl
  |negSucc n=>
   show Nat.beq m n=_;rw[Bool.eq_iff_iff,Nat.beq_eq,decide_eq_true_eq];lia
def La(i j:Int):Bool:=K8 (nD i j)
theorem So(i j:Int):La i j=!decide (i=j):=by unfold La;rw[Aw,uB]
def mh(i:Int):Int:=Int.rec (λn=>Nat.rec (.ofNat 0) (λm _=>.negSucc m) n) (λn=>.ofNat (Nat.succ n)) i
theorem Sq(i:Int):mh i=-i:=by
 cases i with
 |ofNat n=>cases n<;>rfl
 |negSucc n=>rfl
def abI(i:Int):Int:=Int.rec (λn=>.ofNat n) (λn=>.ofNat (Nat.succ n)) i
theorem Sr(i:Int):abI i=if i<0 then -i else i:=by
 cases i with
 |ofNat n=>rw[if_neg (by simp only[Int.ofNat_eq_natCast];lia)];rfl
 |negSucc n=>rw[if_pos (by lia)];rfl
def QD(i j:Int):Bool:=Bool.rec false (Bool.rec false (Nat.ble (Nat.log2 (IT i)) 60) (K' j 100000)) (K' 0 j)
theorem Ss(i j:Int)(h:QD i j=true):RQ i j:=by
 unfold QD at h;cases e:K' 0 j with
 |false=>rw[e] at h;exact nomatch h
 |true=>
  rw[e] at h;cases e2:K' j 100000 with
  |false=>rw[e2] at h;exact nomatch h
  |true=>
   rw[e2] at h;have h2:=Nat.le_of_ble_eq_true (h:Nat.ble (Nat.log2 (IT i)) 60=true);rw[Ax] at e e2;rw[qV] at h2;have h3:=wM h2;exact⟨by simpa using e,by have:j<=100000:=by simpa using e2
                                                                                                                                                         lia,by lia⟩
section
variable {K:PySem.W.Frag} {C:Addr} {X:α->Hp->Hp->Hp->Prop} {rt:AV->α} {a b:Ev α} {ta tb:TE}
theorem cC(ha:bR K C X a ta)(hb:bR K C X b tb):bR K C X (gy Int.add a b) (lp (B7 λi j=>.int (i+j)) ta tb):=VT ha hb
theorem fP(ha:bR K C X a ta)(hb:bR K C X b tb):bR K C X (gy Int.sub a b) (lp (B7 λi j=>.int (i-j)) ta tb):=VT ha hb
theorem bq(ha:bR K C X a ta)(hb:bR K C X b tb):bR K C X (bu Int.mul eK a b) (lp (rI (λi j=>IntMulOk i j) λi j=>.int (i*j)) ta tb):=XX K_ ha hb
theorem i8(ha:bR K C X a ta)(hb:bR K C X b tb):bR K C X (bu Int.fdiv uf a b) (lp (rI (λ_ j=>j≠0) λi j=>.int (i.fdiv j)) ta tb):=XX K9 ha hb
theorem CB(ha:bR K C X a ta)(hb:bR K C X b tb):bR K C X (bu Int.fmod uf a b) (lp (rI (λ_ j=>j≠0) λi j=>.int (i.fmod j)) ta tb):=XX K9 ha hb
theorem CC(ha:bR K C X a ta)(hb:bR K C X b tb):bR K C X (bu (λi j=>i^j.toNat) QD a b) (lp (rI RQ λi j=>.int (i^j.toNat)) ta tb):=XX Ss ha hb
theorem nE(ha:bR K C X a ta)(hb:bR K C X b tb):bR K C X (eV ltI a b) (lp (B7 λi j=>.bl (decide (i<j))) ta tb):=Of qW ha hb
theorem VX(ha:bR K C X a ta)(hb:bR K C X b tb):bR K C X (eV K' a b) (lp (B7 λi j=>.bl (decide (i<=j))) ta tb):=Of Ax ha hb
theorem qE(ha:bR K C X a ta)(hb:bR K C X b tb):bR K C X (eV BV a b) (lp (B7 λi j=>.bl (decide (j<i))) ta tb):=Of Sm ha hb
theorem Og(ha:bR K C X a ta)(hb:bR K C X b tb):bR K C X (eV UO a b) (lp (B7 λi j=>.bl (decide (j<=i))) ta tb):=Of Sn ha hb
theorem s_eq(ha:bR K C X a ta)(hb:bR K C X b tb):bR K C X (eV nD a b) (lp Vj ta tb):=VU uB ha hb
theorem CD(ha:bR K C X a ta)(hb:bR K C X b tb):bR K C X (eV La a b) (lp RR ta tb):=VV So ha hb
theorem fq(ha:bR K C X a ta):bR K C X (md mh a) (XG (rU λi=>.int (-i)) ta):=VW Sq ha
end
def uC(x:AV):Bool:=AV.casesOn x true (λ_=>false) (λ_=>false) (λ_=>false) (λ_=>false) (λ_=>false) (λ_ _ _=>false)
def Lb(a:Ev α):Ev α:=λσ k=>a σ λx bc=>eX (uC x) (k (.bl true) bc) (k (.bl false) bc)
def xB(a:Ev α):Ev α:=λσ k=>a σ λx bc=>eX (uC x) (k (.bl false) bc) (k (.bl true) bc)
def Zh(x:AV)(k:Int->Int->Option α):Option α:=XW x λxs=>List.rec none (λu r _=>List.rec none (λw s _=>List.rec (oQ u λi=>oQ w λj=>k i j) (λ_ _ _=>none) s) r) xs
def xC(a b:Bool):Bool:=Bool.rec false b a
def Su(a b:Ev α):Ev α:=λσ k=>a σ λx bc=>b bc λy bQ=>Zh x λp q=>Zh y λp' q'=>eX (xC (nD p p') (nD q q')) (k (.bl true) bQ) (k (.bl false) bQ)
section
variable {K:PySem.W.Frag} {C:Addr} {X:α->Hp->Hp->Hp->Prop} {rt:AV->α} {a b:Ev α} {ta tb:TE}
theorem Rl.uD{H:Hp}{x:AV}{v:V}(h:Rl K C H x v):uC x=decide (v=.dH):=by
 cases h<;>first|rfl|(rw[decide_eq_false (by nofun)];rfl)
theorem GV(ha:bR K C X a ta):bR K C X (Lb a) (lp (λx y H Q=>y=.dH/\Q (.bl (decide (x=.dH))) H) ta (tC .dH)):=by
 intro bE k r h Fo Hf H σ g hx Q q;refine ha _ _ _ h Fo Hf H σ g hx _ λx bc v bO H1 h1 s1 g1 r1=>⟨rfl,?_⟩;have h5:=i7 (k:=λz=>k z bc) h1;rw[<-r1.uD];exact q _ _ _ _ _ h5 s1 g1 .bl
theorem uE(ha:bR K C X a ta):bR K C X (xB a) (lp (λx y H Q=>y=.dH/\Q (.bl (!decide (x=.dH))) H) ta (tC .dH)):=by
 intro bE k r h Fo Hf H σ g hx Q q;refine ha _ _ _ h Fo Hf H σ g hx _ λx bc v bO H1 h1 s1 g1 r1=>⟨rfl,?_⟩;rw[<-r1.uD];have h5:k (.bl (!uC x)) bc=some r:=by cases e:uC x<;>rw[e] at h1<;>exact h1
 exact q _ _ _ _ _ h5 s1 g1 .bl
theorem Lc{x:AV}{k:Int->Int->Option α}{r:α}(h:Zh x k=some r):∃i j,x=.tup [.int i,.int j]/\k i j=some r:=by
 obtain⟨xs,rfl,h⟩:=EB h
 match xs,h with
 |[u,w],h=>
  obtain⟨i,rfl,h⟩:=cg h;obtain⟨j,rfl,h⟩:=cg h;exact⟨i,j,rfl,h⟩
theorem Rl.two{H:Hp}{i j:Int}{v:V}(h:Rl K C H (.tup [.int i,.int j]) v):∃a,v=.ref a/\qB K H a [.int i,.int j]:=by
 cases h with
 |tup h hs=>
  cases hs with
  |cons h1 hs=>
   cases hs with
   |cons h2 hs=>
    cases hs;cases h1;cases h2;exact⟨_,rfl,h⟩
theorem Oh{a b:Bool}:xC a b=(a&&b):=by cases a<;>rfl
theorem QE(ha:bR K C X a ta)(hb:bR K C X b tb):bR K C X (Su a b) (lp (VO K) ta tb):=by
 intro bE k r h Fo Hf H σ g hx Q q;refine ha _ _ _ h Fo Hf H σ g hx _ λx bc v bO H1 h1 s1 g1 r1=>hb _ _ _ h1 Fo bO H1 σ g1 (hx.up s1) _ λy bQ u cM H2 h2 s2 g2 r2=>?_;obtain⟨p,p2,rfl,h3⟩:=Lc h2;obtain⟨p',q',rfl,h4⟩:=Lc h3;have h5:=i7 (k:=λz=>k z bQ) h4;obtain⟨a1,rfl,e1⟩:=r1.two;obtain⟨a2,rfl,e2⟩:=r2.two;refine⟨a1,a2,p,p2,p',q',rfl,rfl,aJ.tup g2.sub (aJ.tup s2 e1),aJ.tup g2.sub e2,?_⟩;rw[Oh,uB,uB] at h5;have e:(p==p'&&p2==q')=(decide (p=p')&&decide (p2=q')):=rfl;rw[e];exact q _ _ _ _ _ h5 (aJ.trans' s1 s2) g2 .bl
end
def eT(e:Ev α):xx α:=λσ k=>e σ λx bc=>QC x λb=>eX b (k true bc) (k false bc)
def Ld(xs:List AV):Bool:=List.rec false (λ_ _ _=>true) xs
def nF(e:Ev α):xx α:=λσ k=>e σ λx bc=>AV.casesOn x none (λb=>eX b (k true bc) (k false bc)) (λi=>eX (Ny i) (k false bc) (k true bc)) (λ_=>none) (λ_=>none) (λxs=>eX (Ld xs) (k true bc) (k false bc)) (λ_ _ _=>none)
def QF(i:Nat):xx α:=λσ k=>SV.rec none (λx=>yR x λxs=>eX (Ld xs) (k true σ) (k false σ)) (λxs=>eX (Ld xs) (k true σ) (k false σ)) (gx σ i)
def yY(a b:xx α):xx α:=λσ k=>a σ λc bc=>eX c (b bc k) (k false bc)
def Oi(a b:xx α):xx α:=λσ k=>a σ λc bc=>eX c (k true bc) (b bc k)
def xD(a:xx α):xx α:=λσ k=>a σ λc bc=>eX c (k false bc) (k true bc)
def CF(a b:Ev α):Ev α:=λσ k=>a σ λx bc=>QC x λc=>eX c (b bc k) (k (.bl false) bc)
def ug(t:xx α)(a b:Ev α):Ev α:=λσ k=>t σ λc bc=>eX c (a bc k) (b bc k)
section
variable {K:PySem.W.Frag} {C:Addr} {X:α->Hp->Hp->Hp->Prop} {rt:AV->α} {a b:Ev α} {ta tb:TE} {p q:xx α} {tp tq:TT}
theorem pq{c:Bool}{k:Bool->Option α}{r:α}(h:eX c (k true) (k false)=some r):k c=some r:=by cases c<;>exact h
theorem aQ(ha:bR K C X a ta):kK K C X (eT a) (B8 ta):=by
 intro bE k r h Fo Hf H σ g hx Q q;refine ha _ _ _ h Fo Hf H σ g hx _ λx bc v bO H1 h1 s1 g1 r1=>?_;obtain⟨c,rfl,h2⟩:=xA h1;cases r1;exact⟨c,rfl,q _ _ _ _ (pq (k:=λc=>k c bc) h2) s1 g1⟩
theorem xE(ha:bR K C X a ta):kK K C X (eT a) (tB ta):=by
 intro bE k r h Fo Hf H σ g hx Q q;refine ha _ _ _ h Fo Hf H σ g hx _ λx bc v bO H1 h1 s1 g1 r1=>?_;obtain⟨c,rfl,h2⟩:=xA h1;cases r1;exact⟨c,rfl,q _ _ _ _ (pq (k:=λc=>k c bc) h2) s1 g1⟩
theorem GW{xs:List AV}{vs:List V}{H:Hp}(h:d9 K C H xs vs):Ld xs=!vs.isEmpty:=by cases h<;>rfl
theorem jF(ha:bR K C X a ta):kK K C X (nF a) (λσ H Q=>ta σ H λx H'=>∃k,Kp K x H' k/\Q k H'):=by
 intro bE k r h Fo Hf H σ g hx Q q;refine ha _ _ _ h Fo Hf H σ g hx _ λx bc v bO H1 h1 s1 g1 r1=>?_;cases r1 with
 |bl=>exact⟨_,rfl,q _ _ _ _ (pq (k:=λc=>k c bc) h1) s1 g1⟩
 |int=>
  rename_i i;refine⟨_,rfl,q _ _ _ _ ?_ s1 g1⟩;have h2:eX (Ny i) (k false bc) (k true bc)=some r:=h1;rw[qU] at h2;have e:(i !=0)=!decide (i=0):=rfl;rw[e];cases z:decide (i=0)<;>rw[z] at h2<;>exact h2
 |lst hl hs=>
  refine⟨_,.inl ⟨_,.inl (.inl (g1.sub _ _ hl)),rfl⟩,q _ _ _ _ ?_ s1 g1⟩;rw[<-GW hs];exact pq (k:=λc=>k c bc) h1
 |dH=>exact nomatch h1
 |str=>exact nomatch h1
 |tup _ _=>exact nomatch h1
 |root _ _ _ _=>exact nomatch h1
theorem QG{bE:Sa}{σ:L2.St}{Fo Hf H:Hp}{i:Nat}{k:List AV->Option α}{r:α}(g:Good K C Fo Hf H bE σ)(h:(SV.rec none (λx=>yR x k) (λxs=>k xs) (gx bE i):Option α)=some r):∃xs a vs,σ[i]?=some (some (.ref a))/\H a=some (.lst vs)/\d9 K C Hf xs vs/\k xs=some r:=by
 cases e:gx bE i with
 |no=>rw[e] at h;exact nomatch h
 |fz x=>
  rw[e] at h;obtain⟨xs,rfl,h⟩:=iM h;obtain⟨v,h1,h2⟩:=g.fz i _ e;cases h2 with
  |lst h3 h4=>exact⟨xs,_,_,h1,g.sub _ _ h3,h4,h⟩
 |op xs=>
  rw[e] at h;obtain⟨a,vs,h1,h2,h3,h4,h5⟩:=g.op i xs e;exact⟨xs,a,vs,h1,h4,h5,h⟩
theorem Sv{i:Nat}:kK K C X (QF i) (λσ H Q=>eA i σ H λx H'=>∃k,Kp K x H' k/\Q k H'):=by
 intro bE k r h Fo Hf H σ g hx Q q;obtain⟨xs,a,vs,h1,h2,h3,h4⟩:=QG (k:=λxs=>eX (Ld xs) (k true bE) (k false bE)) g h;refine⟨_,h1,_,.inl ⟨_,.inl (.inl h2),rfl⟩,q _ _ _ _ ?_ (aJ.fO _) g⟩;rw[<-GW h3];exact pq (k:=λc=>k c bE) h4
theorem sQ(hp:kK K C X p tp)(hq:kK K C X q tq):kK K C X (yY p q) (RI tp tq):=by
 intro bE k r h Fo Hf H σ g hx Q z;refine hp _ _ _ h Fo Hf H σ g hx _ λc bc bO H1 h1 s1 g1=>?_;cases c with
 |true=>rw[if_pos rfl];exact hq _ _ _ h1 Fo bO H1 σ g1 (hx.up s1) _ λb bQ cM H2 h2 s2 g2=>z _ _ _ _ h2 (aJ.trans' s1 s2) g2
 |false=>rw[if_neg (by decide)];exact z _ _ _ _ h1 s1 g1
theorem CG(hp:kK K C X p tp)(hq:kK K C X q tq):kK K C X (Oi p q) (Yv tp tq):=by
 intro bE k r h Fo Hf H σ g hx Q z;refine hp _ _ _ h Fo Hf H σ g hx _ λc bc bO H1 h1 s1 g1=>?_;cases c with
 |false=>rw[if_neg (by decide)];exact hq _ _ _ h1 Fo bO H1 σ g1 (hx.up s1) _ λb bQ cM H2 h2 s2 g2=>z _ _ _ _ h2 (aJ.trans' s1 s2) g2
 |true=>rw[if_pos rfl];exact z _ _ _ _ h1 s1 g1
theorem qJ(hp:kK K C X p tp):kK K C X (xD p) (RJ tp):=by
 intro bE k r h Fo Hf H σ g hx Q z;refine hp _ _ _ h Fo Hf H σ g hx _ λc bc bO H1 h1 s1 g1=>z _ _ _ _ ?_ s1 g1;cases c<;>exact h1
theorem Ay(ha:bR K C X a ta)(hb:bR K C X b tb):bR K C X (CF a b) (Ki ta tb):=by
 intro bE k r h Fo Hf H σ g hx Q z;refine ha _ _ _ h Fo Hf H σ g hx _ λx bc v bO H1 h1 s1 g1 r1=>?_;obtain⟨c,rfl,h2⟩:=xA h1;cases r1;refine⟨c,rfl,?_⟩;cases c with
 |true=>rw[if_pos rfl];exact hb _ _ _ h2 Fo bO H1 σ g1 (hx.up s1) _ λy bQ u cM H2 h3 s2 g2 r2=>z _ _ _ _ _ h3 (aJ.trans' s1 s2) g2 r2
 |false=>rw[if_neg (by decide)];exact z _ _ _ _ _ h2 s1 g1 .bl
theorem jK(hp:kK K C X p tp)(ha:bR K C X a ta)(hb:bR K C X b tb):bR K C X (ug p a b) (Yx tp ta tb):=by
 intro bE k r h Fo Hf H σ g hx Q z;refine hp _ _ _ h Fo Hf H σ g hx _ λc bc bO H1 h1 s1 g1=>?_;cases c with
 |true=>rw[if_pos rfl];exact ha _ _ _ h1 Fo bO H1 σ g1 (hx.up s1) _ λy bQ u cM H2 h3 s2 g2 r2=>z _ _ _ _ _ h3 (aJ.trans' s1 s2) g2 r2
 |false=>rw[if_neg (by decide)];exact hb _ _ _ h1 Fo bO H1 σ g1 (hx.up s1) _ λy bQ u cM H2 h3 s2 g2 r2=>z _ _ _ _ _ h3 (aJ.trans' s1 s2) g2 r2
end
end CV
namespace CV
open PySem PySem.Spec PyProof.Rows L2
variable {α:Type}
def qF(xs:List AV):Nat:=List.rec 0 (λ_ _ ih=>Nat.succ ih) xs
theorem i9:∀xs:List AV,qF xs=xs.length
 |[]=>rfl
 |_::xs=>congrArg Nat.succ (i9 xs)
def Sw(k:AV->Option α)(xs:List AV):Nat->Option α:=List.rec (motive:=λ_=>Nat->Option α) (λ_=>none) (λx _ ih n=>Nat.rec (k x) (λm _=>ih m) n) xs
theorem Az{k:AV->Option α}{r:α}:∀{xs:List AV}{n:Nat},Sw k xs n=some r->∃x,xs[n]?=some x/\k x=some r
 |[],_,h=>nomatch h
 |x::_,0,h=>⟨x,rfl,h⟩
 |_::xs,n+1,h=>by
  obtain⟨x,h1,h2⟩:=Az (xs:=xs) (n:=n) h;exact⟨x,by rw[List.getElem?_cons_succ];exact h1,h2⟩
def XY(xs:List AV)(i:Int)(k:AV->Option α):Option α:=Int.rec (λn=>Sw k xs n) (λm=>eX (Nat.ble (Nat.succ m) (qF xs)) (Sw k xs (Nat.sub (qF xs) (Nat.succ m))) none) i
section
variable {K:PySem.W.Frag} {C:Addr} {X:α->Hp->Hp->Hp->Prop} {rt:AV->α}
theorem EC{H:Hp}{xs:List AV}{vs:List V}{i:Int}{k:AV->Option α}{r:α}(rl:d9 K C H xs vs)(h:XY xs i k=some r):∃x v,Nw vs i=some v/\Rl K C H x v/\k x=some r:=by
 have hl:=rl.length;cases i with
 |ofNat n=>
  obtain⟨x,h1,h2⟩:=Az h;obtain⟨v,h3,h4⟩:=rl.get h1;exact⟨x,v,wI h3,h4,h2⟩
 |negSucc m=>
  obtain⟨h0,h⟩:=cx (c:=Nat.ble (Nat.succ m) (qF xs)) h;have hb:=Nat.le_of_ble_eq_true h0;rw[i9] at hb;obtain⟨x,h1,h2⟩:=Az h;rw[i9] at h1;obtain⟨v,h3,h4⟩:=rl.get h1;refine⟨x,v,?_,h4,h2⟩;unfold Nw;have e:Nv vs.length (Int.negSucc m)=some (xs.length-(m+1)):=by
   unfold Nv;rw[if_neg (by lia),if_pos (by lia)];congr 1;lia
  rw[e];exact h3
end
def Sx(σ:Sa)(i:Nat)(a:Option α):Option α:=SV.rec none (λ_=>a) (λ_=>a) (gx σ i)
def cW(a b:Ev α):Ev α:=λσ k=>a σ λx bc=>b bc λy bQ=>yR x λxs=>oQ y λi=>XY xs i λz=>k z bQ
def bh(a b:Ev α):Ev α:=λσ k=>a σ λx bc=>b bc λy bQ=>XW x λxs=>oQ y λi=>XY xs i λz=>k z bQ
def Zi(σ:Sa)(i:Nat)(k:List AV->Option α):Option α:=SV.rec none (λx=>yR x k) (λxs=>k xs) (gx σ i)
def xF(i:Nat)(b:Ev α):Ev α:=λσ k=>Sx σ i (b σ λy bQ=>oQ y λn=>Zi bQ i λxs=>XY xs n λz=>k z bQ)
section
variable {K:PySem.W.Frag} {C:Addr} {X:α->Hp->Hp->Hp->Prop} {rt:AV->α} {a b:Ev α} {ta tb:TE}
theorem Rl.oR{H:Hp}{xs:List AV}{v:V}(h:Rl K C H (.lst xs) v):∃a vs,v=.ref a/\H a=some (.lst vs)/\d9 K C H xs vs:=by
 cases h with
 |lst h hs=>exact⟨_,_,rfl,h,hs⟩
theorem Rl.Sy{H:Hp}{xs:List AV}{v:V}(h:Rl K C H (.tup xs) v):∃a vs,v=.ref a/\qB K H a vs/\d9 K C H xs vs:=by
 cases h with
 |tup h hs=>exact⟨_,_,rfl,h,hs⟩
theorem bM(ha:bR K C X a ta)(hb:bR K C X b tb):bR K C X (cW a b) (lp (Ej K) ta tb):=by
 intro bE k r h Fo Hf H σ g hx Q q;refine ha _ _ _ h Fo Hf H σ g hx _ λx bc v bO H1 h1 s1 g1 r1=>hb _ _ _ h1 Fo bO H1 σ g1 (hx.up s1) _ λy bQ u cM H2 h2 s2 g2 r2=>?_;obtain⟨xs,rfl,h3⟩:=iM h2;obtain⟨i,rfl,h4⟩:=cg h3;obtain⟨p,vs,rfl,e1,e2⟩:=(r1.mono s2).oR;cases r2;obtain⟨z,w,e3,e4,h5⟩:=EC e2 h4;exact⟨p,vs,i,w,rfl,rfl,.inl (.inl (g2.sub _ _ e1)),e3,q _ _ _ _ _ h5 (aJ.trans' s1 s2) g2 e4⟩
theorem aS(ha:bR K C X a ta)(hb:bR K C X b tb):bR K C X (bh a b) (lp (Vo K) ta tb):=by
 intro bE k r h Fo Hf H σ g hx Q q;refine ha _ _ _ h Fo Hf H σ g hx _ λx bc v bO H1 h1 s1 g1 r1=>hb _ _ _ h1 Fo bO H1 σ g1 (hx.up s1) _ λy bQ u cM H2 h2 s2 g2 r2=>?_;obtain⟨xs,rfl,h3⟩:=EB h2;obtain⟨i,rfl,h4⟩:=cg h3;obtain⟨p,vs,rfl,e1,e2⟩:=(r1.mono s2).Sy;cases r2;obtain⟨z,w,e3,e4,h5⟩:=EC e2 h4;exact⟨p,vs,i,w,rfl,rfl,aJ.tup g2.sub e1,e3,q _ _ _ _ _ h5 (aJ.trans' s1 s2) g2 e4⟩
theorem Oj{bE:Sa}{σ:L2.St}{Fo Hf H:Hp}{i:Nat}{o:Option α}{r:α}(g:Good K C Fo Hf H bE σ)(h:Sx bE i o=some r):(∃v,σ[i]?=some (some v))/\o=some r:=by
 unfold Sx at h;cases e:gx bE i with
 |no=>rw[e] at h;exact nomatch h
 |fz x=>
  rw[e] at h;obtain⟨v,h1,_⟩:=g.fz i x e;exact⟨⟨v,h1⟩,h⟩
 |op xs=>
  rw[e] at h;obtain⟨v,_,h1,_⟩:=g.op i xs e;exact⟨⟨_,h1⟩,h⟩
theorem Le{bE:Sa}{σ:L2.St}{Fo Hf H:Hp}{i:Nat}{k:List AV->Option α}{r:α}(g:Good K C Fo Hf H bE σ)(h:Zi bE i k=some r):∃xs a vs,σ[i]?=some (some (.ref a))/\H a=some (.lst vs)/\d9 K C Hf xs vs/\k xs=some r:=QG g h
theorem qK{i:Nat}(hb:bR K C X b tb):bR K C X (xF i b) (lp (Ej K) (eA i) tb):=by
 intro bE k r h Fo Hf H σ g hx Q q;obtain⟨⟨v,hv⟩,h⟩:=Oj g h;refine⟨v,hv,hb _ _ _ h Fo Hf H σ g hx _ λy bQ u cM H2 h2 s2 g2 r2=>?_⟩;obtain⟨n,rfl,h4⟩:=cg h2;cases r2;obtain⟨xs,p,vs,e1,e2,e3,h5⟩:=Le g2 h4;rw[hv] at e1;cases e1;obtain⟨z,w,e4,e5,h6⟩:=EC e3 h5;exact⟨p,vs,n,w,rfl,rfl,.inl (.inl e2),e4,q _ _ _ _ _ h6 s2 g2 e5⟩
end
def az:eE α:=λσ k=>k [] σ
def ai(a:Ev α)(r:eE α):eE α:=λσ k=>a σ λx bc=>r bc λxs bQ=>k (x::xs) bQ
section
variable {K:PySem.W.Frag} {C:Addr} {X:α->Hp->Hp->Hp->Prop} {rt:AV->α} {a b:Ev α} {ta tb:TE} {ar:eE α} {tr:TA}
theorem ao:gm K C X az iY:=λ_ _ _ e _ Hf H _ g _ _ q=>q _ _ _ _ _ e (aJ.fO _) g .nil
theorem af(ha:bR K C X a ta)(hr:gm K C X ar tr):gm K C X (ai a ar) (dm ta tr):=by
 intro bE k r h Fo Hf H σ g hx Q q;refine ha _ _ _ h Fo Hf H σ g hx _ λx bc v bO H1 h1 s1 g1 r1=>hr _ _ _ h1 Fo bO H1 σ g1 (hx.up s1) _ λxs bQ vs cM H2 h2 s2 g2 r2=>?_;exact q _ _ _ _ _ h2 (aJ.trans' s1 s2) g2 (.cons (r1.mono s2) r2)
end
def ED(xs:List AV)(a:Option α):Option α:=eX (Nat.ble (qF xs) 1000) a none
theorem qi{xs:List AV}{a:Option α}{r:α}(h:ED xs a=some r):xs.length<=1000/\a=some r:=by
 obtain⟨h1,h2⟩:=cx h;have:=Nat.le_of_ble_eq_true h1;rw[i9] at this;exact⟨this,h2⟩
def ky(e:eE α):Ev α:=λσ k=>e σ λxs bc=>k (.lst xs) bc
def oLst(a:eE α):eE α:=λσ k=>a σ λxs bc=>ED xs (k xs bc)
def fK(a:eE α):Ev α:=λσ k=>a σ λxs bc=>ED xs (k (.tup xs) bc)
def Sz(xs:List AV)(ys:List AV):(List AV->Option α)->Option α:=List.rec (motive:=λ_=>(List AV->Option α)->Option α) (λk=>k ys) (λx _ ih k=>ih λzs=>k (x::zs)) xs
theorem AA{ys:List AV}:∀{xs:List AV}{k:List AV->Option α},Sz xs ys k=k (xs++ys)
 |[],_=>rfl
 |x::xs,k=>AA (xs:=xs) (k:=λzs=>k (x::zs))
def Ol(a b:Ev α):eE α:=λσ k=>a σ λx bc=>b bc λy bQ=>yR x λxs=>yR y λys=>Sz xs ys λzs=>ED zs (k zs bQ)
def VY(x:AV)(n:Nat):(List AV->Option α)->Option α:=Nat.rec (motive:=λ_=>(List AV->Option α)->Option α) (λk=>k []) (λ_ ih k=>ih λzs=>k (x::zs)) n
theorem GY{x:AV}:∀{n:Nat}{k:List AV->Option α},VY x n k=k (List.replicate n x)
 |0,_=>rfl
 |n+1,k=>GY (n:=n) (k:=λzs=>k (x::zs))
def XZ(i:Int):Nat:=Int.rec (λn=>n) (λ_=>0) i
theorem EE(i:Int):XZ i=i.toNat:=by cases i<;>rfl
def one(xs:List AV)(k:AV->Option α):Option α:=List.rec none (λx r _=>List.rec (k x) (λ_ _ _=>none) r) xs
theorem eD{xs:List AV}{k:AV->Option α}{r:α}(h:one xs k=some r):∃x,xs=[x]/\k x=some r:=by
 match xs,h with
 |[x],h=>exact⟨x,rfl,h⟩
def two(xs:List AV)(k:AV->AV->Option α):Option α:=List.rec none (λx r _=>one r λy=>k x y) xs
theorem iw{xs:List AV}{k:AV->AV->Option α}{r:α}(h:two xs k=some r):∃x y,xs=[x,y]/\k x y=some r:=by
 match xs,h with
 |x::rest,h=>
  obtain⟨y,rfl,h⟩:=eD (xs:=rest) (k:=λy=>k x y) h;exact⟨x,y,rfl,h⟩
def Om(a b:Ev α):eE α:=λσ k=>a σ λx bc=>b bc λy bQ=>yR x λxs=>one xs λz=>oQ y λn=>eX (K' n 1000) (eX (K' (-1000) n) (VY z (XZ n) λzs=>k zs bQ) none) none
section
variable {K:PySem.W.Frag} {C:Addr} {X:α->Hp->Hp->Hp->Prop} {rt:AV->α} {a b:Ev α} {ta tb:TE} {ar:eE α} {tr:TA} {oe:eE α} {te:TE}
theorem dR(h:sP K C X oe te):bR K C X (ky oe) te:=by
 intro bE k r e Fo Hf H σ g hx Q q;refine h _ _ _ e Fo Hf H σ g hx _ λxs bc p vs bO H1 h1 s1 g1 o1=>?_;obtain⟨s2,g2,r2⟩:=g1.frozen o1;exact q _ _ _ _ _ h1 (aJ.trans' s1 s2) g2 r2
theorem dq(ha:gm K C X ar tr):sP K C X (oLst ar) (Ir tr):=by
 intro bE k r h Fo Hf H σ g hx Q q;refine ha _ _ _ h Fo Hf H σ g hx _ λxs bc vs bO H1 h1 s1 g1 r1=>?_;obtain⟨hl,h2⟩:=qi h1;refine⟨cR (by rw[r1.length];exact hl),λp hp=>?_⟩;obtain⟨g2,o2⟩:=g1.vP hp r1;exact q _ _ _ _ _ _ h2 s1 g2 o2
theorem de(ha:gm K C X ar tr):bR K C X (fK ar) (Iq tr):=by
 intro bE k r h Fo Hf H σ g hx Q q;refine ha _ _ _ h Fo Hf H σ g hx _ λxs bc vs bO H1 h1 s1 g1 r1=>?_;obtain⟨hl,h2⟩:=qi h1;refine⟨cR (by rw[r1.length];exact hl),λp hp=>?_⟩;have sm:aJ bO (upd bO p (.tup vs)):=aJ.new (g1.nil hp).1 _;exact q _ _ _ _ _ h2 (aJ.trans' s1 sm) (g1.new hp _) (.tup (.inl (.inl aE)) (r1.mono sm))
theorem Lf(ha:bR K C X a ta)(hb:bR K C X b tb):sP K C X (Ol a b) (lp Iz ta tb):=by
 intro bE k r h Fo Hf H σ g hx Q q;refine ha _ _ _ h Fo Hf H σ g hx _ λx bc v bO H1 h1 s1 g1 r1=>hb _ _ _ h1 Fo bO H1 σ g1 (hx.up s1) _ λy bQ u cM H2 h2 s2 g2 r2=>?_;obtain⟨xs,rfl,h3⟩:=iM h2;obtain⟨ys,rfl,h4⟩:=iM h3;rw[AA] at h4;obtain⟨hl,h5⟩:=qi h4;obtain⟨p,vs,rfl,e1,e2⟩:=(r1.mono s2).oR;obtain⟨p',ws,rfl,e3,e4⟩:=r2.oR;have rl:=e2.append e4;refine⟨p,p',vs,ws,rfl,rfl,g2.sub _ _ e1,g2.sub _ _ e3,cR ?_,λl N5=>?_⟩
 ·rw[e2.length,e4.length,<-List.length_append];exact hl
 ·obtain⟨g3,o3⟩:=g2.vP N5 rl;exact q _ _ _ _ _ _ h5 (aJ.trans' s1 s2) g3 o3
theorem d9.rep{H:Hp}{x:AV}{v:V}(r:Rl K C H x v):∀n:Nat,d9 K C H (List.replicate n x) (List.replicate n v)
 |0=>.nil
 |n+1=>.cons r (d9.rep r n)
theorem zO{α:Type}(x:α):∀n:Nat,(List.replicate n [x]).flatten=List.replicate n x
 |0=>rfl
 |n+1=>by
  rw[List.replicate_succ,List.flatten_cons,zO x n,List.replicate_succ];rfl
theorem Lg(ha:bR K C X a ta)(hb:bR K C X b tb):sP K C X (Om a b) (lp Vt ta tb):=by
 intro bE k r h Fo Hf H σ g hx Q q;refine ha _ _ _ h Fo Hf H σ g hx _ λx bc v bO H1 h1 s1 g1 r1=>hb _ _ _ h1 Fo bO H1 σ g1 (hx.up s1) _ λy bQ u cM H2 h2 s2 g2 r2=>?_;obtain⟨xs,rfl,h3⟩:=iM h2;obtain⟨z,rfl,h4⟩:=eD h3;obtain⟨n,rfl,h5⟩:=cg h4;obtain⟨c1,h6⟩:=cx h5;obtain⟨c2,h7⟩:=cx h6;rw[GY,EE] at h7;rw[Ax] at c1 c2;have c1:n<=1000:=by simpa using c1
 have c2:-1000<=n:=by simpa using c2
 obtain⟨p,vs,rfl,e1,e2⟩:=(r1.mono s2).oR;cases r2
 cases e2 with
 |cons e3 e4=>
  cases e4;refine⟨p,n,_,rfl,rfl,g2.sub _ _ e1,by lia,by lia,cR (by rw[List.length_singleton];lia),λl hl=>?_⟩;rw[zO];obtain⟨g3,o3⟩:=g2.vP hl (d9.rep e3 n.toNat);exact q _ _ _ _ _ _ h7 (aJ.trans' s1 s2) g3 o3
end
abbrev SD(α:Type):=Sa->(Option Int->Sa->Option α)->Option α
def Nz:SD α:=λσ k=>k none σ
def GZ(e:Ev α):SD α:=λσ k=>e σ λx bc=>oQ x λi=>k (some i) bc
def QH(xs:List AV):Nat->List AV:=List.rec (motive:=λ_=>Nat->List AV) (λ_=>[]) (λx r ih n=>Nat.rec (x::r) (λm _=>ih m) n) xs
theorem CH:∀(xs:List AV)(n:Nat),QH xs n=xs.drop n
 |[],n=>by rw[List.drop_nil];rfl
 |_::_,0=>rfl
 |_::xs,n+1=>CH xs n
def QI(xs:List AV):Nat->(List AV->Option α)->Option α:=List.rec (motive:=λ_=>Nat->(List AV->Option α)->Option α) (λ_ k=>k []) (λx _ ih n k=>Nat.rec (k []) (λm _=>ih m λys=>k (x::ys)) n) xs
theorem CI:∀{xs:List AV}{n:Nat}{k:List AV->Option α},QI xs n k=k (xs.take n)
 |[],n,k=>by rw[List.take_nil];rfl
 |_::_,0,_=>rfl
 |x::xs,n+1,k=>CI (xs:=xs) (n:=n) (k:=λys=>k (x::ys))
def QJ(a:Ev α)(lo hi:SD α):eE α:=λσ k=>a σ λx bc=>lo bc λl bQ=>hi bQ λu sH=>yR x λxs=>QI (QH xs (HT.yW (qF xs) 0 l)) (Nat.sub (HT.yW (qF xs) (qF xs) u) (HT.yW (qF xs) 0 l)) λys=>k ys sH
def IU(K:PySem.W.Frag)(C:Addr)(X:α->Hp->Hp->Hp->Prop)(e:SD α)(t:TO):Prop:=∀bE k r,e bE k=some r->∀Fo Hf H σ,Good K C Fo Hf H bE σ->Ez X r Fo Hf->∀Q:Option Int->Hp->Prop,
 (∀i fY bL H',k i fY=some r->aJ Hf bL->Good K C Fo bL H' fY σ->Q i H')->t σ H Q
section
variable {K:PySem.W.Frag} {C:Addr} {X:α->Hp->Hp->Hp->Prop} {rt:AV->α} {a b:Ev α} {ta tb:TE} {lo hi:SD α} {tl th:TO} {ar:eE α} {tr:TA}
theorem sR:IU K C X Nz Al:=λ_ _ _ e _ Hf H _ g _ _ q=>q _ _ _ _ e (aJ.fO _) g
theorem mU(ha:bR K C X a ta):IU K C X (GZ a) (Kv ta):=by
 intro bE k r h Fo Hf H σ g hx Q q;refine ha _ _ _ h Fo Hf H σ g hx _ λx bc v bO H1 h1 s1 g1 r1=>?_;obtain⟨i,rfl,h2⟩:=cg h1;cases r1;exact⟨i,rfl,q _ _ _ _ h2 s1 g1⟩
theorem EF(ha:bR K C X a ta)(hl:IU K C X lo tl)(hh:IU K C X hi th):sP K C X (QJ a lo hi) (XJ (Vq K) ta tl th):=by
 intro bE k r h Fo Hf H σ g hx Q q;refine ha _ _ _ h Fo Hf H σ g hx _ λx bc v bO H1 h1 s1 g1 r1=>hl _ _ _ h1 Fo bO H1 σ g1 (hx.up s1) _ λl bQ cM H2 h2 s2 g2=>hh _ _ _ h2 Fo cM H2 σ g2 ((hx.up s1).up s2) _ λu sH jB H3 h3 s3 g3=>?_;obtain⟨xs,rfl,h4⟩:=iM h3;have s23:=aJ.trans' s2 s3;obtain⟨p,vs,rfl,e1,e2⟩:=(r1.mono s23).oR;rw[CI,CH,i9] at h4;refine⟨p,vs,rfl,.inl (.inl (g3.sub _ _ e1)),λz hz=>?_⟩;have rl:d9 K C jB ((xs.drop (HT.yW xs.length 0 l)).take (HT.yW xs.length xs.length u-HT.yW xs.length 0 l)) (Iu vs l u):=by
  unfold Iu;rw[e2.length];exact(e2.drop _).take _
 obtain⟨g4,o4⟩:=g3.vP hz rl;exact q _ _ _ _ _ _ h4 (aJ.trans' s1 s23) g4 o4
end
def VZ(x:AV)(k:List AV->Option α):Option α:=AV.casesOn x none (λ_=>none) (λ_=>none) (λ_=>none) k k (λ_ _ _=>none)
def kz(ar:eE α):Ev α:=λσ k=>ar σ λas bc=>one as λx=>VZ x λxs=>fI (.ofNat (qF xs)) λn=>k (.int n) bc
def Lh(i:Nat):Ev α:=λσ k=>Zi σ i λxs=>fI (.ofNat (qF xs)) λn=>k (.int n) σ
def yZ(ar:eE α):Ev α:=λσ k=>ar σ λas bc=>one as λx=>oQ x λi=>fI (abI i) λn=>k (.int n) bc
def G0(ar:eE α):Ev α:=λσ k=>ar σ λas bc=>two as λx y=>oQ x λi=>oQ y λj=>eX (ltI j i) (k (.int j) bc) (k (.int i) bc)
def Li(ar:eE α):eE α:=λσ k=>ar σ λas bc=>one as λx=>VZ x λxs=>k xs bc
def Oo(xs:List AV):List AV->List AV:=List.rec (motive:=λ_=>List AV->List AV) (λys=>ys) (λx _ ih ys=>ih (x::ys)) xs
theorem AB:∀(xs ys:List AV),Oo xs ys=xs.reverse++ys
 |[],_=>rfl
 |x::xs,ys=>by
  show Oo xs (x::ys)=_;rw[AB xs,List.reverse_cons,List.append_assoc];rfl
def V0(ar:eE α):eE α:=λσ k=>ar σ λas bc=>one as λx=>yR x λxs=>k (Oo xs []) bc
def zP(xs:List AV):(List Int->Option α)->Option α:=List.rec (motive:=λ_=>(List Int->Option α)->Option α) (λk=>k []) (λx _ ih k=>oQ x λi=>ih λns=>k (i::ns)) xs
theorem CJ{r:α}:∀{xs:List AV}{k:List Int->Option α},zP xs k=some r->∃ns:List Int,xs=ns.map .int/\k ns=some r
 |[],_,h=>⟨[],rfl,h⟩
 |x::xs,k,h=>by
  obtain⟨i,e1,h1⟩:=cg (x:=x) h;obtain⟨ns,e2,h2⟩:=CJ (xs:=xs) (k:=λns=>k (i::ns)) h1;exact⟨i::ns,by rw[e1,e2];rfl,h2⟩
def sumF(ns:List Int):Int:=List.rec 0 (λx _ ih=>Int.add x ih) ns
theorem G1:∀ns:List Int,sumF ns=ns.sum
 |[]=>rfl
 |x::ns=>by
  show x+sumF ns=_;rw[G1 ns,List.sum_cons]
def anyF(ns:List Int):Bool:=List.rec false (λx _ ih=>Bool.rec true ih (Ny x)) ns
theorem G2:∀ns:List Int,anyF ns=ns.any (·!=0)
 |[]=>rfl
 |x::ns=>by
  show(Bool.rec true (anyF ns) (Ny x):Bool)=_;rw[G2 ns,qU,List.any_cons];have e:(x !=0)=!decide (x=0):=rfl;rw[e];cases decide (x=0)<;>rfl
def wg(m:Int)(ns:List Int):Int:=List.rec (motive:=λ_=>Int->Int) (λm=>m) (λx _ ih m=>Bool.rec (ih m) (ih x) (ltI m x)) ns m
theorem xG:∀(ns:List Int)(m:Int),(wg m ns=m\/wg m ns∈ns)/\m<=wg m ns/\∀x∈ns,x<=wg m ns
 |[],m=>⟨.inl rfl,Int.le_refl _,nofun⟩
 |y::ns,m=>by
  have e:wg m (y::ns)=if m<y then wg y ns else wg m ns:=by
   show(Bool.rec (wg m ns) (wg y ns) (ltI m y):Int)=_;rw[qW];by_cases z:m<y
   ·rw[decide_eq_true z,if_pos z]
   ·rw[decide_eq_false z,if_neg z]
  obtain⟨a1,a2,a3⟩:=xG ns y;obtain⟨b1,b2,b3⟩:=xG ns m;rw[e];by_cases z:m<y
  ·rw[if_pos z];refine⟨.inr ?_,by lia,λx hx=>?_⟩
   ·rcases a1 with q|q
    ·rw[q];exact List.mem_cons_self
    ·exact List.mem_cons_of_mem _ q
   ·rcases List.mem_cons.mp hx with rfl|q
    ·exact a2
    ·exact a3 x q
  ·rw[if_neg z];refine⟨?_,b2,λx hx=>?_⟩
   ·rcases b1 with q|q
    ·exact .inl q
    ·exact .inr (List.mem_cons_of_mem _ q)
   ·rcases List.mem_cons.mp hx with rfl|q
    ·lia
    ·exact b3 x q
def wj(m:Int)(ns:List Int):Int:=List.rec (motive:=λ_=>Int->Int) (λm=>m) (λx _ ih m=>Bool.rec (ih m) (ih x) (ltI x m)) ns m
theorem xH:∀(ns:List Int)(m:Int),(wj m ns=m\/wj m ns∈ns)/\wj m ns<=m/\∀x∈ns,wj m ns<=x
 |[],m=>⟨.inl rfl,Int.le_refl _,nofun⟩
 |y::ns,m=>by
  have e:wj m (y::ns)=if y<m then wj y ns else wj m ns:=by
   show(Bool.rec (wj m ns) (wj y ns) (ltI y m):Int)=_;rw[qW];by_cases z:y<m
   ·rw[decide_eq_true z,if_pos z]
   ·rw[decide_eq_false z,if_neg z]
  obtain⟨a1,a2,a3⟩:=xH ns y;obtain⟨b1,b2,b3⟩:=xH ns m;rw[e];by_cases z:y<m
  ·rw[if_pos z];refine⟨.inr ?_,by lia,λx hx=>?_⟩
   ·rcases a1 with q|q
    ·rw[q];exact List.mem_cons_self
    ·exact List.mem_cons_of_mem _ q
   ·rcases List.mem_cons.mp hx with rfl|q
    ·exact a2
    ·exact a3 x q
  ·rw[if_neg z];refine⟨?_,b2,λx hx=>?_⟩
   ·rcases b1 with q|q
    ·exact .inl q
    ·exact .inr (List.mem_cons_of_mem _ q)
   ·rcases List.mem_cons.mp hx with rfl|q
    ·lia
    ·exact b3 x q
def V1(ar:eE α):Ev α:=λσ k=>ar σ λas bc=>one as λx=>yR x λxs=>zP xs λns=>fI (sumF ns) λn=>k (.int n) bc
def V2(ar:eE α):Ev α:=λσ k=>ar σ λas bc=>one as λx=>yR x λxs=>zP xs λns=>eX (anyF ns) (k (.bl true) bc) (k (.bl false) bc)
def Lj(ar:eE α):Ev α:=λσ k=>ar σ λas bc=>one as λx=>yR x λxs=>zP xs λns=>List.rec none (λm r _=>fI (wg m r) λn=>k (.int n) bc) ns
def QK(ar:eE α):Ev α:=λσ k=>ar σ λas bc=>one as λx=>yR x λxs=>zP xs λns=>List.rec none (λm r _=>fI (wj m r) λn=>k (.int n) bc) ns
section
variable {K:PySem.W.Frag} {C:Addr} {X:α->Hp->Hp->Hp->Prop} {rt:AV->α} {a b:Ev α} {ta tb:TE} {ar:eE α} {tr:TA}
theorem AD{H:Hp}{x:AV}{v:V}{k:List AV->Option α}{r:α}(rl:Rl K C H x v)(h:VZ x k=some r):∃xs p vs,v=.ref p/\(H p=some (.lst vs)\/qB K H p vs)/\d9 K C H xs vs/\k xs=some r:=by
 cases rl with
 |tup h1 h2=>exact⟨_,_,_,rfl,.inr h1,h2,h⟩
 |lst h1 h2=>exact⟨_,_,_,rfl,.inl h1,h2,h⟩
 |dH=>exact nomatch h
 |bl=>exact nomatch h
 |int=>exact nomatch h
 |str=>exact nomatch h
 |root _ _ _ _=>exact nomatch h
theorem G3{Hf H:Hp}{p:Addr}{vs:List V}(s:aJ Hf H)(h:Hf p=some (.lst vs)\/qB K Hf p vs):ft K H p vs\/qB K H p vs:=by
 rcases h with h|h
 ·exact .inl (.inl (.inl (s _ _ h)))
 ·exact .inr (aJ.tup s h)
theorem d9.one{H:Hp}{x:AV}{vs:List V}(h:d9 K C H [x] vs):∃v,vs=[v]/\Rl K C H x v:=by
 cases h with
 |cons h t=>cases t;exact⟨_,rfl,h⟩
theorem d9.two{H:Hp}{x y:AV}{vs:List V}(h:d9 K C H [x,y] vs):∃v w,vs=[v,w]/\Rl K C H x v/\Rl K C H y w:=by
 cases h with
 |cons h t=>
  obtain⟨w,rfl,h2⟩:=d9.one t;exact⟨_,_,rfl,h,h2⟩
theorem gE(ha:gm K C X ar tr):bR K C X (kz ar) (Cb (λxs H Q=>∃p ys,xs=[.ref p]/\(ft K H p ys\/qB K H p ys)/\Q (.int ys.length) H) tr):=by
 intro bE k r h Fo Hf H σ g hx Q q;refine ha _ _ _ h Fo Hf H σ g hx _ λas bc vs bO H1 h1 s1 g1 r1=>?_;obtain⟨x,rfl,h2⟩:=eD h1;obtain⟨v,rfl,r2⟩:=r1.one;obtain⟨xs,p,ws,rfl,e1,e2,h3⟩:=AD r2 h2;rw[mS,i9] at h3;refine⟨p,ws,rfl,G3 g1.sub e1,?_⟩;rw[e2.length];exact q _ _ _ _ _ h3 s1 g1 .int
theorem Lk{i:Nat}:bR K C X (Lh i) (Cb (λxs H Q=>∃p ys,xs=[.ref p]/\(ft K H p ys\/qB K H p ys)/\Q (.int ys.length) H) (dm (eA i) iY)):=by
 intro bE k r h Fo Hf H σ g hx Q q;obtain⟨xs,p,vs,e1,e2,e3,h5⟩:=Le g h;rw[mS,i9] at h5;refine⟨_,e1,p,vs,rfl,.inl (.inl (.inl e2)),?_⟩;rw[e3.length];exact q _ _ _ _ _ h5 (aJ.fO _) g .int
theorem sS(ha:gm K C X ar tr):bR K C X (yZ ar) (Cb (λxs H Q=>∃i,xs=[.int i]/\Q (.int (if i<0 then -i else i)) H) tr):=by
 intro bE k r h Fo Hf H σ g hx Q q;refine ha _ _ _ h Fo Hf H σ g hx _ λas bc vs bO H1 h1 s1 g1 r1=>?_;obtain⟨x,rfl,h2⟩:=eD h1;obtain⟨v,rfl,r2⟩:=r1.one;obtain⟨i,rfl,h3⟩:=cg h2;rw[mS,Sr] at h3;cases r2;exact⟨i,rfl,q _ _ _ _ _ h3 s1 g1 .int⟩
theorem EG(ha:gm K C X ar tr):bR K C X (G0 ar) (Cb (λxs H Q=>∃i j,xs=[.int i,.int j]/\Q (.int (if j<i then j else i)) H) tr):=by
 intro bE k r h Fo Hf H σ g hx Q q;refine ha _ _ _ h Fo Hf H σ g hx _ λas bc vs bO H1 h1 s1 g1 r1=>?_;obtain⟨x,y,rfl,h2⟩:=iw h1;obtain⟨v,w,rfl,r2,r3⟩:=r1.two;obtain⟨i,rfl,h3⟩:=cg h2;obtain⟨j,rfl,h4⟩:=cg h3;rw[qW] at h4;cases r2;cases r3;refine⟨i,j,rfl,?_⟩;by_cases z:j<i
 ·rw[if_pos z];rw[decide_eq_true z] at h4;exact q _ _ _ _ _ h4 s1 g1 .int
 ·rw[if_neg z];rw[decide_eq_false z] at h4;exact q _ _ _ _ _ h4 s1 g1 .int
theorem Ll(ha:gm K C X ar tr):sP K C X (Li ar) (Cb (λxs H Q=>∃p ys,xs=[.ref p]/\(ft K H p ys\/qB K H p ys)/\∀l,H l=none->Q (.ref l) (upd H l (.lst ys))) tr):=by
 intro bE k r h Fo Hf H σ g hx Q q;refine ha _ _ _ h Fo Hf H σ g hx _ λas bc vs bO H1 h1 s1 g1 r1=>?_;obtain⟨x,rfl,h2⟩:=eD h1;obtain⟨v,rfl,r2⟩:=r1.one;obtain⟨xs,p,ws,rfl,e1,e2,h3⟩:=AD r2 h2;refine⟨p,ws,rfl,G3 g1.sub e1,λl hl=>?_⟩;obtain⟨g2,o2⟩:=g1.vP hl e2;exact q _ _ _ _ _ _ h3 s1 g2 o2
theorem V3(ha:gm K C X ar tr):sP K C X (V0 ar) (Qw K tr):=by
 intro bE k r h Fo Hf H σ g hx Q q;refine ha _ _ _ h Fo Hf H σ g hx _ λas bc vs bO H1 h1 s1 g1 r1=>?_;obtain⟨x,rfl,h2⟩:=eD h1;obtain⟨v,rfl,r2⟩:=r1.one;obtain⟨xs,rfl,h3⟩:=iM h2;obtain⟨p,ws,rfl,e1,e2⟩:=r2.oR;rw[AB,List.append_nil] at h3;refine⟨p,ws,rfl,.inl (.inl (g1.sub _ _ e1)),λl hl=>?_⟩;obtain⟨g2,o2⟩:=g1.vP hl e2.reverse;exact q _ _ _ _ _ _ h3 s1 g2 o2
theorem listI{Hf H:Hp}{x:AV}{v:V}{k:List Int->Option α}{r:α}(s:aJ Hf H)(rl:Rl K C Hf x v)(h:yR x (λxs=>zP xs k)=some r):∃p ns,v=.ref p/\ft K H p (ns.map V.int)/\k ns=some r:=by
 obtain⟨xs,rfl,h3⟩:=iM h;obtain⟨ns,rfl,h4⟩:=CJ h3;obtain⟨p,ws,rfl,e1,e2⟩:=rl.oR;rw[e2.ints] at e1;exact⟨p,ns,rfl,.inl (.inl (s _ _ e1)),h4⟩
theorem V4(ha:gm K C X ar tr):bR K C X (V1 ar) (Cb (λxs H Q=>∃(p:Addr)(ns:List Int),xs=[.ref p]/\ft K H p (ns.map V.int)/\Q (.int ns.sum) H) tr):=by
 intro bE k r h Fo Hf H σ g hx Q q;refine ha _ _ _ h Fo Hf H σ g hx _ λas bc vs bO H1 h1 s1 g1 r1=>?_;obtain⟨x,rfl,h2⟩:=eD h1;obtain⟨v,rfl,r2⟩:=r1.one;obtain⟨p,ns,rfl,e1,h3⟩:=listI g1.sub r2 h2;rw[mS,G1] at h3;exact⟨p,ns,rfl,e1,q _ _ _ _ _ h3 s1 g1 .int⟩
theorem V5(ha:gm K C X ar tr):bR K C X (V2 ar) (Cb (λxs H Q=>∃(p:Addr)(ns:List Int),xs=[.ref p]/\ft K H p (ns.map V.int)/\Q (.bl (ns.any (·!=0))) H) tr):=by
 intro bE k r h Fo Hf H σ g hx Q q;refine ha _ _ _ h Fo Hf H σ g hx _ λas bc vs bO H1 h1 s1 g1 r1=>?_;obtain⟨x,rfl,h2⟩:=eD h1;obtain⟨v,rfl,r2⟩:=r1.one;obtain⟨p,ns,rfl,e1,h3⟩:=listI g1.sub r2 h2;have h5:=i7 (k:=λz=>k z bc) h3;rw[G2] at h5;exact⟨p,ns,rfl,e1,q _ _ _ _ _ h5 s1 g1 .bl⟩
theorem Lm(ha:gm K C X ar tr):bR K C X (Lj ar) (Cb (λxs H Q=>∃(p:Addr)(ns:List Int),xs=[.ref p]/\ft K H p (ns.map V.int)/\ns≠[]/\∀m,m∈ns->(∀x∈ns,x<=m)->Q (.int m) H) tr):=by
 intro bE k r h Fo Hf H σ g hx Q q;refine ha _ _ _ h Fo Hf H σ g hx _ λas bc vs bO H1 h1 s1 g1 r1=>?_;obtain⟨x,rfl,h2⟩:=eD h1;obtain⟨v,rfl,r2⟩:=r1.one;obtain⟨p,ns,rfl,e1,h3⟩:=listI g1.sub r2 h2;cases ns with
 |nil=>exact nomatch h3
 |cons y ns=>
  have h4:fI (wg y ns) (λn=>k (.int n) bc)=some r:=h3;rw[mS] at h4;refine⟨p,y::ns,rfl,e1,nofun,λm hm hx=>?_⟩;obtain⟨a1,a2,a3⟩:=xG ns y;have e:m=wg y ns:=by
   apply Int.le_antisymm
   ·rcases List.mem_cons.mp hm with rfl|z
    ·exact a2
    ·exact a3 m z
   ·rcases a1 with z|z
    ·rw[z];exact hx y List.mem_cons_self
    ·exact hx _ (List.mem_cons_of_mem _ z)
  rw[e];exact q _ _ _ _ _ h4 s1 g1 .int
theorem SE(ha:gm K C X ar tr):bR K C X (QK ar) (Cb (λxs H Q=>∃(p:Addr)(ns:List Int),xs=[.ref p]/\ft K H p (ns.map V.int)/\ns≠[]/\∀m,m∈ns->(∀x∈ns,m<=x)->Q (.int m) H) tr):=by
 intro bE k r h Fo Hf H σ g hx Q q;refine ha _ _ _ h Fo Hf H σ g hx _ λas bc vs bO H1 h1 s1 g1 r1=>?_;obtain⟨x,rfl,h2⟩:=eD h1;obtain⟨v,rfl,r2⟩:=r1.one;obtain⟨p,ns,rfl,e1,h3⟩:=listI g1.sub r2 h2;cases ns with
 |nil=>exact nomatch h3
 |cons y ns=>
  have h4:fI (wj y ns) (λn=>k (.int n) bc)=some r:=h3;rw[mS] at h4;refine⟨p,y::ns,rfl,e1,nofun,λm hm hx=>?_⟩;obtain⟨a1,a2,a3⟩:=xH ns y;have e:m=wj y ns:=by
   apply Int.le_antisymm
   ·rcases a1 with z|z
    ·rw[z];exact hx y List.mem_cons_self
    ·exact hx _ (List.mem_cons_of_mem _ z)
   ·rcases List.mem_cons.mp hm with rfl|z
    ·exact a2
    ·exact a3 m z
  rw[e];exact q _ _ _ _ _ h4 s1 g1 .int
end
end CV
namespace CV
open PySem PySem.Spec PyProof.Rows L2
variable {α:Type}
def xI(a:Ev α):eE α:=λσ k=>a σ λx bc=>yR x λxs=>k xs bc
def enF(xs:List AV):Nat->(List AV->Option α)->Option α:=List.rec (motive:=λ_=>Nat->(List AV->Option α)->Option α) (λ_ k=>k []) (λx _ ih n k=>ih (Nat.succ n) λys=>k (.tup [.int (.ofNat n),x]::ys)) xs
def QL:List AV->Nat->List AV
 |[],_=>[]
 |x::xs,n=>.tup [.int (.ofNat n),x]::QL xs (n+1)
theorem Ln:∀{xs:List AV}{n:Nat}{k:List AV->Option α},enF xs n k=k (QL xs n)
 |[],_,_=>rfl
 |x::xs,n,k=>Ln (xs:=xs) (n:=n+1) (k:=λys=>k (.tup [.int (.ofNat n),x]::ys))
theorem G4:∀{xs:List AV}{n i:Nat}{y:AV},(QL xs n)[i]?=some y->∃x,xs[i]?=some x/\y=.tup [.int ((n+i:Nat):Int),x]
 |[],_,_,_,h=>by simp[QL] at h
 |x::xs,n,0,y,h=>by simp[QL] at h;exact⟨x,rfl,h.symm⟩
 |x::xs,n,i+1,y,h=>by
  have h':(QL xs (n+1))[i]?=some y:=by simpa[QL] using h
  obtain⟨z,h1,h2⟩:=G4 (xs:=xs) h';refine⟨z,by simpa using h1,?_⟩;have e:n+1+i=n+(i+1):=by lia
  rw[<-e];exact h2
theorem G5:∀(xs:List AV)(n:Nat),(QL xs n).length=xs.length
 |[],_=>rfl
 |_::xs,n=>congrArg Nat.succ (G5 xs (n+1))
def QM(ar:eE α):eE α:=λσ k=>ar σ λas bc=>one as λx=>yR x λxs=>enF xs 0 λys=>k ys bc
def SG(ar:eE α):eE α:=λσ k=>ar σ λas bc=>one as λx=>yR x λxs=>k (Oo xs []) bc
def UP(st:Int)(n:Nat):Int->(List AV->Option α)->Option α:=Nat.rec (motive:=λ_=>Int->(List AV->Option α)->Option α) (λ_ k=>k []) (λ_ ih lo k=>fI (Int.add lo st) λhi=>ih hi λys=>k (.int lo::ys)) n
def Oq(st:Int):Nat->Int->List AV
 |0,_=>[]
 |n+1,lo=>.int lo::Oq st n (lo+st)
theorem AE{st:Int}:∀{n:Nat}{lo:Int}{k:List AV->Option α},UP st n lo k=k (Oq st n lo)
 |0,_,_=>rfl
 |n+1,lo,k=>by
  show fI (lo+st) (λhi=>UP st n hi λys=>k (.int lo::ys))=_;rw[mS,AE];rfl
theorem AF{st:Int}:∀{n i:Nat}{lo:Int}{y:AV},(Oq st n lo)[i]?=some y->i<n/\y=.int (lo+i*st)
 |0,_,_,_,h=>by simp[Oq] at h
 |n+1,0,lo,y,h=>by
  simp[Oq] at h;exact⟨by lia,by rw[<-h];simp⟩
 |n+1,i+1,lo,y,h=>by
  have h':(Oq st n (lo+st))[i]?=some y:=by simpa[Oq] using h
  obtain⟨h1,h2⟩:=AF h';refine⟨by lia,?_⟩;rw[h2];congr 1;have e:((i+1:Nat):Int)*st=(i:Int)*st+st:=by rw[Int.natCast_add,Int.add_mul];simp
  rw[e];lia
theorem AG{st:Int}:∀{n:Nat}{lo:Int},(Oq st n lo).length=n
 |0,_=>rfl
 |n+1,lo=>congrArg Nat.succ (AG (n:=n) (lo:=lo+st))
def Zj(xs:List AV):List AV->(List AV->Option α)->Option α:=List.rec (motive:=λ_=>List AV->(List AV->Option α)->Option α) (λ_ k=>k []) (λx _ ih ys k=>List.rec (k []) (λy r _=>ih r λzs=>k (.tup [x,y]::zs)) ys) xs
def Lo:List AV->List AV->List AV
 |x::xs,y::ys=>.tup [x,y]::Lo xs ys
 |_,_=>[]
theorem EH:∀{xs ys:List AV}{k:List AV->Option α},Zj xs ys k=k (Lo xs ys)
 |[],ys,k=>by cases ys<;>rfl
 |_::_,[],_=>rfl
 |x::xs,y::ys,k=>EH (xs:=xs) (ys:=ys) (k:=λzs=>k (.tup [x,y]::zs))
def iZp(ar:eE α):eE α:=λσ k=>ar σ λas bc=>two as λx y=>yR x λxs=>yR y λys=>Zj xs ys λzs=>k zs bc
def AH(i:Int):Bool:=Nat.ble (Nat.log2 (IT i)) 28
theorem uF{i:Int}(h:AH i=true):-536870912<i/\i<536870912:=by
 have h1:=wM (Nat.le_of_ble_eq_true h);rw[qV] at h1;lia
def iR1(ar:eE α):eE α:=λσ k=>ar σ λas bc=>one as λx=>oQ x λj=>eX (AH j) (UP 1 (XZ j) 0 λys=>k ys bc) none
def QN(ar:eE α):eE α:=λσ k=>ar σ λas bc=>two as λx y=>oQ x λi=>oQ y λj=>eX (AH i) (eX (AH j) (UP 1 (XZ (Int.sub j i)) i λys=>k ys bc) none) none
def iR3(ar:eE α):eE α:=λσ k=>ar σ λas bc=>List.rec none (λx r _=>CV.two r λy z=>oQ x λi=>oQ y λj=>oQ z λst=>eX (nD st (-1)) (eX (nD j (-1)) (Int.rec (λd=>eX (Nat.ble d 60) (UP (-1) (Nat.succ d) (.ofNat d) λys=>k ys bc) none) (λ_=>none) i) none) none) as
section
variable {K:PySem.W.Frag} {C:Addr} {X:α->Hp->Hp->Hp->Prop} {rt:AV->α} {a b:Ev α} {ta tb:TE} {ar:eE α} {tr:TA}
theorem G6{Hf:Hp}{p:Addr}{xs:List AV}{vs:List V}(h:Hf p=some (.lst vs))(rl:d9 K C Hf xs vs):Wk K C (Vf K p) Hf xs:=by
 intro cM H2 s1 s2;have e:ft K H2 p vs:=.inl (.inl (s2 _ _ (s1 _ _ h)));refine⟨λi y hy=>?_,⟨vs,e,by rw[rl.length];exact Nat.le_refl _⟩⟩;obtain⟨v,h1,h2⟩:=rl.get hy;refine⟨⟨vs,v,e,h1⟩,λx H3⟨h3,h4⟩=>.inl ⟨h3,?_⟩⟩;have:=h4 vs e;rw[h1] at this;cases this;exact h2.mono s1
theorem mD(ha:bR K C X a ta):uA K C X (xI a) (zy K ta):=by
 intro bE k r h Fo Hf H σ g hx R q;refine ha _ _ _ h Fo Hf H σ g hx _ λx bc v bO H1 h1 s1 g1 r1=>?_;obtain⟨xs,rfl,h2⟩:=iM h1;obtain⟨p,vs,rfl,e1,e2⟩:=r1.oR;exact⟨p,rfl,⟨vs,.inl (.inl (g1.sub _ _ e1))⟩,q _ _ _ _ _ h2 s1 g1 (G6 e1 e2)⟩
theorem xJ(ha:gm K C X ar tr):uA K C X (QM ar) (KG K tr):=by
 intro bE k r h Fo Hf H σ g hx R q;refine ha _ _ _ h Fo Hf H σ g hx _ λas bc vs bO H1 h1 s1 g1 r1=>?_;obtain⟨x,rfl,h2⟩:=eD h1;obtain⟨v,rfl,r2⟩:=r1.one;obtain⟨xs,rfl,h3⟩:=iM h2;obtain⟨p,ws,rfl,e1,e2⟩:=r2.oR;rw[Ln] at h3;refine⟨p,rfl,⟨ws,.inl (.inl (g1.sub _ _ e1))⟩,q _ _ _ _ _ h3 s1 g1 λcM H2 s2 s3=>?_⟩;have e:ft K H2 p ws:=.inl (.inl (s3 _ _ (s2 _ _ e1)));refine⟨λi y hy=>?_,⟨ws,e,by rw[e2.length,G5];exact Nat.le_refl _⟩⟩;obtain⟨z,h4,rfl⟩:=G4 hy;obtain⟨u,h5,h6⟩:=e2.get h4;refine⟨⟨ws,u,e,h5⟩,λx H3⟨p',y',h7,h8,h9,QO⟩=>.inr ⟨p',_,_,h7,h9,h8,rfl,?_⟩⟩;have:=QO ws e;rw[h5] at this;cases this;rw[Nat.zero_add];exact .cons .int (.cons (h6.mono s2) .nil)
theorem zQ(ha:gm K C X ar tr):uA K C X (SG ar) (Sf K tr):=by
 intro bE k r h Fo Hf H σ g hx R q;refine ha _ _ _ h Fo Hf H σ g hx _ λas bc vs bO H1 h1 s1 g1 r1=>?_;obtain⟨x,rfl,h2⟩:=eD h1;obtain⟨v,rfl,r2⟩:=r1.one;obtain⟨xs,rfl,h3⟩:=iM h2;obtain⟨p,ws,rfl,e1,e2⟩:=r2.oR;rw[AB,List.append_nil] at h3;refine⟨p,ws,rfl,.inl (.inl (g1.sub _ _ e1)),q _ _ _ _ _ h3 s1 g1 λcM H2 s2 s3=>?_⟩;have e:ft K H2 p ws:=.inl (.inl (s3 _ _ (s2 _ _ e1)));have el:=e2.length;refine⟨λi y hy=>?_,?_⟩
 ·have hi:i<xs.length:=by
   have:=(List.getElem?_eq_some_iff.mp hy).1
   rwa [List.length_reverse] at this
  have YN:xs[ws.length-1-i]?=some y:=by
   rw[List.getElem?_reverse hi] at hy;rw[el];exact hy
  obtain⟨u,h5,h6⟩:=e2.get YN;refine⟨⟨by lia,ws,u,e,h5⟩,λx H3⟨h7,h8⟩=>.inl ⟨h7,?_⟩⟩;have:=h8 ws e;rw[h5] at this;cases this;exact h6.mono s2
 ·show xs.reverse.length=ws.length;rw[List.length_reverse,el]
theorem CK{Hf:Hp}{lo:Int}{n:Nat}:Wk K C (Nt lo n) Hf (Oq 1 n lo):=λcM H2 s2 s3=>by
 refine⟨λi y hy=>?_,Nat.le_of_eq AG.symm⟩;obtain⟨h1,rfl⟩:=AF hy;refine⟨h1,λx H3⟨h3,h4⟩=>.inl ⟨h3,?_⟩⟩;rw[h4,Int.mul_one];exact .int
theorem V6(ha:gm K C X ar tr):uA K C X (iR1 ar) (Kk tr):=by
 intro bE k r h Fo Hf H σ g hx R q;refine ha _ _ _ h Fo Hf H σ g hx _ λas bc vs bO H1 h1 s1 g1 r1=>?_;obtain⟨x,rfl,h2⟩:=eD h1;obtain⟨v,rfl,r2⟩:=r1.one;obtain⟨j,rfl,h3⟩:=cg h2;obtain⟨c,h4⟩:=cx h3;have c:=uF c;rw[AE,EE] at h4;cases r2;exact⟨j,rfl,by lia,by lia,q _ _ _ _ _ h4 s1 g1 CK⟩
theorem xK(ha:gm K C X ar tr):uA K C X (QN ar) (Kl tr):=by
 intro bE k r h Fo Hf H σ g hx R q;refine ha _ _ _ h Fo Hf H σ g hx _ λas bc vs bO H1 h1 s1 g1 r1=>?_;obtain⟨x,y,rfl,h2⟩:=iw h1;obtain⟨v,w,rfl,r2,r3⟩:=r1.two;obtain⟨i,rfl,h3⟩:=cg h2;obtain⟨j,rfl,h3⟩:=cg h3;obtain⟨c,h4⟩:=cx h3;obtain⟨c',h5⟩:=cx h4;have c:=uF c;have c':=uF c';rw[AE,EE] at h5;cases r2;cases r3;exact⟨i,j,rfl,⟨by lia,by lia,by lia,by lia⟩,q _ _ _ _ _ h5 s1 g1 CK⟩
theorem Lp:∀d:Nat,d<=60->Builtin.Range.small (d:Int) (-1) (-1)=true:=by decide +kernel
theorem Ot:∀d:Nat,d<=60->Builtin.Range.rangeSize (d:Int) (-1) (-1)=((d+1:Nat):Int):=by decide +kernel
theorem V7(ha:gm K C X ar tr):uA K C X (iR3 ar) (KD tr):=by
 intro bE k r h Fo Hf H σ g hx R q;refine ha _ _ _ h Fo Hf H σ g hx _ λas bc vs bO H1 h1 s1 g1 r1=>?_
 match as,h1,r1 with
 |x::rest,h1,r1=>
  obtain⟨y,z,rfl,h2⟩:=iw (xs:=rest) h1;cases r1 with
  |cons rx rt=>
   obtain⟨vy,vz,rfl,ry,rz⟩:=rt.two;obtain⟨i,rfl,h3⟩:=cg h2;obtain⟨j,rfl,h4⟩:=cg h3;obtain⟨st,rfl,h5⟩:=cg h4;obtain⟨c1,h6⟩:=cx h5;obtain⟨c2,h7⟩:=cx h6;rw[uB] at c1 c2;have c1:st=-1:=by simpa using c1
   have c2:j=-1:=by simpa using c2
   subst c1 c2;cases rx;cases ry;cases rz
   cases i with
   |negSucc m=>exact nomatch h7
   |ofNat d=>
    have h8:eX (Nat.ble d 60) (UP (-1) (Nat.succ d) (.ofNat d) λys=>k ys bc) none=some r:=h7;obtain⟨c3,h9⟩:=cx h8;have c3:=Nat.le_of_ble_eq_true c3;rw[AE] at h9;refine⟨(d:Int),-1,-1,d+1,rfl,by decide,by decide,Lp d c3,Ot d c3,q _ _ _ _ _ h9 s1 g1 λcM H2 s2 s3=>⟨λi y hy=>?_,Nat.le_of_eq AG.symm⟩⟩;obtain⟨e1,rfl⟩:=AF hy;refine⟨e1,λx H3⟨h3,h4⟩=>.inl ⟨h3,?_⟩⟩;rw[h4];exact .int
end
def gN(i:Nat):J9 α:=λx σ nx=>mT σ i (.fz x) nx
def IV(i j:Nat):J9 α:=λx σ nx=>XW x λxs=>two xs λu w=>mT σ i (.fz u) λbc=>mT bc j (.fz w) nx
section
variable {K:PySem.W.Frag} {C:Addr} {X:α->Hp->Hp->Hp->Prop} {rt:AV->α} {a b:Ev α} {ta tb:TE} {ar:eE α} {tr:TA}
theorem lr{i:Nat}:K2 (α:=α) K C (gN i) (fj i):=λx bE nx r h Fo Hf H σ v g rl R q=>by
 unfold gN at h;rw[gD] at h;exact q _ _ h (g.vO rl)
theorem pw{i j:Nat}:K2 (α:=α) K C (IV i j) (Ag K 2 (ma (fj i) (ma (fj j) B4))):=λx bE nx r h Fo Hf H σ v g rl R q=>by
 unfold IV at h;obtain⟨xs,rfl,h1⟩:=EB h;obtain⟨u,w,rfl,h2⟩:=iw h1;rw[gD,gD] at h2;obtain⟨p,vs,rfl,e1,e2⟩:=rl.Sy;obtain⟨v1,v2,rfl,e3,e4⟩:=e2.two;exact⟨p,_,rfl,aJ.tup g.sub e1,rfl,_,_,rfl,_,_,rfl,rfl,q _ _ h2 ((g.vO e3).vO e4)⟩
end
def aK(a b:cZ α):cZ α:=λσ nx=>a σ λbc=>b bc nx
def aY(i:Nat)(e:Ev α):cZ α:=λσ nx=>e σ λx bc=>mT bc i (.fz x) nx
def px(i:Nat)(e:eE α):cZ α:=λσ nx=>e σ λxs bc=>mT bc i (.op xs) nx
def bA(e:Ev AV):cZ AV:=λσ _=>e σ λx _=>some x
def du(rt:AV->α)(e:Ev α):cZ α:=λσ _=>e σ λx _=>some (rt x)
def fZ(t:xx α)(a b:cZ α):cZ α:=λσ nx=>t σ λc bc=>eX c (a bc nx) (b bc nx)
def fQ:cZ α:=λσ nx=>nx σ
def UQ:cZ α:=λ_ _=>none
def Zk(t:xx α)(b:cZ α)(nx:Sa->Option α)(n:Nat):Sa->Option α:=Nat.rec (motive:=λ_=>Sa->Option α) (λ_=>none) (λ_ ih σ=>t σ λc bc=>eX c (b bc ih) (nx bc)) n
def CM(t:xx α)(b:cZ α):cZ α:=λσ nx=>Zk t b nx 100000 σ
def Zl(g:J9 α)(b:cZ α)(nx:Sa->Option α)(xs:List AV):Sa->Option α:=List.rec (motive:=λ_=>Sa->Option α) nx (λx _ ih σ=>g x σ λbc=>b bc ih) xs
def l_(i:eE α)(g:J9 α)(b:cZ α):cZ α:=λσ nx=>i σ λxs bc=>Zl g b nx xs bc
def UR(σ:Sa)(i:Nat)(k:List AV->Option α):Option α:=SV.rec none (λ_=>none) k (gx σ i)
def QP(xs:List AV):(AV->List AV->Option α)->Option α:=List.rec (motive:=λ_=>(AV->List AV->Option α)->Option α) (λ_=>none) (λx r ih k=>List.rec (k x []) (λ_ _ _=>ih λy zs=>k y (x::zs)) r) xs
def Ou(i:Nat):Ev α:=λσ k=>UR σ i λxs=>QP xs λy zs=>mT σ i (.op zs) λbc=>k y bc
def mQ(xs:List AV)(v:AV):Nat->(List AV->Option α)->Option α:=List.rec (motive:=λ_=>Nat->(List AV->Option α)->Option α) (λ_ _=>none) (λx r ih n k=>Nat.rec (k (v::r)) (λm _=>ih m λzs=>k (x::zs)) n) xs
section
variable {K:PySem.W.Frag} {C:Addr} {X:α->Hp->Hp->Hp->Prop} {rt:AV->α} {a b:Ev α} {ta tb:TE} {ar:eE α} {tr:TA} {p q:cZ α} {tp tq:TS} {c:xx α} {tc:TT} {oe:eE α} {te:TE}
theorem au(hp:kL K C X rt p tp)(hq:kL K C X rt q tq):kL K C X rt (aK p q) (Ae tp tq):=by
 intro bE nx r h Fo Hf H σ g hx D n t;exact hp _ _ _ h Fo Hf H σ g hx _ (λmE bc bO H1 h1 s1 g1=>hq _ _ _ h1 Fo bO H1 bc g1 (hx.up s1) D (λSH bQ cM H2 h2 s2 g2=>n _ _ _ _ h2 (aJ.trans' s1 s2) g2) λx v cM H2 ex s2 f2 r2=>t x v cM H2 ex (aJ.trans' s1 s2) f2 r2) t
theorem aA{i:Nat}(ha:bR K C X a ta):kL K C X rt (aY i a) (sG ta (fj i)):=by
 intro bE nx r h Fo Hf H σ g hx D n t;refine ha _ _ _ h Fo Hf H σ g hx _ λx bc v bO H1 h1 s1 g1 r1=>?_;rw[gD] at h1;exact n _ _ _ _ h1 s1 (g1.vO r1)
theorem ix{i:Nat}(ha:sP K C X oe te):kL K C X rt (px i oe) (sG te (fj i)):=by
 intro bE nx r h Fo Hf H σ g hx D n t;refine ha _ _ _ h Fo Hf H σ g hx _ λxs bc p vs bO H1 h1 s1 g1 o1=>?_;rw[gD] at h1;exact n _ _ _ _ h1 s1 (g1.setOp o1)
theorem Good.Ov{Fo Hf H:Hp}{bE:Sa}{σ:L2.St}(g:Good K C Fo Hf H bE σ):Oe Fo Hf H:=⟨g.sub,g.fo⟩
theorem bJ(ha:bR K C X a ta):kL K C X rt (du rt a) (Af ta):=by
 intro bE nx r h Fo Hf H σ g hx D n t;refine ha _ _ _ h Fo Hf H σ g hx _ λx bc v bO H1 h1 s1 g1 r1=>?_;cases h1;exact t _ _ _ _ rfl s1 g1.Ov r1
theorem aV{a:Ev AV}{X:AV->Hp->Hp->Hp->Prop}(ha:bR K C X a ta):kL K C X (λx=>x) (bA a) (Af ta):=bJ (rt:=λx=>x) ha
theorem br(hc:kK K C X c tc)(hp:kL K C X rt p tp)(hq:kL K C X rt q tq):kL K C X rt (fZ c p q) (RK tc tp tq):=by
 intro bE nx r h Fo Hf H σ g hx D n t;refine hc _ _ _ h Fo Hf H σ g hx _ λk bc bO H1 h1 s1 g1=>?_;cases k with
 |true=>rw[if_pos rfl];exact hp _ _ _ h1 Fo bO H1 σ g1 (hx.up s1) D (λSH bQ cM H2 h2 s2 g2=>n _ _ _ _ h2 (aJ.trans' s1 s2) g2) λx v cM H2 ex s2 f2 r2=>t x v cM H2 ex (aJ.trans' s1 s2) f2 r2
 |false=>rw[if_neg (by decide)];exact hq _ _ _ h1 Fo bO H1 σ g1 (hx.up s1) D (λSH bQ cM H2 h2 s2 g2=>n _ _ _ _ h2 (aJ.trans' s1 s2) g2) λx v cM H2 ex s2 f2 r2=>t x v cM H2 ex (aJ.trans' s1 s2) f2 r2
theorem bt:kL K C X rt fQ B2:=λ_ _ _ h _ Hf H _ g _ _ n _=>n _ _ _ _ h (aJ.fO _) g
theorem CN{t:TS}:kL K C X rt UQ t:=λ_ _ _ h=>nomatch h
theorem kG(hc:kK K C X c tc)(hp:kL K C X rt p tp):kL K C X rt (CM c p) (D9 tc tp):=by
 intro bE nx r h Fo Hf H σ g hx D n t;refine⟨λm cH H'=>∃fY bL,aJ Hf bL/\Good K C Fo bL H' fY cH/\Zk c p nx m fY=some r,⟨_,bE,Hf,aJ.fO _,g,h⟩,?_⟩;rintro m bc H1 ⟨mE,bO,s1,g1,h1⟩;cases m with
 |zero=>exact nomatch h1
 |succ m=>
  refine hc _ _ _ h1 Fo bO H1 bc g1 (hx.up s1) _ λk SH cM H2 h2 s2 g2=>?_;have D4:=aJ.trans' s1 s2;cases k with
  |true=>
   rw[if_pos rfl];refine⟨λcH H'=>∃fY bL,aJ Hf bL/\Good K C Fo bL H' fY cH/\Zk c p nx m fY=some r,λcH H' z=>⟨m,Nat.lt_succ_self m,z⟩,?_⟩;exact hp _ _ _ h2 Fo cM H2 bc g2 (hx.up D4) _ (λZm sH jB H3 h3 s3 g3=>⟨Zm,jB,aJ.trans' D4 s3,g3,h3⟩) λx v jB H3 ex s3 f3 r3=>t x v jB H3 ex (aJ.trans' D4 s3) f3 r3
  |false=>
   rw[if_neg (by decide)];exact n _ _ _ _ h2 D4 g2
theorem eY{ie:eE α}{ti:TI}{ge:J9 α}{tg:TG}(hi:uA K C X ie ti)(hg:K2 K C ge tg)(hp:kL K C X rt p tp):kL K C X rt (l_ ie ge p) (RO ti tg tp):=by
 intro bE nx r h Fo Hf H σ g hx D n t;refine hi _ _ _ h Fo Hf H σ g hx _ λxs Zn J oN H0 h0 s0 g0 wk=>?_;refine⟨λi m cH H'=>∃fY bL,m=xs.length-i/\i<=xs.length/\aJ oN bL/\Good K C Fo bL H' fY cH/\Zl ge p nx (xs.drop i) fY=some r,⟨_,Zn,oN,rfl,Nat.zero_le _,aJ.fO _,g0,h0⟩,?_⟩;rintro i m bc H1 ⟨mE,bO,rfl,Zo,s1,g1,h1⟩;obtain⟨w1,w2⟩:=wk bO H1 s1 g1.sub;by_cases nz:i<xs.length
 ·obtain⟨go,yl⟩:=w1 i xs[i] (List.getElem?_eq_getElem nz);rw[List.drop_eq_getElem_cons nz] at h1;refine .inr ⟨go,λcH H'=>∃fY bL,aJ oN bL/\Good K C Fo bL H' fY cH/\Zl ge p nx (xs.drop (i+1)) fY=some r,λcH H'⟨a,b,c,d,e⟩=>⟨xs.length-(i+1),by lia,a,b,rfl,nz,c,d,e⟩,λx H3 y=>?_⟩;have key:∃jB,aJ bO jB/\Good K C Fo jB H3 mE bc/\Rl K C jB xs[i] x:=by
   rcases yl x H3 y with⟨rfl,rl⟩|⟨p',ys,vs,e1,e2,e3,e4,e5⟩
   ·exact⟨bO,aJ.fO _,g1,rl⟩
   ·subst e2 e3;rw[e4];have sm:aJ bO (upd bO p' (.tup vs)):=aJ.new (g1.nil e1).1 _;exact⟨_,sm,g1.new e1 _,.tup (.inl (.inl aE)) (e5.mono sm)⟩
  obtain⟨jB,s3,g3,rl⟩:=key;have J_:=aJ.trans' s1 s3;refine hg _ _ _ _ h1 Fo jB H3 bc x g3 rl _ λaam qh h4 g4=>?_;exact hp _ _ _ h4 Fo jB H3 qh g4 (hx.up (aJ.trans' s0 J_)) _ (λZp zK uh H5 h5 s5 g5=>⟨Zp,uh,aJ.trans' J_ s5,g5,h5⟩) λx v uh H5 ex s5 f5 r5=>t x v uh H5 ex (aJ.trans' s0 (aJ.trans' J_ s5)) f5 r5
 ·obtain rfl:i=xs.length:=by lia
  rw[List.drop_length] at h1;exact .inl ⟨w2,n _ _ _ _ h1 (aJ.trans' s0 s1) g1⟩
theorem EI{bE:Sa}{i:Nat}{k:List AV->Option α}{r:α}(h:UR bE i k=some r):∃xs,gx bE i=.op xs/\k xs=some r:=by
 unfold UR at h;cases e:gx bE i with
 |no=>rw[e] at h;exact nomatch h
 |fz x=>rw[e] at h;exact nomatch h
 |op xs=>rw[e] at h;exact⟨xs,rfl,h⟩
def Ow(σ:Sa)(i:Nat)(a:Option α):Option α:=SV.rec none (λ_=>none) (λ_=>a) (gx σ i)
theorem G7{bE:Sa}{σ:L2.St}{Fo Hf H:Hp}{i:Nat}{o:Option α}{r:α}(g:Good K C Fo Hf H bE σ)(h:Ow bE i o=some r):(∃a vs,σ[i]?=some (some (.ref a))/\H a=some (.lst vs))/\o=some r:=by
 unfold Ow at h;cases e:gx bE i with
 |no=>rw[e] at h;exact nomatch h
 |fz x=>rw[e] at h;exact nomatch h
 |op xs=>
  rw[e] at h;obtain⟨a,vs,h1,h2,h3,h4,h5⟩:=g.op i xs e;exact⟨⟨a,vs,h1,h4⟩,h⟩
end
def wm(i:Nat)(e:eE α):cZ α:=λσ nx=>Ow σ i (e σ λas bc=>one as λy=>UR bc i λxs=>Sz xs [y] λzs=>ED zs (mT bc i (.op zs) nx))
def IW(i:Nat)(b:Ev α)(e:Ev α):cZ α:=λσ nx=>e σ λv bc=>Ow bc i (b bc λy bQ=>oQ y λn=>Int.rec (λm=>UR bQ i λxs=>mQ xs v m λzs=>mT bQ i (.op zs) nx) (λ_=>none) n)
theorem CO{r:α}:∀{xs:List AV}{k:AV->List AV->Option α},QP xs k=some r->∃y zs,xs=zs++[y]/\k y zs=some r
 |[],_,h=>nomatch h
 |[x],_,h=>⟨x,[],rfl,h⟩
 |x::y::xs,k,h=>by
  obtain⟨z,zs,e,h⟩:=CO (xs:=y::xs) (k:=λy zs=>k y (x::zs)) h;exact⟨z,x::zs,by rw[e];rfl,h⟩
theorem G8{v:AV}{r:α}:∀{xs:List AV}{n:Nat}{k:List AV->Option α},mQ xs v n k=some r->n<xs.length/\k (xs.set n v)=some r
 |[],_,_,h=>nomatch h
 |_::_,0,_,h=>⟨Nat.zero_lt_succ _,h⟩
 |x::xs,n+1,k,h=>by
  obtain⟨h1,h2⟩:=G8 (xs:=xs) (n:=n) (k:=λzs=>k (x::zs)) h;exact⟨Nat.succ_lt_succ h1,h2⟩
section
variable {K:PySem.W.Frag} {C:Addr} {X:α->Hp->Hp->Hp->Prop} {rt:AV->α} {a b:Ev α} {ta tb:TE} {ar:eE α} {tr:TA} {p q:cZ α} {tp tq:TS} {c:xx α} {tc:TT} {oe:eE α} {te:TE}
theorem lu{i:Nat}(ha:gm K C X ar tr):kL K C X rt (wm i ar) (B3 (Iy K "list" wJ (eA i) tr)):=by
 intro bE nx r h Fo Hf H σ g hx D n t;obtain⟨⟨l,vs0,e1,e2⟩,h⟩:=G7 g h;refine⟨_,e1,.inl ⟨rfl,vs0,.inl (.inl e2)⟩,?_⟩;refine ha _ _ _ h Fo Hf H σ g hx _ λas bc vs bO H1 h1 s1 g1 r1=>?_;obtain⟨y,rfl,h2⟩:=eD h1;obtain⟨v,rfl,r2⟩:=r1.one;obtain⟨xs,e3,h3⟩:=EI h2;rw[AA] at h3;obtain⟨hl,h4⟩:=qi h3;rw[gD] at h4;obtain⟨l',ws,f1,f2,f3,f4,f5⟩:=g1.op i xs e3;rw[e1] at f1;cases f1;rw[List.length_append,List.length_singleton] at hl;refine⟨l,ws,v,rfl,rfl,f4,Nat.lt_of_lt_of_le (by rw[f5.length];lia:ws.length<1000) (cR (Nat.le_refl _)),?_⟩;exact n _ _ _ _ h4 s1 (g1.mut e3 e1 (f5.append (.cons r2 .nil)))
theorem s_pop{i:Nat}:bR K C X (Ou i) (RY K "list" Vs (eA i)):=by
 intro bE k r h Fo Hf H σ g hx Q q;obtain⟨xs,e3,h3⟩:=EI h;obtain⟨y,zs,rfl,h4⟩:=CO h3;rw[gD] at h4;obtain⟨l,ws,f1,f2,f3,f4,f5⟩:=g.op i _ e3;have el:=f5.length;rw[List.length_append,List.length_singleton] at el;obtain⟨v,e5,e6⟩:=f5.get (i:=ws.length-1) (x:=y) (by rw[el,Nat.add_sub_cancel];simp);refine⟨_,f1,.inl ⟨rfl,ws,.inl (.inl f4)⟩,l,ws,v,rfl,rfl,f4,e5,?_⟩;refine q _ _ _ _ _ h4 (aJ.fO _) (g.mut e3 f1 ?_) e6;have:=f5.take zs.length;rw[List.take_left] at this;rw[List.dropLast_eq_take,el,Nat.add_sub_cancel];exact this
theorem xM{i:Nat}(hb:bR K C X b tb)(ha:bR K C X a ta):kL K C X rt (IW i b a) (sG ta (RM (eA i) tb Ql)):=by
 intro bE nx r h Fo Hf H σ g hx D n t;refine ha _ _ _ h Fo Hf H σ g hx _ λx bc v bO H1 h1 s1 g1 r1=>?_;obtain⟨⟨l,vs0,e1,e2⟩,h1⟩:=G7 g1 h1;refine⟨_,e1,hb _ _ _ h1 Fo bO H1 σ g1 (hx.up s1) _ λy bQ u cM H2 h2 s2 g2 r2=>?_⟩;obtain⟨j,rfl,h3⟩:=cg h2;cases r2
 cases j with
 |negSucc m=>exact nomatch h3
 |ofNat m=>
  have NA:UR bQ i (λxs=>mQ xs x m λzs=>mT bQ i (.op zs) nx)=some r:=h3;obtain⟨xs,e3,h4⟩:=EI NA;obtain⟨hm,h5⟩:=G8 h4;rw[gD] at h5;obtain⟨l',ws,f1,f2,f3,f4,f5⟩:=g2.op i xs e3;rw[e1] at f1;cases f1;refine⟨l,ws,_,m,rfl,rfl,f4,?_,?_⟩
  ·unfold Nv;rw[if_pos (by simp only[Int.ofNat_eq_natCast];lia),if_pos (by rw[f5.length];simp only[Int.ofNat_eq_natCast];lia)];rfl
  ·exact n _ _ _ _ h5 (aJ.trans' s1 s2) (g2.mut e3 e1 (f5.set (r1.mono s2) m))
end
end CV
namespace CV
open PySem PySem.Spec PyProof.Rows L2
variable {α:Type}
def uH(s:Sa):Bool:=List.rec true (λx _ ih=>SV.rec ih (λ_=>ih) (λ_=>false) x) s
theorem wN:∀{s:Sa},uH s=true->∀i xs,gx s i≠.op xs
 |[],_,_,_=>nofun
 |.no::s,h,0,_=>nofun
 |.no::s,h,i+1,xs=>wN (s:=s) h i xs
 |.fz _::s,h,0,_=>nofun
 |.fz _::s,h,i+1,xs=>wN (s:=s) h i xs
 |.op _::s,h,_,_=>nomatch h
def QQ(g:J9 α)(e:Ev α)(xs:List AV):Sa->(List AV->Option α)->Option α:=List.rec (motive:=λ_=>Sa->(List AV->Option α)->Option α) (λ_ k=>k []) (λx _ ih s k=>g x s λs1=>e s1 λy s2=>eX (uH s2) (ih s2 λys=>k (y::ys)) none) xs
def Ox(fr:List Nat):Sa->(Sa->Option α)->Option α:=List.rec (motive:=λ_=>Sa->(Sa->Option α)->Option α) (λ_ k=>k []) (λi _ ih σ k=>ih σ λs=>SV.rec (k (.no::s)) (λx=>k (.fz x::s)) (λ_=>none) (gx σ i)) fr
def IX(n:Nat)(s:Sa):Sa:=Nat.rec s (λ_ ih=>.no::ih) n
def mV(n:Nat)(fr:List Nat)(ie:eE α)(g:J9 α)(e:Ev α):eE α:=λσ k=>ie σ λxs bc=>ED xs (Ox fr bc λs=>QQ g e xs (IX n s) λys=>k ys bc)
theorem sT:∀(n:Nat)(s:Sa),IX n s=List.replicate n .no++s
 |0,_=>rfl
 |n+1,s=>congrArg (SV.no::·) (sT n s)
theorem AI{r:α}{σ:Sa}:∀{fr:List Nat}{k:Sa->Option α},Ox fr σ k=some r->∃s,s=fr.map (gx σ)/\uH s=true/\k s=some r
 |[],_,h=>⟨[],rfl,rfl,h⟩
 |i::fr,k,h=>by
  have h':Ox fr σ (λs=>(SV.rec (k (.no::s)) (λx=>k (.fz x::s)) (λ_=>none) (gx σ i):Option α))=some r:=h;obtain⟨s,e,h1,h2⟩:=AI (fr:=fr) h';cases z:gx σ i with
  |no=>
   rw[z] at h2;exact⟨.no::s,by rw[List.map_cons,z,e],h1,h2⟩
  |fz x=>
   rw[z] at h2;exact⟨.fz x::s,by rw[List.map_cons,z,e],h1,h2⟩
  |op xs=>rw[z] at h2;exact nomatch h2
theorem xN:∀{n:Nat}{s:Sa},uH s=true->uH (IX n s)=true
 |0,_,h=>h
 |n+1,s,h=>xN (n:=n) h
section
variable {K:PySem.W.Frag} {C:Addr} {X:α->Hp->Hp->Hp->Prop} {rt:AV->α}
theorem AJ{Fo Hf H:Hp}{s:Sa}{σ:L2.St}(hs:aJ Hf H)(fo:∀b o,Fo b=some o->H b=some o/\Hf b=none)(hl:σ.length=s.length)(hn:uH s=true)(hf:∀i x,gx s i=.fz x->∃v,σ[i]?=some (some v)/\Rl K C Hf x v):Good K C Fo Hf H s σ:=
 ⟨hs,fo,hl,hf,λi xs e=>absurd e (wN hn i xs),λi _ xs _ _ e=>absurd e (wN hn i xs)⟩
def jL(Hf H:Hp):Hp:=λb=>match Hf b with
 |none=>H b
 |some _=>none
theorem nG{Hf H:Hp}:∀b o,jL Hf H b=some o->H b=some o/\Hf b=none:=λb o h=>by
 unfold jL at h;cases e:Hf b with
 |none=>rw[e] at h;exact⟨h,rfl⟩
 |some u=>rw[e] at h;exact nomatch h
theorem sU{Hf H:Hp}{b:Addr}(e:Hf b=none):jL Hf H b=H b:=by unfold jL;rw[e]
theorem eF{Hf H bL H':Hp}(hs:aJ Hf H)(s1:aJ Hf bL)(s2:aJ bL H')(h:∀b o,jL Hf H b=some o->H' b=some o/\bL b=none):aJ H H'/\∀b,Hf b=none->H b≠none->bL b=none:=by
 refine⟨λb o e=>?_,λb e n=>?_⟩
 ·cases z:Hf b with
  |none=>exact(h b o (by rw[sU z];exact e)).1
  |some u=>
   have:=hs _ _ z;rw[e] at this;cases this;exact s2 _ _ (s1 _ _ z)
 ·cases z:H b with
  |none=>exact absurd z n
  |some o=>exact(h b o (by rw[sU e];exact z)).2
theorem kA{own:List Str}{n:Nat}{fr:List Nat}{ie:eE α}{ti:TI}{ge:J9 α}{tg:TG}{e:Ev α}{te:TE}(hn:n=own.length)(hi:uA K C X ie ti)(hg:K2 K C ge tg)(he:bR K C (λ_ _ _ _=>True) e te):sP K C X (mV n fr ie ge e) (vN own fr ti tg te):=by
 intro bE k r h Fo Hf H σ g hx Q q;refine hi _ _ _ h Fo Hf H σ g hx _ λxs mE J bO H1 h1 s1 g1 wk=>?_;obtain⟨US,h1⟩:=qi h1;obtain⟨s,hs,QR,h2⟩:=AI h1;intro D hD;obtain⟨d1,d2⟩:=g1.nil hD;have d3:=g1.sO hD;refine⟨λi m bQ H2=>∃s2 cM pre vQ,m=xs.length-i/\i<=xs.length/\aJ bO cM/\Good K C Fo cM H2 mE σ/\cM D=none/\H2 D=some (.lst vQ)/\d9 K C cM pre vQ/\pre.length=i/\
  bQ.length=s2.length/\uH s2=true/\(∀j x,gx s2 j=.fz x->∃v,bQ[j]?=some (some v)/\Rl K C cM x v)/\QQ ge e (xs.drop i) s2 (λys=>k (pre++ys) mE)=some r,
  ⟨_,IX n s,bO,[],[],rfl,Nat.zero_le _,aJ.fO _,g1.side d1 d2 d3 _,d1,aE,.nil,rfl,?_,xN QR,λj x ej=>?_,h2⟩,?_⟩
 ·rw[sT,hs];unfold i6;rw[List.length_append,List.length_append,List.length_replicate,List.length_replicate,List.length_map,List.length_map,hn]
 ·rw[sT,hs,j7] at ej;by_cases hj:j<n
  ·rw[List.getElem?_append_left (by rw[List.length_replicate];exact hj),List.getElem?_replicate,if_pos hj] at ej;exact nomatch ej
  ·rw[List.getElem?_append_right (by rw[List.length_replicate];lia),List.length_replicate,List.getElem?_map] at ej;cases z:fr[j-n]? with
   |none=>rw[z] at ej;exact nomatch ej
   |some i=>
    rw[z] at ej;obtain⟨v,e1,e2⟩:=g1.fz i x ej;refine⟨v,?_,e2⟩;unfold i6;rw[List.getElem?_append_right (by rw[List.length_replicate];lia),List.length_replicate,List.getElem?_map,<-hn,z];show some ((σ[i]?).join)=_;rw[e1];rfl
 ·rintro i m bQ H2 ⟨s2,cM,pre,vQ,rfl,Zo,J',g2,d4,d5,rl,pe,R0,SI,UT,h3⟩;obtain⟨w1,w2⟩:=wk cM H2 J' g2.sub;by_cases nz:i<xs.length
  ·obtain⟨go,yl⟩:=w1 i xs[i] (List.getElem?_eq_getElem nz);rw[List.drop_eq_getElem_cons nz] at h3;refine .inr ⟨go,λx H3 y=>?_⟩;have key:∃jB,aJ cM jB/\Good K C Fo jB H3 mE σ/\Rl K C jB xs[i] x/\jB D=none/\H3 D=some (.lst vQ):=by
    rcases yl x H3 y with⟨rfl,rl⟩|⟨p',ys,vs,e1,e2,e3,e4,e5⟩
    ·exact⟨cM,aJ.fO _,g2,rl,d4,d5⟩
    ·subst e2 e3;rw[e4];have sm:aJ cM (upd cM p' (.tup vs)):=aJ.new (g2.nil e1).1 _;have ne:D≠p':=aW d5 e1;exact⟨_,sm,g2.new e1 _,.tup (.inl (.inl aE)) (e5.mono sm),by rw[ay ne];exact d4,by rw[ay ne];exact d5⟩
   obtain⟨jB,Ka,g3,UU,d6,d7⟩:=key;have gi:Good K C (jL jB H3) jB H3 s2 bQ:=AJ g3.sub nG R0 SI λj z ej=>by
    obtain⟨v,a1,a2⟩:=UT j z ej;exact⟨v,a1,a2.mono Ka⟩
   refine hg _ _ _ _ h3 _ jB H3 bQ x gi UU _ λs4 qh h4 g4=>?_;refine he _ _ _ h4 _ jB H3 qh g4 (λ_ _ _ _=>trivial) _ λy s5 v uh H5 h5 Lq g5 V8=>?_;obtain⟨c5,h6⟩:=cx h5;have EJ:H5 D=some (.lst vQ)/\uh D=none:=g5.fo D _ (by rw[sU d6];exact d7);obtain⟨k1,k2⟩:=eF g3.sub Lq g5.sub g5.fo;have g6:Good K C Fo uh H5 mE σ:=g3.call k1 Lq g5.sub k2;have SJ:=rl.mono (aJ.trans' Ka Lq);refine⟨vQ,EJ.1,Nat.lt_of_lt_of_le (by rw[rl.length];lia:vQ.length<1000) (cR (Nat.le_refl _)),xs.length-(i+1),by lia,s5,uh,pre++[y],_,rfl,nz,aJ.trans' J' (aJ.trans' Ka Lq),g6.side EJ.2 d2 d3 _,EJ.2,aE,SJ.append (.cons V8 .nil),by rw[List.length_append,List.length_singleton,pe],g5.len,c5,g5.fz,?_⟩;have e:(λys=>k (pre++[y]++ys) mE)=λys=>k (pre++y::ys) mE:=by
    funext ys
    rw[List.append_assoc];rfl
   rw[e];exact h6
  ·obtain rfl:i=xs.length:=by lia
   rw[List.drop_length] at h3;have NA:k (pre++[]) mE=some r:=h3;rw[List.append_nil] at NA;exact .inl ⟨w2,q _ _ _ _ _ _ NA (aJ.trans' s1 J') g2 ⟨d4,d2,d5,rl,d3⟩⟩
end
def X0(x:AV)(k:AV->AV->AV->Option α):Option α:=AV.casesOn x none (λ_=>none) (λ_=>none) (λ_=>none) (λ_=>none) (λ_=>none) k
theorem EK{x:AV}{k:AV->AV->AV->Option α}{r:α}(h:X0 x k=some r):∃p q w,x=.root p q w/\k p q w=some r:=by
 cases x<;>first|exact⟨_,_,_,rfl,h⟩|exact nomatch h
def NB(a:Ev α):Ev α:=λσ k=>a σ λx bc=>X0 x λp _ _=>k p bc
def zR(a:Ev α):Ev α:=λσ k=>a σ λx bc=>X0 x λ_ q _=>k q bc
def eFw(a:Ev α):Ev α:=λσ k=>a σ λx bc=>X0 x λ_ _ w=>k w bc
def three(xs:List AV)(k:AV->AV->AV->Option α):Option α:=List.rec none (λx r _=>CV.two r λy z=>k x y z) xs
theorem Lr{xs:List AV}{k:AV->AV->AV->Option α}{r:α}(h:three xs k=some r):∃x y z,xs=[x,y,z]/\k x y z=some r:=by
 match xs,h with
 |x::rest,h=>
  obtain⟨y,z,rfl,h⟩:=iw (xs:=rest) (k:=λy z=>k x y z) h;exact⟨x,y,z,rfl,h⟩
def V9(ar:eE α):Ev α:=λσ k=>ar σ λas bc=>three as λp q w=>k (.root p q w) bc
def pA(C:Addr):Sp:=λvs H Q _=>∃(x dx:Addr)(v1 v2 v3:V),vs=[.ref x,v1,v2,v3]/\H x=some (.ins C dx [])/\∀H',(∀c,c≠x->H' c=H c)->H' x=some (.ins C dx [("poly",v1),("pair",v2),("weight",v3)])->Q .dH H'
section
variable {K:PySem.W.Frag} {C:Addr} {X:α->Hp->Hp->Hp->Prop} {rt:AV->α} {a b:Ev α} {ta tb:TE} {ar:eE α} {tr:TA}
theorem d9.three{H:Hp}{x y z:AV}{vs:List V}(h:d9 K C H [x,y,z] vs):∃v w u,vs=[v,w,u]/\Rl K C H x v/\Rl K C H y w/\Rl K C H z u:=by
 cases h with
 |cons h t=>
  obtain⟨w,u,rfl,h2,h3⟩:=d9.two t;exact⟨_,_,_,rfl,h,h2,h3⟩
theorem nH(hc:B9 K C)(hn:jI K C "poly")(ha:bR K C X a ta):bR K C X (NB a) (yV K ta "poly"):=by
 intro bE k r h Fo Hf H σ g hx Q q;refine ha _ _ _ h Fo Hf H σ g hx _ λx bc v bO H1 h1 s1 g1 r1=>?_;obtain⟨p,p2,w,rfl,h2⟩:=EK h1;cases r1 with
 |root e1 e2 e3 e4=>exact⟨_,C,_,_,_,rfl,g1.sub _ _ e1,hc,hn,rfl,q _ _ _ _ _ h2 s1 g1 e2⟩
theorem f7(hc:B9 K C)(hn:jI K C "pair")(ha:bR K C X a ta):bR K C X (zR a) (yV K ta "pair"):=by
 intro bE k r h Fo Hf H σ g hx Q q;refine ha _ _ _ h Fo Hf H σ g hx _ λx bc v bO H1 h1 s1 g1 r1=>?_;obtain⟨p,p2,w,rfl,h2⟩:=EK h1;cases r1 with
 |root e1 e2 e3 e4=>exact⟨_,C,_,_,_,rfl,g1.sub _ _ e1,hc,hn,rfl,q _ _ _ _ _ h2 s1 g1 e3⟩
theorem Ls(hc:B9 K C)(hn:jI K C "weight")(ha:bR K C X a ta):bR K C X (eFw a) (yV K ta "weight"):=by
 intro bE k r h Fo Hf H σ g hx Q q;refine ha _ _ _ h Fo Hf H σ g hx _ λx bc v bO H1 h1 s1 g1 r1=>?_;obtain⟨p,p2,w,rfl,h2⟩:=EK h1;cases r1 with
 |root e1 e2 e3 e4=>exact⟨_,C,_,_,_,rfl,g1.sub _ _ e1,hc,hn,rfl,q _ _ _ _ _ h2 s1 g1 e4⟩
theorem AK{E:XK}(ha:gm K C X ar tr):bR K C X (V9 ar) (B_ C (pA C) [] E tr):=by
 intro bE k r h Fo Hf H σ g hx Q q;refine ha _ _ _ h Fo Hf H σ g hx _ λas bc vs bO H1 h1 s1 g1 r1=>?_;obtain⟨p,p2,w,rfl,h2⟩:=Lr h1;obtain⟨v1,v2,v3,rfl,f1,f2,f3⟩:=r1.three;intro x dx hx Oy jJ;refine⟨x,dx,v1,v2,v3,rfl,aE,λH' k1 k2=>⟨rfl,?_⟩⟩;have eH:H'=upd (upd H1 dx (.own x)) x (.ins C dx [("poly",v1),("pair",v2),("weight",v3)]):=by
  funext c
  by_cases z:c=x
  ·subst z;rw[aE];exact k2
  ·rw[ay z,k1 c z,ay z]
 subst eH;have g2:=g1.new Oy (.own x);have X1:upd H1 dx (.own x) x=none:=by rw[ay jJ.symm];exact hx
 have g3:=g2.new X1 (.ins C dx [("poly",v1),("pair",v2),("weight",v3)]);have sa:aJ bO (upd bO dx (.own x)):=aJ.new (g1.nil Oy).1 _;have sb:=aJ.trans' sa (aJ.new (g2.nil X1).1 (.ins C dx [("poly",v1),("pair",v2),("weight",v3)]));exact q _ _ _ _ _ h2 (aJ.trans' s1 sb) g3 (.root aE (f1.mono sb) (f2.mono sb) (f3.mono sb))
end
abbrev Fn:=List AV->O
def aM(K:PySem.W.Frag)(C:Addr)(F:Fn)(m:Nat):Sp:=λvs H Q _=>∃Hf as r,aJ Hf H/\d9 K C Hf as vs/\as.length=m/\F as=some r/\
 ∀v bL H',aJ H H'->aJ Hf bL->aJ bL H'->(∀b,Hf b=none->H b≠none->bL b=none)->Rl K C bL r v->Q v H'
def aF(F:Fn)(m:Nat)(ar:eE α):Ev α:=λσ k=>ar σ λas bc=>eX (Nat.beq (qF as) m) (Option.rec none (λr=>k r bc) (F as)) none
def V_(n:Nat)(as:List AV):Sa:=List.rec (Nat.rec [] (λ_ ih=>.no::ih) n) (λx _ ih=>.fz x::ih) as
def bY(n:Nat)(s:cZ AV):Fn:=λas=>s (V_ n as) λ_=>some .dH
theorem pB:∀(n:Nat)(as:List AV),V_ n as=as.map .fz++List.replicate n .no
 |0,[]=>rfl
 |n+1,[]=>congrArg (SV.no::·) (pB n [])
 |n,x::as=>congrArg (SV.fz x::·) (pB n as)
section
variable {K:PySem.W.Frag} {C:Addr} {X:α->Hp->Hp->Hp->Prop} {rt:AV->α} {a b:Ev α} {ta tb:TE} {ar:eE α} {tr:TA}
theorem s_call{F:Fn}{m:Nat}{E:XK}(ha:gm K C X ar tr):bR K C X (aF F m ar) (pb (aM K C F m) [] E tr):=by
 intro bE k r h Fo Hf H σ g hx Q q;refine ha _ _ _ h Fo Hf H σ g hx _ λas bc vs bO H1 h1 s1 g1 r1=>?_;obtain⟨c,h2⟩:=cx h1;have c:=Nat.eq_of_beq_eq_true c;rw[i9] at c;cases e:F as with
 |none=>rw[e] at h2;exact nomatch h2
 |some y=>
  rw[e] at h2;rw[List.append_nil];exact⟨bO,as,y,g1.sub,r1,c,e,λv bL H' k1 k2 k3 k4 rl=>q _ _ _ _ _ h2 (aJ.trans' s1 k2) (g1.call k1 k2 k3 k4) rl⟩
theorem bb{s:cZ AV}{t:TS}{m n:Nat}{N:List Str}(hs:kL K C (λ_ _ _ _=>True) (λx=>x) s t)(hN:N.length=m+n){vs:List V}{H:Hp}{Q:VK}{E:XK}(h:aM K C (bY n s) m vs H Q E):t {nx:=λ_ H'=>Q .dH H',rt:=Q} (L2.start N vs) H:=by
 obtain⟨Hf,as,r,h1,h2,h3,h4,q⟩:=h;have hvl:=h2.length;have g:Good K C (jL Hf H) Hf H (V_ n as) (L2.start N vs):=by
  refine⟨h1,nG,?_,λi x e=>?_,λi xs e=>?_,λi j xs ys a e=>?_⟩
  ·rw[pB];unfold L2.start;rw[List.length_append,List.length_append,List.length_map,List.length_map,List.length_replicate,List.length_replicate];lia
  ·rw[pB,j7] at e;by_cases hi:i<as.length
   ·rw[List.getElem?_append_left (by rw[List.length_map];exact hi),List.getElem?_map,List.getElem?_eq_getElem hi] at e;cases e;obtain⟨v,e1,e2⟩:=h2.get (List.getElem?_eq_getElem hi);refine⟨v,?_,e2⟩;unfold L2.start;rw[List.getElem?_append_left (by rw[List.length_map];lia),List.getElem?_map,e1];rfl
   ·rw[List.getElem?_append_right (by rw[List.length_map];lia),List.length_map,List.getElem?_replicate] at e;split at e<;>exact nomatch e
  all_goals
   rw[pB,j7] at e;by_cases hi:i<as.length
   ·rw[List.getElem?_append_left (by rw[List.length_map];exact hi),List.getElem?_map,List.getElem?_eq_getElem hi] at e;exact nomatch e
   ·rw[List.getElem?_append_right (by rw[List.length_map];lia),List.length_map,List.getElem?_replicate] at e;split at e<;>exact nomatch e
 refine hs _ _ _ h4 _ Hf H _ g (λ_ _ _ _=>trivial) _ (λfY cH bL H' e s1 g1=>?_) λx v bL H' ex s1 f1 rl=>?_
 ·cases e;obtain⟨k1,k2⟩:=eF h1 s1 g1.sub g1.fo;exact q _ _ _ k1 s1 g1.sub k2 .dH
 ·obtain rfl:r=x:=ex;obtain⟨k1,k2⟩:=eF h1 s1 f1.1 f1.2;exact q _ _ _ k1 s1 f1.1 k2 rl
theorem aP{F:Fn}{m:Nat}{vs:List V}{H:Hp}{Q:VK}{E:XK}(h:aM K C F m vs H Q E):vs.length=m:=by
 obtain⟨Hf,as,r,h1,h2,h3,_⟩:=h;rw[h2.length,h3]
end
end CV
namespace CV
open PySem PySem.Spec PyProof.Rows L2
variable {α:Type}
theorem AL:∀{xs ys:List AV}{i:Nat}{v:AV},(Lo xs ys)[i]?=some v->∃x y,xs[i]?=some x/\ys[i]?=some y/\v=.tup [x,y]
 |[],_,_,_,h=>by simp[Lo] at h
 |_::_,[],_,_,h=>by simp[Lo] at h
 |x::xs,y::ys,0,v,h=>by simp[Lo] at h;exact⟨x,y,rfl,rfl,h.symm⟩
 |x::xs,y::ys,i+1,v,h=>by
  obtain⟨a,b,h1,h2,h3⟩:=AL (xs:=xs) (ys:=ys) (i:=i) (v:=v) (by simpa[Lo] using h);exact⟨a,b,by simpa using h1,by simpa using h2,h3⟩
theorem AM:∀(xs ys:List AV),(Lo xs ys).length=min xs.length ys.length
 |[],ys=>by simp[Lo]
 |_::_,[]=>by simp[Lo]
 |x::xs,y::ys=>by
  show(Lo xs ys).length+1=_;rw[AM xs ys,List.length_cons,List.length_cons];lia
section
variable {K:PySem.W.Frag} {C:Addr} {X:α->Hp->Hp->Hp->Prop} {rt:AV->α} {ar:eE α} {tr:TA}
theorem V'(ha:gm K C X ar tr):uA K C X (iZp ar) (VP K tr):=by
 intro bE k r h Fo Hf H σ g hx R q;refine ha _ _ _ h Fo Hf H σ g hx _ λas bc vs bO H1 h1 s1 g1 r1=>?_;obtain⟨x,y,rfl,h2⟩:=iw h1;obtain⟨v,w,rfl,r2,r3⟩:=r1.two;obtain⟨xs,rfl,h3⟩:=iM h2;obtain⟨ys,rfl,h4⟩:=iM h3;obtain⟨p,ws,rfl,e1,e2⟩:=r2.oR;obtain⟨p',Kb,rfl,e3,e4⟩:=r3.oR;rw[EH] at h4;refine⟨p,p',rfl,⟨ws,.inl (.inl (g1.sub _ _ e1))⟩,⟨Kb,.inl (.inl (g1.sub _ _ e3))⟩,q _ _ _ _ _ h4 s1 g1 λcM H2 s2 s3=>?_⟩;have f1:ft K H2 p ws:=.inl (.inl (s3 _ _ (s2 _ _ e1)));have f2:ft K H2 p' Kb:=.inl (.inl (s3 _ _ (s2 _ _ e3)));refine⟨λi v hv=>?_,⟨ws,Kb,f1,f2,?_⟩⟩
 ·obtain⟨x,y,k1,k2,rfl⟩:=AL hv;obtain⟨u,h5,h6⟩:=e2.get k1;obtain⟨u',Wa,Zq⟩:=e4.get k2;refine⟨⟨ws,Kb,u,u',f1,f2,h5,Wa⟩,λx H3⟨p2,y1,y2,h7,h8,h9,QO,SK⟩=>.inr ⟨p2,_,_,h7,h9,h8,rfl,?_⟩⟩;have t1:=QO ws f1;have t2:=SK Kb f2;rw[h5] at t1;cases t1;rw[Wa] at t2;cases t2;exact .cons (h6.mono s2) (.cons (Zq.mono s2) .nil)
 ·rw[e2.length,e4.length,AM];lia
end
def bP:Fn:=λas=>two as λx y=>oQ x λi=>oQ y λj=>fI (.ofNat (Nat.gcd (IT i) (IT j))) λn=>some (.int n)
theorem SM{K:PySem.W.Frag}{C:Addr}{vs:List V}{H:Hp}{Q:VK}{E:XK}(h:aM K C bP 2 vs H Q E):∃a b:Int,vs=[.int a,.int b]/\Q (.int ((Int.gcd a b:Nat):Int)) H:=by
 obtain⟨Hf,as,r,h1,h2,h3,h4,q⟩:=h;obtain⟨x,y,rfl,h5⟩:=iw h4;obtain⟨v,w,rfl,r2,r3⟩:=h2.two;obtain⟨i,rfl,h6⟩:=cg h5;obtain⟨j,rfl,h7⟩:=cg h6;rw[mS,qV,qV] at h7;cases r2;cases r3;cases h7;exact⟨i,j,rfl,q _ Hf H (aJ.fO _) (aJ.fO _) h1 (λb e _=>e) .int⟩
end CV
namespace L2
open PySem PySem.Spec PyProof.Rows
section
variable {X:Cx}
def CP:V->List V->Hp->VK->Prop:=λx vs H Q=>∃z,x=.str z/\vs=[]/\Q (.bl (Txt.isdigit z)) H
theorem EL:Nx X "str.isdigit" CP:=by
 intro pins s σ H x vs v us Q I rx rv h;obtain⟨z,rfl,rfl,q⟩:=h;obtain⟨t,rfl⟩:=rx;cases rv;exact SC.isdigit ⟨.bl _,H,I,rfl,q⟩
def G9:V->List V->Hp->VK->Prop:=λx vs H Q=>(∃z y,x=.str z/\vs=[.str y]/\Q (.bl (Txt.startswith z y)) H)\/∃z y i,x=.str z/\vs=[.str y,.int i]/\Q (.bl (Txt.startswith3 z y i)) H
theorem jM:Nx X "str.startswith" G9:=by
 intro pins s σ H x vs v us Q I rx rv h;rcases h with⟨z,y,rfl,rfl,q⟩|⟨z,y,i,rfl,rfl,q⟩
 ·obtain⟨t,rfl⟩:=rx;obtain⟨u,rfl,t',rfl⟩:=vals1 rv;exact SC.startswith ⟨.bl _,H,I,rfl,q⟩
 ·obtain⟨t,rfl⟩:=rx;obtain⟨u1,u2,rfl,⟨t1,rfl⟩,⟨t2,rfl⟩⟩:=vals2 rv;exact SC.startswith3 ⟨.bl _,H,I,rfl,q⟩
def EM:V->List V->Hp->VK->Prop:=λx vs H Q=>∃z y,x=.str z/\vs=[.str y]/\z.length<=sizeLine/\Q (.str (Txt.stripChars z y)) H
theorem Lu:Nx X "str.strip" EM:=by
 intro pins s σ H x vs v us Q I rx rv h;obtain⟨z,y,rfl,rfl,hz,q⟩:=h;obtain⟨t,rfl⟩:=rx;obtain⟨u,rfl,t',rfl⟩:=vals1 rv;exact SC.stripChars (λt' k=>⟨.str _,H,I.tok _,⟨_,rfl⟩,q⟩) hz
theorem xO:∀{ys:List Str}{us:List Value},Vals (ys.map V.str) us->StrsAre us ys
 |[],us,r=>by rw[List.map_nil] at r;cases r;exact .nil
 |y::ys,us,r=>by
  rw[List.map_cons] at r;cases r with
  |cons r1 r2=>
   obtain⟨t,rfl⟩:=r1;exact .cons y t (xO r2)
def rJoin(K:PySem.W.Frag):V->List V->Hp->VK->Prop:=λx vs H Q=>∃(z:Str)(p:Addr)(ys:List Str),x=.str z/\vs=[.ref p]/\ft K H p (ys.map V.str)/\(ys.map (·.length)).sum+ys.length*z.length<=16777216/\Q (.str (Txt.join z ys)) H
theorem Oz:Nx X "str.join" (rJoin X.K):=by
 intro pins s σ H x vs v us Q I rx rv h;obtain⟨z,p,ys,rfl,rfl,hp,hz,q⟩:=h;obtain⟨t,rfl⟩:=rx;obtain⟨u,rfl,r1⟩:=vals1 rv;cases r1;obtain⟨bB,r,pl,UM⟩:=I.list hp;exact join_list pl.isList (xO r) hz λt' k=>⟨.str _,H,I.tok _,⟨_,rfl⟩,q⟩
theorem sV:ll X (.type "int") (λxs H Q=>∃z n,xs=[.str z]/\intText? z=some n/\z.length<=640/\Q (.int n) H):=by
 intro pins s σ H xs us Q I r h;obtain⟨z,n,rfl,hn,hz,q⟩:=h;obtain⟨u,rfl,t,rfl⟩:=vals1 r;exact PySem.W.KIN.call_text hn hz ⟨.int n,H,I.tok _,⟨_,rfl⟩,q⟩
def Wb:V->Option Int->Option Int->Hp->VK->Prop:=λx lo hi H Q=>∃z,x=.str z/\z.length<=sizeLine/\Q (.str (Txt.slice z lo hi)) H
theorem AN:YJ X Wb:=by
 intro pins s σ H x v vl vu lo hi sl Q I rx hs pl pu h;obtain⟨z,rfl,hz,q⟩:=h;obtain⟨t,rfl⟩:=rx;refine⟨"str",_,F.slot_str_getitem.lookup,typeIs_str _ _ _,?_⟩;have fin:∀t' k,EP X pins σ Q (.str (Txt.slice z lo hi) t') {s with toks:=k}:=λt' k=>⟨.str _,H,I.tok _,⟨_,rfl⟩,q⟩;cases pl with
 |none=>
  cases pu with
  |none=>exact wpAny_getItem_str_slice (l:=none) (u:=none) (st:=none) hs rfl (post_val_or_str ⟨Nat.le_trans (Txt.slice_le z _ _) hz,fin⟩)
  |int j uj=>exact wpAny_getItem_str_slice (l:=none) (u:=some (j,uj)) (st:=none) hs rfl (post_val_or_str ⟨Nat.le_trans (Txt.slice_le z _ _) hz,fin⟩)
 |int i ui=>
  cases pu with
  |none=>exact wpAny_getItem_str_slice (l:=some (i,ui)) (u:=none) (st:=none) hs rfl (post_val_or_str ⟨Nat.le_trans (Txt.slice_le z _ _) hz,fin⟩)
  |int j uj=>exact wpAny_getItem_str_slice (l:=some (i,ui)) (u:=some (j,uj)) (st:=none) hs rfl (post_val_or_str ⟨Nat.le_trans (Txt.slice_le z _ _) hz,fin⟩)
end
end L2
namespace SF
open PySem
abbrev S(l:List Nat):Str:=⟨l.toArray⟩
theorem Lv(z:Str):S z.cps.toList=z:=by cases z;rfl
def X3(n:Nat):List Nat:=(Nat.toDigits 10 n).map Char.toNat
theorem OA(n:Nat):(Str.ofString (toString ((n:Nat):Int)):Str)=S (X3 n):=by
 rw[<-Lv (Str.ofString _)];congr 1;rw[PySem.W.KIN.signs_num];rfl
theorem OB(n:Nat)(h:n≠0):(Str.ofString (toString (-(n:Int))):Str)=S (45::X3 n):=by
 obtain⟨k,rfl⟩:=Nat.exists_eq_succ_of_ne_zero h;have e:toString (-((k+1:Nat):Int))="-"++toString ((k+1:Nat):Int):=by
  show Int.repr (Int.negSucc k)="-"++Int.repr (Int.ofNat (k+1));rfl
 rw[<-Lv (Str.ofString _)];congr 1;rw[PyProof.Rows.signs_ofString,e,String.toList_append,List.map_append,<-PyProof.Rows.signs_ofString (toString _),PySem.W.KIN.signs_num];rfl
end SF
namespace L2
open PySem PySem.Spec PyProof.Rows
section
variable {X:Cx}
end
end L2
namespace SF
open PySem
end SF
namespace L2
open PySem PySem.Spec PyProof.Rows
section
variable {X:Cx}
def Lw:V->List V->Hp->VK->Prop:=λx vs H Q=>∃z n,x=.str z/\vs=[.int n]/\PadOk n=true/\Q (.str (Txt.zfill z n)) H
theorem xP:Nx X "str.zfill" Lw:=by
 intro pins s σ H x vs v us Q I rx rv h;obtain⟨z,n,rfl,rfl,hp,q⟩:=h;obtain⟨t,rfl⟩:=rx;obtain⟨u,rfl,t',rfl⟩:=vals1 rv;exact SC.zfill hp λt' k=>⟨.str _,H,I.tok _,⟨_,rfl⟩,q⟩
def QS:V->List V->Hp->VK->Prop:=λx vs H Q=>∃z y,x=.str z/\vs=[.str y]/\(y.length==0)=false/\z.length<=sizeLine/\∀p,H p=none->Q (.ref p) (upd H p (.tup [.str (Txt.partition z y).1,.str (Txt.partition z y).2.1,.str (Txt.partition z y).2.2]))
theorem AO:Nx X "str.partition" QS:=by
 intro pins s σ H x vs v us Q I rx rv h;obtain⟨z,y,rfl,rfl,hy,hz,q⟩:=h;obtain⟨t,rfl⟩:=rx;obtain⟨u,rfl,t',rfl⟩:=vals1 rv;have hf:H s.heap.objs.size=none:=I.b_.fresh (Nat.le_refl _);have q':=q _ hf;refine call_meets F.slot_str_partition (typeIs_str _ _ _) F.entry_str_partition (F.args_str_partition_2 _ _) (meets_str_partition z y t t' hy hz) ?_;unfold Txt.partition at q';revert q';cases Builtin.Str.occurrences z y 0 z.length 1 with
 |nil=>
  intro q';exact⟨.ref s.heap.objs.size,_,I.laid (o:=.tup [.str z,.str Str.empty,.str Str.empty]) (t':=s.toks+1) (λb u e=>Heap.get?_push_of_some _ e) (Nat.le_refl _) ⟨by show 3<=sizeLine;unfold sizeLine;decide,_,.cons ⟨_,rfl⟩ (.cons ⟨_,rfl⟩ (.cons ⟨_,rfl⟩ .nil)),⟨_,Heap.get?_push_size _ rfl,rfl,_,rfl⟩⟩,rfl,q'⟩
 |cons i r=>
  intro q';exact⟨.ref s.heap.objs.size,_,I.laid (o:=.tup [.str (Builtin.Str.strSub z 0 i),.str y,.str (Builtin.Str.strSub z (i+y.length) z.length)]) (t':=s.toks+1+1) (λb u e=>Heap.get?_push_of_some _ e) (Nat.le_refl _) ⟨by show 3<=sizeLine;unfold sizeLine;decide,_,.cons ⟨_,rfl⟩ (.cons ⟨_,rfl⟩ (.cons ⟨_,rfl⟩ .nil)),⟨_,Heap.get?_push_size _ rfl,rfl,_,rfl⟩⟩,rfl,q'⟩
end
end L2
namespace SF
open PySem PySem.Spec PyProof.Rows
theorem CQ{c:Nat}:∀{x y r r':List Nat},c∉x->c∉y->x++c::r=y++c::r'->x=y/\r=r'
 |[],[],_,_,_,_,h=>⟨rfl,(List.cons.inj h).2⟩
 |[],b::y,_,_,_,h2,h=>(h2 (by rw[(List.cons.inj h).1];exact List.mem_cons_self)).elim
 |a::x,[],_,_,h1,_,h=>(h1 (by rw[<-(List.cons.inj h).1];exact List.mem_cons_self)).elim
 |a::x,b::y,r,r',h1,h2,h=>by
  obtain⟨e1,e2⟩:=List.cons.inj h;obtain⟨e3,e4⟩:=CQ (x:=x) (y:=y) (λz=>h1 (List.mem_cons_of_mem _ z)) (λz=>h2 (List.mem_cons_of_mem _ z)) e2;exact⟨by rw[e1,e3],e4⟩
theorem xQ(x y:Str):(x++y).cps.toList=x.cps.toList++y.cps.toList:=by
 show(x.cps++y.cps).toList=_;exact Array.toList_append
theorem G_{x y:Str}(h:x.cps.toList=y.cps.toList):x=y:=Str.ext' (Array.toList_inj.mp h)
theorem sW(c:Nat)(x y:Str)(r:List Str):(Str.join ⟨#[c]⟩ (x::y::r)).cps.toList=x.cps.toList++c::(Str.join ⟨#[c]⟩ (y::r)).cps.toList:=by
 show(x++(⟨#[c]⟩:Str)++Str.join ⟨#[c]⟩ (y::r)).cps.toList=_;rw[xQ,xQ,List.append_assoc];rfl
theorem CS(c:Nat):∀(xs ys:List Str),xs≠[]->ys≠[]->(∀p∈xs,c∉p.cps.toList)->(∀p∈ys,c∉p.cps.toList)->Str.join ⟨#[c]⟩ xs=Str.join ⟨#[c]⟩ ys->xs=ys
 |[],_,h,_,_,_,_=>absurd rfl h
 |_,[],_,h,_,_,_=>absurd rfl h
 |[x],[y],_,_,_,_,h=>by rw[show x=y from h]
 |[x],y::y'::r,_,_,hx,_,h=>by
  have e:=congrArg (λz:Str=>z.cps.toList) h;rw[sW] at e;have e:x.cps.toList=_:=e;exact absurd (by rw[e];exact List.mem_append_right _ List.mem_cons_self) (hx x List.mem_cons_self)
 |x::x'::r,[y],_,_,_,hy,h=>by
  have e:=congrArg (λz:Str=>z.cps.toList) h;rw[sW] at e;have e:_=y.cps.toList:=e;exact absurd (by rw[<-e];exact List.mem_append_right _ List.mem_cons_self) (hy y List.mem_cons_self)
 |x::x'::r,y::y'::r',_,_,hx,hy,h=>by
  have e:=congrArg (λz:Str=>z.cps.toList) h;have e:(Str.join ⟨#[c]⟩ (x::x'::r)).cps.toList=(Str.join ⟨#[c]⟩ (y::y'::r')).cps.toList:=e;rw[sW,sW] at e;obtain⟨e1,e2⟩:=CQ (hx x List.mem_cons_self) (hy y List.mem_cons_self) e;rw[G_ e1,CS c (x'::r) (y'::r') (by nofun) (by nofun) (λp hp=>hx p (List.mem_cons_of_mem _ hp)) (λp hp=>hy p (List.mem_cons_of_mem _ hp)) (G_ e2)]
theorem EN(c:Nat){ls:List Str}(h0:ls≠[])(h:∀p∈ls,c∉p.cps.toList):Txt.split (Str.join ⟨#[c]⟩ ls) ⟨#[c]⟩=ls:=by
 refine CS c _ _ (λz=>?_) h0 (StrLaws.split_free _ c) h (StrLaws.join_split _ _);have:=split_pos (Str.join ⟨#[c]⟩ ls) ⟨#[c]⟩;rw[z] at this;exact absurd this (by decide)
theorem CT(c:Nat):∀ls:List Str,(Str.join ⟨#[c]⟩ ls).length<=(ls.map (·.length)).sum+ls.length
 |[]=>Nat.le_refl _
 |[x]=>by
  show x.length<=_;simp
 |x::y::r=>by
  have ih:=CT c (y::r);show(x++(⟨#[c]⟩:Str)++Str.join ⟨#[c]⟩ (y::r)).length<=_;have e:(x++(⟨#[c]⟩:Str)++Str.join ⟨#[c]⟩ (y::r)).length=x.length+1+(Str.join ⟨#[c]⟩ (y::r)).length:=by
   show(x.cps++#[c]++(Str.join ⟨#[c]⟩ (y::r)).cps).size=_;rw[Array.size_append,Array.size_append];rfl
  rw[e,List.map_cons,List.sum_cons,List.length_cons];lia
end SF
namespace L2
open PySem PySem.Spec PyProof.Rows
section
variable {X:Cx}
def Zr(K:PySem.W.Frag):R2:=λx y H Q=>∃(p q:Addr)(xs:List V),x=.ref p/\y=.ref q/\ft K H p xs/\ft K H q []/\Q (.bl (!xs.isEmpty)) H
theorem SN(hu:X.A.units<cLine):qC X (compareOp .NotEq) (Zr X.K):=by
 intro pins s σ H x y v u Q I rx ry h;obtain⟨p,q,xs,rfl,rfl,hp,hq,h⟩:=h;cases rx;cases ry;obtain⟨bB,r,pl,hz⟩:=I.list hp;obtain⟨Cg,r2,NZ,UM⟩:=I.list hq;cases r2
 have hl:=r.length;cases xs with
 |nil=>
  cases r;have z:=SeqAt.RcNeAt.lists (A:=X.A) (s:=s) (e:=λ_=>true) pl.isList NZ.isList rfl hu (λj h1 _=>absurd h1 (by simp));exact z X.prog X.w X.xe _ ⟨.bl false,H,I,rfl,h⟩
 |cons x xs=>
  have z:=SeqAt.RcNeAt.lists_lengths (A:=X.A) (s:=s) pl.isList NZ.isList (by
   rw[List.length_cons] at hl
   cases bB with
   |nil=>simp at hl
   |cons _ _=>simp) hu;exact z X.prog X.w X.xe _ ⟨.bl true,H,I,rfl,h⟩
def Wc(K:PySem.W.Frag):R2:=λx y H Q=>∃(p q:Addr)(ss:List Str),x=.ref p/\y=.ref q/\ft K H p (ss.map V.str)/\ft K H q (ss.map V.str)/\Q (.bl true) H
theorem Lx{xs:List Str}{bB:List Value}(r:Vals (xs.map V.str) bB){j:Nat}(h:j<xs.length)(h':j<bB.length):∃t,bB[j]=Value.str xs[j] t:=by
 have e:(xs.map V.str)[j]?=some (V.str xs[j]):=by rw[List.getElem?_map,List.getElem?_eq_getElem h]<;>rfl
 obtain⟨u,hu,t,rfl⟩:=r.get e;rw[List.getElem?_eq_getElem h'] at hu;exact⟨t,Option.some.inj hu⟩
theorem OC(hu:X.A.units<cLine):qC X (compareOp .Eq) (Wc X.K):=by
 intro pins s σ H x y v u Q I rx ry h;obtain⟨p,q,ss,rfl,rfl,hp,hq,h⟩:=h;cases rx;cases ry;obtain⟨bB,r,pl,hz⟩:=I.list hp;obtain⟨Cg,r2,NZ,UM⟩:=I.list hq;have l1:=r.length;have l2:=r2.length;rw[List.length_map] at l1 l2;refine SeqAt.eq_listAt (e:=λ_=>true) pl.isList NZ.isList (by simp only[List.size_toArray];lia) hu (λj h1 h2=>?_) ?_
 ·simp only[List.size_toArray] at h1 h2;obtain⟨t,e⟩:=Lx r (j:=j) (by lia) h1;obtain⟨t',e'⟩:=Lx r2 (j:=j) (by lia) h2;have z:SeqAt.EqAt X.A.in1 s bB[j] Cg[j] (ss[j]==ss[j]):=by
   rw[e,e'];exact SeqAt.EqAt.str_str _ _ _ _
  rw[beq_self_eq_true] at z;simpa using z
 ·have e:(List.range bB.toArray.size).all (λ_=>true)=true:=by simp
  rw[e];exact⟨.bl _,H,I,rfl,h⟩
end
section
variable {κ:Type} [DecidableEq κ]
def qX(bw:List (κ×V))(k:κ):Option V:=(bw.find? λkv=>decide (kv.1=k)).map (·.2)
def putK(bw:List (κ×V))(k:κ)(v:V):List (κ×V):=
 if(bw.any λkv=>decide (kv.1=k))=true then bw.map (λkv=>if kv.1=k then(kv.1,v) else kv) else bw++[(k,v)]
theorem sX{p:κ×V}{r:List (κ×V)}{k:κ}(e:p.1=k):qX (p::r) k=some p.2:=by simp[qX,List.find?_cons,e]
theorem sY{p:κ×V}{r:List (κ×V)}{k:κ}(e:¬p.1=k):qX (p::r) k=qX r k:=by simp[qX,List.find?_cons,e]
theorem sZ(k:κ):∀bw:List (κ×V),(bw.any λkv=>decide (kv.1=k))=(qX bw k).isSome
 |[]=>rfl
 |p::r=>by
  rw[List.any_cons];by_cases e:p.1=k
  ·simp only[sX e,decide_eq_true e,Bool.true_or,Option.isSome_some]
  ·rw[sY e,decide_eq_false e,Bool.false_or];exact sZ k r
theorem vR(bw:List (κ×V))(k:κ)(v:V):(putK bw k v).length<=bw.length+1:=by
 unfold putK;split
 ·rw[List.length_map];lia
 ·rw[List.length_append,List.length_cons,List.length_nil];lia
theorem Ly{bw:List (κ×V)}{k:κ}(v:V)(h:qX bw k=none):putK bw k v=bw++[(k,v)]:=by
 unfold putK;rw[sZ,h];exact if_neg (by decide)
theorem oY.uI{o:Option V}{u:Option Value}(r:oY o u):o.isSome=u.isSome:=by
 cases o with
 |none=>cases u with
  |none=>rfl
  |some _=>exact(show False from r).elim
 |some _=>cases u with
  |none=>exact(show False from r).elim
  |some _=>rfl
theorem KV.val{bw:List (κ×V)}{vs:List (κ×Value)}(r:KV bw vs)(k:κ):oY (qX bw k) (valueAt vs k):=by
 unfold KV at r
 induction r with
 |nil=>exact True.intro
 |@cons p q ps qs h t ih=>
  obtain⟨h1,h2⟩:=h;by_cases e:p.1=k
  ·have e':q.1=k:=h1.symm.trans e;have b:valueAt (q::qs) k=some q.2:=by simp[valueAt,List.find?_cons,e']
   rw[sX e,b];exact h2
  ·have e':¬q.1=k:=λz=>e (h1.trans z);have b:valueAt (q::qs) k=valueAt qs k:=by simp[valueAt,List.find?_cons,e']
   rw[sY e,b];exact ih
theorem KV.any{bw:List (κ×V)}{vs:List (κ×Value)}(r:KV bw vs)(k:κ):(bw.any λkv=>decide (kv.1=k))=vs.any λkv=>decide (kv.1=k):=by
 unfold KV at r
 induction r with
 |nil=>rfl
 |cons h t ih=>rw[List.any_cons,List.any_cons,ih,h.1]
theorem KV.SO{bw:List (κ×V)}{vs:List (κ×Value)}(r:KV bw vs)(k:κ){y:V}{u:Value}(ry:RelV y u):
 KV (bw.map λkv=>if kv.1=k then(kv.1,y) else kv) (vs.map λkv=>if kv.1=k then(kv.1,u) else kv):=by
 unfold KV at r ⊢
 induction r with
 |nil=>exact .nil
 |@cons p q ps qs h t ih=>
  rw[List.map_cons,List.map_cons];refine .cons ?_ ih;obtain⟨h1,h2⟩:=h;by_cases e:p.1=k
  ·rw[if_pos e,if_pos (h1.symm.trans e)];exact⟨h1,ry⟩
  ·rw[if_neg e,if_neg (λz=>e (h1.trans z))];exact⟨h1,h2⟩
theorem KV.put{bw:List (κ×V)}{vs:List (κ×Value)}(r:KV bw vs)(k:κ){y:V}{u:Value}(ry:RelV y u):KV (putK bw k y) (stored vs k u):=by
 unfold putK stored;rw[r.any k];by_cases e:(vs.any λkv=>decide (kv.1=k))=true
 ·rw[if_pos e,if_pos e];exact r.SO k ry
 ·rw[if_neg e,if_neg e];exact Paired.snoc r ⟨rfl,ry⟩
theorem KV.length{bw:List (κ×V)}{vs:List (κ×Value)}(r:KV bw vs):bw.length=vs.length:=Paired.length r
end
theorem G'{P:Program}{w:World}{k:Key}{u:Value}(r:RelV (kV k) u):(gB P w).is k u=true:=by
 cases k with
 |inl i=>obtain⟨t,e⟩:=(show ∃t,u=Value.int i t from r);subst e;exact BY P w i t
 |inr x=>obtain⟨t,e⟩:=(show ∃t,u=Value.str x t from r);subst e;exact BZ P w x t
theorem zS{P:Program}{w:World}:∀{ks:List Key}{us:List Value},Vals (ks.map kV) us->ItemsAre (gB P w) ks us
 |[],_,r=>by rw[List.map_nil] at r;cases r;exact .nil
 |k::ks,_,r=>by
  rw[List.map_cons] at r;cases r with
  |cons h t=>exact .cons (G' h) (zS t)
abbrev KT(H:Hp):List (List Key×V)->List (List Key×Addr×Value)->Prop:=Paired λp q=>p.1=q.1/\H q.2.1=some (.tup (p.1.map kV))/\RelV p.2 q.2.2
theorem KT.val{H:Hp}{bw:List (List Key×V)}{xs:List (List Key×Addr×Value)}(r:KT H bw xs)(k:List Key):oY (qX bw k) ((atKey xs k).map (·.2)):=by
 induction r with
 |nil=>exact True.intro
 |@cons p q ps qs h t ih=>
  obtain⟨h1,_,h2⟩:=h;by_cases e:p.1=k
  ·have e':q.1=k:=h1.symm.trans e;have b:atKey (q::qs) k=some q.2:=by simp[atKey,List.find?_cons,e']
   rw[sX e,b];exact h2
  ·have e':¬q.1=k:=λz=>e (h1.trans z);have b:atKey (q::qs) k=atKey qs k:=by simp[atKey,List.find?_cons,e']
   rw[sY e,b];exact ih
theorem KT.SO{H:Hp}{bw:List (List Key×V)}{xs:List (List Key×Addr×Value)}(r:KT H bw xs)(k:List Key){y:V}{u:Value}(ry:RelV y u):
 KT H (bw.map λkv=>if kv.1=k then(kv.1,y) else kv) (xs.map (putAt k u)):=by
 induction r with
 |nil=>exact .nil
 |@cons p q ps qs h t ih=>
  rw[List.map_cons,List.map_cons];refine .cons ?_ ih;obtain⟨h1,h2,h3⟩:=h;unfold putAt;by_cases e:p.1=k
  ·rw[if_pos e,if_pos (h1.symm.trans e)];exact⟨h1,h2,ry⟩
  ·rw[if_neg e,if_neg (λz=>e (h1.trans z))];exact⟨h1,h2,h3⟩
theorem KT.put{H:Hp}{bw:List (List Key×V)}{xs:List (List Key×Addr×Value)}(r:KT H bw xs)(k:List Key){b:Addr}{y:V}{u:Value}(hb:H b=some (.tup (k.map kV)))(ry:RelV y u):
 KT H (putK bw k y) (storedH xs k b u):=by
 have e:(bw.any λkv=>decide (kv.1=k))=(atKey xs k).isSome:=by
  rw[sZ,(r.val k).uI,Option.isSome_map]
 unfold putK storedH;rw[e];by_cases q:(atKey xs k).isSome=true
 ·rw[if_pos q,if_pos q];exact r.SO k ry
 ·rw[if_neg q,if_neg q];exact Paired.snoc r ⟨rfl,hb,ry⟩
theorem KT.keeps{H H':Hp}{bw:List (List Key×V)}{xs:List (List Key×Addr×Value)}(r:KT H bw xs)(ht:∀b ys,H b=some (.tup ys)->H' b=some (.tup ys)):KT H' bw xs:=
 Paired.RG r λ_ _ z=>⟨z.1,ht _ _ z.2.1,z.2.2⟩
section
variable {P:Program} {w:World} {H:Hp} {h:Heap} {a:Addr}
theorem QT{u:HO}(ok:lW P w H h)(e:Rd H a u):dX P w H h a u:=e.ok ok
theorem Hd{bw:List (Key×V)}(ok:lW P w H h)(e:Rd H a (.dK bw)):bw.length<=sizeLine/\(a==sysModules)=false/\∃vs,KV bw vs/\h.DictOf (gB P w) a vs:=
 show dX P w H h a (.dK bw) from QT ok e
theorem Wd{bw:List (Key×V)}(ok:lW P w H h)(e:H a=some (.dK bw)):bw.length<=sizeLine/\(a==sysModules)=false/\∃vs,KV bw vs/\h.DictOf (gB P w) a vs:=Hd ok (.inl e)
theorem AQ{ks:List Key}(ok:lW P w H h)(e:H a=some (.tup (ks.map kV))):(tupleKind (gB P w)).is h ks a:=by
 obtain⟨_,bB,r,o,h1,h2,n,h3⟩:=(show dX P w H h a (.tup (ks.map kV)) from ok a _ e);exact⟨o,bB.toArray,n,h1,h2,h3,by simpa using zS r⟩
theorem He{bw:List (List Key×V)}(ok:lW P w H h)(e:Rd H a (.dT bw)):bw.length<=sizeLine/\(a==sysModules)=false/\
 ∃xs,KT H bw xs/\h.DictOfH (tupleKind (gB P w)) a xs:=by
 obtain⟨z,y,xs,r,o,es,ep,h1,h2,h3,h4,h5⟩:=(show dX P w H h a (.dT bw) from QT ok e);refine⟨z,y,xs,r,o,es,ep,h1,h2,h3,h4,λx hx=>?_,h5⟩;have all:∀{l:List (List Key×V)}{m:List (List Key×Addr×Value)},KT H l m->∀x∈m,(tupleKind (gB P w)).is h x.1 x.2.1:=by
  intro l m q
  induction q with
  |nil=>intro x hx;exact nomatch hx
  |@cons p q ps qs hq t ih=>
   intro x hx;rcases List.mem_cons.mp hx with e|hx
   ·subst e;exact AQ ok (by rw[<-hq.1];exact hq.2.1)
   ·exact ih x hx
 exact all r x hx
theorem We{bw:List (List Key×V)}(ok:lW P w H h)(e:H a=some (.dT bw)):bw.length<=sizeLine/\(a==sysModules)=false/\
 ∃xs,KT H bw xs/\h.DictOfH (tupleKind (gB P w)) a xs:=He ok (.inl e)
end
def AR(H:Hp)(a:Addr)(y:V)(r:Option V):Prop:=
 (∃bw k,Rd H a (.dK bw)/\y=kV k/\r=qX bw k)\/∃bw k b,Rd H a (.dT bw)/\y=.ref b/\H b=some (.tup (k.map kV))/\r=qX bw k
def IY(H:Hp)(a:Addr)(y v:V)(H':Hp):Prop:=
 (∃bw k,H a=some (.dK bw)/\y=kV k/\bw.length<sizeLine/\H'=upd H a (.dK (putK bw k v)))\/
 ∃bw k b,H a=some (.dT bw)/\y=.ref b/\H b=some (.tup (k.map kV))/\bw.length<sizeLine/\H'=upd H a (.dT (putK bw k v))
theorem AR.k{H:Hp}{a:Addr}{bw:List (Key×V)}{k:Key}(e:H a=some (.dK bw)):AR H a (kV k) (qX bw k):=.inl ⟨bw,k,.inl e,rfl,rfl⟩
theorem IY.k{H:Hp}{a:Addr}{bw:List (Key×V)}{k:Key}{v:V}(e:H a=some (.dK bw))(hl:bw.length<sizeLine):IY H a (kV k) v (upd H a (.dK (putK bw k v))):=.inl ⟨bw,k,e,rfl,hl,rfl⟩
section
variable {X:Cx} {pins:List (Addr×Obj)} {σ:St} {H:Hp} {s:Shared} {a:Addr} {y v:V} {u r:Value} {o:Option V} {A:Around} {E:Value->Shared->Prop}
theorem Inv.big(I:Inv X pins σ H s):sysModules<s.heap.objs.size:=by
 have h:mainGlobals<s.heap.objs.size:=(I.mod.glob.keeps I.bk).lt;exact Nat.lt_trans (by decide) h
theorem IZ{Q:Value->Shared->Prop}(hu:A.units+1<cLine)(I:Inv X pins σ H s)(g:AR H a y (some v))(ry:RelV y u)(h:∀w' s',Inv X pins σ H s'->RelV v w'->Q w' s'):
 wpAny (model X.prog X.w) A (getItem (.ref a) u) Q E s:=by
 rcases g with⟨bw,k,e,ey,l⟩|⟨bw,k,b,e,ey,eb,l⟩
 ·subst ey;obtain⟨z,hd,vs,rel,dd⟩:=Hd I.b_ e;obtain⟨w',hw,NW⟩:=oY.some_of (v:=v) (o:=valueAt vs k) (by rw[l];exact rel.val k);exact wpAny_getItem_of (G' ry) dd.mapOf hw (h w' _ (I.tok _) NW)
 ·subst ey;cases (show u=Value.ref b from ry);obtain⟨z,hd,xs,rel,dd⟩:=He I.b_ e;obtain⟨w',hw,NW⟩:=oY.some_of (v:=v) (o:=(atKey xs k).map (·.2)) (by rw[l];exact rel.val k);obtain⟨p,hp,QU⟩:=Option.map_eq_some_iff.mp hw;refine wpAny_getItem_heap (tupleKind_room_in1 hu) (AQ I.b_ eb) dd hp ?_;rw[QU];exact h w' _ (I.tok _) NW
theorem OD{Q:Value->Shared->Prop}(hu:A.units+1<cLine)(I:Inv X pins σ H s)(g:AR H a y o)(ry:RelV y u)(h:∀s',Inv X pins σ H s'->Q (.bool (!o.isSome)) s'):
 wpAny (model X.prog X.w) A (compareOp .NotIn u (.ref a)) Q E s:=by
 rcases g with⟨bw,k,e,ey,l⟩|⟨bw,k,b,e,ey,eb,l⟩
 ·subst ey;obtain⟨z,hd,vs,rel,dd⟩:=Hd I.b_ e;refine wpAny_notIn_of (G' ry) hd dd.mapOf ?_;rw[<-(rel.val k).uI,<-l];exact h _ (I.tok _)
 ·subst ey;cases (show u=Value.ref b from ry);obtain⟨z,hd,xs,rel,dd⟩:=He I.b_ e;refine wpAny_notIn_heap (tupleKind_room_in1 hu) (AQ I.b_ eb) hd dd ?_;have q:=(rel.val k).uI;rw[Option.isSome_map] at q;rw[<-q,<-l];exact h _ (I.tok _)
theorem Hh{h':Heap}{t':Nat}{ob:HO}(I:Inv X pins σ H s)(mu:NL (H a))(hs:Heap.SameBut a s.heap h')(he:∃q,h'.get? a=some q)(new:dX X.prog X.w (upd H a ob) h' a ob):
 Inv X pins σ (upd H a ob) {s with heap:=h',toks:=t'}:=
 I.write (x:=a) (e:=a) mu (.inl rfl) (λb q hb z=>(hs.2 b hb).trans z) he new
theorem SQ{P:Program}{w:World}{H':Hp}{h':Heap}{bw:List (Key×V)}{vs:List (Key×Value)}(z:bw.length<=sizeLine)(hd:(a==sysModules)=false)(rel:KV bw vs)(dd:h'.DictOf (gB P w) a vs):
 dX P w H' h' a (.dK bw):=⟨z,hd,vs,rel,dd⟩
theorem I_{H':Hp}{Q:Unit->Shared->Prop}(hu:A.units+1<cLine)(I:Inv X pins σ H s)(g:IY H a y v H')(ry:RelV y u)(rv:RelV v r)(h:∀s',Inv X pins σ H' s'->Q () s'):
 wpAny (model X.prog X.w) A (setItem (.ref a) u r) Q E s:=by
 rcases g with⟨bw,k,e,ey,l,eH⟩|⟨bw,k,b,e,ey,eb,l,eH⟩
 ·subst ey eH;obtain⟨z,hd,vs,rel,dd⟩:=Wd I.b_ e;have hz:vs.length<=sizeLine:=by rw[<-rel.length];exact z
  have hl:(putK bw k v).length<=sizeLine:=by have:=vR bw k v;lia
  refine wpAny_setItem_pairs (hsz:=hz) (G' ry) dd λh' X4 hs=>h _ ?_;have he:∃q,h'.get? a=some q:=let⟨q,_,_,hq,_⟩:=X4;⟨q,hq⟩;exact Hh I (by rw[e];exact True.intro) hs he (SQ hl hd (rel.put k rv) X4)
 ·subst ey eH;cases (show u=Value.ref b from ry);obtain⟨z,hd,xs,rel,dd⟩:=We I.b_ e;have hz:xs.length<=sizeLine:=by rw[<-Paired.length rel];exact z
  have hl:(putK bw k v).length<=sizeLine:=by have:=vR bw k v;lia
  refine wpAny_setItem_heap (hsz:=hz) (tupleKind_room_in1 hu) (AQ I.b_ eb) dd λh' X4 hs=>h _ ?_;obtain⟨q,es,ep,hq,h2,h3,h4,_,h5⟩:=X4;refine Hh I (by rw[e];exact True.intro) hs ⟨q,hq⟩ ⟨hl,hd,_,(rel.put k eb rv).keeps λc ys ec=>?_,q,es,ep,hq,h2,h3,h4,h5⟩;rw[ay (U6 ec e (λz=>nomatch z))];exact ec
end
section
variable {X:Cx} {pins:List (Addr×Obj)} {σ:St} {H:Hp} {s:Shared} {a:Addr} {bw:List (Key×V)} {k:Key} {u:Value} {A:Around} {E:Value->Shared->Prop}
end
def SR(i:Expr):Prop:=∀ov iv,subscripted i false ov iv=operate [ov,iv] (getItem ov iv)
theorem Hi{prog:Program}{w:World}{A:Around}{E:Value->Shared->Prop}{s:Shared}{env:Env}{value slice:Expr}{pos:Pos}{T id:String}{Q:Value->Shared->Prop}(hl:typeLookup (.type T) "__getitem__"=pure (some (.builtin id)))(hs:SR slice)(h:wpAny (model prog w) A (eval value env) (λo cD=>wpAny (model prog w) A (eval slice env) (λi qO=>qO.TypeIs o T/\wpAny (model prog w) A (getItem o i) Q E qO) E cD) E s):
 wpAny (model prog w) A (eval (.Subscript value slice pos) env) Q E s:=by
 refine Subscript_ (wpAny_mono h (λo cD lZ=>wpAny_mono lZ (λi qO SS=>?_) λ_ _ x=>x) λ_ _ x=>x);obtain⟨hT,SS⟩:=SS;unfold subscriptTail;refine wpAny_bind ?_;rw[getitemInPython_of_ne hT.not_modules];refine wpAny_bind (wpAny_specialOf hT hl ?_);have fin:wpAny (model prog w) A (subscripted slice false o i) (λr Wf=>wpAny (model prog w) A (letTemporaryGo value o r >>= λ_=>pure r) Q E Wf) E qO:=by
  rw[hs o i];exact wpAny_operating (wpAny_mono SS (λr Wf Zs=>wpAny_bind (wpAny_letTemporaryGo (wpAny_pure Zs))) λ_ _ x=>x)
 first
  |exact wpAny_pure (wpAny_bind fin)
  |exact wpAny_bind (wpAny_pure (wpAny_bind fin))
  |exact wpAny_bind fin
theorem CU{X:Cx}{pins:List (Addr×Obj)}{σ:St}{H:Hp}{s:Shared}{a:Addr}{y:V}{o:Option V}(I:Inv X pins σ H s)(g:AR H a y o):s.TypeIs (.ref a) "dict":=by
 rcases g with⟨bw,k,e,_,_⟩|⟨bw,k,b,e,_,_,_⟩
 ·obtain⟨_,_,vs,_,dd⟩:=Hd I.b_ e;exact dd.typeIs
 ·obtain⟨_,_,xs,_,dd⟩:=He I.b_ e;exact dd.typeIs
def Wg(td ty:TE):TE:=λσ H Q=>td σ H λx H1=>ty σ H1 λy H2=>∃a v,x=.ref a/\AR H2 a y (some v)/\Q v H2
def Hj(ty td:TE):TE:=λσ H Q=>ty σ H λy H1=>td σ H1 λx H2=>∃a o,x=.ref a/\AR H2 a y o/\Q (.bl (!o.isSome)) H2
def QV(td ty tv:TE):TS:=λD σ H=>tv σ H λv H1=>td σ H1 λx H2=>ty σ H2 λy H3=>∃a H4,x=.ref a/\IY H3 a y v H4/\D.nx σ H4
section
variable {X:Cx} {o i e value:Expr} {pos pos' YH:Pos} {td ty tv:TE}
theorem OE(hu:X.A.units+1<cLine)(ho:PE X o td)(hi:PE X i ty)(hs:SR i):PE X (.Subscript o i pos) (Wg td ty):=by
 intro pins s σ H Q I h;refine Hi PySem.F.slot_dict_getitem.lookup hs (cB (ho pins s σ H _ I h) λu s1⟨x,H1,I1,rx,q1⟩=>cB (hi pins s1 σ H1 _ I1 q1) λiv s2⟨y,H2,I2,ry,a,v,ex,g,q2⟩=>?_);subst ex;obtain rfl:u=Value.ref a:=rx;exact⟨CU I2 g,IZ hu I2 g ry λw' s3 I3 NW=>⟨v,H2,I3,NW,q2⟩⟩
theorem Ja(hu:X.A.units+1<cLine)(hi:PE X i ty)(ho:PE X o td):PC X .NotIn i o (Hj ty td):=by
 intro pins s σ H Q I h;refine cB (hi pins s σ H _ I h) λiv s1⟨y,H1,I1,ry,q1⟩=>cB (ho pins s1 σ H1 _ I1 q1) λu s2⟨x,H2,I2,rx,a,ov,ex,g,q2⟩=>?_;subst ex;obtain rfl:u=Value.ref a:=rx;exact OD hu I2 g ry λs3 I3=>⟨.bl (!ov.isSome),H2,I3,rfl,q2⟩
theorem OF(hu:X.A.units+1<cLine)(ho:PE X o td)(hi:PE X i ty)(hv:PE X value tv)(hs:swapsWith value (some (.Subscript o i pos')) pos.line X.env=pure false):
 PS X (.Assign [.Subscript o i pos'] value pos) (QV td ty tv):=by
 intro pins s σ H D I h;refine wpAny_Assign_Subscript (cB (hv pins s σ H _ I h) λr s1⟨v,H1,I1,rv,q1⟩=>cB (ho pins s1 σ H1 _ I1 q1) λu s2⟨x,H2,I2,rx,q2⟩=>cB (hi pins s2 σ H2 _ I2 q2) λiv s3⟨y,H3,I3,ry,a,H4,ex,g,q3⟩=>?_) hs;subst ex;obtain rfl:u=Value.ref a:=rx;exact I_ hu I3 g ry rv λs4 I4=>⟨σ,H4,I4,q3⟩
end
theorem Lz{P:Program}{w:World}{H:Hp}(h:Heap)(hb:sysModules<h.objs.size):dX P w H (h.push {cls:=.type "dict",data:=.dict #[]}) h.objs.size (.dK []):=
 ⟨Nat.zero_le _,beq_eq_false_iff_ne.mpr (Ne.symm (Nat.ne_of_lt hb)),[],.nil,Heap.DictOf.new h⟩
def SU:TE:=λ_ H Q=>∀p,H p=none->Q (.ref p) (upd H p (.dK []))
section
variable {X:Cx} {pos:Pos}
theorem LA:PE X (.Dict [] [] pos) SU:=λpins s σ H Q I h=>
 wpAny_Dict_empty ⟨.ref s.heap.objs.size,_,I.laid (a:=s.heap.objs.size) (o:=.dK []) (t':=s.toks) (λ_ _ q=>Heap.get?_push_of_some _ q) (Nat.le_refl _) (Lz s.heap I.big),rfl,h _ (I.b_.fresh (Nat.le_refl _))⟩
end
end L2
namespace SF
open PySem PySem.Spec PyProof.Rows L2 PySem.W
def SW(P:Program)(w:World)(K:Frag)(a:Addr)(bw:List (Str×Value)):Prop:=(a==sysModules)=false/\∃o es ep,K.lookup a=some o/\o.ExactDict/\o.data=.dict es ep/\KeysOf (strKind P w) es/\Pairs (strKind P w) es.toList bw/\(bw.map (·.1)).Nodup
theorem SW.dict{P:Program}{w:World}{K:Frag}{a:Addr}{bw:List (Str×Value)}{h:Heap}(D:SW P w K a bw)(hK:K.In h):h.DictOf (strKind P w) a bw:=
 let⟨_,o,es,ep,h1,h2⟩:=D
 ⟨o,es,ep,hK a o h1,h2⟩
def QW(bw:List (Str×Value))(ty:TE):TE:=λσ H Q=>ty σ H λy H1=>∃z u v,y=.str z/\valueAt bw z=some u/\RelV v u/\Q v H1
def Wh(bw:List (Str×Value))(ty:TE):TE:=λσ H Q=>ty σ H λy H1=>∃z,y=.str z/\Q (.bl (valueAt bw z).isSome) H1
def Hk(bw:List (Str×Value))(ty:TE):TE:=λσ H Q=>ty σ H λy H1=>∃z,y=.str z/\Q (.bl (!(valueAt bw z).isSome)) H1
section
variable {X:Cx} {x:Str} {p pos:Pos} {i:Expr} {a:Addr} {bw:List (Str×Value)} {ty:TE}
theorem str_is{P:Program}{w:World}{z:Str}{u:Value}(r:RelV (.str z) u):(strKind P w).is z u=true:=by
 obtain⟨t,rfl⟩:=r;show Value.isStrOf z (.str z t)=true;simp[Value.isStrOf]
theorem wO(hD:SW X.prog X.w X.K a bw)(hg:Gl X x)(hm:X.mg x=some (.ref a))(hi:PE X i ty)(hs:SR i)(hd:(x==("__debug__":Str))=false:=by decide):PE X (.Subscript (.Name x p) i pos) (QW bw ty):=by
 intro pins s σ H Q I h;refine Hi PySem.F.slot_dict_getitem.lookup hs (fW I hg hm ?_ hd);refine cB (hi pins s σ H _ I h) λiv s2⟨y,H2,I2,ry,z,u,v,ey,hv,rv,q2⟩=>?_;subst ey;have dd:=hD.dict I2.o9;exact⟨dd.typeIs,wpAny_getItem_of (str_is ry) dd.mapOf hv ⟨v,H2,I2.tok _,rv,q2⟩⟩
theorem LB(hD:SW X.prog X.w X.K a bw)(hg:Gl X x)(hm:X.mg x=some (.ref a))(hi:PE X i ty)(hd:(x==("__debug__":Str))=false:=by decide):PC X .In i (.Name x p) (Wh bw ty):=by
 intro pins s σ H Q I h;refine cB (hi pins s σ H _ I h) λiv s1⟨y,H1,I1,ry,z,ey,q1⟩=>fW I1 hg hm ?_ hd;subst ey;have dd:=hD.dict I1.o9;exact wpAny_in_of (str_is ry) hD.1 dd.mapOf ⟨.bl _,H1,I1.tok _,rfl,q1⟩
theorem Jb(hD:SW X.prog X.w X.K a bw)(hg:Gl X x)(hm:X.mg x=some (.ref a))(hi:PE X i ty)(hd:(x==("__debug__":Str))=false:=by decide):PC X .NotIn i (.Name x p) (Hk bw ty):=by
 intro pins s σ H Q I h;refine cB (hi pins s σ H _ I h) λiv s1⟨y,H1,I1,ry,z,ey,q1⟩=>fW I1 hg hm ?_ hd;subst ey;have dd:=hD.dict I1.o9;exact wpAny_notIn_of (str_is ry) hD.1 dd.mapOf ⟨.bl _,H1,I1.tok _,rfl,q1⟩
end
theorem SX{P:Program}{w:World}{K:Frag}{a:Addr}{es:Array DictEntry}{n:Nat}(l:List (Str×Tok×Value))(lk:K.lookup a=some {cls:=.type "dict",data:=.dict es n})(hs:(a==sysModules)=false)(he:es.toList=l.map λp=>{hash:=PyData.keyHash w.params p.1,key:=.str p.1 p.2.1,val:=p.2.2})(nd:(l.map (·.1)).Nodup):SW P w K a (l.map λp=>(p.1,p.2.2)):=by
 refine⟨hs,_,es,n,lk,⟨rfl,rfl,rfl⟩,rfl,λe h=>?_,?_,?_⟩
 ·have h':e∈es.toList:=Array.mem_toList_iff.mpr h;rw[he] at h';obtain⟨p,_,rfl⟩:=List.mem_map.mp h';exact⟨p.1,str_is ⟨_,rfl⟩,rfl⟩
 ·rw[he];clear lk he nd
  induction l with
  |nil=>exact .nil
  |cons p l ih=>exact .cons (str_is ⟨_,rfl⟩) rfl ih
 ·rw[List.map_map];exact nd
end SF
namespace L2
open PySem PySem.Spec PyProof.Rows Builtin.Str
section
variable {X:Cx}
def EO:V->List V->Hp->VK->Prop:=λx vs H Q=>∃z y,x=.str z/\vs=[.str y]/\(y.length==0)=false/\z.length<=1000/\∀p,H p=none->Q (.ref p) (upd H p (.lst ((Txt.split z y).map V.str)))
def Hl:V->List V->Hp->VK->Prop:=λx vs H Q=>∃z y k,x=.str z/\vs=[.str y,.int k]/\(y.length==0)=false/\z.length<=1000/\(decide (k< -(2^63:Int))||decide (k>=2^63))=false/\∀p,H p=none->Q (.ref p) (upd H p (.lst ((Txt.splitMax z y k).map V.str)))
theorem zT:∀l:List (Str×Tok),Vals ((l.map (·.1)).map V.str) (strValues l)
 |[]=>.nil
 |_::l=>.cons ⟨_,rfl⟩ (zT l)
theorem kT{pins:List (Addr×Obj)}{σ:St}{H:Hp}{s:Shared}{Q:VK}{t':Nat}{ws:List Str}(I:Inv X pins σ H s)(l:List (Str×Tok))(hl:l.length<=sizeLine)(e:l.map (·.1)=ws)(q:∀p,H p=none->Q (.ref p) (upd H p (.lst (ws.map V.str)))):
 ∃v H',Inv X pins σ H' {s with heap:=s.heap.push {cls:=.type "list",data:=.seq (strValues l).toArray},toks:=t'}/\RelV v (.ref s.heap.objs.size)/\Q v H':=by
 subst e;exact⟨.ref s.heap.objs.size,_,I.laid (o:=.lst ((l.map (·.1)).map V.str)) (t':=t') (λb u e=>Heap.get?_push_of_some _ e) (Nat.le_refl _) ⟨by rw[List.length_map,List.length_map];exact hl,_,_,zT l,Heap.get?_push_size _ rfl⟩,rfl,q _ (I.b_.fresh (Nat.le_refl _))⟩
theorem CW:Nx X "str.split" EO:=by
 intro pins s σ H x vs v us Q I rx rv h;obtain⟨z,y,rfl,rfl,hy,hz,q⟩:=h;obtain⟨t,rfl⟩:=rx;obtain⟨u,rfl,t',rfl⟩:=vals1 rv;have Od:z.length<=sizeLine:=by unfold sizeLine;lia
 have hn:(partsBetween z (occurrences z y 0 z.length (z.length+1)) y.length).length<=sizeLine:=by
  have e1:=StrLaws.occ_length_le_len z y 0 z.length (z.length+1);rw[length_partsBetween];unfold sizeLine;lia
 cases h1:(decide (z.length<y.length)||decide (strKind z<strKind y))
 ·cases hf:(occurrences z y 0 z.length (z.length+1)).isEmpty
  ·refine call_meets F.slot_str_split (typeIs_str _ _ _) F.entry_str_split (F.args_str_split_2 _ _) (meets_str_split_sep z y t t' h1 hy hf Od hn) ?_;show wants _ _ _ {s with toks:=_,heap:=s.heap.push {cls:=.type "list",data:=.seq (strsFrom s.toks (partsBetween z (occurrences z y 0 z.length (z.length+1)) y.length)).toArray}};rw[strsFrom_eq];exact kT I (numbered s.toks _) (by rw[<-List.length_map (f:=(·.1)),numbered_texts];exact hn) ((numbered_texts _ _).trans ((if_neg (ne_true_of_eq_false h1)).trans (if_neg (ne_true_of_eq_false hf))).symm) q
  ·exact call_meets F.slot_str_split (typeIs_str _ _ _) F.entry_str_split (F.args_str_split_2 _ _) (meets_str_split_not_found z y t t' h1 hy hf) (kT (t':=s.toks) I [(z,t)] (by show 1<=sizeLine;unfold sizeLine;decide) ((if_neg (ne_true_of_eq_false h1)).trans (if_pos hf)).symm q)
 ·exact call_meets F.slot_str_split (typeIs_str _ _ _) F.entry_str_split (F.args_str_split_2 _ _) (meets_str_split_cannot_occur z y t t' h1) (kT (t':=s.toks) I [(z,t)] (by show 1<=sizeLine;unfold sizeLine;decide) (if_pos h1).symm q)
theorem Jc:Nx X "str.split" Hl:=by
 intro pins s σ H x vs v us Q I rx rv h;obtain⟨z,y,k,rfl,rfl,hy,hz,hk,q⟩:=h;obtain⟨t,rfl⟩:=rx;obtain⟨u,u2,rfl,⟨t',rfl⟩,⟨t2,rfl⟩⟩:=vals2 rv;have Od:z.length<=sizeLine:=by unfold sizeLine;lia
 have hn:(partsBetween z (occurrences z y 0 z.length (limitOf z k)) y.length).length<=sizeLine:=by
  have e1:=StrLaws.occ_length_le_len z y 0 z.length (limitOf z k);rw[length_partsBetween];unfold sizeLine;lia
 cases h1:(decide (z.length<y.length)||decide (strKind z<strKind y))
 ·cases hf:(occurrences z y 0 z.length (limitOf z k)).isEmpty
  ·refine call_meets F.slot_str_split (typeIs_str _ _ _) F.entry_str_split (F.args_str_split_3 _ _ _) (meets_str_split_sep_max z y k t t' t2 hk h1 hy hf Od hn) ?_;show wants _ _ _ {s with toks:=_,heap:=s.heap.push {cls:=.type "list",data:=.seq (strsFrom s.toks (partsBetween z (occurrences z y 0 z.length (limitOf z k)) y.length)).toArray}};rw[strsFrom_eq];exact kT I (numbered s.toks _) (by rw[<-List.length_map (f:=(·.1)),numbered_texts];exact hn) ((numbered_texts _ _).trans ((if_neg (ne_true_of_eq_false h1)).trans (if_neg (ne_true_of_eq_false hf))).symm) q
  ·exact call_meets F.slot_str_split (typeIs_str _ _ _) F.entry_str_split (F.args_str_split_3 _ _ _) (meets_str_split_max_not_found z y k t t' t2 hk h1 hy hf) (kT (t':=s.toks) I [(z,t)] (by show 1<=sizeLine;unfold sizeLine;decide) ((if_neg (ne_true_of_eq_false h1)).trans (if_pos hf)).symm q)
 ·exact call_meets F.slot_str_split (typeIs_str _ _ _) F.entry_str_split (F.args_str_split_3 _ _ _) (meets_str_split_max_cannot_occur z y k t t' t2 hk h1) (kT (t':=s.toks) I [(z,t)] (by show 1<=sizeLine;unfold sizeLine;decide) (if_pos h1).symm q)
theorem zU:qC X (compareOp .LtE) (λx y H Q=>∃i j,x=.str i/\y=.str j/\Q (.bl (!decide (j.cps.toList<i.cps.toList))) H):=by
 intro pins s σ H x y v u Q I rx ry h;obtain⟨i,j,rfl,rfl,q⟩:=h;obtain⟨t,rfl⟩:=rx;obtain⟨t',rfl⟩:=ry;exact P.le_str (cI I q rfl)
end
end L2
namespace SF
open PySem PySem.Spec PyProof.Rows L2 PySem.W
section
variable {P:Program} {w:World} {H H':Hp} {h h':Heap} {a:Addr} {o:HO}
theorem kU(x:dX P w H h a o):∃ob,h.get? a=some ob:=by
 cases o with
 |lst xs=>obtain⟨_,_,_,_,e⟩:=x;exact⟨_,e⟩
 |tup xs=>obtain⟨_,_,_,ob,e,_⟩:=x;exact⟨_,e⟩
 |dK bw=>obtain⟨_,_,_,_,o,_,_,e,_⟩:=x;exact⟨_,e⟩
 |dT bw=>obtain⟨_,_,_,_,o,_,_,e,_⟩:=x;exact⟨_,e⟩
 |set S n=>obtain⟨o,_,_,_,e,_⟩:=x;exact⟨_,e⟩
 |ins C dx fs=>obtain⟨_,_,_,e,_⟩:=x;exact⟨_,e⟩
 |own y=>obtain⟨_,e⟩:=x;exact⟨_,e⟩
 |xd fs=>obtain⟨_,⟨_,_,_,e,_⟩,_⟩:=x;exact⟨_,e⟩
 |XE lo hi=>obtain⟨_,_,_,e⟩:=x;exact⟨_,e⟩
 |vY ob u=>obtain⟨e,_⟩:=x;exact⟨_,e⟩
 |vZ ps=>exact⟨_,(show h.get? a=some _ from x)⟩
 |met f y=>exact⟨_,(show h.get? a=some _ from x)⟩
 |ext φ=>obtain⟨_,⟨_,e⟩,_⟩:=x;exact⟨_,e⟩
theorem kj(x:lW P w H h)(e:h.get? a=none):H a=none:=by
 cases q:H a with
 |none=>rfl
 |some u=>
  obtain⟨ob,z⟩:=kU (x a u q);rw[e] at z;cases z
theorem OG{fs ex:List Addr}(x:lW P w H h)(k:∀b u,h.get? b=some u->h'.get? b=some u)(q:∀b u,h.get? b=some u->H' b=H b):Un fs ex H H' h h' where
 keep:=λb u e _ _ _=>k b u e
 slot:=λb u e _ _ _=>⟨u.slots,k b u e⟩
 free:=λb u e n _=>(q b u e).trans n
 there:=λb u e _=>⟨u,k b u e⟩
 yT:=λb xs e=>by obtain⟨ob,z⟩:=kU (x b _ e);rw[q b ob z];exact e
 wZ:=λb u xs e=>by obtain⟨ob,z⟩:=kU (x b _ e);rw[q b ob z];exact e
 w4:=λb ps e=>by obtain⟨ob,z⟩:=kU (x b _ e);exact⟨#[],by rw[q b ob z,e];simp⟩
theorem LC(x:lW P w H h)(k:∀b u,h.get? b=some u->h'.get? b=some u)(q:∀b u,h.get? b=some u->H' b=H b)(new:∀b o,h.get? b=none->H' b=some o->dX P w H' h' b o):lW P w H' h':=λb o e=>by
 cases z:h.get? b with
 |none=>exact new b o z e
 |some u=>
  rw[q b u z] at e;refine(x b o e).nv (λc v _ e=>k c v e) (λc r=>?_) λc xs r=>?_
  ·obtain⟨ob,z⟩:=kU (x c _ r);rw[q c ob z];exact r
  ·obtain⟨ob,z⟩:=kU (x c _ r);rw[q c ob z];exact r
end
theorem LD{X:Cx}{pins:List (Addr×Obj)}{σ:L2.St}{H H':Hp}{s:Shared}{h':Heap}{t':Nat}(I:Inv X pins σ H s)(k:∀b u,s.heap.get? b=some u->h'.get? b=some u)(q:∀b u,s.heap.get? b=some u->H' b=H b)(new:∀b o,s.heap.get? b=none->H' b=some o->dX X.prog X.w H' h' b o):Inv X pins σ H' {s with heap:=h',toks:=t'}:=I.un (OG I.b_ k q) (LC I.b_ k q new)
def c_(a C t:Addr)(tb:Value)(d:Option Addr):HO:=.ext λh=>∃o vs,h.get? a=some o/\o.cls=.ref C/\o.dict=d/\o.data=.fields vs/\vs.size=6/\vs[0]?=some (.ref t)/\vs[1]?=some tb
theorem pC{a C t:Addr}{tb:Value}{d:Option Addr}{P:Program}{w:World}{H:Hp}{h:Heap}{o:Obj}{vs:Array Value}(e:h.get? a=some o)(hc:o.cls=.ref C)(hd:o.dict=d)(hf:o.data=.fields vs)(h6:vs.size=6)(h0:vs[0]?=some (.ref t))(h1:vs[1]?=some tb):
 dX P w H h a (c_ a C t tb d):=
 ⟨⟨o,vs,e,hc,hd,hf,h6,h0,h1⟩,⟨o,e⟩,λ_ _ ⟨o,vs,e,r⟩ k=>⟨o,vs,k o e,r⟩⟩
def UW:List Value:=[.type "ValueError",.type "Exception",.type "BaseException",.type "object"]
def Jd(K:Frag)(C:Addr):Prop:=excIn K C UW "ValueError.__new__"=true
section
variable {X:Cx} {C:Addr}
theorem OH{K:Frag}{h:Heap}(XK:K.In h)(q:Jd K C):∃bm N nm qn bs hdct sn sub ab col dd k0 k1 k2 k3 k5 mN,h.get? C=some (excClassObj nm qn C N bs bm hdct sn sub ab col dd k0 k1 k2 k3 k5 "ValueError.__new__")/\h.Ns N mN/\mN "__init__"=none/\OwnTail h UW bm:=by
 unfold Jd excIn at q;split at q
 ·rename_i dd cd sl ho;split at q
  ·rename_i C' bm k0 k1 k2 k3 n k5 hm hs;simp only[Bool.and_eq_true,beq_iff_eq,Bool.not_eq_true'] at q;obtain⟨⟨⟨⟨⟨rfl,rfl⟩,LF⟩,ht⟩,b_⟩,LG⟩:=q;obtain⟨nm,bs,mro,ns,qn,hd,sn,sub,ab,col,del⟩:=cd
   dsimp only at hm LF b_ LG
   subst hm LF;have Zt:sl=#[k0,k1,k2,k3,some (.builtin "ValueError.__new__"),k5]:=by
    obtain⟨l⟩:=sl;simp only at hs;rw[hs]
   subst Zt;exact⟨bm,ns,nm,qn,bs,hd,sn,sub,ab,col,dd,k0,k1,k2,k3,k5,_,XK _ _ ho,.of_isNs (isNs_of_in XK b_),nsMap_none_of_in XK b_ LG,tail_of_in XK ht⟩
  ·cases q
 ·cases q
theorem LH{pins:List (Addr×Obj)}{σ:L2.St}{H:Hp}{s:Shared}{h':Heap}{e:Addr}{us:List Value}{vs:List V}{Q:VK}(I:Inv X pins σ H s)(r:Vals vs us)(hl:vs.length<=1000)(hm:Heap.MadeExcOf s.heap h' e (.ref C) us)(q:∀x tp,H x=none->H tp=none->x≠tp->Q (.ref x) (upd (upd H tp (.tup vs)) x (c_ x C tp .none none))):EP X pins σ Q (.ref e) {s with heap:=h'}:=by
 obtain⟨t,he,htn,ht⟩:=hm.there;have jJ:e≠t:=λz=>by subst z;rw[he] at ht;cases ht
 refine⟨.ref e,_,LD (t':=s.toks) I hm.keeps (λb u z=>?_) (λb o z zz=>?_),rfl,q e t (kj I.b_ hm.new) (kj I.b_ htn) jJ⟩
 ·rw[ay (λy=>by subst y;rw[hm.new] at z;cases z),ay (λy=>by subst y;rw[htn] at z;cases z)]
 ·by_cases hb:b=e
  ·subst hb;rw[aE] at zz;cases zz;exact pC he rfl rfl rfl rfl rfl rfl
  ·rw[ay hb] at zz;by_cases hb2:b=t
   ·subst hb2;rw[aE] at zz;cases zz;exact⟨cR hl,us,r,_,ht,rfl,_,rfl⟩
   ·rw[ay hb2] at zz;rw[kj I.b_ z] at zz;cases zz
end
section
variable {prog:Program} {w:World} {A:Around} {E:Value->Shared->Prop} {s:Shared} {K:Frag} {x C:Addr} {ox:Obj} {od:Option Obj} {name:Str} {tk:Tok}
theorem LI:builtinKind "BaseException.__getattribute__"=some .slot:=by decide +kernel
theorem Je:splitId "BaseException.__getattribute__"=some ("BaseException","__getattribute__"):=by decide +kernel
theorem LJ{R:Result->Shared->Prop}(XK:K.In s.heap)(I:InstAt s.heap x ox C od)(hb:subIn K (.ref C) (.type "BaseException")=some true)(h:wpAny (model prog w) A.in1 (Builtin.«object.__getattribute__» ⟨[.ref x,.str name tk],[]⟩) (λfin s'=>match fin with|.done f=>R (.ok f) s'|.again c'=>c'.quiet=true/\codeAny (model prog w) A c' R s') (λe s'=>R (.error e) s') s):
 codeAny (model prog w) A (.call (.builtin "BaseException.__getattribute__") ⟨[.ref x,.str name tk],[]⟩) R s:=by
 have sub:Looks (model prog w) s.heap (isInstance (.ref x) (.type "BaseException")) true:=I.type.andThen (looks_subIn XK hb);exact codeAny_call_builtin PySem.F.attr_ValueError.ga.plain PySem.F.entry_bexc_ga (@check_slot (model prog w) _ _ s "BaseException.__getattribute__" "BaseException" "__getattribute__" (.ref x) [.str name tk] [] _ LI Je sub (PySem.F.args_bexc_ga (.ref x) (.str name tk)) h)
theorem Jf{v:Value}{Q:Fin->Shared->Prop}(XK:K.In s.heap)(I:InstAt s.heap x ox C od)(hf:findObj K C od name=some (.value v))(h:Q (.done (.ret v)) s):
 wpAny (model prog w) A (Builtin.«object.__getattribute__» ⟨[.ref x,.str name tk],[]⟩) Q E s:=by
 obtain⟨hh,g,d,t,os⟩:=s;have L0:=I.type (M:=model prog w);have L1:=looks_find (M:=model prog w) XK I hf;refine wpAny_bind (wpAny_pure (wpAny_bind (wpAny_pure (wpAny_bind (L0.at (wpAny_bind (L1.at ?_)))))));exact wpAny_pure h
theorem SY:(Value.builtin "BaseException.__getattribute__"==Value.builtin "object.__getattribute__")=false:=by decide +kernel
theorem xby{fill expr:Bool}{Q:Value->Shared->Prop}(XK:K.In s.heap)(I:InstAt s.heap x ox C od)(hga:findIn K (.ref C) "__getattribute__"=some (some (.builtin "BaseException.__getattribute__")))(hgk:findIn K (.ref C) "__getattr__"=some none)(hb:subIn K (.ref C) (.type "BaseException")=some true)(h:∀A' E',wpAny (model prog w) A' (Builtin.«object.__getattribute__» ⟨[.ref x,.str name tk],[]⟩) (λfin s'=>∃v,fin=.done (.ret v)/\handedIn v=true/\Q v s') E' s):
 wpAny (model prog w) A (getAttrBy (.ref x) (.str name tk) fill expr) Q E s:=by
 have L0:=I.type (M:=model prog w);have L1:=looks_findIn (M:=model prog w) XK hga;have L2:=looks_findIn (M:=model prog w) XK hgk;have hx0:(expr&&onTheHeap (Value.builtin "BaseException.__getattribute__"))=false:=by cases expr<;>rfl
 have hx1:(onTheHeap (Value.ref C)&&Value.builtin "BaseException.__getattribute__"==Value.builtin "object.__getattribute__")=false:=by rw[SY];rfl
 unfold getAttrBy;refine wpAny_holding (wpAny_bind (L0.here (wpAny_bind (L1.here ?_))));show wpAny _ _ (if(onTheHeap (Value.ref C)&&Value.builtin "BaseException.__getattribute__"==Value.builtin "object.__getattribute__")=true then _ else _) _ _ _;rw[hx1,if_neg (by decide)];unfold getAttrByItsOwn;refine wpAny_bind ?_;show wpAny _ _ (typeLookup (.ref C) "__getattr__") _ _ _;refine L2.here (wpAny_bind (wpAny_attempt (wpAny_holding ?_)));unfold callGetattribute;rw[hx0,if_neg (by decide)];unfold boundAndCalled;rw[PySem.F.attr_ValueError.ga.bind (.ref x)];refine wpAny_bind (wpAny_pure (wpAny_call (LJ XK I hb (wpAny_mono (h _ _) (λfin s' z=>?_) λ_ _ z=>z))));obtain⟨v,rfl,hh,q⟩:=z;show wpAny _ _ (handedOut v) _ _ _;rw[handedOut_of hh];exact wpAny_pure q
end
structure S0(K:Frag)(D:Addr):Prop where
 ga:findIn K (.ref D) "__getattribute__"=some (some (.builtin "BaseException.__getattribute__"))
 gk:findIn K (.ref D) "__getattr__"=some none
 base:subIn K (.ref D) (.type "BaseException")=some true
 cls:findIn K (.ref D) "__class__"=some (some (.builtin "object.__class__"))
 aan:specialIn K (.builtin "object.__class__") "__get__"=some (some (.builtin "getset_descriptor.__get__"))
 aaj:takesIn K (.builtin "object.__class__")=some true
 obj:mroIn K D (.type "object")=some true
 dct:hasDictIn K D=true
 str:findIn K (.ref D) "__str__"=some (some (.builtin "BaseException.__str__"))
section
variable {prog:Program} {w:World} {A:Around} {E:Value->Shared->Prop} {s:Shared} {K:Frag} {x C D:Addr} {ox:Obj} {od:Option Obj} {name:Str} {tk:Tok}
end
def qY(T:Addr)(fl:Value):HO:=.ext λh=>∃o ts,h.get? T=some o/\o.data=.fields ts/\ts[3]?=some fl
theorem vS{T:Addr}{fl:Value}{P:Program}{w:World}{H:Hp}{h:Heap}{o:Obj}{ts:Array Value}(e:h.get? T=some o)(hd:o.data=.fields ts)(h3:ts[3]?=some fl):dX P w H h T (qY T fl):=
 ⟨⟨o,ts,e,hd,h3⟩,⟨o,e⟩,λ_ _ ⟨o,ts,e,r⟩ k=>⟨o,ts,k o e,r⟩⟩
section
variable {M:Model} {A:Around} {E:Value->Shared->Prop} {s:Shared} {base:Heap} {env:Env} {outer:List Env} {L e:Addr} {oe:Obj} {vs:Array Value} {head:Value} {Q:Unit->Shared->Prop}
structure LK(fs:List Addr)(e:Addr)(oe:Obj)(fl:Value)(h h':Heap)(T:Addr):Prop where
 new:h.get? T=none
 ent:∃oT ts,h'.get? T=some oT/\oT.data=.fields ts/\ts[3]?=some fl
 ne:T≠e
 exc:h'.get? e=some (Obj.mapFields (·.setIfInBounds 1 (.ref T)) oe)
 keep:∀b o,b≠e->b∉fs->h.get? b=some o->h'.get? b=some o
 slot:∀b o,b≠e->h.get? b=some o->∃sl,h'.get? b=some {o with slots:=sl}
theorem uJ{OI:Bool}(mO:A.frames=some (env::outer))(hl:s.heap.FunFrames base (env::outer))(hf:env.frame=some L)(he:s.heap.get? e=some oe)(hd:oe.data=.fields vs)(hsz:1<vs.size)(h:∀h' T,LK (v_ (env::outer)) e oe (rawInt L) s.heap h' T->Q () {s with heap:=h'}):
 wpAny M A (do let a<-frameOf env;let pl<-entryPlaceOf L OI;let b<-EntryCells.newEntry head a .none (rawInt L) .none pl;setField (.ref e) 1 b) Q E s:=by
 have Zu:e∉(env::outer).filterMap (·.frame):=λhm=>by
  obtain⟨_,o,ho,hnf⟩:=hl.mem hm;rw[he] at ho;injection ho with ho;subst ho;exact hnf vs hd
 refine wpAny_bind (wpAny_frameOf_fun mO hl hf λlZ Hm=>?_);refine wpAny_bind (wpAny_entryPlaceOf λpl pe=>?_);unfold EntryCells.newEntry newFields;refine wpAny_bind (wpAny_newObj_type ?_ (pe.sizeOk5 _ _ _ _ _));have QX:lZ.get? e=some oe:=(Hm.2.1 e Zu).trans he;generalize Wi:({cls:=.type "traceback",dict:=none,data:=.fields ([head,.ref L,.none,rawInt L,.none]++(if pl.isEmpty then List.replicate 6 Value.none else pl)).toArray}:Obj)=oT;have QY:=Heap.get?_push_of_some (h:=lZ) oT QX;refine wpAny_setField QY hd hsz ?_;have Zv:lZ.objs.size≠e:=Nat.ne_of_gt (Heap.lt_size QX);have Wj:=Obj.data_mapFields hd (·.setIfInBounds 1 (Value.ref lZ.objs.size));have Wl:=Heap.get?_update_self (Obj.mapFields (·.setIfInBounds 1 (Value.ref lZ.objs.size))) QY (Obj.isFreed_of_fields Wj);have Wm:=(Heap.get?_update_other (lZ.push oT) (Obj.mapFields (·.setIfInBounds 1 (Value.ref lZ.objs.size))) (Ne.symm Zv)).trans (Heap.get?_push_size lZ (by subst Wi;rfl));have keep:∀b o,b≠e->lZ.get? b=some o->((lZ.push oT).update e (Obj.mapFields (·.setIfInBounds 1 (Value.ref lZ.objs.size)))).get? b=some o:=λb o B0 hb=>by
  rw[Heap.get?_update_other _ _ (Ne.symm B0)];exact Heap.get?_push_of_some _ hb
 refine h _ lZ.objs.size ⟨Heap.get?_none_of_le (by rw[Hm.1];exact Nat.le_refl _),⟨oT,_,Wm,by subst Wi;rfl,by first|(simp;done)|(rcases pe with rfl|⟨_,_,_,_,_,_,_,rfl⟩<;>simp)⟩,Zv,Wl,λb o B0 UX hb=>keep b o B0 ((Hm.2.1 b UX).trans hb),λb o B0 hb=>?_⟩;obtain⟨sl,q⟩:=Hm.2.2 b o hb;exact⟨sl,keep b _ B0 q⟩
theorem ER{o:Obj}{ts:Array Value}{i:Nat}{x:Value}(hd:o.data=.fields ts)(h3:ts[i]?=some x):Obj.mapFields (·.setIfInBounds i x) o=o:=by
 obtain⟨c,d,dt,sl⟩:=o;subst hd;have:ts.setIfInBounds i x=ts:=by
  apply Array.ext_getElem?;intro j;rw[Array.getElem?_setIfInBounds];by_cases q:i=j
  ·subst q;rw[if_pos rfl,h3];have:=(Array.getElem?_eq_some_iff.mp h3).1;simp[this]
  ·rw[if_neg q]
 simp only[Obj.mapFields,this]
theorem CY(mO:A.frames=some (env::outer))(hl:s.heap.FunFrames base (env::outer))(hf:env.frame=some L)(he:s.heap.get? e=some oe)(hd:oe.data=.fields vs)(h1:vs[1]?=some head)(hh:head=.none\/∃T oT ts,head=.ref T/\T≠e/\s.heap.get? T=some oT/\oT.data=.fields ts/\ts[3]?=some .none)(h:∀h' T,LK (v_ (env::outer)) e oe (rawInt L) s.heap h' T->Q () {s with heap:=h'}):wpAny M A (noteFrame (.ref e) env) Q E s:=by
 have hsz:1<vs.size:=(Array.getElem?_eq_some_iff.mp h1).1;unfold noteFrame;simp only[hf];refine wpAny_bind (wpAny_field he hd h1 ?_);rcases hh with rfl|⟨T,oT,ts,rfl,Zv,hT,QZ,h3⟩
 ·rw[if_neg (by decide)];exact uJ mO hl hf he hd hsz h
 ·rw[if_pos (show(Value.ref T !=Value.none)=true from by simp)];refine wpAny_bind (wpAny_field hT QZ h3 ?_);rw[if_neg (show ¬((Value.none==rawInt L)=true) from by simp[rawInt])];refine wpAny_bind (wpAny_setField hT QZ (Array.getElem?_eq_some_iff.mp h3).1 ?_);have same:∀b,(s.heap.update T (Obj.mapFields (·.setIfInBounds 3 Value.none))).get? b=s.heap.get? b:=λb=>by
   by_cases q:b=T
   ·subst q;rw[Heap.get?_update_self _ hT (Obj.isFreed_of_fields (Obj.data_mapFields QZ _)),hT,ER QZ h3]
   ·exact Heap.get?_update_other _ _ (Ne.symm q)
  refine uJ (base:=base) mO (hl.of_keeps λb o hb _=>⟨o,(same b).trans hb,rfl⟩) hf ((same e).trans he) hd hsz λh' T' N=>h h' T' ?_;exact⟨(same _).symm.trans N.new,N.ent,N.ne,N.exc,λb o B0 UX hb=>N.keep b o B0 UX ((same b).trans hb),λb o B0 hb=>N.slot b o B0 ((same b).trans hb)⟩
theorem ES{T:Addr}{oT:Obj}{ts:Array Value}{fl:Value}(he:s.heap.get? e=some oe)(hd:oe.data=.fields vs)(h1:vs[1]?=some (.ref T))(hT:s.heap.get? T=some oT)(QZ:oT.data=.fields ts)(h3:ts[3]?=some fl)(h:∀h',(∃Zw Zx,h'.get? T=some Zw/\Zw.data=.fields Zx/\Zx[3]?=some .none)->(∀b,b≠T->h'.get? b=s.heap.get? b)->Q () {s with heap:=h'}):wpAny M A (setFlight (.ref e) none) Q E s:=by
 have hsz:=(Array.getElem?_eq_some_iff.mp h3).1;unfold setFlight;refine wpAny_bind (wpAny_field he hd h1 ?_);rw[if_pos (show(Value.ref T !=Value.none)=true from by simp)];refine wpAny_setField hT QZ hsz (h _ ⟨_,_,Heap.get?_update_self _ hT (Obj.isFreed_of_fields (Obj.data_mapFields QZ _)),Obj.data_mapFields QZ _,by simp[hsz]⟩ λb hb=>Heap.get?_update_other _ _ (Ne.symm hb))
end
def CZ(H:Hp)(a:Addr)(tb:Value):Prop:=tb=.none\/∃T,tb=.ref T/\T≠a/\H T=some (qY T .none)
def Sub(a:Addr)(H1 H':Hp):Prop:=∀b o,b≠a->H1 b=some o->H' b=some o
theorem Sub.refl{a:Addr}{H:Hp}:Sub a H H:=λ_ _ _ e=>e
theorem Sub.trans{a:Addr}{H1 H2 H3:Hp}(x:Sub a H1 H2)(y:Sub a H2 H3):Sub a H1 H3:=λb o n e=>y b o n (x b o n e)
section
variable {X:Cx} {pins:List (Addr×Obj)} {σ:L2.St} {H:Hp} {s:Shared} {a C t T:Addr} {tb fl:Value} {d:Option Addr} {E:Value->Shared->Prop} {Q:Unit->Shared->Prop}
theorem i_{P:Program}{w:World}{h:Heap}(x:lW P w H h)(ha:H a=some (c_ a C t tb d)):∃o vs,h.get? a=some o/\o.cls=.ref C/\o.dict=d/\o.data=.fields vs/\vs.size=6/\vs[0]?=some (.ref t)/\vs[1]?=some tb:=(x a _ ha).1
theorem xR{P:Program}{w:World}{h:Heap}(x:lW P w H h)(ha:H T=some (qY T fl)):∃o ts,h.get? T=some o/\o.data=.fields ts/\ts[3]?=some fl:=(x T _ ha).1
theorem C0(qQ:X.stack=X.env::X.outer)(mO:X.env.frame=some X.env.locals)(I:Inv X pins σ H s)(ha:H a=some (c_ a C t tb d))(ht:CZ H a tb)(k:∀s' T,H T=none->T≠a->Inv X pins σ (upd (upd H a (c_ a C t (.ref T) d)) T (qY T (rawInt X.env.locals))) s'->Q () s'):wpAny (model X.prog X.w) X.A (noteFrame (.ref a) X.env) Q E s:=by
 obtain⟨o,vs,e,hc,hd,hf,h6,h0,h1⟩:=i_ I.b_ ha;have LL:X.A.frames=some (X.env::X.outer):=by rw[<-qQ];exact I.ok.frames
 have LM:s.heap.FunFrames X.base (X.env::X.outer):=by rw[<-qQ];exact I.stack
 have free:∀b∈v_ (X.env::X.outer),H b=none:=by rw[<-qQ];exact I.wF
 refine CY LL LM mO e hf h1 ?_ λh' T N=>?_
 ·rcases ht with rfl|⟨T,rfl,n,q⟩
  ·exact .inl rfl
  ·obtain⟨oT,ts,x,y,z⟩:=xR I.b_ q;exact .inr ⟨T,oT,ts,rfl,n,x,y,z⟩
 ·have BW:H T=none:=kj I.b_ N.new;obtain⟨oT,ts,x1,x2,x3⟩:=N.ent;have zV:∀b u,H b=some u->(∀φ,u≠.ext φ)->b≠a:=λb u q n z=>by subst z;rw[ha] at q;cases q;exact n _ rfl
  have neT:∀b u,H b=some u->b≠T:=λb u q z=>by subst z;rw[BW] at q;cases q
  have xS:∀b,H b=none->b≠a:=λb q z=>by subst z;rw[ha] at q;cases q
  have un:Un (v_ X.stack) [] H (upd (upd H a (c_ a C t (.ref T) d)) T (qY T (rawInt X.env.locals))) s.heap h':=by
   rw[qQ];exact⟨λb ob q n hb _=>N.keep b ob (xS b n) hb q,λb ob q n _ _=>N.slot b ob (xS b n) q,λb ob q n _=>by rw[ay (λz=>by subst z;rw[N.new] at q;cases q),ay (xS b n)];exact n,
    λb ob q _=>by
     by_cases z:b=a
     ·subst z;exact⟨_,N.exc⟩
     ·obtain⟨sl,q⟩:=N.slot b ob z q;exact⟨_,q⟩,
    λb xs q=>by rw[ay (neT b _ q),ay (zV b _ q (λ_ z=>nomatch z))];exact q,λb u xs q=>by rw[ay (neT b _ q),ay (zV b _ q (λ_ z=>nomatch z))];exact q,
    λb ps q=>⟨#[],by rw[ay (neT b _ q),ay (zV b _ q (λ_ z=>nomatch z)),q];simp⟩⟩
  have b_:lW X.prog X.w (upd (upd H a (c_ a C t (.ref T) d)) T (qY T (rawInt X.env.locals))) h':=λb u q=>by
   by_cases Q0:b=T
   ·subst Q0;rw[aE] at q;cases q;exact vS x1 x2 x3
   ·rw[ay Q0] at q;by_cases zW:b=a
    ·subst zW;rw[aE] at q;cases q;refine pC N.exc ((Obj.cls_mapFields _ _).trans hc) ?_ (Obj.data_mapFields hf _) (by simp[h6]) (by rw[Array.getElem?_setIfInBounds_ne (by decide)];exact h0) (by simp[h6]);obtain⟨cc,dd,dt,sl⟩:=o;simp only at hf;subst hf;exact hd
    ·rw[ay zW] at q;refine(I.b_ b u q).nv (λc v hc e=>?_) (λc r=>by rw[ay (neT c _ r),ay (zV c _ r (λ_ z=>nomatch z))];exact r) λc xs r=>by rw[ay (neT c _ r),ay (zV c _ r (λ_ z=>nomatch z))];exact r
     refine N.keep c v ?_ (λz=>?_) e
     ·rcases hc with rfl|hc
      ·exact zW
      ·exact zV c _ hc (λ_ z=>nomatch z)
     ·have:=free c z;rcases hc with rfl|hc
      ·rw[this] at q;cases q
      ·rw[this] at hc;cases hc
  exact k _ T BW N.ne (I.call (g':=s.gens) (d':=s.drawn) (t':=s.toks) (ch:=[]) un b_ I.bare (λb z=>absurd z (by simp)))
theorem ET:NL (some (qY T fl)):=trivial
theorem mW(I:Inv X pins σ H s)(ha:H a=some (c_ a C t (.ref T) d))(hT:H T=some (qY T fl))(k:∀s',Inv X pins σ (upd H T (qY T .none)) s'->Q () s'){A:Around}:wpAny (model X.prog X.w) A (setFlight (.ref a) none) Q E s:=by
 obtain⟨o,vs,e,hc,hd,hf,h6,h0,h1⟩:=i_ I.b_ ha;obtain⟨oT,ts,x,y,z⟩:=xR I.b_ hT;refine ES e hf h1 x y z λh'⟨Zw,Zx,p,q,r⟩ other=>?_;have keep:∀b u,b≠T->s.heap.get? b=some u->h'.get? b=some u:=λb u n e=>(other b n).trans e;have mu:NL (H T):=by rw[hT];exact ET
 exact k _ (I.un (t':=s.toks) (Un.write mu (.inl rfl) keep ⟨_,p⟩) (I.b_.write mu (.inl rfl) keep ⟨_,p⟩ (vS p q r)))
theorem Jg(qQ:X.stack=X.env::X.outer)(mO:X.env.frame=some X.env.locals)(I:Inv X pins σ H s)(ha:H a=some (c_ a C t tb d))(ht:CZ H a tb)(k:∀s' H' T,Inv X pins σ H' s'->H' a=some (c_ a C t (.ref T) d)->CZ H' a (.ref T)->Sub a H H'->Q () s'):wpAny (model X.prog X.w) X.A (leaving X.env (.ref a)) Q E s:=by
 unfold leaving;refine wpAny_bind (C0 qQ mO I ha ht λs1 T BW jJ I1=>?_);refine mW (T:=T) (fl:=rawInt X.env.locals) (C:=C) (t:=t) (d:=d) I1 (by rw[ay (Ne.symm jJ),aE]) (by rw[aE]) λs2 I2=>?_;rw[Aa] at I2;refine k s2 _ T I2 (by rw[ay (Ne.symm jJ),aE]) (.inr ⟨T,rfl,jJ,by rw[aE]⟩) λb o n e=>?_;rw[ay (λz=>by subst z;rw[BW] at e;cases e),ay n];exact e
end
def f9(P:Program)(w:World):vL:=λouter H s E e s'=>∃a C t tb d H1 H' wo,e=.ref a/\s'.os=s.os/\AllBare s'.gens/\Un (v_ outer) [] H H' s.heap s'.heap/\lW P w H' s'.heap/\
 H' a=some (c_ a C t tb d)/\CZ H' a tb/\Sub a H1 H'/\H1 a=some (c_ a C t wo d)/\E (.ref C) d H1
def mX(X:Cx)(E:XK):Prop:=∀pins σ H' s' a C t tb d H1 wo,Inv X pins σ H' s'->H' a=some (c_ a C t tb d)->CZ H' a tb->Sub a H1 H'->H1 a=some (c_ a C t wo d)->E (.ref C) d H1->X.xe (.ref a) s'
theorem mX.passes{X:Cx}{E:XK}(h:mX X E):Passes (f9 X.prog X.w) X E:=λpins σ H s e s' I⟨a,C,t,tb,d,H1,H',wo,r,os,bare,un,b_,ha,ht,hs,h1,hE⟩=>by
 subst r;exact h pins σ H' s' a C t tb d H1 wo (I.Qi (ch:=[]) os un b_ bare λb z=>absurd z (by simp)) ha ht hs h1 hE
def LN(C:Addr)(E:XK)(t:TA):TS:=λ_ σ H=>t σ H λvs H1=>vs.length<=1000/\∀x tp,H1 x=none->H1 tp=none->x≠tp->E (.ref C) none (upd (upd H1 tp (.tup vs)) x (c_ x C tp .none none))
theorem zX{X:Cx}{C:Addr}{pins:List (Addr×Obj)}{σ:L2.St}{H:Hp}{s:Shared}{h':Heap}{e:Addr}{us:List Value}{vs:List V}(I:Inv X pins σ H s)(r:Vals vs us)(hl:vs.length<=1000)(hm:Heap.MadeExcOf s.heap h' e (.ref C) us):
 ∃tp,H e=none/\H tp=none/\e≠tp/\Inv X pins σ (upd (upd H tp (.tup vs)) e (c_ e C tp .none none)) {s with heap:=h'}:=by
 obtain⟨v,H',I',rv,x,tp,e1,e2,e3,rfl,e4⟩:=LH (Q:=λv H'=>∃x tp,H x=none/\H tp=none/\x≠tp/\v=.ref x/\H'=upd (upd H tp (.tup vs)) x (c_ x C tp .none none)) I r hl hm λx tp a b c=>⟨x,tp,a,b,c,rfl,rfl⟩;have:e=x:=Value.ref.inj rv;subst this e4;exact⟨tp,e1,e2,e3,I'⟩
theorem iz{X:Cx}{C:Addr}{E:XK}{x:Str}{p ux pos:Pos}{e:Expr}{es:List Expr}{t:TA}(hE:mX X E)(Hn:X.calm=true)(hg:Gl X x)(hm:X.mg x=some (.ref C))(hc:Jd X.K C)(ha:PA X (e::es) t)(uw:(x==("__debug__":Str))=false:=by decide)(he:starEach (e::es) X.env=(false,eval e X.env)::starEach es X.env:=by rfl)(pe:(backTo ux (starEach (e::es) X.env)).any (·.1)=false:=by rfl):
 L2.PS X (.Raise (some (.Call (.Name x p) (e::es) [] ux)) none pos) (LN C E t):=by
 intro pins s σ H D I h;obtain⟨bm,N,nm,qn,bs,hdct,sn,sub,ab,col,dd,k0,k1,k2,k3,k5,mN,hC,hN,LG,TL⟩:=OH I.ok.mod.Kf hc;refine wpAny_Raise_call_subU (N:=N) (bm:=bm) (nm:=nm) (q:=qn) (bs:=bs) (hdct:=hdct) (sn:=sn) (sub:=sub) (ab:=ab) (col:=col) (dd:=dd) (k0:=k0) (k1:=k1) (k2:=k2) (k3:=k3) (k5:=k5) (C:=C) (mN:=mN) PySem.F.excBase_ValueError (by decide) PySem.F.excBase_ValueError (TL.hasType (by decide)) (I.ok.hd Hn) pe LG
  (fW I hg hm ⟨rfl,?_⟩ uw)
 rw[he];refine Calls.evalArgs_plain ?_;have X5:=ha ux pins s σ H _ I h;rw[he] at X5;refine cB X5 λus s1⟨vs,H1,I1,r,hl,q⟩=>?_;have Wn:us.length<=1000:=by rw[<-r.length];exact hl
 refine⟨rfl,cR Wn,I1.bk _ _ hC,hN.keeps I1.bk,TL.keeps I1.bk,λh' x hm=>?_⟩;obtain⟨tp,e1,e2,e3,I2⟩:=zX I1 r hl hm;exact hE pins σ _ _ x C tp .none none _ .none I2 (by rw[aE]) (.inl rfl) Sub.refl (by rw[aE]) (q x tp e1 e2 e3)
structure iA(cm:Bool)(k:Nat)(A:Around):Prop where
 hd:cm=true->A.handled=none
 dp:A.depth+3*k+5<recursionLimit
 un:A.units+16*k+200<cLine
section
variable {cm:Bool} {j k:Nat} {A:Around}
theorem Q2(r:fv k A):iA cm k A:=⟨λ_=>r.hd,r.dp,r.un⟩
theorem iA.calm(r:iA true k A):fv k A:=⟨r.hd rfl,r.dp,r.un⟩
theorem iA.deeper(r:iA cm (k+1) A)(env:Env):iA cm k (A.deeper env):=
 ⟨r.hd,by have:=r.dp;show A.depth+1+3*k+5<_;lia,by have:=r.un;show A.units+3+16*k+200<_;lia⟩
theorem iA.mono(r:iA cm k A)(h:j<=k):iA cm j A:=⟨r.hd,by have:=r.dp;lia,by have:=r.un;lia⟩
theorem iA.depth(r:iA cm k A):A.depth<recursionLimit:=by have:=r.dp;lia
end
section
variable {X:Cx} {pins:List (Addr×Obj)} {σ:L2.St} {H:Hp} {s:Shared}
abbrev Zy(X:Cx)(A:Around)(cm:Bool)(E:Value->Shared->Prop):Cx:={X with A:=A,calm:=cm,xe:=E}
theorem LO{A:Around}{cm:Bool}{E:Value->Shared->Prop}(I:Inv X pins σ H s)(hf:A.frames=some X.stack)(hh:cm=true->A.handled=none):Inv (Zy X A cm E) pins σ H s:=
 ⟨⟨I.ok.mod,I.ok.kind,I.ok.glob,I.ok.blt,I.ok.above,I.ok.inj,I.ok.has,I.ok.Qf,hh,hf,I.ok.RH,I.ok.U_,I.ok.bs,I.ok.GD,I.ok.xb,I.ok.D7,I.ok.oZ,I.ok.J6⟩,I.os,I.bare,I.base,I.loc,I.cell,I.free,I.jD,I.pin,I.b_,I.len⟩
theorem kl{A:Around}{cm:Bool}{E:Value->Shared->Prop}(ok:X.Ok)(I:Inv (Zy X A cm E) pins σ H s):Inv X pins σ H s:=⟨ok,I.os,I.bare,I.base,I.loc,I.cell,I.free,I.jD,I.pin,I.b_,I.len⟩
abbrev zY(X:Cx)(pins:List (Addr×Obj))(E:XK):Cx:={X with pn:=X.pn++pins,xe:=λe s'=>∃a C t tb d σ H1 H' wo,e=.ref a/\Inv X pins σ H' s'/\H' a=some (c_ a C t tb d)/\CZ H' a tb/\Sub a H1 H'/\H1 a=some (c_ a C t wo d)/\E (.ref C) d H1}
theorem uK{E:XK}{vI:List (Addr×Obj)}(I:Inv (zY X pins E) vI σ H s):Inv X pins σ H s:=
 ⟨⟨I.ok.mod,I.ok.kind,I.ok.glob,I.ok.blt,I.ok.above,I.ok.inj,I.ok.has,I.ok.Qf,I.ok.hd,I.ok.frames,I.ok.RH,I.ok.U_,I.ok.bs,I.ok.GD,I.ok.xb,I.ok.D7,I.ok.oZ,I.ok.J6⟩,I.os,I.bare,I.base,I.loc,I.cell,I.free,I.jD,
  λp hp=>I.pin p (List.mem_append_left _ hp),I.b_,I.len⟩
theorem LP{E:XK}(I:Inv X pins σ H s):Inv (zY X pins E) [] σ H s:=
 ⟨⟨I.ok.mod,I.ok.kind,I.ok.glob,I.ok.blt,I.ok.above,I.ok.inj,I.ok.has,I.ok.Qf,I.ok.hd,I.ok.frames,I.ok.RH,I.ok.U_,I.ok.bs,I.ok.GD,I.ok.xb,I.ok.D7,I.ok.oZ,I.ok.J6⟩,I.os,I.bare,I.base,I.loc,I.cell,I.free,I.jD,
  λp hp=>I.pin p (by rcases List.mem_append.mp hp with z|z;exact z;cases z),I.b_,I.len⟩
theorem xT{E:XK}:mX (zY X pins E) E:=λ_ σ H' _ a C t tb d H1 wo I ha ht hs h1 hE=>⟨a,C,t,tb,d,σ,H1,H',wo,rfl,uK I,ha,ht,hs,h1,hE⟩
abbrev j8(X:Cx)(a:Addr):Cx:=Zy X (X.A.mark (some (.ref a))) false λ_ _=>False
theorem C2{a:Addr}(I:Inv X pins σ H s):Inv (j8 X a) pins σ H s:=LO I I.ok.frames nofun
theorem LQ{i:Nat}{n:Str}{h':Heap}{v:Option Value}{m:Str->Option Value}{tk:Nat}(I:Inv X pins σ H s)(hN:X.N.Nodup)(hi:X.N[i]?=some n)(hl:X.env.kindOf n=some .local)(hm:∀(j:Nat)(x:Str)(v:V),X.N[j]?=some x->σ[j]?=some (some v)->UJ X.env.scope x->∃u,RelV v u/\Look X.env s.heap m x u)(hn:h'.Ns X.env.locals (λx=>if x=n then v else m x))(hs:Heap.SameBut X.env.locals s.heap h'):Inv X pins (σ.set i none) H {s with heap:=h',toks:=tk}:=by
 have NP:i<σ.length:=by rw[I.len];exact(List.getElem?_eq_some_iff.mp hi).1
 have old:∀b o,X.ku.heap.get? b=some o->b≠X.env.locals:=λb o e=>Nat.ne_of_lt (Nat.lt_of_lt_of_le (Heap.lt_size e) I.ok.above);refine⟨I.ok,I.os,I.bare,⟨λb o e n hb hx=>(hs.2 b (old b o e)).trans (I.base.keep b o e n hb hx),λb o e n hb hx=>?_,I.base.free,λb o e hx=>?_,I.base.yT,I.base.wZ,I.base.w4⟩,⟨_,hn,λj y v' e1 e2 e3=>?_⟩,λy c e=>?_,I.free,I.jD,λp hp=>?_,λb o e=>?_,by simpa using I.len⟩
 ·obtain⟨sl,e1⟩:=I.base.slot b o e n hb hx;exact⟨sl,(hs.2 b (old b o e)).trans e1⟩
 ·obtain⟨o',e1⟩:=I.base.there b o e hx;exact⟨o',(hs.2 b (old b o e)).trans e1⟩
 ·by_cases hj:j=i
  ·subst hj;rw[List.getElem?_set_self NP] at e2;cases e2
  ·rw[List.getElem?_set_ne (Ne.symm hj)] at e2;obtain⟨u',r',q⟩:=hm j y v' e1 e2 e3;refine⟨u',r',?_⟩;rcases q with⟨k,e⟩|⟨k,c,e,z⟩
   ·have ne:y≠n:=λe=>hj (xc hN e1 (e▸hi));exact .inl ⟨k,(show(if y=n then v else m y)=some u' from(if_neg ne).trans e)⟩
   ·exact .inr ⟨k,c,e,z.sameBut hs (I.NO y c e)⟩
 ·obtain⟨w',z⟩:=I.cell y c e;exact⟨w',z.sameBut hs (I.NO y c e)⟩
 ·obtain⟨e,n,ne,nf,d⟩:=I.pin p hp;exact⟨(hs.2 p.1 ne).trans e,n,ne,nf,d⟩
 ·refine(I.b_ b o e).nv (λc v hc q=>(hs.2 c ?_).trans q) (λ_ q=>q) λ_ _ q=>q;rintro rfl;rcases hc with z|z
  ·rw[<-z,I.free] at e;cases e
  ·rw[I.free] at z;cases z
theorem name_goes{M:Model}{A:Around}{E:Value->Shared->Prop}{i:Nat}{n:Str}{pos:Pos}{Q:Unit->Shared->Prop}(I:Inv X pins σ H s)(hN:X.N.Nodup)(hi:X.N[i]?=some n)(hl:X.env.kindOf n=some .local)(h:∀s',Inv X pins (σ.set i none) H s'->Q () s'):
 wpAny M A (do bindName X.env n .none;unbindBehindTheSuite X.env n pos) Q E s:=by
 obtain⟨m,hn,hm⟩:=id I.loc;have Kh:(X.env.scope.kind==.class||(X.env.scope.kind==.module&&X.env.locals !=X.env.globals))=false:=by rw[I.ok.kind];rfl
 exact wpAny_nameGoes_keeps hl hn Kh λh' v UK hs=>h _ (LQ I hN hi hl hm UK hs)
end
structure D5(P:Program)(w:World)(K:Frag)(mg:Str->Option Value)(base:Heap)(CX:vL)(cm:Bool)(k:Nat)(f:Addr)(fd:FuncData)(ps:List Str)(sp:Shared->Sp):Prop where
 len:∀s vs H Q E,sp s vs H Q E->vs.length=ps.length
 run:∀(A:Around)(outer:List Env)(s:Shared)(H:Hp)(args:Args)(us:List Value)(vs:List V)(Q:VK)(E:XK),iA cm k A->xn P w K mg base A outer s H->BindsTo s fd args (ps.zip us)->Vals vs us->sp s vs H Q E->
  codeAny (model P w) A (.call (.ref f) args) (CR CX outer P w H s Q E) s
abbrev LR(CX:vL)(cm:Bool)(P:Program)(w:World)(K:Frag)(mg:Str->Option Value)(base:Heap)(N:List Str)(qual:Str)(scope:Scope)(f:Addr)(cd:Value)(A:Around)(outer:List Env)(s:Shared)(H:Hp)(E:XK):Cx:=
 {xp CX P w K mg base N qual scope f cd A outer s H E with calm:=cm}
section
variable {P:Program} {w:World} {K:Frag} {mg:Str->Option Value} {base:Heap} {CX:vL} {cm:Bool} {k:Nat}
theorem D5.ok{f:Addr}{fd:FuncData}{ps:List Str}{sp:Sp}(F:D5 P w K mg base CX cm k f fd ps λ_=>sp)(len:∀vs H Q E,sp vs H Q E->vs.length=ps.length):dU P w K mg base CX k f fd ps sp:=
 ⟨len,λA outer s H args us vs Q E hr=>F.run A outer s H args us vs Q E (Q2 hr)⟩
theorem EU{N ps:List Str}{qual:Str}{scope:Scope}{f:Addr}{cd:Value}{A:Around}{outer:List Env}{s s1:Shared}{H:Hp}{E:XK}{us:List Value}{vs:List V}(S:aI N ps scope)(hd:cm=true->A.handled=none)(e0:xn P w K mg base A outer s H)(hl:vs.length=ps.length)(r:Vals vs us)(x:InCallC s s.heap.objs.size (bindL (envOfC qual scope s.heap.objs.size f cd).kindOf (ps.zip us) λ_=>none) (cellsFrom (s.heap.objs.size+1) scope.names []) (bindC (envOfC qual scope s.heap.objs.size f cd).kindOf (ps.zip us) λ_=>none) s1):
 Inv (LR CX cm P w K mg base N qual scope f cd A outer s H E) [] (start N vs) H s1:=by
 have e1:xn P w K mg base {A with handled:=none} outer s H:=⟨e0.frames,e0.mod,e0.bs,e0.GD,e0.oZ,e0.J6,e0.b_,e0.bare⟩;have I:=zH (CX:=CX) (E:=E) S (A:={A with handled:=none}) rfl e1 hl r x;exact LO (X:=xp CX P w K mg base N qual scope f cd {A with handled:=none} outer s H E) (A:=A.deeper (envOfC qual scope s.heap.objs.size f cd)) (cm:=cm) (E:=(xp CX P w K mg base N qual scope f cd A outer s H E).xe) I (Around.frames_deeper e0.frames) hd
theorem _root_.L2.ue.pD{x qual:Str}{st:Stmt}{f:Addr}{fd:FuncData}{N ps:List Str}{sp:Shared->Sp}(F:ue K x qual st f fd)(S:aI N ps (ax st))(len:∀s vs H Q E,sp s vs H Q E->vs.length=ps.length)(pf:∀(bH:Value)(A:Around)(outer:List Env)(s:Shared)(H:Hp)(vs:List V)(Q:VK)(E:XK),codeIn K bH qual=true->fd.code=bH->iA cm k (A.deeper (envOfC qual (ax st) s.heap.objs.size f bH))->sp s vs H Q E->
 ∃t,vJ (LR CX cm P w K mg base N qual (ax st) f bH A outer s H E) (dc st) t/\t {nx:=λ_ H'=>Q .dH H',rt:=Q} (start N vs) H):D5 P w K mg base CX cm (k+1) f fd ps sp:=by
 obtain⟨oc,od,kV,doc,pm,an,bH,ct,vM,rfl,lk,iq⟩:=F.ex;refine⟨len,λA outer s H args us vs Q E hr e0 hb r GO=>?_⟩;have KX:K.In s.heap:=e0.mod.Kf.keeps λb o e=>(e0.bs b o e).1;have lim:s.heap.NoLimit:=e0.mod.nolimit.keeps λb o e=>(e0.bs b o e).1;refine codeAny_call_function hr.depth (KX _ _ lk) rfl S.co S.gen rfl (codeRec_of KX iq) (hb _ _ _ _ ?_);refine wpAny_newFunctionEnv_cells S.kind (λ⟨n,v⟩ hy=>?_) λenv he s1 x=>?_
 ·rcases S.par n (List.of_mem_zip hy).1 with q|q
  ·exact .inl q
  ·exact .inr ⟨q,cellsFrom_some _ _ _ (.inl q)⟩
 ·subst he;refine⟨lim.keeps x.toInCall.keep,codeAny_func ?_⟩;obtain⟨t,ht,hq⟩:=pf bH A outer s H vs Q E iq rfl (hr.deeper _) GO;have I:Inv (LR CX cm P w K mg base N qual (ax st) f bH A outer s H E) [] (start N vs) H s1:=EU S hr.hd e0 (len _ _ _ _ _ GO) r x;refine wpAny_mono (ht [] s1 _ H _ I hq) (λfl s' hs=>?_) λe s' hs=>hs;cases fl with
  |ret u=>obtain⟨v,cH,H',J,rv,q⟩:=hs;exact⟨v,H',J.os,J.bare,J.base,J.b_,rv,q⟩
  |next=>obtain⟨cH,H',J,q⟩:=hs;exact⟨.dH,H',J.os,J.bare,J.base,J.b_,rfl,q⟩
  |brk=>obtain⟨_,_,_,q⟩:=hs;exact q.elim
  |cont=>obtain⟨_,_,_,q⟩:=hs;exact q.elim
end
structure cq(P:Program)(w:World)(K:Frag)(mg:Str->Option Value)(base:Heap)(CX:vL)(cm:Bool)(k:Nat)(x:Str)(ps:List Str)(sp:Shared->Sp):Prop where
 ex:∃f fd,D5 P w K mg base CX cm k f fd ps sp/\mg x=some (.ref f)/\keepIn K (.ref f)=true/\Binds K fd ps []
theorem _root_.L2.aU.pD{P:Program}{w:World}{K:Frag}{mg:Str->Option Value}{base:Heap}{CX:vL}{cm:Bool}{k:Nat}{x:Str}{st:Stmt}{N ps:List Str}{sp:Shared->Sp}(D:aU K mg x st ps)(S:aI N ps (ax st))(len:∀s vs H Q E,sp s vs H Q E->vs.length=ps.length)(pf:∀(f:Addr)(bH:Value)(A:Around)(outer:List Env)(s:Shared)(H:Hp)(vs:List V)(Q:VK)(E:XK),codeIn K bH x=true->iA cm k (A.deeper (envOfC x (ax st) s.heap.objs.size f bH))->sp s vs H Q E->
 ∃t,vJ (LR CX cm P w K mg base N x (ax st) f bH A outer s H E) (dc st) t/\t {nx:=λ_ H'=>Q .dH H',rt:=Q} (start N vs) H):cq P w K mg base CX cm (k+1) x ps sp:=
 let⟨f,fd,a,b,c⟩:=D.ex
 ⟨f,fd,a.pD S len λbH A outer s H vs Q E hc _=>pf f bH A outer s H vs Q E hc,b,a.kp,c⟩
theorem aR{cm:Bool}{P:Program}{w:World}{K:Frag}{mg:Str->Option Value}{base:Heap}{N:List Str}{qual:Str}{scope:Scope}{f:Addr}{cd:Value}{A:Around}{outer:List Env}{s:Shared}{H:Hp}{E:XK}:
 mX (LR (f9 P w) cm P w K mg base N qual scope f cd A outer s H E) E:=λpins σ H' s' a C t tb d H1 wo I ha ht hs h1 hE=>by
 show wpAny _ _ (leaving _ _) _ _ _;exact Jg (X:=LR (f9 P w) cm P w K mg base N qual scope f cd A outer s H E) rfl rfl I ha ht λs2 H2 T J S1 Zz BU=>
  ⟨a,C,t,_,d,H1,H2,wo,rfl,J.os,J.bare,J.base,J.b_,S1,Zz,hs.trans BU,h1,hE⟩
section
variable {X:Cx} {CX:vL} {cm:Bool} {k:Nat} {f:Addr} {fd:FuncData} {ps:List Str} {E:XK} {x:Str} {p pos:Pos} {e:Expr} {es:List Expr} {t:TA}
theorem AS{sp:Shared->Sp}{pins:List (Addr×Obj)}{σ:L2.St}{H:Hp}{s:Shared}{Q:VK}{us:List Value}{vs:List V}(F:D5 X.prog X.w X.K X.mg X.base CX cm k f fd ps sp)(hr:iA cm k X.A)(hb:Binds X.K fd ps [])(hx:Passes CX X E)(I:Inv X pins σ H s)(r:Vals vs us)(h:sp s vs H Q E):wpAny (model X.prog X.w) X.A (call (.ref f) us) (EP X pins σ Q) X.xe s:=by
 have hl:us.length=ps.length:=by rw[<-r.length];exact F.len _ _ _ _ _ h
 have ZA:BindsTo s fd ⟨us,[]⟩ (ps.zip us):=by
  have:=hb s us I.o9 (by rw[List.append_nil];exact hl);rw[List.append_nil] at this;exact this
 refine wpAny_call (codeAny_mono (F.run X.A X.stack s H ⟨us,[]⟩ us vs Q E hr I.env0 ZA r h) λr s' hq=>?_);cases r with
 |error e=>exact hx pins σ H s e s' I hq
 |ok fl=>
  cases fl with
  |ret u=>exact I.after hq
  |next=>exact False.elim hq
  |brk=>exact False.elim hq
  |cont=>exact False.elim hq
theorem cj{sp:Sp}(F:cq X.prog X.w X.K X.mg X.base CX cm k x ps λ_=>sp)(hr:iA cm k X.A)(hx:Passes CX X E)(ha:PA X (e::es) t)(hg:Gl X x:=by rfl)(uw:(x==("__debug__":Str))=false:=by decide)(he:starEach (e::es) X.env=(false,eval e X.env)::starEach es X.env:=by rfl)(pe:(backTo pos (starEach es X.env)).any (·.1)=false:=by rfl):PE X (.Call (.Name x p) (e::es) [] pos) (pb sp [] E t):=by
 obtain⟨f,fd,a,b,c,d⟩:=F.ex;intro pins s σ H Q I h;refine wpAny_Call_Name_kw (fW I hg b ?_ uw);refine callWith_K (h₀:=X.base) I.ok.mod.Kf c (cB (ha pos pins s σ H _ I h) λus s1⟨vs,H1,I1,r,q⟩=>⟨I1.o9,?_⟩) he pe;have q':sp (vs++[]) H1 Q E:=q;rw[List.append_nil] at q';exact AS a hr d hx I1 r q'
end
def s_(f:Addr)(name qual:Str)(params:Arguments)(body:Expr)(scope:Scope)(cl:List (Str×Addr))(c':Addr):HO:=.ext λh=>∃pm EV,h.get? f=some (kla_obj name qual params body scope cl pm c' EV)
def BMain(base:Heap)(mg:Str->Option Value):Prop:=∃bm ob,mg "__builtins__"=some (.ref bm)/\bm≠builtinsNs/\bm≠mainGlobals/\base.get? bm=some ob/\ob.cls=.type "module"/\ob.dict=some builtinsNs/\ob.data=.plain
structure C3(N ps:List Str)(sc:Scope):Prop where
 kind:sc.kind=.function
 co:sc.isCoroutine=false
 gen:sc.isGenerator=false
 par:∀x∈ps,sc.names.lookup x=some .local
 lq:∀y∈sc.names,y.2≠.cell
def ZC(CX:vL)(cm:Bool)(P:Program)(w:World)(K:Frag)(mg:Str->Option Value)(base:Heap)(N:List Str)(qual:Str)(scope:Scope)(f:Addr)(cd:Value)(cl:List (Str×Addr))(A:Around)(outer:List Env)(s:Shared)(H:Hp)(E:XK):Cx where
 prog:=P
 w:=w
 K:=K
 mg:=mg
 base:=base
 A:=A.deeper (envX qual scope s.heap.objs.size f cd cl)
 N:=N
 ku:=s
 Ij:=H
 env:=envX qual scope s.heap.objs.size f cd cl
 outer:=outer
 stack:=envX qual scope s.heap.objs.size f cd cl::outer
 ex:=[]
 calm:=cm
 fn:=λ_=>false
 pn:=[]
 xe:=λe s'=>wpAny (model P w) (A.deeper (envX qual scope s.heap.objs.size f cd cl)) (leaving (envX qual scope s.heap.objs.size f cd cl) e) (λ_ RU=>CX outer H s E e RU) (λe' RU=>CX outer H s E e' RU) s'
section
variable {P:Program} {w:World} {K:Frag} {mg:Str->Option Value} {base:Heap} {CX:vL} {cm:Bool} {k:Nat} {N ps:List Str} {name qual:Str} {params:Arguments} {body:Expr} {scope:Scope} {f c':Addr} {cl:List (Str×Addr)} {A:Around} {outer:List Env} {s:Shared} {H:Hp} {E:XK} {Q:VK} {pm EV:Value}
theorem OJ{args:Args}{us:List Value}(S:C3 N ps scope)(ho:s.heap.get? f=some (kla_obj name qual params body scope cl pm c' EV))(iq:s.heap.CodeRec (.ref c') qual)(e0:xn P w K mg base A outer s H)(hr:iA cm (k+1) A)(LS:bindArgs (kla_fn name qual params body scope cl pm (.ref c') EV) args=pure (ps.zip us))(yS:∀x c,cl.lookup x=some c->(∃v,s.heap.IsCell c v)/\H c=none)(ZD:∀x y c,cl.lookup x=some c->cl.lookup y=some c->x=y)(ZE:∀x,scope.names.lookup x=some .free->∃c,cl.lookup x=some c){σ:L2.St}(hσ:σ.length=N.length)(hv:∀(i:Nat)(x:Str)(v:V),N[i]?=some x->σ[i]?=some (some v)->(scope.names.lookup x=some .local/\∃u,RelV v u/\(ps.zip us).reverse.lookup x=some u)\/(scope.names.lookup x=some .free/\∃c u,cl.lookup x=some c/\s.heap.IsCell c (some u)/\RelV v u))(pf:iA cm k (A.deeper (envX qual scope s.heap.objs.size f (.ref c') cl))->∃t,PE (ZC CX cm P w K mg base N qual scope f (.ref c') cl A outer s H E) body t/\t σ H Q):
 codeAny (model P w) A (.call (.ref f) args) (CR CX outer P w H s Q E) s:=by
 have lim:s.heap.NoLimit:=e0.mod.nolimit.keeps λb o e=>(e0.bs b o e).1;refine kla_callFunE hr.depth ho rfl S.co S.gen rfl iq ?_;rw[LS];refine wpAny_pure (wpAny_newFunctionEnv S.lq (λx hx=>S.par _ (List.of_mem_zip (show(x.1,x.2)∈ps.zip us from hx)).1) (λlZ wL D3=>⟨lim.fresh _ D3,?_⟩) S.kind);show codeAny _ _ (.expr body (envX qual scope s.heap.objs.size f (.ref c') cl)) _ _;have LU:∀b o,s.heap.get? b=some o->lZ.get? b=some o:=λb o e=>D3.extBut b o (Nat.ne_of_lt (Heap.lt_size e)) (Heap.get?_push_of_some _ e);obtain⟨t,ht,hq⟩:=pf (hr.deeper _);have cK:∀c v,s.heap.IsCell c v->lZ.IsCell c v:=λc v⟨o,e,d⟩=>⟨o,LU _ _ e,d⟩;have I:Inv (ZC CX cm P w K mg base N qual scope f (.ref c') cl A outer s H E) [] σ H {s with heap:=lZ,toks:=s.toks+(ps.zip us).length}:=by
  have Kt:∀b:Addr,b∉(ZC CX cm P w K mg base N qual scope f (.ref c') cl A outer s H E).ex:=λb z=>absurd (show b∈([]:List Addr) from z) (by simp);refine⟨⟨e0.mod,S.kind,rfl,rfl,Nat.le_refl _,ZD,λy hy=>?_,λy c z=>Bool.noConfusion (show false=true from z),hr.hd,Around.frames_deeper e0.frames,.inr ⟨rfl,rfl⟩,λb z=>absurd z (Kt b),e0.bs,e0.GD,λb _ _=>Kt b,λb z=>absurd z (Kt b),e0.oZ,e0.J6⟩,
   rfl,e0.bare,Un.kept LU,⟨_,wL,λi x v h1 h2 h3=>?_⟩,λy c e=>?_,e0.b_.fresh (Nat.le_refl _),λy c e=>(yS y c e).2,λp hp=>absurd (show p∈([]:List (Addr×Obj)) from hp) (by simp),e0.b_.kept LU,hσ⟩
  ·have hy:scope.names.lookup y=some .cell\/scope.names.lookup y=some .free:=hy;rcases hy with hy|hy
   ·exact absurd rfl (S.lq _ (PySem.mem_of_lookup hy))
   ·exact ZE y hy
  ·rcases hv i x v h1 h2 with⟨k,u,r,e⟩|⟨k,c,u,e,z,r⟩
   ·exact⟨u,r,.inl ⟨k,e⟩⟩
   ·exact⟨u,r,.inr ⟨.inr k,c,e,cK _ _ z⟩⟩
  ·obtain⟨v,z⟩:=(yS y c e).1;exact⟨v,cK _ _ z⟩
 refine kla_codeExpr (wpAny_mono (ht [] _ σ H Q I hq) (λu s'⟨v,H',J,rv,q⟩=>⟨v,H',J.os,J.bare,J.base,J.b_,rv,q⟩) λe s' hs=>hs)
end
def Wo(H:Hp)(d:Option Addr):Prop:=d=none\/∃dx fs,d=some dx/\H dx=some (.xd fs)
theorem C4{P:Program}{w:World}{H:Hp}{h:Heap}{a C t:Addr}{tb:Value}{d:Option Addr}(x:lW P w H h)(ha:H a=some (c_ a C t tb d))(hd:Wo H d):∃ox od vs,InstAt h a ox C od/\ox.dict=d/\ox.data=.fields vs/\vs[0]?=some (.ref t):=by
 obtain⟨o,vs,e,hc,Qg,hf,h6,h0,h1⟩:=i_ x ha;have no:notCls o=true:=by
  obtain⟨cc,dd,dt,sl⟩:=o;simp only at hf;subst hf;rfl
 rcases hd with rfl|⟨dx,fs,rfl,hx⟩
 ·exact⟨o,none,vs,⟨e,hc,no,by rw[Qg];trivial⟩,Qg,hf,h0⟩
 ·obtain⟨mA,⟨od,es,ep,e2,r⟩,_⟩:=(show dX P w H h dx (.xd fs) from x dx _ hx);exact⟨o,some od,vs,⟨e,hc,no,by rw[Qg];exact e2⟩,Qg,hf,h0⟩
section
variable {X:Cx}
def Wq(K:Frag)(te:TE)(f:Str):TE:=λσ H Q=>te σ H λx H1=>∃a C t tb dx fs v,x=.ref a/\H1 a=some (c_ a C t tb (some dx))/\H1 dx=some (.xd fs)/\S0 K C/\findIn K (.ref C) f=some none/\fs.lookup f=some v/\Q v H1
theorem S2{e:Expr}{te:TE}{f:Str}{pos:Pos}(he:PE X e te)(hb:attributeBase e f X.env (eval e X.env)=eval e X.env):PE X (.Attribute e f pos) (Wq X.K te f):=by
 intro pins s σ H Q I h;refine GL hb (cB (he pins s σ H _ I h) λu s1⟨x,H1,I1,rx,a,C,t,tb,dx,fs,v,ex,ha,hx,F,hf,hl,q⟩=>?_);subst ex;obtain rfl:u=Value.ref a:=rx;obtain⟨ox,od,vs,J,X6,_⟩:=C4 I1.b_ ha (.inr ⟨dx,fs,rfl,hx⟩);obtain⟨mA,hn,hr⟩:=(show dX X.prog X.w H1 s1.heap dx (.xd fs) from I1.b_ dx _ hx);obtain⟨u,hu,ru⟩:=oY.some_of (v:=v) (o:=mA f) (by rw[<-hl];exact hr f);obtain⟨od',Kg,hlk⟩:=zB hn;have hd:=J.dict;rw[X6] at hd;cases od with
 |none=>exact hd.elim
 |some od=>
 have ee:od=od':=Option.some.inj (hd.symm.trans Kg);subst ee;have OK:findObj X.K C (some od) f=some (.value u):=findObj_own F.dct hf rfl (by rw[hlk,hu]);unfold getAttr;refine wpAny_bind (wpAny_mkText ?_);refine xby (s:={s1 with toks:=s1.toks+1}) I1.o9 J F.ga F.gk F.base λA' E'=>?_;exact Jf (s:={s1 with toks:=s1.toks+1}) I1.o9 J OK ⟨_,rfl,zC ru,v,H1,I1.tok _,ru,q⟩
end
end SF
namespace SF
open PySem PySem.W PySem.Builtin PySem.Builtin.ObjectAttr
section
variable {prog:Program} {w:World} {A:Around} {E:Value->Shared->Prop} {h:Heap} {g:Array GenState} {d:Drawn} {t:Nat} {os:OsState}
variable {nm q:Str} {C N:Addr} {bs bm NC:List Value} {hdct:Bool} {sn:List Str} {sub:List Value} {ab:Bool} {col:Option Bool} {dd:Option Addr} {k0 k1 k2 k3 k5:Option Value} {B Bn newId ZF AU inN:String} {bmN:List Value}
theorem xU(Fn:ExcBaseFacts Bn newId inN bmN)(X7:NC.contains (.type Bn)=true)(F:ExcBaseFacts B ZF AU NC)(T:OwnTail h NC bm){mN:Str->Option Value}{rest:List Value}{fI:Addr}{oI:Obj}{Q:Fin->Shared->Prop}(hC:h.get? C=some (excClassObj nm q C N bs bm hdct sn sub ab col dd k0 k1 k2 k3 k5 newId))(hn:h.Ns N mN)(hi:mN "__init__"=some (.ref fI))(Wr:h.get? fI=some oI)(S4:oI.cls=.type "function")(hq:∀h' e,Heap.MadeExcOf h h' e (.ref C) rest->wpAny (model prog w) A (call (.ref fI) (.ref e::rest)) (λr s'=>r=.none/\Q (.done (.ret (.ref e))) s') E ⟨h',g,d,t,os⟩)(zZ:rest.length<=sizeLine):
 wpAny (model prog w) A (Builtin.«type.__call__» ⟨.ref C::rest,[]⟩) Q E ⟨h,g,d,t,os⟩:=by
 repeat (first|with_reducible refine wpAny_loadPart_at hC ?_|with_reducible refine wpAny_madeBy_exc hC ?_|wp_step)
 refine codeAny_call_builtin_code (Code.quiet_builtin _ Fn.quiet) (wpAny_check_new_subU Fn X7 T hC ?_);refine codeAny_exc_new_subU Fn X7 F T hC ?_ zZ;show wpAny _ _ _ _ _ _;generalize ZG:({cls:=.type "tuple",data:=.seq rest.toArray}:Obj)=o1;generalize ZH:({cls:=.ref C,data:=.fields #[.ref h.objs.size,.none,.none,.none,.bool false,.none]}:Obj)=o2;have keep:∀b o,h.get? b=some o->((h.push o1).push o2).get? b=some o:=λb o e=>Heap.get?_push_of_some _ (Heap.get?_push_of_some _ e);have Ws:((h.push o1).push o2).get? (h.objs.size+1)=some o2:=by subst ZG ZH;heap_get
 have Q3:=keep _ _ hC;have hcC:(Value.ref C::bm).contains (.ref C)=true:=by simp
 have yS:o2.cls=.ref C:=by subst ZH;rfl
 unfold isInstance
 repeat (first|(with_reducible refine wpAny_loadPart_at Ws ?_;rw[yS])|(with_reducible refine wpAny_isSubtype_exc Q3 ?_;rw[hcC])|wp_step)
 show wpAny _ _ (typeLookup (.ref C) _) _ _ _;refine wpAny_typeLookup_tail Q3 (hn.keeps keep) (T.keeps keep) F.mroIs F.init.lookup ?_;rw[hi];refine wpAny_holding (wpAny_bind ?_);unfold bindSpecial;refine wpAny_bind (wpAny_typeOf (T:="function") ⟨_,keep _ _ Wr,S4⟩ ?_);rw[if_pos (by decide)];refine wpAny_pure (wpAny_bind (wpAny_mono (hq _ (h.objs.size+1) ⟨keep,Heap.get?_none_of_le (Nat.le_succ _),h.objs.size,by rw[Ws,<-ZH],Heap.get?_none_of_le (Nat.le_refl _),?_⟩) (λr s' hr=>?_) λ_ _ x=>x))
 ·rw[Heap.get?_push_of_some _ (Heap.get?_push_at rfl (by subst ZG;rfl)),<-ZG]
 ·obtain⟨rfl,hQ⟩:=hr
  wp_walk
  exact hQ
theorem Jh(Fn:ExcBaseFacts Bn newId inN bmN)(X7:NC.contains (.type Bn)=true)(F:ExcBaseFacts B ZF AU NC)(T:OwnTail h NC bm){mN:Str->Option Value}{rest:List Value}{fI:Addr}{oI:Obj}{Q:Value->Shared->Prop}(hC:h.get? C=some (excClassObj nm q C N bs bm hdct sn sub ab col dd k0 k1 k2 k3 k5 newId))(hn:h.Ns N mN)(hi:mN "__init__"=some (.ref fI))(Wr:h.get? fI=some oI)(S4:oI.cls=.type "function")(hq:∀h' e,Heap.MadeExcOf h h' e (.ref C) rest->wpAny (model prog w) (A.under (.builtin "type.__call__" ⟨.ref C::rest,[]⟩)) (call (.ref fI) (.ref e::rest)) (λr s'=>r=.none/\Q (.ref e) s') E ⟨h',g,d,t,os⟩)(zZ:rest.length<=sizeLine):
 wpAny (model prog w) A (call (.ref C) rest) Q E ⟨h,g,d,t,os⟩:=by
 have f1:=tc_lookup;have f2:=tc_bind (.ref C);have hT:(⟨h,g,d,t,os⟩:Shared).TypeIs (.ref C) "type":=⟨_,hC,rfl⟩;refine wpAny_call (codeAny_of_tree ?_);show wpAny _ _ (callAny (.ref C) _) _ _ _
 repeat (any_goals (first|assumption|with_reducible refine wpAny_loadPart_at hC ?_|wp_step))
 refine⟨rfl,?_⟩;exact codeAny_call_builtin_at (Code.quiet_builtin _ (by decide +kernel)) entry_typeCall (wpAny_check_type_call_sub hC (xU Fn X7 F T hC hn hi Wr S4 (λh' e hm=>hq h' e hm) zZ))
theorem EW(F:ExcBaseFacts B ZF AU NC)(T:OwnTail h NC bm){e:Addr}{oe:Obj}{vs:Array Value}{rest:List Value}{Q:Value->Shared->Prop}(hC:h.get? C=some (excClassObj nm q C N bs bm hdct sn sub ab col dd k0 k1 k2 k3 k5 newId))(he:h.get? e=some oe)(Kh:oe.cls=.ref C)(hd:oe.data=.fields vs){t0:Addr}(h0:vs[0]?=some (.ref t0))(zZ:rest.length<=sizeLine)(hq:Q .none ⟨(h.push {cls:=.type "tuple",data:=.seq rest.toArray}).update e (Obj.mapFields (·.setIfInBounds 0 (.ref h.objs.size))),g,d,t,os⟩):
 wpAny (model prog w) A (call (.builtin AU) (.ref e::rest)) Q E ⟨h,g,d,t,os⟩:=by
 refine wpAny_call (codeAny_call_builtin F.init.plain F.initEntry (wpAny_check_init_subU F T hC he Kh ?_));unfold Builtin.«BaseException.__init__»
 repeat wp_step
 rw[hd];refine wpAny_pure ?_;rw[h0];refine wpAny_pure (wpAny_bind (wpAny_setField (Heap.get?_push_of_some _ he) hd (Array.getElem?_eq_some_iff.mp h0).1 ?_))
 repeat wp_step
 exact hq
end
def Ho:List Value->Bool
 |[.type a,.type b,.type c,.type d]=>a=="ValueError"&&b=="Exception"&&c=="BaseException"&&d=="object"
 |.ref _::r=>Ho r
 |_=>false
theorem tj(self:Value):∀{l:List Value},Ho l=true->refuseLoop self "__setattr__" l=pure ()
 |[.type a,.type b,.type c,.type d],e=>by
  simp only[Ho,Bool.and_eq_true,beq_iff_eq] at e;obtain⟨⟨⟨rfl,rfl⟩,rfl⟩,rfl⟩:=e;exact PySem.F.store_ValueError.passes self
 |.ref c::r,e=>by rw[refuseLoop_ref];exact tj self (by cases r<;>first|exact e|cases e)
def wQ(K:Frag)(C:Addr):Bool:=(clsIn K C).any λcd=>cd.hasDict&&Ho cd.mro
section
variable {prog:Program} {w:World} {A:Around} {E:Value->Shared->Prop} {s:Shared} {K:Frag} {x C:Addr} {ox:Obj} {vs:Array Value} {name:Str} {v:Value} {Q:Unit->Shared->Prop}
theorem OL(X:K.In s.heap)(I:InstAt s.heap x ox C none)(X8:ox.dict=none)(hd:ox.data=.fields vs)(hp:wQ K C=true)(hs:findIn K (.ref C) "__setattr__"=some (some (.builtin "object.__setattr__")))(OM:mroIn K C (.type "object")=some true)(ha:findIn K (.ref C) name=some none)(h:∀h' tk,(∀b o,b≠x->s.heap.get? b=some o->h'.get? b=some o)->h'.get? x=some {ox with dict:=some s.heap.objs.size}->h'.Ns1 s.heap.objs.size (λy=>if y=name then some v else none)->Q () {s with heap:=h',toks:=tk}):
 wpAny (model prog w) A (setAttr (.ref x) name v) Q E s:=by
 obtain⟨cd,hc,iq⟩:=any_some hp;simp only[Bool.and_eq_true] at iq;refine set_plain X I hs ?_;have SF:=PySem.F.store_object;have sub:Looks (model prog w) s.heap (isInstance (.ref x) (.type "object")) true:=I.type.andThen (looks_mroIn X OM);refine codeAny_call_builtin SF.slot.plain SF.entry (@check_slot (model prog w) _ _ {s with toks:=s.toks+1} "object.__setattr__" "object" "__setattr__" (.ref x) [.str name s.toks,v] [] _ SF.kind SF.split sub (SF.args (.ref x) (.str name s.toks) v) ?_);have hm:Looks (model prog w) s.heap (mroOf (.ref C)) cd.mro:=(looks_clsIn X hc).andThen .now;have L0:=I.type (M:=model prog w);have L1:=looks_findIn (M:=model prog w) X ha;rw[osa_eq];refine wpAny_bind ?_;rw[refuse_eq];refine wpAny_bind (L0 _ _ _ _ (λ_ _ e=>e) (wpAny_bind (hm _ _ _ _ (λ_ _ e=>e) ?_)));rw[tj _ iq.2];refine wpAny_pure (wpAny_bind (L0 _ _ _ _ (λ_ _ e=>e) (wpAny_bind (L1 _ _ _ _ (λ_ _ e=>e) (wpAny_bind (wpAny_pure ?_))))))
 dsimp only
 obtain⟨hx,yS,hn,-⟩:=I;obtain⟨oc,odi,oda,vM⟩:=ox
 dsimp only at yS hd X8
 subst yS hd X8;refine wpAny_bind (wpAny_pure (wpAny_bind (wpAny_bind (wpAny_loadPart hx (wpAny_bind ((looks_clsIn X hc) _ _ _ _ (λ_ _ e=>e) ?_))))));rw[iq.1]
 dsimp only
 have hxs:x≠s.heap.objs.size:=Nat.ne_of_lt (Heap.lt_size hx);have Q4:(s.heap.push {cls:=.type "dict",data:=.dict #[]}).get? x=some ⟨.ref C,none,.fields vs,vM⟩:=Heap.get?_push_of_some _ hx;refine wpAny_bind (wpAny_alloc' ?_);refine wpAny_bind (wpAny_update' Q4 ?_);refine wpAny_pure ?_;generalize J8:((s.heap.push {cls:=.type "dict",data:=.dict #[]}).update x λo=>{cls:=o.cls,dict:=some s.heap.objs.size,data:=o.data,slots:=o.slots})=h2;have hgd:h2.get? s.heap.objs.size=some {cls:=.type "dict",data:=.dict #[]}:=by subst J8;exact(Heap.get?_update_ne _ _ _ _ hxs.symm).trans (Heap.get?_push_at rfl rfl)
 have X8:h2.Ns s.heap.objs.size (λ_=>none):=⟨_,#[],_,hgd,rfl,λe he=>absurd he (by simp),λ_=>rfl⟩;have keep:∀b o,b≠x->s.heap.get? b=some o->h2.get? b=some o:=λb o hb e=>by subst J8;exact(Heap.get?_update_ne _ _ _ _ hb).trans (Heap.get?_push_of_some _ e)
 have X1:h2.get? x=some ⟨.ref C,some s.heap.objs.size,.fields vs,vM⟩:=by subst J8;exact Heap.get?_update_self _ Q4 rfl
 show wpAny _ _ (storeInDict s.heap.objs.size (.str name s.toks) name v) _ _ _;unfold storeInDict newKeyGuard;refine wpAny_bind (wpAny_pure (wpAny_bind (wpAny_nsSet1 (Heap.Ns1.of_empty X8) λh' UK hs=>?_)));obtain⟨oD,esD,epD,YD,YE,YF⟩:=UK.count (Within.cons name v Within.nil);refine wpAny_bind (wpAny_lookBehind YD (by rw[YE];exact pastItsLine_dict (Nat.le_trans YF (by rw[List.length_cons,List.length_nil,sizeLine_eq];lia))) ?_);refine wpAny_pure ?_;exact h _ _ (λb o hb e=>(hs.2 b (Nat.ne_of_lt (Heap.lt_size e))).trans (keep b o hb e)) ((hs.2 x hxs).trans X1) UK
end
end SF
namespace SF
open PySem PySem.Spec PyProof.Rows L2 PySem.W
theorem S5{K:Frag}{h:Heap}{N:Addr}{m:Str->Option Value}{n:Str}{v:Value}(X:K.In h)(G:h.Ns N m)(e:nsIn K N n=some (some v)):m n=some v:=by
 obtain⟨⟨c,d,dt,sl⟩,es,ep,ho,hd,_,hf⟩:=G;cases hd
 cases q:K.lookup N with
 |none=>simp[nsIn,q] at e
 |some ob=>
  have z:=(X _ _ q).symm.trans ho;cases z;simp only[nsIn,q] at e;cases he:es.toList.find? (·.key.isStr n) with
  |none=>rw[he] at e;dsimp only at e;split at e<;>cases e
  |some en=>
   rw[he] at e;cases e;rw[<-hf,nsFind,findBy,<-Array.find?_toList,he];rfl
def EX(K:Frag)(C:Addr)(NC:List Value)(newId:String)(fI:Addr):Bool:=match K.lookup C with
 |some ⟨.type "type",_,.cls cd,sl⟩=>(match cd.mro,sl.toList with
  |.ref C'::bm,[_,_,_,_,some (.builtin n),_]=>C'==C&&n==newId&&!cd.hasDel&&tailIn K NC bm&&nsOkIn K cd.ns&&nsIn K cd.ns "__init__"==some (some (.ref fI))
  |_,_=>false)
 |_=>false
def xV(K:Frag)(C fI:Addr):Prop:=EX K C UW "ValueError.__new__" fI=true
section
variable {X:Cx} {C fI:Addr}
theorem xW{K:Frag}{h:Heap}(XK:K.In h)(q:xV K C fI):∃bm N nm qn bs hdct sn sub ab col dd k0 k1 k2 k3 k5 mN,h.get? C=some (excClassObj nm qn C N bs bm hdct sn sub ab col dd k0 k1 k2 k3 k5 "ValueError.__new__")/\h.Ns N mN/\mN "__init__"=some (.ref fI)/\OwnTail h UW bm:=by
 unfold xV EX at q;split at q
 ·rename_i dd cd sl ho;split at q
  ·rename_i C' bm k0 k1 k2 k3 n k5 hm hs;simp only[Bool.and_eq_true,beq_iff_eq,Bool.not_eq_true'] at q;obtain⟨⟨⟨⟨⟨rfl,rfl⟩,LF⟩,ht⟩,b_⟩,LG⟩:=q;obtain⟨nm,bs,mro,ns,qn,hd,sn,sub,ab,col,del⟩:=cd
   dsimp only at hm LF b_ LG
   subst hm LF;have Zt:sl=#[k0,k1,k2,k3,some (.builtin "ValueError.__new__"),k5]:=by
    obtain⟨l⟩:=sl;simp only at hs;rw[hs]
   subst Zt;have hN:h.Ns ns (h.nsMap ns):=.of_isNs (isNs_of_in XK b_);exact⟨bm,ns,nm,qn,bs,hd,sn,sub,ab,col,dd,k0,k1,k2,k3,k5,_,XK _ _ ho,hN,S5 XK hN LG,tail_of_in XK ht⟩
  ·cases q
 ·cases q
theorem Hq{pins:List (Addr×Obj)}{σ:L2.St}{H:Hp}{s:Shared}{h':Heap}{a T:Addr}{φ:Heap->Prop}{o1 o2:HO}{tk:Nat}(I:Inv X pins σ H s)(ha:H a=some (.ext φ))(hT:s.heap.get? T=none)(jJ:T≠a)(keep:∀b o,b≠a->s.heap.get? b=some o->h'.get? b=some o)(there:∃o,h'.get? a=some o)(n1:∀H',dX X.prog X.w H' h' a o1)(n2:∀H',dX X.prog X.w H' h' T o2):Inv X pins σ (upd (upd H T o2) a o1) {s with heap:=h',toks:=tk}:=by
 have BW:H T=none:=kj I.b_ hT;have zV:∀b u,H b=some u->(∀φ,u≠.ext φ)->b≠a:=λb u q n z=>by subst z;rw[ha] at q;cases q;exact n _ rfl
 have neT:∀b u,H b=some u->b≠T:=λb u q z=>by subst z;rw[BW] at q;cases q
 have xS:∀b,H b=none->b≠a:=λb q z=>by subst z;rw[ha] at q;cases q
 refine I.un ⟨λb ob q n _ _=>keep b ob (xS b n) q,λb ob q n _ _=>⟨ob.slots,keep b ob (xS b n) q⟩,λb ob q n _=>by rw[ay (xS b n),ay (λz=>by subst z;rw[hT] at q;cases q)];exact n,λb ob q _=>?_,
  λb xs q=>by rw[ay (zV b _ q nofun),ay (neT b _ q)];exact q,λb u xs q=>by rw[ay (zV b _ q nofun),ay (neT b _ q)];exact q,λb ps q=>⟨#[],by rw[ay (zV b _ q nofun),ay (neT b _ q),q];simp⟩⟩ λb u q=>?_
 ·by_cases z:b=a
  ·subst z;exact there
  ·exact⟨ob,keep b ob z q⟩
 ·by_cases zW:b=a
  ·subst zW;rw[aE] at q;cases q;exact n1 _
  ·rw[ay zW] at q;by_cases Q0:b=T
   ·subst Q0;rw[aE] at q;cases q;exact n2 _
   ·rw[ay Q0] at q;refine(I.b_ b u q).nv (λc v hc e=>keep c v ?_ e) (λc r=>by rw[ay (zV c _ r nofun),ay (neT c _ r)];exact r) λc xs r=>by rw[ay (zV c _ r nofun),ay (neT c _ r)];exact r
    rcases hc with rfl|hc
    ·exact zW
    ·exact zV c _ hc nofun
def EY(C:Addr)(sp:Sp)(dvs:List V)(E:XK)(t:TA):TE:=λσ H Q=>t σ H λvs H1=>vs.length<=1000/\∀x tp,H1 x=none->H1 tp=none->x≠tp->
 sp (.ref x::(vs++dvs)) (upd (upd H1 tp (.tup vs)) x (c_ x C tp .none none)) (λv H2=>v=.dH/\Q (.ref x) H2) E
theorem pE{CX:vL}{k:Nat}{fd:FuncData}{ps:List Str}{sp:Sp}{dvs:List V}{ds:List Value}{E:XK}{x:Str}{p pos:Pos}{e:Expr}{es:List Expr}{t:TA}(hc:xV X.K C fI)(Nq:typeIn X.K (.ref fI)=some (.type "function"))(hk:keepIn X.K (.ref C)=true)(F:dU X.prog X.w X.K X.mg X.base CX k fI fd ps sp)(hr:fv (k+1) X.A)(hg:Gl X x)(hm:X.mg x=some (.ref C))(hb:Binds X.K fd ps ds)(hd:Vals dvs ds)(hx:Passes CX X E)(ha:PA X (e::es) t)(uw:(x==("__debug__":Str))=false:=by decide)(he:starEach (e::es) X.env=(false,eval e X.env)::starEach es X.env:=by rfl)(pe:(backTo pos (starEach es X.env)).any (·.1)=false:=by rfl):
 PE X (.Call (.Name x p) (e::es) [] pos) (EY C sp dvs E t):=by
 intro pins s σ H Q I h;refine wpAny_Call_Name_kw (fW I hg hm ?_ uw);refine callWith_K (h₀:=X.base) I.ok.mod.Kf hk (cB (ha pos pins s σ H _ I h) λus s1⟨vs,H1,I1,r,hl,q⟩=>⟨I1.o9,?_⟩) he pe;obtain⟨bm,N,nm,qn,bs,hdct,sn,sub,ab,col,dd,k0,k1,k2,k3,k5,mN,hC,hN,LG,TL⟩:=xW I1.o9 hc;have Wn:us.length<=1000:=by rw[<-r.length];exact hl
 have OK:∃oI,s1.heap.get? fI=some oI/\oI.cls=.type "function":=by
  obtain⟨o,ho,yS⟩:=Option.map_eq_some_iff.mp Nq;exact⟨o,I1.o9 _ _ ho,yS⟩
 obtain⟨oI,Wr,S4⟩:=OK;obtain⟨hp,g,d,tk,os⟩:=s1;refine Jh PySem.F.excBase_ValueError (by decide) PySem.F.excBase_ValueError TL hC hN LG Wr S4 (λh' e hm=>?_) (cR Wn);obtain⟨tp,e1,e2,e3,I2⟩:=zX I1 r hl hm;have hq:=q e tp e1 e2 e3;have r2:Vals (V.ref e::(vs++dvs)) (Value.ref e::(us++ds)):=.cons rfl (r.append hd);have hlen:(Value.ref e::us++ds).length=ps.length:=by
  have z:=r2.length;rw[F.len _ _ _ _ hq] at z;exact z.symm
 refine wpAny_call (codeAny_mono (F.run _ X.stack _ _ ⟨Value.ref e::us,[]⟩ (Value.ref e::(us++ds)) _ _ E (hr.make C us []) (I2.env0.make C us []) (hb _ (Value.ref e::us) I2.o9 hlen) r2 hq) λr s' wb=>?_);cases r with
 |error e'=>exact hx pins σ _ _ e' s' I2 wb
 |ok fl=>
  cases fl with
  |ret u=>
   obtain⟨v,H',I3,rv,ev,q3⟩:=I2.after wb;subst ev;exact⟨rv,⟨V.ref e,H',I3,rfl,q3⟩⟩
  |next=>exact False.elim wb
  |brk=>exact False.elim wb
  |cont=>exact False.elim wb
def LV(K:Frag)(fI:Addr)(t:TA):TE:=λσ H Q=>t σ H λvs H1=>∃x rest C tp tb d,vs=.ref x::rest/\H1 x=some (c_ x C tp tb d)/\xV K C fI/\rest.length<=1000/\∀wR,H1 wR=none->wR≠x->Q .dH (upd (upd H1 wR (.tup rest)) x (c_ x C wR tb d))
theorem LW{pl:Sem Bool}{B:Addr}{x:Str}{p apos pos:Pos}{e:Expr}{es:List Expr}{t:TA}(hg:Gl X x)(hm:X.mg x=some (.ref B))(hs:specialIn X.K (.ref B) "__getattribute__"=some (some (.builtin "type.__getattribute__")))(hr:readsIn X.K B (.type "type")=true)(hf:findCls X.K (.ref B) (.type "type") "__init__"=some (.val (.builtin "ValueError.__init__")))(ha:PA X (e::es) t)(uw:(x==("__debug__":Str))=false:=by decide)(qQ:starEach (e::es) X.env=(false,eval e X.env)::starEach es X.env:=by rfl)(pe:(backTo pos (starEach es X.env)).any (·.1)=false:=by rfl)(ht:eval (.Call (.Attribute (.Name x p) "__init__" apos) (e::es) [] pos) X.env=(do
 let ov<-eval (.Name x p) X.env
 standAt apos.atName
 let(f,first)<-holding [ov] (getMethod ov "__init__" pl)
 callWith pos f first (backTo pos (starEach (e::es) X.env)) (backToKw pos (keywordEach [] X.env))):=by rfl):
 PE X (.Call (.Attribute (.Name x p) "__init__" apos) (e::es) [] pos) (LV X.K fI t):=by
 intro pins s σ H Q I h;refine methodCall_KW (pl:=pl) (fW I hg hm ?_ uw) ht;refine method_cls I.o9 hs (cls_value I.o9 hr hf (by decide +kernel) ?_);have I0:=I.tok (s.toks+1);refine PyProof.Rows.callWith_builtin1 (cB (ha pos pins _ σ H _ I0 h) λus s1⟨vs,H1,I1,r,y,rest,C,tp,tb,d,ev,hy,hc,hl,q⟩=>?_) qQ pe;subst ev;obtain⟨bm,N,nm,qn,bs,hdct,sn,sub,ab,col,dd,k0,k1,k2,k3,k5,mN,hC,hN,LG,TL⟩:=xW I1.o9 hc;obtain⟨o,ws,e1,yS,hd,S6,h6,h0,h1⟩:=i_ I1.b_ hy;obtain⟨us,eu,rr⟩:∃us',us=Value.ref y::us'/\Vals rest us':=by
  cases r with
  |cons ry rr=>cases ry;exact⟨_,rfl,rr⟩
 subst eu;have Wn:us.length<=1000:=by rw[<-rr.length];exact hl
 obtain⟨hp,g,dr,tk,os⟩:=s1;refine EW PySem.F.excBase_ValueError TL hC e1 yS S6 h0 (cR Wn) ?_;have jJ:hp.objs.size≠y:=Nat.ne_of_gt (Heap.lt_size e1);generalize Wi:({cls:=.type "tuple",data:=.seq us.toArray}:Obj)=oT;have e2:=Heap.get?_push_of_some (h:=hp) oT e1;have e3:=Heap.get?_update_self (Obj.mapFields (·.setIfInBounds 0 (Value.ref hp.objs.size))) e2 (Obj.isFreed_of_fields (Obj.data_mapFields S6 _));have e4:((hp.push oT).update y (Obj.mapFields (·.setIfInBounds 0 (Value.ref hp.objs.size)))).get? hp.objs.size=some oT:=(Heap.get?_update_other _ _ (Ne.symm jJ)).trans (Heap.get?_push_size hp (by subst Wi;rfl));have hT:hp.get? hp.objs.size=none:=Heap.get?_none_of_le (Nat.le_refl _);refine⟨.dH,_,Hq (s:=⟨hp,g,dr,tk,os⟩) (T:=hp.objs.size) (tk:=tk) I1 hy hT jJ (λb ob hb z=>(Heap.get?_update_other _ _ (Ne.symm hb)).trans (Heap.get?_push_of_some _ z)) ⟨_,e3⟩ (λH'=>pC (C:=C) (t:=hp.objs.size) (tb:=tb) (d:=d) e3 ((Obj.cls_mapFields _ _).trans yS) ?_ (Obj.data_mapFields S6 _) (by simp[h6]) (by simp[h6]) (by rw[Array.getElem?_setIfInBounds_ne (by decide)];exact h1)) (o2:=.tup rest) (λH'=>?_),rfl,q _ (kj I1.b_ hT) jJ⟩
 ·obtain⟨cc,dd,dt,sl⟩:=o;simp only at S6;subst S6;exact hd
 ·subst Wi;exact⟨cR hl,us,rr,_,e4,rfl,_,rfl⟩
def Q5(K:Frag)(ta tv:TE)(f:Str):TS:=λD σ H=>tv σ H λy H1=>ta σ H1 λxv H2=>∃x C tp tb,xv=.ref x/\H2 x=some (c_ x C tp tb none)/\wQ K C=true/\findIn K (.ref C) "__setattr__"=some (some (.builtin "object.__setattr__"))/\mroIn K C (.type "object")=some true/\
 findIn K (.ref C) f=some none/\∀dx,H2 dx=none->dx≠x->D.nx σ (upd (upd H2 dx (.xd [(f,y)])) x (c_ x C tp tb (some dx)))
theorem ON{o value:Expr}{f:Str}{pos pos':Pos}{ta tv:TE}(ha:PE X o ta)(hv:PE X value tv)(hs:swapsWith value (some (.Attribute o f pos')) pos.line X.env=pure false):L2.PS X (.Assign [.Attribute o f pos'] value pos) (Q5 X.K ta tv f):=by
 intro pins s σ H D I h;refine plainObj_wpAny_Assign_Attribute (cB (hv pins s σ H _ I h) λu s1⟨y,H1,I1,ry,q⟩=>cB (ha pins s1 σ H1 _ I1 q) λov s2⟨x,H2,I2,rx,a,C,tp,tb,ex,hy,hp,Wt,OM,hfi,q2⟩=>?_) hs;subst ex;obtain rfl:ov=Value.ref a:=rx;obtain⟨ox,od,ws,J,X6,S6,h0⟩:=C4 I2.b_ hy (.inl rfl);obtain⟨o,Kb,e1,yS,hd,ZI,h6,h0',h1⟩:=i_ I2.b_ hy;have ee:o=ox:=Option.some.inj (e1.symm.trans J.at_);subst ee;have ZJ:od=none:=by
  have:=J.dict;rw[X6] at this;cases od with
  |none=>rfl
  |some _=>exact this.elim
 subst ZJ;refine OL I2.o9 J X6 S6 hp Wt OM hfi λh' tk keep hx wL=>?_;have hT:s2.heap.get? s2.heap.objs.size=none:=Heap.get?_none_of_le (Nat.le_refl _);have jJ:s2.heap.objs.size≠a:=Nat.ne_of_gt (Heap.lt_size e1);refine⟨σ,_,Hq (T:=s2.heap.objs.size) (tk:=tk) I2 hy hT jJ keep ⟨_,hx⟩ (λH'=>pC (C:=C) (t:=tp) (tb:=tb) (d:=some s2.heap.objs.size) hx yS rfl ZI h6 h0' h1) (o2:=.xd [(f,y)]) (λH'=>⟨_,wL,λz=>?_⟩),q2 _ (kj I2.b_ hT) jJ⟩;by_cases hz:z=f
 ·subst hz;simp only[List.lookup_cons,beq_self_eq_true,if_true];exact ry
 ·have:(z==f)=false:=beq_eq_false_iff_ne.mpr hz;simp only[List.lookup_cons,this,if_neg hz,List.lookup_nil];trivial
end
section
variable {M:Model} {A:Around} {E:Value->Shared->Prop} {env:Env}
variable {nm q:Str} {C N:Addr} {bs bm:List Value} {hdct:Bool} {sn:List Str} {sub:List Value} {ab:Bool} {col:Option Bool} {dd:Option Addr} {k0 k1 k2 k3 k5:Option Value} {newId:String}
theorem z0{s:Shared}{x:Sem Value}{Q:Flow->Shared->Prop}(hh:A.handled=none)(h:wpAny M A x (λv cD=>∃e oe vs C N nm q bs bm hdct sn sub ab col dd k0 k1 k2 k3 k5 newId,v=.ref e/\bm.contains (.type "BaseException")=true/\cD.heap.get? C=some (excClassObj nm q C N bs bm hdct sn sub ab col dd k0 k1 k2 k3 k5 newId)/\
 cD.heap.get? e=some oe/\oe.cls=.ref C/\oe.data=.fields vs/\vs[1]?=some .none/\E (.ref e) cD) E s):
 wpAny M A (raiseStmt env (some x) none) Q E s:=by
 unfold raiseStmt;refine wpAny_bind (wpAny_mono h (λv cD lZ=>?_) λ_ _ x=>x);obtain⟨e,oe,vs,C,N,nm,q,bs,bm,hdct,sn,sub,ab,col,dd,k0,k1,k2,k3,k5,newId,rfl,Cf,hC,he,hc,hd,h1,hE⟩:=lZ;have hcB:(Value.ref C::bm).contains (.type "BaseException")=true:=by rw[List.contains_cons,Cf,Bool.or_true]
 obtain⟨cc,od,dt,sl⟩:=oe
 dsimp only at hc hd
 subst hc hd;obtain⟨hp,g,d,tk,os⟩:=cD
 repeat (first|with_reducible refine wpAny_loadPart_at he ?_|with_reducible refine wpAny_loadPart_at hC ?_|(with_reducible refine wpAny_isSubtype_exc hC ?_;rw[hcB])|with_reducible refine wpAny_field he rfl h1 ?_|wp_step)
 exact wpAny_raiseNew_none hh hE
end
def Hr(K:Frag)(E:XK)(te:TE):TS:=λ_ σ H=>te σ H λv H1=>∃a C t d fI,v=.ref a/\H1 a=some (c_ a C t .none d)/\xV K C fI/\E (.ref C) d H1
theorem iU{X:Cx}{E:XK}{e:Expr}{te:TE}{pos:Pos}(hE:mX X E)(Hn:X.calm=true)(he:PE X e te):L2.PS X (.Raise (some e) none pos) (Hr X.K E te):=by
 intro pins s σ H D I h;rw[arm_exec_Raise];refine wpAny_bind (wpAny_standAt ?_);have key:wpAny (model X.prog X.w) X.A (eval e X.env >>= λv=>standAt pos >>= λ_=>pure v) (λv cD=>∃e oe vs C N nm q bs bm hdct sn sub ab col dd k0 k1 k2 k3 k5 newId,v=.ref e/\bm.contains (.type "BaseException")=true/\cD.heap.get? C=some (excClassObj nm q C N bs bm hdct sn sub ab col dd k0 k1 k2 k3 k5 newId)/\
  cD.heap.get? e=some oe/\oe.cls=.ref C/\oe.data=.fields vs/\vs[1]?=some .none/\X.xe (.ref e) cD) X.xe s:=by
  refine wpAny_bind (cB (he pins s σ H _ I h) λv s1⟨x,H1,I1,r,a,C,t,d,fI,ex,ha,hc,q⟩=>wpAny_bind (wpAny_standAt (wpAny_pure ?_)));subst ex;cases r;obtain⟨bm,N,nm,qn,bs,hdct,sn,sub,ab,col,dd,k0,k1,k2,k3,k5,mN,hC,hN,LG,TL⟩:=xW I1.o9 hc;obtain⟨o,vs,e1,yS,hd,hf,h6,h0,h1⟩:=i_ I1.b_ ha;exact⟨a,o,vs,C,N,nm,qn,bs,bm,hdct,sn,sub,ab,col,dd,k0,k1,k2,k3,k5,_,rfl,TL.hasType (by decide),hC,e1,yS,hf,h1,hE pins σ H1 s1 a C t .none d H1 .none I1 ha (.inl rfl) Sub.refl ha q⟩
 first
 |exact z0 (I.ok.hd Hn) key
 |(simp only[evalOpt,Option.map];exact z0 (I.ok.hd Hn) key)
def Wu(oc:Obj)(q:Str):Prop:=∃vs t,oc.data=.fields vs/\vs[1]?=some (.str q t)
def Q6(P:Addr)(pos:Pos)(qual:Str)(params:Arguments)(body:Expr)(scope:Scope)(cl:List (Str×Addr)):TE:=λ_ H Q=>∃ps,H P=some (.vZ ps)/\TriplesOk ps.toList/\codeAmong pos ps.toList=none/\
 ∀f c' oc,Wu oc qual->H f=none->H c'=none->f≠c'->Q (.ref f) (upd (upd (upd H P (.vZ (ps++#[rawInt pos.line,rawInt pos.col,.ref c']))) c' (.vY oc (.own 0))) f (s_ f "<lambda>" qual params body scope cl c'))
theorem OO{X:Cx}{params:Arguments}{body:Expr}{scope:Scope}{pos:Pos}{c P:Addr}{cl:List (Str×Addr)}(Hs:X.env.code=.ref c)(C:CodeHd X.base c P)(yS:closureFor scope X.env=pure cl)(OP:defaultsOf params X.env=([],[]))(B:BMain X.base X.mg):
 PE X (.Lambda params body scope pos) (Q6 P pos (X.env.qual++"<lambda>") params body scope cl):=by
 intro pins s σ H Q I h;obtain⟨ps,hP,ht,hn,q⟩:=h;have ZK:s.heap.get? P=some (tabObj ps):=I.b_ P _ hP;have hg:=I.mod.glob.keeps I.bk;have UY:∀b o,X.base.get? b=some o->b≠P:=λb o e z=>by subst z;have:=(I.bs b o e).2;rw[hP] at this;cases this
 have hgP:mainGlobals≠P:=by obtain⟨o,_,_,e,_⟩:=I.mod.glob;exact UY _ o e
 obtain⟨bm,ob,b1,b2,b3,b4,b5,b6,b7⟩:=B;refine kla_eval OP (kla_makeFunction (mg:=X.mg) yS I.ok.glob hg Hs (C.keeps I.bk) ZK ht hn hgP ⟨bm,ob,b1,b2,b3,UY _ _ b4,I.bk _ _ b4,b5,b6,b7⟩ λc' EV h' tk hx ZL nz ZM htb=>?_);obtain⟨c2,oc,vs,t2,e2,UL,hd,hv⟩:=ZM;cases e2;have hsz:s.heap.objs.size<=h'.objs.size:=Nat.le_of_lt (Nat.lt_of_le_of_lt ZL nz);have Wv:H c'=none:=I.b_.fresh ZL;have Nq:H h'.objs.size=none:=I.b_.fresh hsz;have S4:h'.objs.size≠c':=Nat.ne_of_gt nz;have old:∀b o,s.heap.get? b=some o->b≠c'/\b≠h'.objs.size:=λb o e=>⟨Nat.ne_of_lt (Nat.lt_of_lt_of_le (Heap.lt_size e) ZL),Nat.ne_of_lt (Nat.lt_of_lt_of_le (Heap.lt_size e) hsz)⟩;have nP:∀b u,H b=some u->(∀z,u≠.vZ z)->b≠P:=λb u e n z=>by subst z;rw[hP] at e;cases e;exact n _ rfl
 have ZN:∀b,H b=none->b≠P:=λb e z=>by subst z;rw[hP] at e;cases e
 have B1:∀b u,H b=some u->b≠c'/\b≠h'.objs.size:=λb u e=>⟨λz=>(by rw[z,Wv] at e;cases e),λz=>(by rw[z,Nq] at e;cases e)⟩;have hPc:P≠c':=(B1 P _ hP).1;have hPf:P≠h'.objs.size:=(B1 P _ hP).2;generalize OM:kla_obj "<lambda>" (X.env.qual++"<lambda>") params body scope cl ((X.mg "__name__").getD .none) c' EV=obj;have keep:∀b o,b≠P->s.heap.get? b=some o->(h'.push obj).get? b=some o:=λb o n e=>Heap.get?_push_of_some _ (hx b o n e);have OK:(h'.push obj).get? h'.objs.size=some obj:=Heap.get?_push_size _ (by subst OM;rfl);refine⟨.ref h'.objs.size,_,I.un (t':=tk) (H':=upd (upd (upd H P (.vZ (ps++#[rawInt pos.line,rawInt pos.col,.ref c']))) c' (.vY oc (.own 0))) h'.objs.size (s_ h'.objs.size "<lambda>" (X.env.qual++"<lambda>") params body scope cl c')) ⟨λb o e n _ _=>keep b o (ZN b n) e,λb o e n _ _=>⟨o.slots,keep b o (ZN b n) e⟩,λb o e n _=>?_,λb o e _=>?_,λb xs e=>?_,λb u xs e=>?_,λb pz e=>?_⟩ λb u e=>?_,rfl,q _ c' oc ⟨vs,t2,hd,hv⟩ Nq Wv S4⟩
 ·rw[ay (old b o e).2,ay (old b o e).1,ay (ZN b n)];exact n
 ·by_cases z:b=P
  ·subst z;exact⟨_,Heap.get?_push_of_some _ htb⟩
  ·exact⟨o,keep b o z e⟩
 ·rw[ay (B1 b _ e).2,ay (B1 b _ e).1,ay (nP b _ e nofun)];exact e
 ·rw[ay (B1 b _ e).2,ay (B1 b _ e).1,ay (nP b _ e nofun)];exact e
 ·rw[ay (B1 b _ e).2,ay (B1 b _ e).1];by_cases z:b=P
  ·subst z;rw[hP] at e;cases e;exact⟨_,aE⟩
  ·exact⟨#[],by rw[ay z,e];simp⟩
 ·by_cases UX:b=h'.objs.size
  ·subst UX;rw[aE] at e;cases e;subst OM;exact⟨⟨_,_,OK⟩,⟨_,OK⟩,λ_ _ ⟨pm,EV,e⟩ k=>⟨pm,EV,k _ e⟩⟩
  ·rw[ay UX] at e;by_cases hbc:b=c'
   ·subst hbc;rw[aE] at e;cases e;have:=Heap.get?_push_of_some obj UL;exact⟨this,_,this⟩
   ·rw[ay hbc] at e;by_cases LX:b=P
    ·subst LX;rw[aE] at e;cases e;exact Heap.get?_push_of_some obj htb
    ·rw[ay LX] at e;refine(I.b_ b u e).nv (λc v hc e=>keep c v ?_ e) (λc r=>?_) λc xs r=>?_
     ·rcases hc with rfl|hc
      ·exact LX
      ·exact nP c _ hc nofun
     ·rw[ay (B1 c _ r).2,ay (B1 c _ r).1,ay (nP c _ r nofun)];exact r
     ·rw[ay (B1 c _ r).2,ay (B1 c _ r).1,ay (nP c _ r nofun)];exact r
def Q7(P:Addr)(pos:Pos)(qual:Str)(params:Arguments)(body:Expr)(scope:Scope)(cl:List (Str×Addr)):TE:=λσ H Q=>Q6 P pos qual params body scope cl σ H Q\/
 ∃ps c',H P=some (.vZ ps)/\TriplesOk ps.toList/\codeAmong pos ps.toList=some (.ref c')/\∀f,H f=none->Q (.ref f) (upd H f (s_ f "<lambda>" qual params body scope cl c'))
theorem OQ{X:Cx}{params:Arguments}{body:Expr}{scope:Scope}{pos:Pos}{c P:Addr}{cl:List (Str×Addr)}(Hs:X.env.code=.ref c)(C:CodeHd X.base c P)(yS:closureFor scope X.env=pure cl)(OP:defaultsOf params X.env=([],[]))(B:SF.BMain X.base X.mg):
 PE X (.Lambda params body scope pos) (Q7 P pos (X.env.qual++"<lambda>") params body scope cl):=by
 intro pins s σ H Q I h;rcases h with h|⟨ps,c',hP,ht,hn,q⟩
 ·exact OO Hs C yS OP B pins s σ H Q I h
 have ZK:s.heap.get? P=some (tabObj ps):=I.b_ P _ hP;have hg:=I.mod.glob.keeps I.bk;have UY:∀b o,X.base.get? b=some o->b≠P:=λb o e z=>by subst z;have:=(I.bs b o e).2;rw[hP] at this;cases this
 obtain⟨bm,ob,b1,b2,b3,b4,b5,b6,b7⟩:=B;refine kla_eval OP (kla_makeFunctionHit (mg:=X.mg) yS I.ok.glob hg Hs (C.keeps I.bk) ZK ht hn ⟨bm,ob,b1,b2,b3,UY _ _ b4,I.bk _ _ b4,b5,b6,b7⟩ λEV h' tk hk hsz=>?_);have Nq:H h'.objs.size=none:=I.b_.fresh hsz;have OK:(h'.push {cls:=.type "function",data:=.func (kla_fn "<lambda>" (X.env.qual++"<lambda>") params body scope cl ((X.mg "__name__").getD .none) (.ref c') EV)}).get? h'.objs.size=some (kla_obj "<lambda>" (X.env.qual++"<lambda>") params body scope cl ((X.mg "__name__").getD .none) c' EV):=Heap.get?_push_size _ rfl;exact⟨.ref h'.objs.size,_,I.laid (t':=tk) (o:=s_ h'.objs.size "<lambda>" (X.env.qual++"<lambda>") params body scope cl c') (λb o e=>Heap.get?_push_of_some _ (hk b o e)) hsz ⟨⟨_,_,OK⟩,⟨_,OK⟩,λ_ _ ⟨pm,EV,e⟩ k=>⟨pm,EV,k _ e⟩⟩,rfl,q _ Nq⟩
theorem C5{P:Program}{w:World}{H:Hp}{h:Heap}{f c':Addr}{name qual:Str}{params:Arguments}{body:Expr}{scope:Scope}{cl:List (Str×Addr)}(x:lW P w H h)(e:H f=some (s_ f name qual params body scope cl c')):FnAt f h:=by
 obtain⟨pm,EV,e⟩:=(x f _ e).1;exact⟨_,_,_,_,e⟩
def Ww(i:Nat)(L:Addr->Addr->HO)(R:Addr->Addr->List V->Hp->VK->Prop)(t:TA):TE:=λσ H Q=>∃f c',σ[i]?=some (some (.ref f))/\H f=some (L f c')/\t σ H λvs H1=>H1 f=some (L f c')/\R f c' vs H1 Q
theorem Ht{X:Cx}{CX:vL}{E:XK}{i:Nat}{x:Str}{p pos:Pos}{e:Expr}{es:List Expr}{t:TA}{name qual:Str}{params:Arguments}{body:Expr}{scope:Scope}{cl:List (Str×Addr)}{R:Addr->Addr->List V->Hp->VK->Prop}(hN:X.N[i]?=some x)(hv:UJ X.env.scope x)(hx:Passes CX X E)(ha:PA X (e::es) t)(hR:∀pins σ H s f c' vs us Q,Inv X pins σ H s->H f=some (s_ f name qual params body scope cl c')->Vals vs us->R f c' vs H Q->codeAny (model X.prog X.w) X.A (.call (.ref f) ⟨us,[]⟩) (CR CX X.stack X.prog X.w H s Q E) s)(hd:(x==("__debug__":Str))=false:=by decide)(iq:(x==("__classdict__":Str))=false:=by decide)(he:starEach (e::es) X.env=(false,eval e X.env)::starEach es X.env:=by rfl)(pe:(backTo pos (starEach es X.env)).any (·.1)=false:=by rfl):
 PE X (.Call (.Name x p) (e::es) [] pos) (Ww i (λf c'=>s_ f name qual params body scope cl c') R t):=by
 intro pins s σ H Q I ⟨f,c',e0,hf,h⟩;refine wpAny_Call_Name_kw (cB (xg (X:=X) (pos:=p) hN hv hd iq pins s σ H (λv H1=>v=.ref f/\H1=H) I ⟨_,e0,rfl,rfl⟩) λu s1⟨v,H1,I1,r,ev,eh⟩=>?_);subst ev eh;cases r;refine callWith_F (C5 I1.b_ hf) (cB (ha pos pins s1 σ _ _ I1 h) λus s2⟨vs,H2,I2,r2,UT,q2⟩=>⟨C5 I2.b_ UT,wpAny_call (codeAny_mono (hR pins σ H2 s2 f c' vs us Q I2 UT r2 q2) λr s' hq=>?_)⟩) he pe;cases r with
 |error e=>exact hx pins σ _ s2 e s' I2 hq
 |ok fl=>
  cases fl with
  |ret u=>exact I2.after hq
  |next=>exact False.elim hq
  |brk=>exact False.elim hq
  |cont=>exact False.elim hq
end SF
namespace L2
open PySem PySem.Spec PyProof.Rows
inductive EZ:List Expr->List Str->Prop
 |nil:EZ [] []
 |cons {x:Str} {j:Nat} {p:Pos} {es:List Expr} {ns:List Str} (h:EZ es ns):EZ (.Constant (.str x) j p::es) (x::ns)
end L2
namespace SF
open PySem PySem.Spec PyProof.Rows L2 PySem.W
theorem Ji{P:Program}{w:World}{K:Frag}{mg mb:Str->Option Value}{k:Nat}{fa a:Addr}{tabs:List (Addr×Addr)}{fd:FuncData}{x:Str}{sp:Sp}{cD:Shared}{vs:List Value}{ns:List Int}(KX:K.In cD.heap)(wL:cD.heap.Ns mainGlobals mg)(hb:cD.heap.Ns builtinsNs mb)(ZA:∀x:Str,x≠"__name__"->mb x=bootBuiltins x)(ZO:cD.heap.NoLimit)(Hu:cD.heap.NoSeer)(hg:cD.gens=#[])(ha:cD.heap.get? a=some {cls:=.type "list",data:=.seq vs.toArray})(hi:IntsAre vs ns)(hl:ns.length<=sizeLine)(hr:fv k callerA)(hT:TabsAt tabs cD.heap)(Wx:noTabs K=true)(BM:BMain cD.heap mg)(F:∀base:Heap,K.In base->base.Ns mainGlobals mg->BMain base mg->(∀q∈tabs,CodeHd base q.1 q.2)->D5 P w K mg base kr true k fa fd [x] λ_=>sp)(LS:∀(s:Shared)(u:Value),BindsTo s fd ⟨[u],[]⟩ [(x,u)])(GO:∀H:Hp,ft K H a (ns.map V.int)->(∀q∈tabs,H q.2=some (.vZ #[]))->sp [.ref a] H (λv _=>v=.bl true) E0):
 codeAny (model P w) callerA (.call (.ref fa) ⟨[.ref a],[]⟩) (λr s'=>r=.ok (.ret (.bool true))/\OldK cD.heap s'.heap/\s'.os=cD.os/\AllBare s'.gens) cD:=by
 have rv:=zI hi;have ZP:=hi.length;have Wy:∀b,b∈tabs.map (·.2)->cD.heap.get? b=some (tabObj #[]):=λb hb=>by
  obtain⟨q,hq,rfl⟩:=List.mem_map.mp hb;exact(hT q hq).2
 have X9:a∉tabs.map (·.2):=λz=>by rw[Wy a z] at ha;cases ha
 have core:∀H:Hp,ft K H a (ns.map V.int)->(∀b,b∈tabs.map (·.2)->H b=some (.vZ #[]))->lW P w H cD.heap->(∀b,H b≠none->b=a\/b∈tabs.map (·.2))->(H a=none\/∃o xs,H a=some (.vY o (.lst xs)))->(H a≠none->K.lookup a=none)->
  codeAny (model P w) callerA (.call (.ref fa) ⟨[.ref a],[]⟩) (λr s'=>r=.ok (.ret (.bool true))/\OldK cD.heap s'.heap/\s'.os=cD.os/\AllBare s'.gens) cD:=by
  intro H hS hP b_ hA hO hK;have Kt:∀{b:Addr}{o:Obj},cD.heap.get? b=some o->(o.cls≠.type "list"\/∀xs n,o.data≠.seq xs n)->o≠tabObj #[]->H b=none:=λ{b o} e d d2=>by
   cases q:H b with
   |none=>rfl
   |some u=>
    rcases hA b (by rw[q];simp) with z|z
    ·subst z;rw[ha] at e;cases e;rcases d with d|d
     ·exact absurd rfl d
     ·exact absurd rfl (d _ _)
    ·rw[Wy b z] at e;cases e;exact absurd rfl d2
  have Q8:∀{b:Addr}{m:Str->Option Value},cD.heap.Ns b m->(w_ cD.heap H).Ns b m:=λ{b m}⟨o,es,ep,e,d,r⟩=>⟨o,es,ep,sF e (Kt e (.inr λxs n z=>by rw[d] at z;cases z) λz=>by rw[z] at d;cases d),d,r⟩;have hKb:K.In (w_ cD.heap H):=λb o e=>sF (KX b o e) (by
   cases q:H b with
   |none=>rfl
   |some u=>
    rcases hA b (by rw[q];simp) with z|z
    ·subst z
     rw[hK (by rw[q];simp)] at e;cases e
    ·have h2:=List.all_eq_true.mp Wx (b,o) (mem_of_lookupK e)
     have:=KX b o e
     rw[Wy b z] at this;cases this
     exact absurd (show false=true from h2) Bool.false_ne_true);have mdl:∀{b:Addr}{o:Obj},cD.heap.get? b=some o->o.cls=.type "module"->(w_ cD.heap H).get? b=some o:=λ{b o} e c=>sF e (Kt e (.inl (by rw[c];intro z;exact absurd (Value.type.inj z) (by decide))) λz=>by rw[z] at c;cases c);have hM:Mod K mg (w_ cD.heap H):=⟨hKb,Q8 wL,⟨mb,Q8 hb,ZA⟩,(let⟨mc,h1,h2⟩:=ZO;⟨mc,Q8 h1,h2⟩),(let⟨mc,h1,h2⟩:=Hu.statics;⟨mc,Q8 h1,h2⟩),(let⟨mc,h1,h2⟩:=Hu.mods;⟨mc,Q8 h1,h2⟩),(let⟨mc,h1,h2⟩:=Hu.imp;⟨mc,Q8 h1,h2⟩),
   (let⟨g,bm,ob,h1,h2,h3,h4,h5⟩:=Hu.main;⟨g,bm,ob,Q8 h1,h2,mdl h3 h4,h4,h5⟩)⟩;have BM':BMain (w_ cD.heap H) mg:=let⟨bm,ob,b1,b2,b3,b4,b5,b6⟩:=BM;⟨bm,ob,b1,b2,b3,mdl b4 b5,b5,b6⟩;have ZQ:∀q∈tabs,CodeHd (w_ cD.heap H) q.1 q.2:=λq hq=>by
   obtain⟨o,ws,file,tf,flags,tg,UZ,text,tt,e1,r1,r2⟩:=(hT q hq).1;exact⟨o,ws,file,tf,flags,tg,UZ,text,tt,sF e1 (Kt e1 (.inl (by rw[r1];intro z;exact absurd (Value.type.inj z) (by decide))) λz=>by rw[z] at r1;cases r1),r1,r2⟩
  have e0:xn P w K mg (w_ cD.heap H) callerA [] cD H:=⟨rfl,hM,λb o e=>NM e,Nat.le_of_eq (Ii _ _),trivial,λb hb=>absurd (show b∈([]:List Addr) from hb) (by simp),b_,.of_eq hg⟩;refine codeAny_mono ((F _ hKb (Q8 wL) BM' ZQ).run callerA [] cD H ⟨[.ref a],[]⟩ [.ref a] [.ref a] _ _ (Q2 hr) e0 (LS cD (.ref a)) (.cons rfl .nil) (GO H hS λq hq=>hP q.2 (List.mem_map_of_mem hq))) λr s' h=>?_;cases r with
  |error e=>exact h.elim
  |ok fl=>
   cases fl with
   |next=>exact False.elim h
   |brk=>exact False.elim h
   |cont=>exact False.elim h
   |ret u=>
    obtain⟨v,H',os,bare,un,Wz,r',q⟩:=h;have q':v=.bl true:=q;subst q';obtain rfl:u=Value.bool true:=r';have eP':∀b,b∈tabs.map (·.2)->∃more,s'.heap.get? b=some (tabObj (#[]++more)):=λb hb=>by
     obtain⟨more,eP⟩:=un.w4 b #[] (hP b hb);exact⟨more,Wz b _ eP⟩
    have kp:∀b o,b∉tabs.map (·.2)->cD.heap.get? b=some o->s'.heap.get? b=some o:=λb o nb e=>by
     cases q:H b with
     |none=>exact un.keep b o e q (by intro z;exact absurd (show b∈([]:List Addr) from z) (by simp)) (by simp)
     |some u=>
      have zW:b=a:=(hA b (by rw[q];simp)).resolve_right nb;subst zW;rcases hO with z|⟨ob,xs,z⟩
      ·rw[q] at z;cases z
      ·have z2:=un.wZ b ob _ z;obtain⟨e1,_⟩:=b_ b _ z;obtain⟨e2,_⟩:=Wz b _ z2;rw[e] at e1;cases e1;exact e2
    refine⟨rfl,⟨λb o e=>?_,λb o e=>?_⟩,os,bare⟩
    ·by_cases LX:b∈tabs.map (·.2)
     ·have eo:o=tabObj #[]:=Option.some.inj (e.symm.trans (Wy b LX));subst eo;obtain⟨more,ZR⟩:=eP' b LX;obtain⟨q,hq,rfl⟩:=List.mem_map.mp LX;exact .inr (.inl ⟨((hT q hq).1.tab (hT q hq).2).isCodeTable,rfl,#[],more,rfl,ZR⟩)
     ·exact .inl (kp b o LX e)
    ·by_cases LX:b∈tabs.map (·.2)
     ·obtain⟨more,ZR⟩:=eP' b LX;exact⟨_,ZR⟩
     ·exact⟨o,kp b o LX e⟩
 have Q9:∀H b,b∈tabs.map (·.2)->dX P w H cD.heap b (.vZ #[]):=λ_ b hb=>Wy b hb;cases hk:K.lookup a with
 |some o=>
  have e:=KX a o hk;rw[ha] at e;cases e;refine core (λb=>if b∈tabs.map (·.2) then some (.vZ #[]) else none) (.inr ⟨_,vs.toArray,_,hk,rfl,rfl,rfl,by rw[List.size_toArray,ZP];exact hl,by simpa using rv⟩) (λb hb=>if_pos hb) (λb u z=>?_) (λb z=>?_) (.inl (if_neg X9)) λz=>absurd (if_neg X9) z
  ·by_cases hb:b∈tabs.map (·.2)
   ·have z':=(if_pos hb).symm.trans z;cases z';exact Q9 _ b hb
   ·have z':=(if_neg hb).symm.trans z;cases z'
  ·by_cases hb:b∈tabs.map (·.2)
   ·exact .inr hb
   ·exact absurd (if_neg hb) z
 |none=>
  refine core (λb=>if b∈tabs.map (·.2) then some (.vZ #[]) else if b=a then some (.vY {cls:=.type "list",data:=.seq vs.toArray} (.lst (ns.map V.int))) else none) (.inl (.inr ⟨{cls:=.type "list",data:=.seq vs.toArray},by show(if a∈tabs.map (·.2) then _ else _)=_;rw[if_neg X9,if_pos rfl]⟩)) (λb hb=>if_pos hb) (λb u z=>?_) (λb z=>?_) (.inr ⟨_,_,by show(if a∈tabs.map (·.2) then _ else _)=_;rw[if_neg X9,if_pos rfl]⟩) λ_=>hk
  ·have z:(if b∈tabs.map (·.2) then some (.vZ #[]) else if b=a then some (.vY {cls:=.type "list",data:=.seq vs.toArray} (.lst (ns.map V.int))) else none:Option HO)=some u:=z;by_cases hb:b∈tabs.map (·.2)
   ·rw[if_pos hb] at z;cases z;exact Q9 _ b hb
   ·rw[if_neg hb] at z;by_cases zW:b=a
    ·rw[if_pos zW] at z;cases z;subst zW;exact⟨ha,by rw[List.length_map];exact hl,vs,_,rv,ha⟩
    ·rw[if_neg zW] at z;cases z
  ·by_cases hb:b∈tabs.map (·.2)
   ·exact .inr hb
   ·rw[if_neg hb] at z;by_cases zW:b=a
    ·exact .inl zW
    ·rw[if_neg zW] at z;exact absurd rfl z
theorem WA{l:OpenLaw}{n k:Nat}{q:Program}{loose:List Str}{XP:(Str->Option Value)->Heap->Prop}{YP:World->Heap->Prop}{d:DefRec}{K:Params->Frag}{sp:Frag->List (Addr×Addr)->Sp}{x:Str}(hn:l.most=some n)(XI:n<=sizeLine)(Vv:d.params.defaults=[])(hr:fv k callerA)(hY:∀(w:World)(h:Heap),YP w h->(K w.params).In h)(Wx:∀w:World,noTabs (K w.params)=true)(F:∀(w:World)(mg:Str->Option Value)(fa:Addr)(h:Heap),(K w.params).In h->h.Ns mainGlobals mg->mg d.name=some (.ref fa)->
 ∃fd:FuncData,(∃oc od sl,(K w.params).lookup fa=some ⟨oc,od,.func fd,sl⟩)/\(∀(s:Shared)(u:Value),BindsTo s fd ⟨[u],[]⟩ [(x,u)])/\
  ∃tabs:List (Addr×Addr),(∀p∈tabs,∃y e,(recsOf q).find? (λr=>r.name==y)=some e/\tabIn (K w.params) y=some p)/\
  ∀base:Heap,(K w.params).In base->base.Ns mainGlobals mg->BMain base mg->(∀p∈tabs,CodeHd base p.1 p.2)->D5 l.prog w (K w.params) mg base kr true k fa fd [x] λ_=>sp (K w.params) tabs)(GO:∀(K:Frag)(tabs:List (Addr×Addr))(H:Hp)(a:Addr)(ns:List Int),ns.length<=n->ft K H a (ns.map V.int)->(∀p∈tabs,H p.2=some (.vZ #[]))->sp K tabs [.ref a] H (λv _=>v=.bl true) E0)(hi:importsNone q=true):
 WalkO q loose XP YP l.row.toRowW d [] (λf vs=>PySem.call f vs):=by
 refine Att.Ci hn Vv λw ku cD mg mb fa o pm cd doc a vs ns G Y ho hd iq Vw R1 hints hlen hg=>?_;have KX:=hY w _ Y;obtain⟨fd,⟨oc,od,sl,lk⟩,hb,tabs,WB,hF⟩:=F w mg fa _ KX G.T.g Vw;have hT:TabsAt tabs cD.heap:=λp hp=>by
  obtain⟨y,e,h1,h2⟩:=WB p hp;exact tab_of G.T KX h1 h2
 have BM:BMain cD.heap mg:=by
  obtain⟨bm,ob,b1,b2,b3,b4,b5,b6⟩:=G.T.bmain;refine⟨bm,ob,b1,b2,λz=>?_,b3,b4,b5,b6⟩;obtain⟨o',es,ep,e,dd,_⟩:=G.T.g;rw[z,e] at b3;cases b3;rw[dd] at b6;cases b6
 exact Ji KX G.T.g G.T.b G.T.builtins G.T.nolimit (G.T.seer hi) hg R1 hints (Nat.le_trans hlen XI) hr hT (Wx w) BM (λbase b1 b2 b3 b4=>hF base b1 b2 b3 b4) hb λH hS hP=>GO _ tabs H a ns hlen hS hP
structure S7(P:Program)(w:World)(K:Frag)(mg:Str->Option Value)(base:Heap)(CX:vL)(cm:Bool)(k:Nat)(f:Addr)(ps:List Str)(sp:Shared->Sp):Prop where
 ex:∃fd,D5 P w K mg base CX cm k f fd ps sp/\keepIn K (.ref f)=true/\Binds K fd ps []
def E2(i:Nat)(f:Addr)(sp:Sp)(E:XK)(t:TA):TE:=λσ H Q=>σ[i]?=some (some (.ref f))/\t σ H λvs H1=>sp vs H1 Q E
theorem xX{X:Cx}{CX:vL}{cm:Bool}{k:Nat}{f:Addr}{ps:List Str}{sp:Sp}{E:XK}{i:Nat}{x:Str}{p pos:Pos}{e:Expr}{es:List Expr}{t:TA}(F:S7 X.prog X.w X.K X.mg X.base CX cm k f ps λ_=>sp)(hr:iA cm k X.A)(hx:Passes CX X E)(hN:X.N[i]?=some x)(hv:UJ X.env.scope x)(ha:PA X (e::es) t)(hd:(x==("__debug__":Str))=false:=by decide)(iq:(x==("__classdict__":Str))=false:=by decide)(he:starEach (e::es) X.env=(false,eval e X.env)::starEach es X.env:=by rfl)(pe:(backTo pos (starEach es X.env)).any (·.1)=false:=by rfl):PE X (.Call (.Name x p) (e::es) [] pos) (E2 i f sp E t):=by
 obtain⟨fd,a,c,d⟩:=F.ex;intro pins s σ H Q I ⟨hf,h⟩;refine wpAny_Call_Name_kw (cB (xg (X:=X) (pos:=p) hN hv hd iq pins s σ H (λv H1=>v=.ref f/\H1=H) I ⟨_,hf,rfl,rfl⟩) λu s1⟨v,H1,I1,r,ev,eh⟩=>?_);subst ev eh;cases r;refine callWith_K (h₀:=X.base) I1.ok.mod.Kf c (cB (ha pos pins s1 σ _ _ I1 h) λus s2⟨vs,H2,I2,r2,q⟩=>⟨I2.o9,?_⟩) he pe;exact AS a hr d hx I2 r2 q
abbrev TH:=Ends->L2.St->Hp->Addr->Addr->Option Addr->Prop
def PH(X:Cx)(hs:List ExceptHandler)(th:TH):Prop:=∀(pins:List (Addr×Obj))(s:Shared)(σ:L2.St)(H:Hp)(D:Ends)(a C t T:Addr)(d:Option Addr),Inv X pins σ H s->H a=some (c_ a C t (.ref T) d)->H T=some (qY T .none)->th D σ H a C d->
 wpAny (model X.prog X.w) X.A (handleBy (.ref a) X.env hs) (SP X pins D) X.xe s
def ZS:TH:=λ_ _ _ _ _ _=>False
def WC(K:Frag)(c:Addr)(ts:TS)(rest:TH):TH:=λD σ H a C d=>∃b,exmOne K (.ref C) (.ref c)=some b/\match b with
 |true=>ts D σ H
 |false=>rest D σ H a C d
def OR(K:Frag)(c:Addr)(i:Nat)(ts:TS)(rest:TH):TH:=λD σ H a C d=>∃b,exmOne K (.ref C) (.ref c)=some b/\match b with
 |true=>ts {nx:=λbQ H2=>D.nx (bQ.set i none) H2,rt:=D.rt,bk:=λbQ H2=>D.bk (bQ.set i none) H2,ct:=λbQ H2=>D.ct (bQ.set i none) H2} (σ.set i (some (.ref a))) H
 |false=>rest D σ H a C d
section
variable {X:Cx} {rest:List ExceptHandler} {th:TH} {OS:Stmt} {Hv:List Stmt} {ts:TS} {x n:Str} {c:Addr} {p hp:Pos} {i:Nat}
theorem S8:PH X [] ZS:=λ_ _ _ _ _ _ _ _ _ _ _ _ _ h=>h.elim
theorem LY{a C t:Addr}{tb:Value}{d:Option Addr}{pins:List (Addr×Obj)}{σ:L2.St}{H:Hp}{s:Shared}(J:Inv X pins σ H s)(ha:H a=some (c_ a C t tb d)):Looks (model X.prog X.w) s.heap (typeOf (.ref a)) (.ref C):=λA' Q' E' s' k q=>by
 obtain⟨o,vs,e,hc,hd,hf,h6,h0,h1⟩:=i_ J.b_ ha;unfold typeOf
 dsimp only
 exact wpAny_bind (wpAny_loadPart (k _ _ e) (wpAny_pure (by rw[hc];exact q)))
theorem landed{H:Hp}{T:Addr}(hT:H T=some (qY T .none)):upd H T (qY T .none)=H:=by
 funext b;unfold upd;by_cases z:b=T
 ·rw[if_pos z,z,hT]
 ·rw[if_neg z]
theorem wU(hs:∀a,vJ (j8 X a) (OS::Hv) ts)(hg:Gl X x)(hm:X.mg x=some (.ref c))(hr:PH X rest th)(uw:(x==("__debug__":Str))=false:=by decide):
 PH X (.ExceptHandler (some (.Name x p)) none (OS::Hv) hp::rest) (WC X.K c ts th):=by
 intro pins s σ H D a C t T d J ha hT h;obtain⟨b,hb,h⟩:=h;have K3:Inv (j8 X a) pins σ H s:=C2 J;refine wpAny_handleBy_cons (codeAny_handlers_test ?_) (by intro q;cases q);refine fW (X:=j8 X a) K3 hg hm ?_ uw;refine(exm_one J.o9 (LY J ha) hb).here ?_;cases b with
 |false=>exact hr pins s σ H D a C t T d J ha hT h
 |true=>
  refine codeAny_handlers_suite (mW (X:=j8 X a) (T:=T) (fl:=.none) (C:=C) (t:=t) (d:=d) K3 ha hT λs4 K4=>?_);rw[landed hT] at K4;refine wpAny_mono (hs a pins s4 _ H _ K4 h) (λf s6 q=>?_) λ_ _ z=>z.elim;cases f with
  |next=>obtain⟨D0,H6,K6,q⟩:=q;exact⟨D0,H6,kl J.ok K6,q⟩
  |brk=>obtain⟨D0,H6,K6,q⟩:=q;exact⟨D0,H6,kl J.ok K6,q⟩
  |cont=>obtain⟨D0,H6,K6,q⟩:=q;exact⟨D0,H6,kl J.ok K6,q⟩
  |ret u=>obtain⟨v,D0,H6,K6,r,q⟩:=q;exact⟨v,D0,H6,kl J.ok K6,r,q⟩
theorem WD(hs:∀a,vJ (j8 X a) (OS::Hv) ts)(hg:Gl X x)(hm:X.mg x=some (.ref c))(hN:X.N.Nodup)(hi:X.N[i]?=some n)(hl:X.env.kindOf n=some .local)(hr:PH X rest th)(uw:(x==("__debug__":Str))=false:=by decide):
 PH X (.ExceptHandler (some (.Name x p)) (some n) (OS::Hv) hp::rest) (OR X.K c i ts th):=by
 intro pins s σ H D a C t T d J ha hT h;obtain⟨b,hb,h⟩:=h;have K3:Inv (j8 X a) pins σ H s:=C2 J;refine wpAny_handleBy_cons (codeAny_handlers_test ?_) (by intro q;cases q);refine fW (X:=j8 X a) K3 hg hm ?_ uw;refine(exm_one J.o9 (LY J ha) hb).here ?_;cases b with
 |false=>exact hr pins s σ H D a C t T d J ha hT h
 |true=>
  refine codeAny_handlers_suite_as (mW (X:=j8 X a) (T:=T) (fl:=.none) (C:=C) (t:=t) (d:=d) K3 ha hT λs4 K4=>?_);rw[landed hT] at K4;refine xf (X:=j8 X a) (v:=.ref a) K4 hN hi (.inl hl) rfl (λs5 K5=>?_) (.inr hl);refine wpAny_mono (hs a pins s5 _ H _ K5 h) (λf s6 q=>?_) λ_ _ z=>z.elim;cases f with
  |next=>obtain⟨D0,H6,K6,q⟩:=q;exact name_goes (kl J.ok K6) hN hi hl λs7 K7=>⟨_,H6,K7,q⟩
  |brk=>obtain⟨D0,H6,K6,q⟩:=q;exact name_goes (kl J.ok K6) hN hi hl λs7 K7=>⟨_,H6,K7,q⟩
  |cont=>obtain⟨D0,H6,K6,q⟩:=q;exact name_goes (kl J.ok K6) hN hi hl λs7 K7=>⟨_,H6,K7,q⟩
  |ret u=>obtain⟨v,D0,H6,K6,r,q⟩:=q;exact name_goes (kl J.ok K6) hN hi hl λs7 K7=>⟨v,_,H6,K7,r,q⟩
end
def WE(E:XK)(tb:TS)(th:TH):TS:=λD σ H=>tb D σ H/\∀(cH:L2.St)(H':Hp)(a C t:Addr)(tb:Value)(d:Option Addr)(H1:Hp)(wo:Value),cH.length=σ.length->H' a=some (c_ a C t tb d)->Sub a H1 H'->H1 a=some (c_ a C t wo d)->E (.ref C) d H1->th D cH H' a C d
theorem OT{X:Cx}{E:XK}{body:List Stmt}{h₀:ExceptHandler}{hs:List ExceptHandler}{tb:TS}{th:TH}{pos:Pos}(qQ:X.stack=X.env::X.outer)(mO:X.env.frame=some X.env.locals)(hb:∀pins,vJ (zY X pins E) body tb)(hh:PH X (h₀::hs) th):L2.PS X (.Try body (h₀::hs) [] [] pos) (WE E tb th):=by
 intro pins s σ H D I h;refine wpAny_Try_except (wpAny_mono (hb pins [] s σ H D (LP I) h.1) (λf s1 q=>?_) λe s1 q=>?_)
 ·cases f with
  |next=>obtain⟨cH,H',J,q⟩:=q;exact wpAny_execs_nil ⟨cH,H',uK J,q⟩
  |brk=>obtain⟨cH,H',J,q⟩:=q;exact⟨cH,H',uK J,q⟩
  |cont=>obtain⟨cH,H',J,q⟩:=q;exact⟨cH,H',uK J,q⟩
  |ret u=>obtain⟨v,cH,H',J,r,q⟩:=q;exact⟨v,cH,H',uK J,r,q⟩
 ·obtain⟨a,C,t,ZT,d,cH,H1,H',wo,rfl,J,ha,ht,AW,WG,WH⟩:=q;refine C0 qQ mO J ha ht λs2 T BW jJ J2=>?_;have S1:upd (upd H' a (c_ a C t (.ref T) d)) T (qY T (rawInt X.env.locals)) a=some (c_ a C t (.ref T) d):=by rw[ay (Ne.symm jJ),aE]
  refine mW (T:=T) (fl:=rawInt X.env.locals) (C:=C) (t:=t) (d:=d) J2 S1 (by rw[aE]) λs3 J3=>?_;rw[Aa] at J3;have ha3:upd (upd H' a (c_ a C t (.ref T) d)) T (qY T .none) a=some (c_ a C t (.ref T) d):=by rw[ay (Ne.symm jJ),aE]
  have hT3:upd (upd H' a (c_ a C t (.ref T) d)) T (qY T .none) T=some (qY T .none):=by rw[aE]
  have hs3:Sub a H1 (upd (upd H' a (c_ a C t (.ref T) d)) T (qY T .none)):=AW.trans λb o n e=>by
   rw[ay (λz=>by subst z;rw[BW] at e;cases e),ay n];exact e
  have hlen:cH.length=σ.length:=by rw[J.len,I.len]
  exact hh pins s3 cH _ D a C t T d J3 ha3 hT3 (h.2 cH _ a C t (.ref T) d H1 wo hlen ha3 hs3 WG WH)
section
variable {X:Cx} {pins:List (Addr×Obj)} {σ:L2.St} {H:Hp} {s:Shared} {a C t T:Addr} {tb fl:Value} {d:Option Addr} {E:Value->Shared->Prop} {Q:Unit->Shared->Prop}
theorem z7{env0:Env}{outer0:List Env}{L:Addr}{h':Heap}{o:Obj}{vs:Array Value}(qQ:X.stack=env0::outer0)(I:Inv X pins σ H s)(ha:H a=some (c_ a C t tb d))(e:s.heap.get? a=some o)(hc:o.cls=.ref C)(hd:o.dict=d)(hf:o.data=.fields vs)(h6:vs.size=6)(h0:vs[0]?=some (.ref t))(N:LK (v_ (env0::outer0)) a o (rawInt L) s.heap h' T):H T=none/\Inv X pins σ (upd (upd H a (c_ a C t (.ref T) d)) T (qY T (rawInt L))) {s with heap:=h'}:=by
 have free:∀b∈v_ (env0::outer0),H b=none:=by rw[<-qQ];exact I.wF
 have BW:H T=none:=kj I.b_ N.new;obtain⟨oT,ts,x1,x2,x3⟩:=N.ent;have zV:∀b u,H b=some u->(∀φ,u≠.ext φ)->b≠a:=λb u q n z=>by subst z;rw[ha] at q;cases q;exact n _ rfl
 have neT:∀b u,H b=some u->b≠T:=λb u q z=>by subst z;rw[BW] at q;cases q
 have xS:∀b,H b=none->b≠a:=λb q z=>by subst z;rw[ha] at q;cases q
 have un:Un (v_ X.stack) [] H (upd (upd H a (c_ a C t (.ref T) d)) T (qY T (rawInt L))) s.heap h':=by
  rw[qQ];exact⟨λb ob q n hb _=>N.keep b ob (xS b n) hb q,λb ob q n _ _=>N.slot b ob (xS b n) q,λb ob q n _=>by rw[ay (λz=>by subst z;rw[N.new] at q;cases q),ay (xS b n)];exact n,
   λb ob q _=>by
    by_cases z:b=a
    ·subst z;exact⟨_,N.exc⟩
    ·obtain⟨sl,q⟩:=N.slot b ob z q;exact⟨_,q⟩,
   λb xs q=>by rw[ay (neT b _ q),ay (zV b _ q (λ_ z=>nomatch z))];exact q,λb u xs q=>by rw[ay (neT b _ q),ay (zV b _ q (λ_ z=>nomatch z))];exact q,
   λb ps q=>⟨#[],by rw[ay (neT b _ q),ay (zV b _ q (λ_ z=>nomatch z)),q];simp⟩⟩
 have b_:lW X.prog X.w (upd (upd H a (c_ a C t (.ref T) d)) T (qY T (rawInt L))) h':=λb u q=>by
  by_cases Q0:b=T
  ·subst Q0;rw[aE] at q;cases q;exact vS x1 x2 x3
  ·rw[ay Q0] at q;by_cases zW:b=a
   ·subst zW;rw[aE] at q;cases q;refine pC N.exc ((Obj.cls_mapFields _ _).trans hc) ?_ (Obj.data_mapFields hf _) (by simp[h6]) (by rw[Array.getElem?_setIfInBounds_ne (by decide)];exact h0) (by simp[h6]);obtain⟨cc,dd,dt,sl⟩:=o;simp only at hf;subst hf;exact hd
   ·rw[ay zW] at q;refine(I.b_ b u q).nv (λc v hc e=>?_) (λc r=>by rw[ay (neT c _ r),ay (zV c _ r (λ_ z=>nomatch z))];exact r) λc xs r=>by rw[ay (neT c _ r),ay (zV c _ r (λ_ z=>nomatch z))];exact r
    refine N.keep c v ?_ (λz=>?_) e
    ·rcases hc with rfl|hc
     ·exact zW
     ·exact zV c _ hc (λ_ z=>nomatch z)
    ·have:=free c z;rcases hc with rfl|hc
     ·rw[this] at q;cases q
     ·rw[this] at hc;cases hc
 exact⟨BW,I.call (g':=s.gens) (d':=s.drawn) (t':=s.toks) (ch:=[]) un b_ I.bare (λb z=>absurd z (by simp))⟩
theorem Jj{env0 en:Env}{outer0:List Env}{L:Addr}(qQ:X.stack=env0::outer0)(mO:env0.frame=some L)(hen:∀e,noteFrame e en=noteFrame e env0)(I:Inv X pins σ H s)(ha:H a=some (c_ a C t tb d))(ht:CZ H a tb)(k:∀s' T,H T=none->T≠a->Inv X pins σ (upd (upd H a (c_ a C t (.ref T) d)) T (qY T (rawInt L))) s'->Q () s'):wpAny (model X.prog X.w) X.A (noteFrame (.ref a) en) Q E s:=by
 obtain⟨o,vs,e,hc,hd,hf,h6,h0,h1⟩:=i_ I.b_ ha;have LL:X.A.frames=some (env0::outer0):=by rw[<-qQ];exact I.ok.frames
 have LM:s.heap.FunFrames X.base (env0::outer0):=by rw[<-qQ];exact I.stack
 rw[hen];refine CY LL LM mO e hf h1 ?_ λh' T N=>?_
 ·rcases ht with rfl|⟨T,rfl,n,q⟩
  ·exact .inl rfl
  ·obtain⟨oT,ts,x,y,z⟩:=xR I.b_ q;exact .inr ⟨T,oT,ts,rfl,n,x,y,z⟩
 ·obtain⟨BW,J⟩:=z7 qQ I ha e hc hd hf h6 h0 N;exact k _ T BW N.ne J
theorem E3{fr:Option Addr}(I:Inv X pins σ H s)(ha:H a=some (c_ a C t (.ref T) d))(hT:H T=some (qY T fl))(k:∀s',Inv X pins σ (upd H T (qY T (fr.elim .none λf=>rawInt f))) s'->Q () s'){A:Around}:wpAny (model X.prog X.w) A (setFlight (.ref a) fr) Q E s:=by
 obtain⟨o,vs,e,hc,hd,hf,h6,h0,h1⟩:=i_ I.b_ ha;obtain⟨oT,ts,x,y,z⟩:=xR I.b_ hT;have hsz:=(Array.getElem?_eq_some_iff.mp z).1;unfold setFlight;refine wpAny_bind (wpAny_field e hf h1 ?_);rw[if_pos (show(Value.ref T !=Value.none)=true from by simp)];refine wpAny_setField x y hsz ?_;have p:=Heap.get?_update_self (Obj.mapFields (·.setIfInBounds 3 (fr.elim Value.none λf=>rawInt f))) x (Obj.isFreed_of_fields (Obj.data_mapFields y _));have q:=Obj.data_mapFields y (·.setIfInBounds 3 (fr.elim Value.none λf=>rawInt f));have r:(ts.setIfInBounds 3 (fr.elim Value.none λf=>rawInt f))[3]?=some (fr.elim Value.none λf=>rawInt f):=by simp[hsz]
 have keep:∀b u,b≠T->s.heap.get? b=some u->(s.heap.update T (Obj.mapFields (·.setIfInBounds 3 (fr.elim Value.none λf=>rawInt f)))).get? b=some u:=λb u n e=>(Heap.get?_update_other _ _ (Ne.symm n)).trans e;have mu:NL (H T):=by rw[hT];exact ET
 exact k _ (I.un (t':=s.toks) (Un.write mu (.inl rfl) keep ⟨_,p⟩) (I.b_.write mu (.inl rfl) keep ⟨_,p⟩ (vS p q r)))
theorem E4(qQ:X.stack=X.env::X.outer)(mO:X.env.frame=some X.env.locals)(I:Inv X pins σ H s)(ha:H a=some (c_ a C t (.ref T) d))(jJ:T≠a)(hT:H T=some (qY T fl))(k:∀s' H' T',Inv X pins σ H' s'->H' a=some (c_ a C t (.ref T') d)->CZ H' a (.ref T')->(∀b o,b≠a->b≠T->H b=some o->H' b=some o)->Q () s'):wpAny (model X.prog X.w) X.A (leaving X.env (.ref a)) Q E s:=by
 obtain⟨o,vs,e,hc,hd,hf,h6,h0,h1⟩:=i_ I.b_ ha;obtain⟨oT,ts,x,y,z⟩:=xR I.b_ hT;have hsz:=(Array.getElem?_eq_some_iff.mp z).1;unfold leaving;refine wpAny_bind ?_;unfold noteFrame;simp only[mO];refine wpAny_bind (wpAny_field e hf h1 ?_);rw[if_pos (show(Value.ref T !=Value.none)=true from by simp)];refine wpAny_bind (wpAny_field x y z ?_);by_cases hq:(fl==rawInt X.env.locals)=true
 ·rw[if_pos hq];refine wpAny_pure ?_;refine mW (T:=T) (fl:=fl) (C:=C) (t:=t) (d:=d) I ha hT λs2 I2=>?_;have S1:upd H T (qY T .none) a=some (c_ a C t (.ref T) d):=by rw[ay (Ne.symm jJ)];exact ha
  exact k s2 _ T I2 S1 (.inr ⟨T,rfl,jJ,aE⟩) λb o n1 n2 q=>by rw[ay n2];exact q
 ·rw[if_neg hq];refine wpAny_bind (wpAny_setField x y hsz ?_);have p:=Heap.get?_update_self (Obj.mapFields (·.setIfInBounds 3 Value.none)) x (Obj.isFreed_of_fields (Obj.data_mapFields y _));have q:=Obj.data_mapFields y (·.setIfInBounds 3 Value.none);have r:(ts.setIfInBounds 3 Value.none)[3]?=some Value.none:=by simp[hsz]
  have keep:∀b u,b≠T->s.heap.get? b=some u->(s.heap.update T (Obj.mapFields (·.setIfInBounds 3 Value.none))).get? b=some u:=λb u n e=>(Heap.get?_update_other _ _ (Ne.symm n)).trans e;have mu:NL (H T):=by rw[hT];exact ET
  have I1:Inv X pins σ (upd H T (qY T .none)) {s with heap:=s.heap.update T (Obj.mapFields (·.setIfInBounds 3 Value.none))}:=I.un (t':=s.toks) (Un.write mu (.inl rfl) keep ⟨_,p⟩) (I.b_.write mu (.inl rfl) keep ⟨_,p⟩ (vS p q r));have X_:upd H T (qY T .none) a=some (c_ a C t (.ref T) d):=by rw[ay (Ne.symm jJ)];exact ha
  have hk1:∀b o,b≠a->b≠T->H b=some o->upd H T (qY T .none) b=some o:=λb o _ n2 q=>by rw[ay n2];exact q
  generalize upd H T (qY T .none)=H1 at I1 X_ hk1;have e1:=keep a o (Ne.symm jJ) e;generalize hs1:s.heap.update T (Obj.mapFields (·.setIfInBounds 3 Value.none))=X' at I1 e1;have LL:X.A.frames=some (X.env::X.outer):=by rw[<-qQ];exact I1.ok.frames
  have LM:X'.FunFrames X.base (X.env::X.outer):=by rw[<-qQ];exact I1.stack
  refine uJ (s:={s with heap:=X'}) LL LM mO e1 hf (Array.getElem?_eq_some_iff.mp h1).1 λh' T' N=>?_;obtain⟨BW,J⟩:=z7 (s:={s with heap:=X'}) qQ I1 X_ e1 hc hd hf h6 h0 N;refine mW (T:=T') (fl:=rawInt X.env.locals) (C:=C) (t:=t) (d:=d) J (by rw[ay (Ne.symm N.ne),aE]) (by rw[aE]) λs2 I2=>?_;rw[Aa] at I2;refine k s2 _ T' I2 (by rw[ay (Ne.symm N.ne),aE]) (.inr ⟨T',rfl,N.ne,by rw[aE]⟩) λb o n1 n2 q=>?_;have q1:=hk1 b o n1 n2 q;rw[ay (λz=>by subst z;rw[BW] at q1;cases q1),ay n1];exact q1
end
def Hw(X:Cx)(E:XK):Prop:=∀pins σ H' s' a C t T fl d H1 wo,Inv X pins σ H' s'->H' a=some (c_ a C t (.ref T) d)->T≠a->H' T=some (qY T fl)->Sub a H1 H'->H1 T=none->H1 a=some (c_ a C t wo d)->E (.ref C) d H1->X.xe (.ref a) s'
theorem E5{cm:Bool}{P:Program}{w:World}{K:Frag}{mg:Str->Option Value}{base:Heap}{N:List Str}{qual:Str}{scope:Scope}{f:Addr}{cd:Value}{A:Around}{outer:List Env}{s:Shared}{H:Hp}{E:XK}:
 Hw (LR (f9 P w) cm P w K mg base N qual scope f cd A outer s H E) E:=λpins σ H' s' a C t T fl d H1 wo I ha jJ hT hs hn h1 hE=>by
 show wpAny _ _ (leaving _ _) _ _ _;exact E4 (X:=LR (f9 P w) cm P w K mg base N qual scope f cd A outer s H E) rfl rfl I ha jJ hT λs2 H2 T' J S1 Zz BU=>
  ⟨a,C,t,_,d,H1,H2,wo,rfl,J.os,J.bare,J.base,J.b_,S1,Zz,λb o n e=>BU b o n (λz=>by subst z;rw[hn] at e;cases e) (hs b o n e),h1,hE⟩
section
variable {prog:Program} {w:World} {A:Around} {R:Result->Shared->Prop} {s:Shared}
theorem E6{elt tg Qr:Expr}{sc:Scope}{ps:Pos}{it acc:Value}{en:Env}(J:Nat->Shared->Prop)(turn:∀n s,J n s->wpAny (model prog w) A (pyNext it) (λr s1=>match r with
 |none=>R (.ok .next) s1
 |some v=>wpAny (model prog w) A (letOwnedTupleGo tg it v) (λ_ s2=>wpAny (model prog w) A (assign tg en v) (λ_ s3=>wpAny (model prog w) A (eval elt en) (λx s4=>
  wpAny (model prog w) A (call (.builtin "list.append") [acc,x]) (λ_ s5=>∃m,m<n/\J m s5) (λ_ _=>False) s4) (notedBy (model prog w) A en λx s'=>R (.error x) s') s3) (λ_ _=>False) s2) (λ_ _=>False) s1) (λ_ _=>False) s)(n:Nat)(h:J n s):codeAny (model prog w) A (.compLoop (.ListComp elt [⟨tg,Qr,[],0⟩] sc ps) 0 it acc en) R s:=by
 refine codeAny_loop rfl J (λn s hJ=>?_) n h;show wpAny (model prog w) A ((compTurn (.ListComp elt [⟨tg,Qr,[],0⟩] sc ps) 0 it acc en).onRaise (λx=>do noteFrame x en;theTreesLotGoes x)) _ _ s;refine wpAny_noted ?_;rw[compTurn_list1];have no:∀{α:Type}{t:Sem α}{Q:α->Shared->Prop}{E:Value->Shared->Prop}{s:Shared},wpAny (model prog w) A t Q (λ_ _=>False) s->wpAny (model prog w) A t Q E s:=
  λh=>wpAny_mono h (λ_ _ q=>q) λ_ _ z=>z.elim
 refine wpAny_bind (wpAny_standAt (wpAny_bind (cB (no (turn n s hJ)) λr s1 h1=>?_)));cases r with
 |none=>exact wpAny_pure h1
 |some v=>
  refine wpAny_bind (cB (no h1) λ_ s2 h2=>?_);refine wpAny_bind (cB (no h2) λ_ s3 h3=>?_);refine wpAny_bind (wpAny_bind (cB h3 λx s4 h4=>?_));refine wpAny_bind (cB (no h4) λ_ s5 h5=>?_);exact wpAny_pure (wpAny_pure ⟨rfl,h5⟩)
end
section
variable {X:Cx} {pins:List (Addr×Obj)} {σ:L2.St} {H:Hp} {s:Shared} {scope:Scope} {cl:List (Str×Addr)} {own:List Str} {fr:List Nat} {M:List Str} {E:XK}
theorem C6{elt tg iter:Expr}{ps:Pos}{g:TG}{te:TE}{it D:Addr}{fp:List Addr}{tn:Nat->Heap->Prop}{J:It}{H1:Hp}{s3:Shared}{W:Nat->Nat->L2.St->Hp->Prop}{Qz:Hp->Prop}{Rz:Result->Shared->Prop}{C:Addr}(qQ:X.stack=X.env::X.outer)(mO:X.env.frame=some X.env.locals)(hc:X.calm=true)(K:mC X scope cl own fr M)(I3:Inv X pins σ H1 s3)(T:Turn X.prog X.w X.K tg J fp it tn)(st:tn 0 s3.heap)(hf:∀b∈fp,lY X pins H1 b)(hg:PG (cw X scope cl C s3 H1 M fp pins) tg g)(he:∀vI,PE (zY (cw X scope cl C s3 H1 M fp pins) vI E) elt te)(w0:∃m,W 0 m (i6 own fr σ) H1)(turn:∀i m bQ H2,W i m bQ H2->(J.stop i H2/\Qz H2)\/(J.go i H2/\∀x H3,J.Kj i H2 x H3->g x bQ H3 λqh H4=>te qh H4 λy H5=>∃ys,H5 D=some (.lst ys)/\ys.length<sizeLine/\∃m',m'<m/\W (i+1) m' qh (upd H5 D (.lst (ys++[y]))))){h':Heap}{m0:Str->Option Value}{tk:Nat}(hC:C=s3.heap.objs.size)(hn:h'.Ns C m0)(hk:∀b u,s3.heap.get? b=some u->h'.get? b=some u)(fin:∀s' H' m',Inv X pins σ H' s'->H' C=none->s'.heap.Ns C m'->Qz H'->Rz (.ok .next) s')(ZU:∀s' H' m' a Cc t T d Ha wo,Inv X pins σ H' s'->H' C=none->s'.heap.Ns C m'->H' a=some (c_ a Cc t (.ref T) d)->T≠a->H' T=some (qY T (rawInt X.env.locals))->Sub a Ha H'->Ha T=none->Ha a=some (c_ a Cc t wo d)->E (.ref Cc) d Ha->Rz (.error (.ref a)) s'):
 codeAny (model X.prog X.w) X.A (.compStart (.ListComp elt [⟨tg,iter,[],0⟩] scope ps) 0 (.ref it) (.ref D) (compEnvC scope cl C X.env)) Rz {s3 with heap:=h',toks:=tk}:=by
 subst hC;have I4:=I3.comp K hf (T.obj _ _ st) (tk:=tk) hn hk;have zJ:tn 0 h':=T.keep _ _ _ st λb _ o e=>hk b o e;have qR:∀{H':Hp},(∀b∈fp,H' b=none)->∀b∈fp,lY (cw X scope cl s3.heap.objs.size s3 H1 M fp pins) [] H' b:=λ{H'} hz b hb=>by
  obtain⟨o,e,_⟩:=T.obj _ _ st b hb;obtain⟨_,f1,f2,f3,f4,f5⟩:=hf b hb;refine⟨hz b hb,Nat.ne_of_lt (Heap.lt_size e),λz=>(List.mem_cons.mp (I3.um b z)).elim f1 f2,.inl hb,λx c h=>f4 x c (K.cls x c h),λp hp=>f5 p ?_⟩;rcases List.mem_append.mp hp with z|z
  ·exact z
  ·cases z
 have loop:codeAny (model X.prog X.w) X.A (.compLoop (.ListComp elt [⟨tg,iter,[],0⟩] scope ps) 0 (.ref it) (.ref D) (compEnvC scope cl s3.heap.objs.size X.env)) Rz {s3 with heap:=h',toks:=tk}:=by
  obtain⟨m,w0⟩:=w0;refine E6 (λn s'=>∃i cH H',Inv (cw X scope cl s3.heap.objs.size s3 H1 M fp pins) [] cH H' s'/\tn i s'.heap/\(∀b∈fp,H' b=none)/\W i n cH H') (λn s5 hJ=>?_) m ⟨0,_,H1,I4,zJ,λb hb=>(hf b hb).1,w0⟩;obtain⟨i,zK,H5,I5,yP,Nu,w5⟩:=hJ;rcases turn i n zK H5 w5 with⟨stop,qz⟩|⟨go,step⟩
  ·refine cB (T.done (cw X scope cl s3.heap.objs.size s3 H1 M fp pins) rfl rfl rfl hc i [] s5 zK H5 _ I5 (qR Nu) yP stop) λr s6 q6=>?_;obtain⟨hr,I6⟩:=q6;subst hr;obtain⟨m6,n6,_⟩:=I6.loc;exact fin s6 H5 m6 (I3.As (h:=h') hf I6) I6.free n6 qz
  ·refine cB (T.item (cw X scope cl s3.heap.objs.size s3 H1 M fp pins) rfl rfl rfl hc i [] s5 zK H5 _ I5 (qR Nu) yP go) λr s6 q6=>?_;obtain⟨u,hr,h6⟩:=q6;subst hr;refine cB h6 λ_ s7 q7=>?_;obtain⟨x,H7,I7,r7,y7,D2,VF⟩:=q7;have VG:=I7.pinned (qR VF) (T.obj _ _ D2);refine cB (hg _ s7 zK H7 x u _ VG r7 (step x H7 y7)) λ_ s8 q8=>?_;obtain⟨Es,H8,I8,q8⟩:=q8;refine wpAny_mono (he _ [] s8 Es H8 _ (LP I8) q8) (λv s9 q9=>?_) λe s9 q9=>?_
   ·obtain⟨y,H9,I9,r9,ys,hD,hz,m',hm,w9⟩:=q9;have I9:=uK I9;refine cB (dh (X:=cw X scope cl s3.heap.objs.size s3 H1 M fp pins) _ s9 Es H9 (.ref D) [y] (.ref D) [v] (λv' H'=>v'=.dH/\H'=upd H9 D (.lst (ys++[y]))) I9 rfl (.cons r9 .nil) ⟨D,ys,y,rfl,rfl,hD,hz,rfl,rfl⟩) λv' KI VH=>?_;obtain⟨v10,VI,Et,_,rfl,rfl⟩:=VH;refine⟨m',hm,i+1,Es,_,Et.kf,T.keep _ _ _ D2 λb hb o e=>(Et.pin (b,o) (List.mem_append_right _ (List.mem_append_right _ (eW hb e)))).1,λb hb=>?_,w9⟩;obtain⟨o,e,_⟩:=T.obj _ _ D2 b hb;exact(Et.pin (b,o) (List.mem_append_right _ (List.mem_append_right _ (eW hb e)))).2.1
   ·obtain⟨a,Cc,t,ZT,d,ZV,Ha,H9,wo,rfl,I9,ha,ht,AW,WG,WH⟩:=q9;show wpAny _ _ (noteFrame (.ref a) (compEnvC scope cl s3.heap.objs.size X.env)) _ _ _;refine Jj (X:=cw X scope cl s3.heap.objs.size s3 H1 M fp pins) (env0:=X.env) (outer0:=X.outer) qQ mO (λ_=>rfl) I9 ha ht λKI Tn BW jJ Et=>?_;have WI:Ha Tn=none:=by
     cases z:Ha Tn with
     |none=>rfl
     |some o=>rw[AW Tn o jJ z] at BW;cases BW
    obtain⟨m10,n10,_⟩:=Et.loc;refine ZU KI _ m10 a Cc t Tn d Ha wo (I3.As (h:=h') hf Et.kf) Et.free n10 (by rw[ay (Ne.symm jJ),aE]) jJ (by rw[aE]) (λb o n e=>?_) WI WG WH;rw[ay (λz=>by subst z;rw[WI] at e;cases e),ay n];exact AW b o n e
 exact codeAny_compStart_list loop (T.self X.A 0 _ _ _ zJ loop)
end
section
variable {X:Cx} {pins:List (Addr×Obj)} {σ:L2.St} {H:Hp} {s:Shared} {scope:Scope} {cl:List (Str×Addr)} {own:List Str} {fr:List Nat} {M:List Str} {E:XK}
theorem LZ{i:Nat}{y:Str}{py:Pos}{elt tg iter:Expr}{ps KN:Pos}{wi:TI}{g:TG}{te:TE}(hN:X.N.Nodup)(Y6:X.N[i]?=some y)(hL:Hw X E)(qQ:X.stack=X.env::X.outer)(mO:X.env.frame=some X.env.locals)(hc:X.calm=true)(K:mC X scope cl own fr M)(hi:PI X tg iter wi)(hg:∀C s3 H1 fp pins,PG (cw X scope cl C s3 H1 M fp pins) tg g)(he:∀C s3 H1 fp pins vI,PE (zY (cw X scope cl C s3 H1 M fp pins) vI E) elt te)(hy:X.env.scope.names.lookup y=some .local)(Y7:swapsWith (.ListComp elt [⟨tg,iter,[],0⟩] scope ps) (some (.Name y py)) KN.line X.env=pure true:=by rfl)(hs:∀x,foldedSetIterable iter X.env x=pure x:=by intro _;rfl):L2.PS X (.Assign [.Name y py] (.ListComp elt [⟨tg,iter,[],0⟩] scope ps) KN) (sG (vN own fr wi g te) (fj i)):=by
 intro pins s σ H D I h;rw[exec_Assign_Name_used _ _ _ _ Y7];refine wpAny_bind (wpAny_standAt (wpAny_bind ?_));show wpAny _ _ (do let _<-comprehension (.ListComp elt [⟨tg,iter,[],0⟩] scope ps) scope X.env _ (newList []) false (eval iter X.env) (some (assign (.Name y py) X.env))) _ _ s;refine wpAny_bind (cB (Q:=λ_ s'=>SP X pins D .next s') (wpAny_comprehension_free (use:=some (assign (.Name y py) X.env)) rfl hs K.Cn K.kind K.names ?_) λ_ s' q=>wpAny_pure (wpAny_pure q));refine cB (hi pins s σ H _ I h) λv s1 h1=>cB h1 λRN s2 h2=>?_;obtain⟨it,fp,tn,J,H2,e,I2,T,wG,f2,hW⟩:=h2;subst e;refine wpAny_newObj_type (hd:=by size_fits) ?_;have I3:Inv X pins σ (upd H2 s2.heap.objs.size (.lst [])) {s2 with heap:=s2.heap.push {cls:=.type "list",dict:=none,data:=.seq ([]:List Value).toArray}}:=I2.En (t':=s2.toks) .nil (Nat.zero_le _);obtain⟨W,w0,turn⟩:=hW s2.heap.objs.size I2.fresh;have B6:tn 0 (s2.heap.push {cls:=.type "list",dict:=none,data:=.seq ([]:List Value).toArray}):=T.keep _ _ _ wG λb _ o e=>Heap.get?_push_of_some _ e;have f3:∀b∈fp,lY X pins (upd H2 s2.heap.objs.size (.lst [])) b:=λb hb=>by
  obtain⟨o,e,_⟩:=T.obj _ _ wG b hb;obtain⟨f0,f'⟩:=f2 b hb;exact⟨by rw[ay (Nat.ne_of_lt (Heap.lt_size e))];exact f0,f'⟩
 refine wpAny_newFunctionEnv K.lq (λy hy=>nomatch hy) (λh' wL D3=>?_) K.kind;have hk:∀b u,(s2.heap.push {cls:=.type "list",dict:=none,data:=.seq ([]:List Value).toArray}).get? b=some u->h'.get? b=some u:=λb u e=>
  D3.extBut b u (Nat.ne_of_lt (Heap.lt_size e)) (Heap.get?_push_of_some _ e)
 refine C6 (E:=E) (g:=g) (te:=te) (W:=W) (Qz:=λH'=>fj i (.ref s2.heap.objs.size) σ H' D.nx) qQ mO hc K I3 T B6 f3 (hg _ _ _ _ _) (he _ _ _ _ _) w0 turn rfl wL hk (λs' H' m' J1 Co KJ qz=>?_) λs' H' m' a Cc t Tn d Ha wo J1 Co KJ ha jJ hT AW WI WG WH=>?_
 ·show wpAny _ _ (assign (.Name y py) X.env (.ref s2.heap.objs.size)) _ _ s';obtain⟨_,f1,_,KL,f4,f5⟩:=I3.ur (H':=H') (Nat.le_refl _) Co;refine wpAny_assign_Name (uo J1 hN Y6 (.inl hy) (v:=.ref s2.heap.objs.size) rfl (λs4 J2 sb=>?_) (.inr hy));obtain⟨a,sa,Y8⟩:=sb;have jJ:(s2.heap.push {cls:=.type "list",dict:=none,data:=.seq ([]:List Value).toArray}).objs.size≠a:=by
   rcases Y8 with z|z
   ·rw[z];exact f1
   ·exact λe=>f4 y a z e.symm
  refine⟨m',KJ.sameBut sa jJ,λh2 Y9=>⟨_,H',?_,qz⟩⟩;exact J2.turned (t':=s4.toks) (λb o hb e=>Y9.extBut b o hb e) Co f1 KL f4 f5
 ·refine⟨m',KJ,λh2 sb aao _=>?_⟩;obtain⟨_,f1,_,KL,f4,f5⟩:=I3.ur (H':=H') (Nat.le_refl _) Co;have J2:Inv X pins σ H' {s' with heap:=h2}:=J1.turned (t':=s'.toks) (λb o hb e=>sb.extBut b o hb e) Co f1 KL f4 f5;obtain⟨o,vs,e,yS,hd,hff,h6,h0,h1⟩:=i_ J2.b_ ha;unfold PySem.passOn;refine wpAny_bind (wpAny_field e hff h1 ?_);rw[if_neg (show ¬((Value.ref Tn==Value.none)=true) from by simp)];refine wpAny_bind (E3 J2 ha hT λs3 J3=>wpAny_throw ?_);refine hL pins σ _ s3 a Cc t Tn _ d Ha wo J3 (by rw[ay (Ne.symm jJ)];exact ha) jJ aE (λb o n e=>?_) WI WG WH;rw[ay (λz=>by subst z;rw[WI] at e;cases e)];exact AW b o n e
end
end SF
namespace CV
open PySem PySem.Spec PyProof.Rows L2 SF PySem.W
inductive ir where
 |ret (x:AV)|exc (c:Nat) (at_:Int)
abbrev vT:=List AV->Option ir
def oS(cl:Nat->Addr)(E:XK)(H:Hp)(c:Nat)(i:Int):Prop:=if c=3 then ∀dx H',aJ H H'->H' dx=some (.xd [("at",.int i)])->E (.ref (cl 3)) (some dx) H' else ∀H',aJ H H'->E (.ref (cl c)) none H'
theorem oS.mono{cl:Nat->Addr}{E:XK}{H H':Hp}{c:Nat}{i:Int}(h:oS cl E H c i)(s:aJ H H'):oS cl E H' c i:=by
 unfold oS at h ⊢;split
 ·rename_i e;rw[if_pos e] at h;exact λdx H2 s2 z=>h dx H2 (s.trans s2) z
 ·rename_i e;rw[if_neg e] at h;exact λH2 s2=>h H2 (s.trans s2)
def XA(cl:Nat->Addr)(E:XK):ir->Hp->Hp->Hp->Prop:=λr _ _ H=>match r with
 |.exc c i=>oS cl E H c i
 |.ret _=>True
def dJ(K:Frag)(C:Addr)(cl:Nat->Addr)(F:vT)(m:Nat):Sp:=λvs H Q E=>∃Hf as r,aJ Hf H/\d9 K C Hf as vs/\as.length=m/\F as=some r/\
 (∀x,r=.ret x->∀v bL H',aJ H H'->aJ Hf bL->aJ bL H'->(∀b,Hf b=none->H b≠none->bL b=none)->Rl K C bL x v->Q v H')/\(∀c i,r=.exc c i->oS cl E H c i)
def da(F:vT)(m:Nat)(ar:eE ir):Ev ir:=λσ k=>ar σ λas bc=>eX (Nat.beq (qF as) m) (Option.rec none (λr=>ir.rec (λx=>k x bc) (λc i=>some (.exc c i)) r) (F as)) none
def nI(c:Nat):cZ ir:=λ_ _=>some (.exc c 0)
def AX(e:Ev ir):cZ ir:=λσ _=>e σ λx _=>oQ x λi=>some (.exc 3 i)
def oU(n:Nat)(s:cZ ir):vT:=λas=>s (V_ n as) λ_=>some (.ret .dH)
section
variable {K:Frag} {C:Addr} {cl:Nat->Addr} {E:XK}
theorem cu{F:vT}{m:Nat}{ar:eE ir}{tr:TA}(ha:gm K C (XA cl E) ar tr):bR K C (XA cl E) (da F m ar) (pb (dJ K C cl F m) [] E tr):=by
 intro bE k r h Fo Hf H σ g hx Q q;refine ha _ _ _ h Fo Hf H σ g hx _ λas bc vs bO H1 h1 s1 g1 r1=>?_;obtain⟨c,h2⟩:=cx h1;have c:=Nat.eq_of_beq_eq_true c;rw[i9] at c;cases e:F as with
 |none=>rw[e] at h2;exact nomatch h2
 |some y=>
  rw[e] at h2;rw[List.append_nil];refine⟨bO,as,y,g1.sub,r1,c,e,λx ex v bL H' k1 k2 k3 k4 rl=>?_,λcc i ex=>?_⟩
  ·subst ex;exact q _ _ _ _ _ h2 (aJ.trans' s1 k2) (g1.call k1 k2 k3 k4) rl
  ·subst ex;have h3:some (ir.exc cc i)=some r:=h2;cases h3;exact hx bO H1 s1 g1.Ov
theorem km{c:Nat}{m:Str}{rt:AV->ir}(hc:c≠3):kL K C (XA cl E) rt (nI c) (LN (cl c) E (dm (tC (.str m)) iY)):=by
 intro bE nx r h Fo Hf H σ g hx D n t;cases h;refine⟨by show 1<=1000;decide,λx tp e1 e2 e3=>?_⟩;have w:oS cl E H c 0:=hx Hf H (aJ.fO _) g.Ov;unfold oS at w;rw[if_neg hc] at w;exact w _ ((aJ.new e2 _).trans (aJ.new (by rw[ay e3];exact e1) _))
theorem eL{s:cZ ir}{t:TS}{m n:Nat}{N:List Str}(hs:kL K C (XA cl E) ir.ret s t)(hN:N.length=m+n){vs:List V}{H:Hp}{Q:VK}(h:dJ K C cl (oU n s) m vs H Q E):t {nx:=λ_ H'=>Q .dH H',rt:=Q} (L2.start N vs) H:=by
 obtain⟨Hf,as,r,h1,h2,h3,h4,q,qx⟩:=h;have hvl:=h2.length;have g:Good K C (jL Hf H) Hf H (V_ n as) (L2.start N vs):=by
  refine⟨h1,nG,?_,λi x e=>?_,λi xs e=>?_,λi j xs ys a e=>?_⟩
  ·rw[pB];unfold L2.start;rw[List.length_append,List.length_append,List.length_map,List.length_map,List.length_replicate,List.length_replicate];lia
  ·rw[pB,j7] at e;by_cases hi:i<as.length
   ·rw[List.getElem?_append_left (by rw[List.length_map];exact hi),List.getElem?_map,List.getElem?_eq_getElem hi] at e;cases e;obtain⟨v,e1,e2⟩:=h2.get (List.getElem?_eq_getElem hi);refine⟨v,?_,e2⟩;unfold L2.start;rw[List.getElem?_append_left (by rw[List.length_map];lia),List.getElem?_map,e1];rfl
   ·rw[List.getElem?_append_right (by rw[List.length_map];lia),List.length_map,List.getElem?_replicate] at e;split at e<;>exact nomatch e
  all_goals
   rw[pB,j7] at e;by_cases hi:i<as.length
   ·rw[List.getElem?_append_left (by rw[List.length_map];exact hi),List.getElem?_map,List.getElem?_eq_getElem hi] at e;exact nomatch e
   ·rw[List.getElem?_append_right (by rw[List.length_map];lia),List.length_map,List.getElem?_replicate] at e;split at e<;>exact nomatch e
 refine hs _ _ _ h4 _ Hf H _ g (λbL H' s1 f1=>?_) _ (λfY cH bL H' e s1 g1=>?_) λx v bL H' ex s1 f1 rl=>?_
 ·cases r with
  |ret x=>exact trivial
  |exc c i=>exact(qx c i rfl).mono (eF h1 s1 f1.1 f1.2).1
 ·cases e;obtain⟨k1,k2⟩:=eF h1 s1 g1.sub g1.fo;exact q _ rfl _ _ _ k1 s1 g1.sub k2 .dH
 ·subst ex;obtain⟨k1,k2⟩:=eF h1 s1 f1.1 f1.2;exact q _ rfl _ _ _ k1 s1 f1.1 k2 rl
theorem dv{F:vT}{m:Nat}{vs:List V}{H:Hp}{Q:VK}(h:dJ K C cl F m vs H Q E):vs.length=m:=by
 obtain⟨Hf,as,r,h1,h2,h3,_⟩:=h;rw[h2.length,h3]
end
end CV
namespace CV
open PySem PySem.Spec PyProof.Rows L2 SF
variable {α:Type}
def fN(n:Nat)(k:Nat->Option α):Option α:=Nat.rec (k 0) (λm _=>k (Nat.succ m)) n
theorem Q_{n:Nat}{k:Nat->Option α}:fN n k=k n:=by cases n<;>rfl
def fL(l:List Nat):(List Nat->Option α)->Option α:=List.rec (motive:=λ_=>(List Nat->Option α)->Option α) (λk=>k []) (λx _ ih k=>fN x λy=>ih λys=>k (y::ys)) l
theorem Hy:∀{l:List Nat}{k:List Nat->Option α},fL l k=k l
 |[],_=>rfl
 |x::l,k=>by
  show fN x (λy=>fL l λys=>k (y::ys))=_;rw[Q_,Hy]
def fS(z:Str)(k:Str->Option α):Option α:=fL z.cps.toList λl=>k ⟨⟨l⟩⟩
theorem tm{z:Str}{k:Str->Option α}:fS z k=k z:=by
 unfold fS;rw[Hy]
def pF(x:AV)(k:Str->Option α):Option α:=AV.casesOn x none (λ_=>none) (λ_=>none) k (λ_=>none) (λ_=>none) (λ_ _ _=>none)
theorem cy{x:AV}{k:Str->Option α}{r:α}(h:pF x k=some r):∃i,x=.str i/\k i=some r:=by
 cases x<;>first|exact⟨_,rfl,h⟩|exact nomatch h
def lnF(l:List Nat):Nat:=List.rec 0 (λ_ _ ih=>Nat.succ ih) l
theorem L3:∀l:List Nat,lnF l=l.length
 |[]=>rfl
 |_::l=>congrArg Nat.succ (L3 l)
def xY(z:Str):Nat:=lnF z.cps.toList
theorem wV(z:Str):xY z=z.length:=by
 unfold xY;rw[L3];exact Array.length_toList
def BX(z:Str)(a:Option α):Option α:=eX (Nat.ble (xY z) 400) a none
theorem lx{z:Str}{a:Option α}{r:α}(h:BX z a=some r):z.length<=400/\a=some r:=by
 obtain⟨h1,h2⟩:=cx h;have:=Nat.le_of_ble_eq_true h1;rw[wV] at this;exact⟨this,h2⟩
def ZW(a:List Nat):List Nat->Bool:=List.rec (motive:=λ_=>List Nat->Bool) (λb=>List.rec true (λ_ _ _=>false) b) (λx _ ih b=>List.rec false (λy r _=>Bool.rec false (ih r) (Nat.beq x y)) b) a
theorem L4:∀(a b:List Nat),ZW a b=decide (a=b)
 |[],[]=>rfl
 |[],_::_=>rfl
 |_::_,[]=>rfl
 |x::a,y::b=>by
  show(Bool.rec false (ZW a b) (Nat.beq x y):Bool)=_;rw[L4 a b];by_cases h:x=y
  ·subst h;rw[Nat.beq_refl];show decide (a=b)=_;rw[Bool.eq_iff_iff];simp
  ·have:Nat.beq x y=false:=by
    cases e:Nat.beq x y with
    |false=>rfl
    |true=>exact absurd (Nat.eq_of_beq_eq_true e) h
   rw[this];show false=_;rw[decide_eq_false (show ¬(x::a=y::b) from λz=>h (List.cons.inj z).1)]
def Hz(a b:Str):Bool:=ZW a.cps.toList b.cps.toList
theorem AY(a b:Str):Hz a b=decide (a=b):=by
 unfold Hz;rw[L4,Bool.eq_iff_iff,decide_eq_true_eq,decide_eq_true_eq];constructor
 ·intro h;cases a with
  |mk ca=>cases b with
   |mk cb=>
    have:ca=cb:=Array.toList_inj.mp h;rw[this]
 ·rintro rfl;rfl
def xZ(a b:Ev α):Ev α:=λσ k=>a σ λx bc=>b bc λy bQ=>pF x λi=>pF y λj=>BX i (BX j (fS (i++j) λz=>k (.str z) bQ))
def kn(a b:Ev α):Ev α:=λσ k=>a σ λx bc=>b bc λy bQ=>pF x λi=>pF y λj=>eX (Hz i j) (k (.bl true) bQ) (k (.bl false) bQ)
def L5(a b:Ev α):Ev α:=λσ k=>a σ λx bc=>b bc λy bQ=>pF x λi=>pF y λj=>eX (Hz i j) (k (.bl false) bQ) (k (.bl true) bQ)
def x4(ar:eE α):Ev α:=λσ k=>ar σ λas bc=>one as λx=>pF x λz=>BX z (fI (.ofNat (xY z)) λn=>k (.int n) bc)
def WJ(a b:Ev α):Ev α:=λσ k=>a σ λx bc=>b bc λy bQ=>pF x λz=>oQ y λi=>BX z (Int.rec (λn=>Option.rec none (λc=>fN c λc'=>k (.str ⟨⟨[c']⟩⟩) bQ) (z.cps.toList[n]?)) (λ_=>none) i)
def L6(a:Ev α)(lo hi:SD α):Ev α:=λσ k=>a σ λx bc=>lo bc λl bQ=>hi bQ λu sH=>pF x λz=>BX z (fS (Txt.slice z l u) λy=>k (.str y) sH)
def mi(a:Ev α)(ar:eE α):Ev α:=λσ k=>a σ λx bc=>pF x λz=>ar bc λas bQ=>List.rec none (λy r _=>pF y λp=>List.rec (eX (Txt.startswith z p) (k (.bl true) bQ) (k (.bl false) bQ)) (λw r2 _=>List.rec (oQ w λi=>eX (Txt.startswith3 z p i) (k (.bl true) bQ) (k (.bl false) bQ)) (λ_ _ _=>none) r2) r) as
def L7(a:Ev α):Ev α:=λσ k=>a σ λx bc=>pF x λz=>eX (Txt.isdigit z) (k (.bl true) bc) (k (.bl false) bc)
def L8(ar:eE α):Ev α:=λσ k=>ar σ λas bc=>one as λx=>pF x λz=>BX z (Option.rec none (λn=>fI n λm=>k (.int m) bc) (intText? z))
def Ya(i:Int):List Nat:=Int.rec (λn=>X3 n) (λn=>45::X3 (Nat.succ n)) i
def x5(ar:eE α):Ev α:=λσ k=>ar σ λas bc=>one as λx=>oQ x λi=>eX (Nat.ble (Nat.log2 (IT i)) 1900) (fL (Ya i) λl=>k (.str ⟨⟨l⟩⟩) bc) none
theorem L9(i:Int):(Str.ofString (toString i):Str)=⟨⟨Ya i⟩⟩:=by
 cases i with
 |ofNat n=>exact OA n
 |negSucc n=>exact OB (n+1) (by lia)
section
variable {K:PySem.W.Frag} {C:Addr} {X:α->Hp->Hp->Hp->Prop} {a b:Ev α} {ta tb:TE} {ar:eE α} {tr:TA} {lo hi:SD α} {tl th:TO}
theorem uL(ha:bR K C X a ta)(hb:bR K C X b tb):bR K C X (xZ a b) (lp (λx y H Q=>∃i j,x=.str i/\y=.str j/\i.length+j.length<=sizeLine/\Q (.str (i++j)) H) ta tb):=by
 intro bE k r h Fo Hf H σ g hx Q q;refine ha _ _ _ h Fo Hf H σ g hx _ λx bc v bO H1 h1 s1 g1 r1=>hb _ _ _ h1 Fo bO H1 σ g1 (hx.up s1) _ λy bQ u cM H2 h2 s2 g2 r2=>?_;obtain⟨i,rfl,h3⟩:=cy h2;obtain⟨j,rfl,h4⟩:=cy h3;obtain⟨c1,h5⟩:=lx h4;obtain⟨c2,h6⟩:=lx h5;rw[tm] at h6;cases r1;cases r2;exact⟨i,j,rfl,rfl,cR (by lia),q _ _ _ _ _ h6 (aJ.trans' s1 s2) g2 .str⟩
theorem L_{i j:Str}:decide (V.str i=V.str j)=decide (i=j):=by
 rw[Bool.eq_iff_iff];simp
theorem fk(ha:bR K C X a ta)(hb:bR K C X b tb):bR K C X (kn a b) (lp Vj ta tb):=by
 intro bE k r h Fo Hf H σ g hx Q q;refine ha _ _ _ h Fo Hf H σ g hx _ λx bc v bO H1 h1 s1 g1 r1=>hb _ _ _ h1 Fo bO H1 σ g1 (hx.up s1) _ λy bQ u cM H2 h2 s2 g2 r2=>?_;obtain⟨i,rfl,h3⟩:=cy h2;obtain⟨j,rfl,h4⟩:=cy h3;have h5:=i7 (k:=λz=>k z bQ) h4;cases r1;cases r2;refine⟨rfl,?_⟩;rw[L_,<-AY];exact q _ _ _ _ _ h5 (aJ.trans' s1 s2) g2 .bl
theorem HA(ha:bR K C X a ta)(hb:bR K C X b tb):bR K C X (L5 a b) (lp RR ta tb):=by
 intro bE k r h Fo Hf H σ g hx Q q;refine ha _ _ _ h Fo Hf H σ g hx _ λx bc v bO H1 h1 s1 g1 r1=>hb _ _ _ h1 Fo bO H1 σ g1 (hx.up s1) _ λy bQ u cM H2 h2 s2 g2 r2=>?_;obtain⟨i,rfl,h3⟩:=cy h2;obtain⟨j,rfl,h4⟩:=cy h3;have h5:k (.bl (!Hz i j)) bQ=some r:=by cases e:Hz i j<;>rw[e] at h4<;>exact h4
 cases r1;cases r2;refine⟨rfl,?_⟩;rw[L_,<-AY];exact q _ _ _ _ _ h5 (aJ.trans' s1 s2) g2 .bl
theorem uM(ha:gm K C X ar tr):bR K C X (x4 ar) (Cb (λxs H Q=>∃z,xs=[.str z]/\z.length<=sizeLine/\Q (.int z.length) H) tr):=by
 intro bE k r h Fo Hf H σ g hx Q q;refine ha _ _ _ h Fo Hf H σ g hx _ λas bc vs bO H1 h1 s1 g1 r1=>?_;obtain⟨x,rfl,h2⟩:=eD h1;obtain⟨v,rfl,r2⟩:=r1.one;obtain⟨z,rfl,h3⟩:=cy h2;obtain⟨c,h4⟩:=lx h3;rw[mS,wV] at h4;cases r2;exact⟨z,rfl,cR (by lia),q _ _ _ _ _ h4 s1 g1 .int⟩
theorem WK(ha:bR K C X a ta)(hb:bR K C X b tb):bR K C X (WJ a b) (lp Vp ta tb):=by
 intro bE k r h Fo Hf H σ g hx Q q;refine ha _ _ _ h Fo Hf H σ g hx _ λx bc v bO H1 h1 s1 g1 r1=>hb _ _ _ h1 Fo bO H1 σ g1 (hx.up s1) _ λy bQ u cM H2 h2 s2 g2 r2=>?_;obtain⟨z,rfl,h3⟩:=cy h2;obtain⟨i,rfl,h4⟩:=cg h3;obtain⟨c,h5⟩:=lx h4;cases r1;cases r2
 cases i with
 |negSucc m=>exact nomatch h5
 |ofNat n=>
  cases e:z.cps.toList[n]? with
  |none=>
   have h6:(Option.rec none (λc=>fN c λc'=>k (.str ⟨⟨[c']⟩⟩) bQ) (z.cps.toList[n]?):Option α)=some r:=h5;rw[e] at h6;exact nomatch h6
  |some cc=>
   have h6:(Option.rec none (λc=>fN c λc'=>k (.str ⟨⟨[c']⟩⟩) bQ) (z.cps.toList[n]?):Option α)=some r:=h5;rw[e] at h6;have h7:fN cc (λc'=>k (.str ⟨⟨[c']⟩⟩) bQ)=some r:=h6;rw[Q_] at h7;exact⟨z,_,cc,rfl,rfl,cR (by lia),wI e,q _ _ _ _ _ h7 (aJ.trans' s1 s2) g2 .str⟩
theorem HB(ha:bR K C X a ta)(hl:IU K C X lo tl)(hh:IU K C X hi th):bR K C X (L6 a lo hi) (XJ Wb ta tl th):=by
 intro bE k r h Fo Hf H σ g hx Q q;refine ha _ _ _ h Fo Hf H σ g hx _ λx bc v bO H1 h1 s1 g1 r1=>hl _ _ _ h1 Fo bO H1 σ g1 (hx.up s1) _ λl bQ cM H2 h2 s2 g2=>hh _ _ _ h2 Fo cM H2 σ g2 ((hx.up s1).up s2) _ λu sH jB H3 h3 s3 g3=>?_;obtain⟨z,rfl,h4⟩:=cy h3;obtain⟨c,h5⟩:=lx h4;rw[tm] at h5;cases r1;exact⟨z,rfl,cR (by lia),q _ _ _ _ _ h5 (aJ.trans' s1 (aJ.trans' s2 s3)) g3 .str⟩
theorem ly(ha:bR K C X a ta)(hr:gm K C X ar tr):bR K C X (mi a ar) (Iy K "str" G9 ta tr):=by
 intro bE k r h Fo Hf H σ g hx Q q;refine ha _ _ _ h Fo Hf H σ g hx _ λx bc v bO H1 h1 s1 g1 r1=>?_;obtain⟨z,rfl,Jk⟩:=cy h1;cases r1;refine⟨rfl,hr _ _ _ Jk Fo bO H1 σ g1 (hx.up s1) _ λas bQ vs cM H2 h2 s2 g2 r2=>?_⟩
 match as,h2,r2 with
 |[y],h2,r2=>
  obtain⟨w,rfl,r3⟩:=r2.one;obtain⟨p,rfl,h3⟩:=cy (k:=λp=>eX (Txt.startswith z p) (k (.bl true) bQ) (k (.bl false) bQ)) h2;cases r3;exact .inl ⟨z,p,rfl,rfl,q _ _ _ _ _ (i7 (k:=λy=>k y bQ) h3) (aJ.trans' s1 s2) g2 .bl⟩
 |[y,w],h2,r2=>
  obtain⟨vy,vw,rfl,r3,r4⟩:=r2.two;obtain⟨p,rfl,h3⟩:=cy (k:=λp=>oQ w λi=>eX (Txt.startswith3 z p i) (k (.bl true) bQ) (k (.bl false) bQ)) h2;obtain⟨i,rfl,h4⟩:=cg h3;cases r3;cases r4;exact .inr ⟨z,p,i,rfl,rfl,q _ _ _ _ _ (i7 (k:=λy=>k y bQ) h4) (aJ.trans' s1 s2) g2 .bl⟩
 |[],h2,_=>exact nomatch h2
 |_::_::_::_,h2,r2=>
  obtain⟨p,rfl,h3⟩:=cy (k:=λ_=>(none:Option α)) h2;exact nomatch h3
theorem OU(ha:bR K C X a ta):bR K C X (L7 a) (RY K "str" CP ta):=by
 intro bE k r h Fo Hf H σ g hx Q q;refine ha _ _ _ h Fo Hf H σ g hx _ λx bc v bO H1 h1 s1 g1 r1=>?_;obtain⟨z,rfl,h2⟩:=cy h1;cases r1;exact⟨rfl,z,rfl,rfl,q _ _ _ _ _ (i7 (k:=λy=>k y bc) h2) s1 g1 .bl⟩
theorem Ma(ha:gm K C X ar tr):bR K C X (L8 ar) (Cb (λxs H Q=>∃z n,xs=[.str z]/\intText? z=some n/\z.length<=640/\Q (.int n) H) tr):=by
 intro bE k r h Fo Hf H σ g hx Q q;refine ha _ _ _ h Fo Hf H σ g hx _ λas bc vs bO H1 h1 s1 g1 r1=>?_;obtain⟨x,rfl,h2⟩:=eD h1;obtain⟨v,rfl,r2⟩:=r1.one;obtain⟨z,rfl,h3⟩:=cy h2;obtain⟨c,h4⟩:=lx h3;cases e:intText? z with
 |none=>rw[e] at h4;exact nomatch h4
 |some n=>
  rw[e] at h4;have h5:fI n (λm=>k (.int m) bc)=some r:=h4;rw[mS] at h5;cases r2;exact⟨z,n,rfl,e,by lia,q _ _ _ _ _ h5 s1 g1 .int⟩
theorem uN(ha:gm K C X ar tr):bR K C X (x5 ar) (Cb (λxs H Q=>∃i:Int,xs=[.int i]/\i.natAbs.log2<1920/\Q (.str (toString i)) H) tr):=by
 intro bE k r h Fo Hf H σ g hx Q q;refine ha _ _ _ h Fo Hf H σ g hx _ λas bc vs bO H1 h1 s1 g1 r1=>?_;obtain⟨x,rfl,h2⟩:=eD h1;obtain⟨v,rfl,r2⟩:=r1.one;obtain⟨i,rfl,h3⟩:=cg h2;obtain⟨c,h4⟩:=cx h3;have c:=Nat.le_of_ble_eq_true c;rw[qV] at c;rw[Hy] at h4;cases r2;refine⟨i,rfl,by lia,?_⟩;rw[L9];exact q _ _ _ _ _ h4 s1 g1 .str
end
end CV
namespace CV
open PySem PySem.Spec PyProof.Rows L2 SF
variable {α:Type}
def AZ(a:Ev α)(ar:eE α):Ev α:=λσ k=>a σ λx bc=>pF x λz=>ar bc λas bQ=>one as λy=>oQ y λn=>eX (PadOk n) (fS (Txt.zfill z n) λw=>k (.str w) bQ) none
def Ra(a:Ev α)(ar:eE α):Ev α:=λσ k=>a σ λx bc=>pF x λz=>ar bc λas bQ=>one as λy=>pF y λp=>eX (Nat.beq (xY p) 0) none (BX z (fS (Txt.partition z p).1 λu=>fS (Txt.partition z p).2.1 λv=>fS (Txt.partition z p).2.2 λw=>k (.tup [.str u,.str v,.str w]) bQ))
def Mb(a:Ev α)(ar:eE α):Ev α:=λσ k=>a σ λx bc=>pF x λz=>ar bc λas bQ=>one as λy=>pF y λp=>BX z (fS (Txt.stripChars z p) λw=>k (.str w) bQ)
def ZX(x y:AV)(k:Bool->Option α):Option α:=AV.casesOn x none (λ_=>none) (λi=>AV.casesOn y none (λ_=>none) (λj=>k (nD i j)) (λ_=>k false) (λ_=>none) (λ_=>none) (λ_ _ _=>none)) (λs=>AV.casesOn y none (λ_=>none) (λ_=>k false) (λt=>k (Hz s t)) (λ_=>none) (λ_=>none) (λ_ _ _=>none)) (λ_=>none) (λ_=>none) (λ_ _ _=>none)
def UZ(x:AV)(xs:List AV):(Bool->Option α)->Option α:=List.rec (motive:=λ_=>(Bool->Option α)->Option α) (λk=>k false) (λy _ ih k=>ZX y x λc=>ih λd=>Bool.rec (k d) (k true) c) xs
def ZY(x:AV)(o:Option α):Option α:=AV.casesOn x none (λ_=>none) (λ_=>o) (λ_=>o) (λ_=>none) (λ_=>none) (λ_ _ _=>none)
def eIn(a b:Ev α):Ev α:=λσ k=>a σ λx bc=>b bc λy bQ=>VZ y λxs=>ZY x (UZ x xs λc=>Bool.rec (k (.bl false) bQ) (k (.bl true) bQ) c)
def Mc(a b:Ev α):Ev α:=λσ k=>a σ λx bc=>b bc λy bQ=>VZ y λxs=>ZY x (UZ x xs λc=>Bool.rec (k (.bl true) bQ) (k (.bl false) bQ) c)
def WL(xs:List AV):(List Bool->Option α)->Option α:=List.rec (motive:=λ_=>(List Bool->Option α)->Option α) (λk=>k []) (λx _ ih k=>QC x λi=>ih λns=>k (i::ns)) xs
theorem HC{r:α}:∀{xs:List AV}{k:List Bool->Option α},WL xs k=some r->∃ns:List Bool,xs=ns.map .bl/\k ns=some r
 |[],_,h=>⟨[],rfl,h⟩
 |x::xs,k,h=>by
  obtain⟨i,e1,h1⟩:=xA (x:=x) h;obtain⟨ns,e2,h2⟩:=HC (xs:=xs) (k:=λns=>k (i::ns)) h1;exact⟨i::ns,by rw[e1,e2];rfl,h2⟩
def WM(ar:eE α):Ev α:=λσ k=>ar σ λas bc=>one as λx=>yR x λxs=>WL xs λbs=>eX (bs.all id) (k (.bl true) bc) (k (.bl false) bc)
section
variable {K:PySem.W.Frag} {C:Addr} {X:α->Hp->Hp->Hp->Prop} {a b:Ev α} {ta tb:TE} {ar:eE α} {tr:TA}
theorem A0(ha:bR K C X a ta)(hr:gm K C X ar tr):bR K C X (AZ a ar) (Iy K "str" Lw ta tr):=by
 intro bE k r h Fo Hf H σ g hx Q q;refine ha _ _ _ h Fo Hf H σ g hx _ λx bc v bO H1 h1 s1 g1 r1=>?_;obtain⟨z,rfl,Jk⟩:=cy h1;cases r1;refine⟨rfl,hr _ _ _ Jk Fo bO H1 σ g1 (hx.up s1) _ λas bQ vs cM H2 h2 s2 g2 r2=>?_⟩;obtain⟨y,rfl,h3⟩:=eD h2;obtain⟨w,rfl,r3⟩:=r2.one;obtain⟨n,rfl,h4⟩:=cg h3;obtain⟨c,h5⟩:=cx h4;rw[tm] at h5;cases r3;exact⟨z,n,rfl,rfl,c,q _ _ _ _ _ h5 (aJ.trans' s1 s2) g2 .str⟩
theorem OV(ha:bR K C X a ta)(hr:gm K C X ar tr):bR K C X (Mb a ar) (Iy K "str" EM ta tr):=by
 intro bE k r h Fo Hf H σ g hx Q q;refine ha _ _ _ h Fo Hf H σ g hx _ λx bc v bO H1 h1 s1 g1 r1=>?_;obtain⟨z,rfl,Jk⟩:=cy h1;cases r1;refine⟨rfl,hr _ _ _ Jk Fo bO H1 σ g1 (hx.up s1) _ λas bQ vs cM H2 h2 s2 g2 r2=>?_⟩;obtain⟨y,rfl,h3⟩:=eD h2;obtain⟨w,rfl,r3⟩:=r2.one;obtain⟨p,rfl,h4⟩:=cy h3;obtain⟨c,h5⟩:=lx h4;rw[tm] at h5;cases r3;exact⟨z,p,rfl,rfl,cR (by lia),q _ _ _ _ _ h5 (aJ.trans' s1 s2) g2 .str⟩
theorem S9(ha:bR K C X a ta)(hr:gm K C X ar tr):bR K C X (Ra a ar) (Iy K "str" QS ta tr):=by
 intro bE k r h Fo Hf H σ g hx Q q;refine ha _ _ _ h Fo Hf H σ g hx _ λx bc v bO H1 h1 s1 g1 r1=>?_;obtain⟨z,rfl,Jk⟩:=cy h1;cases r1;refine⟨rfl,hr _ _ _ Jk Fo bO H1 σ g1 (hx.up s1) _ λas bQ vs cM H2 h2 s2 g2 r2=>?_⟩;obtain⟨y,rfl,h3⟩:=eD h2;obtain⟨w,rfl,r3⟩:=r2.one;obtain⟨p,rfl,h4⟩:=cy h3;have h5:Nat.beq (xY p) 0=false/\BX z (fS (Txt.partition z p).1 λu=>fS (Txt.partition z p).2.1 λv=>fS (Txt.partition z p).2.2 λw=>k (.tup [.str u,.str v,.str w]) bQ)=some r:=by
  cases e:Nat.beq (xY p) 0 with
  |true=>rw[e] at h4;exact nomatch h4
  |false=>rw[e] at h4;exact⟨rfl,h4⟩
 obtain⟨c1,h6⟩:=h5;obtain⟨c2,h7⟩:=lx h6;rw[tm,tm,tm] at h7;rw[wV] at c1;cases r3;have c3:(p.length==0)=false:=beq_eq_false_iff_ne.mpr λz=>by rw[z] at c1;exact nomatch c1
 refine⟨z,p,rfl,rfl,c3,cR (by lia),λl hl=>?_⟩;have sm:aJ cM (upd cM l (.tup [.str (Txt.partition z p).1,.str (Txt.partition z p).2.1,.str (Txt.partition z p).2.2])):=aJ.new (g2.nil hl).1 _;exact q _ _ _ _ _ h7 (aJ.trans' s1 (aJ.trans' s2 sm)) (g2.new hl _) (.tup (.inl (.inl aE)) (.cons .str (.cons .str (.cons .str .nil))))
theorem S_{H:Hp}{x y:AV}{v w:V}{k:Bool->Option α}{r:α}(rx:Rl K C H x v)(ry:Rl K C H y w)(h:ZX y x k=some r):oK v=true/\oK w=true/\k (Iv w v)=some r:=by
 cases ry with
 |int=>
  cases rx with
  |int=>
   refine⟨rfl,rfl,?_⟩;rename_i i j;have h:k (nD i j)=some r:=h;rw[uB] at h;exact h
  |str=>exact⟨rfl,rfl,h⟩
  |dH=>exact nomatch h
  |bl=>exact nomatch h
  |tup _ _=>exact nomatch h
  |lst _ _=>exact nomatch h
  |root _ _ _ _=>exact nomatch h
 |str=>
  cases rx with
  |int=>exact⟨rfl,rfl,h⟩
  |str=>
   refine⟨rfl,rfl,?_⟩;rename_i i j;have h:k (Hz i j)=some r:=h;rw[AY] at h;show k (i==j)=some r;have e:(i==j)=decide (i=j):=by
    by_cases z:i=j
    ·subst z;rw[beq_self_eq_true,decide_eq_true rfl]
    ·rw[beq_eq_false_iff_ne.mpr z,decide_eq_false z]
   rw[e];exact h
  |dH=>exact nomatch h
  |bl=>exact nomatch h
  |tup _ _=>exact nomatch h
  |lst _ _=>exact nomatch h
  |root _ _ _ _=>exact nomatch h
 |dH=>exact nomatch h
 |bl=>exact nomatch h
 |tup _ _=>exact nomatch h
 |lst _ _=>exact nomatch h
 |root _ _ _ _=>exact nomatch h
theorem E7{H:Hp}{x:AV}{v:V}{r:α}(rx:Rl K C H x v):∀{xs:List AV}{vs:List V}{k:Bool->Option α},d9 K C H xs vs->UZ x xs k=some r->vs.all oK=true/\k (Qm v vs)=some r
 |[],_,k,rl,h=>by cases rl;exact⟨rfl,h⟩
 |y::xs,w::vs,k,.cons ry rl,h=>by
  have h':ZX y x (λc=>UZ x xs λd=>(Bool.rec (k d) (k true) c:Option α))=some r:=h;obtain⟨f1,f2,h1⟩:=S_ rx ry h';obtain⟨f3,h2⟩:=E7 rx (xs:=xs) (vs:=vs) (k:=λd=>(Bool.rec (k d) (k true) (Iv w v):Option α)) rl h1;refine⟨by rw[List.all_cons,f2,f3];rfl,?_⟩;have h3:(Bool.rec (k (Qm v vs)) (k true) (Iv w v):Option α)=some r:=h2;show k ((w::vs).any λy=>Iv y v)=some r;rw[List.any_cons];cases e:Iv w v with
  |true=>rw[e] at h3;exact h3
  |false=>rw[e] at h3;exact h3
theorem Md{H:Hp}{x:AV}{v:V}{o:Option α}{r:α}(rx:Rl K C H x v)(h:ZY x o=some r):oK v=true/\o=some r:=by
 cases rx<;>first|exact⟨rfl,h⟩|exact nomatch h
theorem ZZ(ha:bR K C X a ta)(hb:bR K C X b tb):bR K C X (eIn a b) (lp (XM K false) ta tb):=by
 intro bE k r h Fo Hf H σ g hx Q q;refine ha _ _ _ h Fo Hf H σ g hx _ λx bc v bO H1 h1 s1 g1 r1=>hb _ _ _ h1 Fo bO H1 σ g1 (hx.up s1) _ λy bQ u cM H2 h2 s2 g2 r2=>?_;obtain⟨xs,p,vs,rfl,e1,e2,h3⟩:=AD r2 h2;obtain⟨f1,h4⟩:=Md (r1.mono s2) h3;obtain⟨f2,h5⟩:=E7 (r1.mono s2) e2 h4;refine⟨p,vs,rfl,G3 g2.sub e1,f1,f2,?_⟩;have h6:k (.bl (Qm v vs)) bQ=some r:=by cases e:Qm v vs<;>rw[e] at h5<;>exact h5
 exact q _ _ _ _ _ h6 (aJ.trans' s1 s2) g2 .bl
theorem OW(ha:bR K C X a ta)(hb:bR K C X b tb):bR K C X (Mc a b) (lp (XM K true) ta tb):=by
 intro bE k r h Fo Hf H σ g hx Q q;refine ha _ _ _ h Fo Hf H σ g hx _ λx bc v bO H1 h1 s1 g1 r1=>hb _ _ _ h1 Fo bO H1 σ g1 (hx.up s1) _ λy bQ u cM H2 h2 s2 g2 r2=>?_;obtain⟨xs,p,vs,rfl,e1,e2,h3⟩:=AD r2 h2;obtain⟨f1,h4⟩:=Md (r1.mono s2) h3;obtain⟨f2,h5⟩:=E7 (r1.mono s2) e2 h4;refine⟨p,vs,rfl,G3 g2.sub e1,f1,f2,?_⟩;have h6:k (.bl (!Qm v vs)) bQ=some r:=by cases e:Qm v vs<;>rw[e] at h5<;>exact h5
 exact q _ _ _ _ _ h6 (aJ.trans' s1 s2) g2 .bl
theorem d9.bls{H:Hp}:∀{ns:List Bool}{vs:List V},d9 K C H (ns.map AV.bl) vs->vs=ns.map V.bl
 |[],_,h=>by cases h;rfl
 |n::ns,_,.cons r t=>by
  cases r;rw[d9.bls (ns:=ns) t];rfl
theorem WN(ha:gm K C X ar tr):bR K C X (WM ar) (Cb (λxs H Q=>∃(p:Addr)(bs:List Bool),xs=[.ref p]/\ft K H p (bs.map V.bl)/\Q (.bl (bs.all id)) H) tr):=by
 intro bE k r h Fo Hf H σ g hx Q q;refine ha _ _ _ h Fo Hf H σ g hx _ λas bc vs bO H1 h1 s1 g1 r1=>?_;obtain⟨x,rfl,h2⟩:=eD h1;obtain⟨v,rfl,r2⟩:=r1.one;obtain⟨xs,rfl,h3⟩:=iM h2;obtain⟨bs,rfl,h4⟩:=HC h3;obtain⟨p,ws,rfl,e1,e2⟩:=r2.oR;rw[e2.bls] at e1;exact⟨p,bs,rfl,.inl (.inl (g1.sub _ _ e1)),q _ _ _ _ _ (i7 (k:=λz=>k z bc) h4) s1 g1 .bl⟩
end
end CV
namespace L2
open PySem
theorem bC(l:List Char):Str.ofString (String.ofList l)=⟨⟨l.map Char.toNat⟩⟩:=PySem.W.Fast.ofString_ofList l
theorem bf{N P:List Str}{sc:Scope}(h:sc.isCoroutine=false/\sc.isGenerator=false/\N.Nodup/\N.take P.length=P/\(∀x∈P,sc.names.lookup x=some .local\/sc.names.lookup x=some .cell)/\∀y∈sc.names,y.2≠.free:=by decide +kernel)(k:sc.kind=.function:=by rfl):aI N P sc:=
 ⟨k,h.1,h.2.1,h.2.2.1,h.2.2.2.1,h.2.2.2.2.1,h.2.2.2.2.2⟩
end L2
namespace CV
open PySem PySem.Spec PyProof.Rows L2 SF PySem.W
section
variable {α:Type} {K:Frag} {C:Addr} {X:α->Hp->Hp->Hp->Prop}
theorem bS{z:Str}{l:List Nat}(h:z=⟨⟨l⟩⟩):bR K C X (eC (.str ⟨⟨l⟩⟩)) (tC (.str z)):=by
 subst h;exact VS
end
variable {α:Type}
abbrev Tab:=List (Str×AV)
def kH(tb:Tab)(z:Str):O:=List.rec none (λp _ ih=>Bool.rec ih (some p.2) (Hz p.1 z)) tb
theorem x6{p:Str×AV}{tb:Tab}{z:Str}:kH (p::tb) z=if p.1=z then some p.2 else kH tb z:=by
 show(Bool.rec (kH tb z) (some p.2) (Hz p.1 z):O)=_;rw[AY];by_cases h:p.1=z
 ·rw[if_pos h,decide_eq_true h]
 ·rw[if_neg h,decide_eq_false h]
inductive qL(K:Frag)(C:Addr):Tab->List (Str×Value)->Prop
 |nil:qL K C [] []
 |cons {k:Str} {x:AV} {v:V} {u:Value} {tb:Tab} {bw:List (Str×Value)} (r:RelV v u) (h:∀H,Rl K C H x v) (t:qL K C tb bw):qL K C ((k,x)::tb) ((k,u)::bw)
section
variable {K:Frag} {C:Addr} {X:α->Hp->Hp->Hp->Prop} {e:Ev α} {te:TE} {tb:Tab} {bw:List (Str×Value)}
theorem qL.look(h:qL K C tb bw)(z:Str):(kH tb z=none/\valueAt bw z=none)\/∃x v u,kH tb z=some x/\valueAt bw z=some u/\RelV v u/\∀H,Rl K C H x v:=by
 induction h with
 |nil=>exact .inl ⟨rfl,rfl⟩
 |@cons k x v u tb bw r hr t ih=>
  rw[x6];by_cases e:k=z
  ·refine .inr ⟨x,v,u,if_pos e,?_,r,hr⟩;show Option.map _ (List.find? _ ((k,u)::bw))=_;rw[List.find?_cons_of_pos (by simpa using e)];rfl
  ·have e2:valueAt ((k,u)::bw) z=valueAt bw z:=by
    show Option.map _ (List.find? _ ((k,u)::bw))=Option.map _ (List.find? _ bw);rw[List.find?_cons_of_neg (by simpa using e)]
   rw[if_neg e,e2];exact ih
def C7(tb:Tab)(e:Ev α):Ev α:=λσ k=>e σ λx bc=>pF x λz=>Option.rec none (λv=>k v bc) (kH tb z)
def S'(tb:Tab)(e:Ev α):Ev α:=λσ k=>e σ λx bc=>pF x λz=>Option.rec (k (.bl false) bc) (λ_=>k (.bl true) bc) (kH tb z)
def HD(tb:Tab)(e:Ev α):Ev α:=λσ k=>e σ λx bc=>pF x λz=>Option.rec (k (.bl true) bc) (λ_=>k (.bl false) bc) (kH tb z)
theorem A1(ht:qL K C tb bw)(he:bR K C X e te):bR K C X (C7 tb e) (QW bw te):=by
 intro bE k r h Fo Hf H σ g hx Q q;refine he _ _ _ h Fo Hf H σ g hx _ λx bc v bO H1 h1 s1 g1 r1=>?_;obtain⟨z,rfl,h2⟩:=cy h1;cases r1
 rcases ht.look z with⟨a,b⟩|⟨x,v,u,a,b,c,d⟩
 ·rw[a] at h2;exact nomatch h2
 ·rw[a] at h2;exact⟨z,u,v,rfl,b,c,q _ _ _ _ _ h2 s1 g1 (d _)⟩
theorem Rb(ht:qL K C tb bw)(he:bR K C X e te):bR K C X (S' tb e) (Wh bw te):=by
 intro bE k r h Fo Hf H σ g hx Q q;refine he _ _ _ h Fo Hf H σ g hx _ λx bc v bO H1 h1 s1 g1 r1=>?_;obtain⟨z,rfl,h2⟩:=cy h1;cases r1;refine⟨z,rfl,?_⟩;rcases ht.look z with⟨a,b⟩|⟨x,v,u,a,b,c,d⟩
 ·rw[a] at h2;rw[b];exact q _ _ _ _ _ h2 s1 g1 .bl
 ·rw[a] at h2;rw[b];exact q _ _ _ _ _ h2 s1 g1 .bl
theorem Me(ht:qL K C tb bw)(he:bR K C X e te):bR K C X (HD tb e) (Hk bw te):=by
 intro bE k r h Fo Hf H σ g hx Q q;refine he _ _ _ h Fo Hf H σ g hx _ λx bc v bO H1 h1 s1 g1 r1=>?_;obtain⟨z,rfl,h2⟩:=cy h1;cases r1;refine⟨z,rfl,?_⟩;rcases ht.look z with⟨a,b⟩|⟨x,v,u,a,b,c,d⟩
 ·rw[a] at h2;rw[b];exact q _ _ _ _ _ h2 s1 g1 .bl
 ·rw[a] at h2;rw[b];exact q _ _ _ _ _ h2 s1 g1 .bl
end
def Ta(P:Program)(w:World)(K:Frag)(mg:Str->Option Value)(C:Addr)(x:Str)(tb:Tab):Prop:=∃a bw,mg x=some (.ref a)/\SW P w K a bw/\qL K C tb bw
end CV
namespace CV
open PySem PySem.Spec PyProof.Rows L2 SF PySem.W
variable {α:Type}
def Yb(l:List Str):(List AV->Option α)->Option α:=List.rec (motive:=λ_=>(List AV->Option α)->Option α) (λk=>k []) (λx _ ih k=>fS x λy=>ih λys=>k (.str y::ys)) l
theorem E8:∀{l:List Str}{k:List AV->Option α},Yb l k=k (l.map .str)
 |[],_=>rfl
 |x::l,k=>by
  show fS x (λy=>Yb l λys=>k (.str y::ys))=_;rw[tm,E8];rfl
theorem d9.strs {K:Frag}{C:Addr}{H:Hp}:∀l:List Str,d9 K C H (l.map .str) (l.map V.str)
 |[]=>.nil
 |_::l=>.cons .str (d9.strs l)
def Mf(a:Ev α)(ar:eE α):eE α:=λσ k=>a σ λx bc=>pF x λz=>ar bc λas bQ=>one as λy=>pF y λp=>eX (Nat.beq (xY p) 0) none (BX z (Yb (Txt.split z p) λws=>k ws bQ))
def HE(a:Ev α)(ar:eE α):eE α:=λσ k=>a σ λx bc=>pF x λz=>ar bc λas bQ=>two as λy m=>pF y λp=>oQ m λn=>eX (Nat.beq (xY p) 0) none (eX (decide (n< -(2^63:Int))||decide (n>=2^63)) none (BX z (Yb (Txt.splitMax z p n) λws=>k ws bQ)))
theorem tw{c:Bool}{a:Option α}{r:α}(h:eX c none a=some r):c=false/\a=some r:=by
 cases c with
 |true=>exact nomatch h
 |false=>exact⟨rfl,h⟩
theorem Mg{p:Str}(h:Nat.beq (xY p) 0=false):(p.length==0)=false:=by
 rw[wV] at h;cases e:p.length with
 |zero=>rw[e] at h;exact nomatch h
 |succ n=>rfl
section
variable {K:Frag} {C:Addr} {X:α->Hp->Hp->Hp->Prop} {a:Ev α} {ta:TE} {ar:eE α} {tr:TA}
theorem s_split(ha:bR K C X a ta)(hr:gm K C X ar tr):sP K C X (Mf a ar) (Iy K "str" EO ta tr):=by
 intro bE k r h Fo Hf H σ g hx Q q;refine ha _ _ _ h Fo Hf H σ g hx _ λx bc v bO H1 h1 s1 g1 r1=>?_;obtain⟨z,rfl,Jk⟩:=cy h1;cases r1;refine⟨rfl,hr _ _ _ Jk Fo bO H1 σ g1 (hx.up s1) _ λas bQ vs cM H2 h2 s2 g2 r2=>?_⟩;obtain⟨y,rfl,h3⟩:=eD h2;obtain⟨w,rfl,r3⟩:=r2.one;obtain⟨p,rfl,h4⟩:=cy h3;obtain⟨c,h5⟩:=tw h4;obtain⟨d,h6⟩:=lx h5;rw[E8] at h6;cases r3;refine⟨z,p,rfl,rfl,Mg c,by lia,λl hl=>?_⟩;obtain⟨g3,o3⟩:=g2.vP hl (d9.strs _);exact q _ _ _ _ _ _ h6 (aJ.trans' s1 s2) g3 o3
theorem Mh(ha:bR K C X a ta)(hr:gm K C X ar tr):sP K C X (HE a ar) (Iy K "str" Hl ta tr):=by
 intro bE k r h Fo Hf H σ g hx Q q;refine ha _ _ _ h Fo Hf H σ g hx _ λx bc v bO H1 h1 s1 g1 r1=>?_;obtain⟨z,rfl,Jk⟩:=cy h1;cases r1;refine⟨rfl,hr _ _ _ Jk Fo bO H1 σ g1 (hx.up s1) _ λas bQ vs cM H2 h2 s2 g2 r2=>?_⟩;obtain⟨y,m,rfl,h3⟩:=iw h2;obtain⟨w,w',rfl,r3,r4⟩:=r2.two;obtain⟨p,rfl,h4⟩:=cy h3;obtain⟨n,rfl,h5⟩:=cg h4;obtain⟨c,h6⟩:=tw h5;obtain⟨c2,h7⟩:=tw h6;obtain⟨d,h8⟩:=lx h7;rw[E8] at h8;cases r3;cases r4;refine⟨z,p,n,rfl,rfl,Mg c,by lia,c2,λl hl=>?_⟩;obtain⟨g3,o3⟩:=g2.vP hl (d9.strs _);exact q _ _ _ _ _ _ h8 (aJ.trans' s1 s2) g3 o3
end
def HF(a b c:Ev α):Ev α:=λσ k=>a σ λx bc=>pF x λi=>b bc λy bQ=>pF y λj=>Bool.rec (k (.bl false) bQ) (c bQ λz sH=>pF z λl=>Bool.rec (k (.bl false) sH) (k (.bl true) sH) (!decide (l.cps.toList<j.cps.toList))) (!decide (j.cps.toList<i.cps.toList))
section
variable {K:Frag} {C:Addr} {X:α->Hp->Hp->Hp->Prop} {a b c:Ev α} {ta tb tc:TE}
theorem Mi(ha:bR K C X a ta)(hb:bR K C X b tb)(hc:bR K C X c tc):bR K C X (HF a b c) (Kn (λx y H Q=>∃i j,x=.str i/\y=.str j/\Q (.bl (!decide (j.cps.toList<i.cps.toList))) H) (λx y H Q=>∃i j,x=.str i/\y=.str j/\Q (.bl (!decide (j.cps.toList<i.cps.toList))) H) ta tb tc):=by
 intro bE k r h Fo Hf H σ g hx Q q;refine ha _ _ _ h Fo Hf H σ g hx _ λx bc v bO H1 h1 s1 g1 r1=>?_;obtain⟨i,rfl,Jk⟩:=cy h1;cases r1;refine hb _ _ _ Jk Fo bO H1 σ g1 (hx.up s1) _ λy bQ u cM H2 h2 s2 g2 r2=>?_;obtain⟨j,rfl,h3⟩:=cy h2;cases r2;refine⟨i,j,rfl,rfl,_,rfl,?_⟩;cases e:(!decide (j.cps.toList<i.cps.toList)) with
 |false=>
  rw[e] at h3;exact q _ _ _ _ _ h3 (aJ.trans' s1 s2) g2 .bl
 |true=>
  rw[e] at h3;refine hc _ _ _ h3 Fo cM H2 σ g2 (hx.up (aJ.trans' s1 s2)) _ λz sH w jB H3 h4 s3 g3 r3=>?_;obtain⟨l,rfl,h5⟩:=cy h4;cases r3;refine⟨j,l,rfl,rfl,?_⟩;have h6:k (.bl (!decide (l.cps.toList<j.cps.toList))) sH=some r:=by
   revert h5;cases (!decide (l.cps.toList<j.cps.toList))<;>exact id
  exact q _ _ _ _ _ h6 (aJ.trans' (aJ.trans' s1 s2) s3) g3 .bl
end
end CV
namespace CV
open PySem PySem.Spec PyProof.Rows L2 SF
variable {α:Type}
def OX(x:AV)(k:List AV->Option α):Option α:=AV.casesOn x none (λ_=>none) (λ_=>none) (λ_=>none) k (λ_=>none) (λ_ _ _=>none)
theorem HG{x:AV}{k:List AV->Option α}{r:α}(h:OX x k=some r):∃xs,x=.tup xs/\k xs=some r:=by
 cases x<;>first|exact⟨_,rfl,h⟩|exact nomatch h
theorem Rl.Cm{K:PySem.W.Frag}{C:Addr}{H:Hp}{xs:List AV}{v:V}(h:Rl K C H (.tup xs) v):∃a vs,v=.ref a/\qB K H a vs/\d9 K C H xs vs:=by
 cases h with
 |tup h hs=>exact⟨_,_,rfl,h,hs⟩
def Tb(ar:eE α):eE α:=λσ k=>ar σ λas bc=>two as λx y=>OX x λxs=>yR y λys=>Zj xs ys λzs=>k zs bc
section
variable {K:PySem.W.Frag} {C:Addr} {X:α->Hp->Hp->Hp->Prop} {rt:AV->α} {ar:eE α} {tr:TA}
theorem Mj(ha:gm K C X ar tr):uA K C X (Tb ar) (Qy K tr):=by
 intro bE k r h Fo Hf H σ g hx R q;refine ha _ _ _ h Fo Hf H σ g hx _ λas bc vs bO H1 h1 s1 g1 r1=>?_;obtain⟨x,y,rfl,h2⟩:=iw h1;obtain⟨v,w,rfl,r2,r3⟩:=r1.two;obtain⟨xs,rfl,h3⟩:=HG h2;obtain⟨ys,rfl,h4⟩:=iM h3;obtain⟨p,ws,rfl,e1,e2⟩:=r2.Cm;obtain⟨p',Kb,rfl,e3,e4⟩:=r3.oR;rw[EH] at h4;refine⟨p,p',rfl,⟨ws,aJ.tup g1.sub e1⟩,⟨Kb,.inl (.inl (g1.sub _ _ e3))⟩,q _ _ _ _ _ h4 s1 g1 λcM H2 s2 s3=>?_⟩;have f1:qB K H2 p ws:=aJ.tup s3 (aJ.tup s2 e1);have f2:ft K H2 p' Kb:=.inl (.inl (s3 _ _ (s2 _ _ e3)));refine⟨λi v hv=>?_,⟨ws,Kb,f1,f2,?_⟩⟩
 ·obtain⟨x,y,k1,k2,rfl⟩:=AL hv;obtain⟨u,h5,h6⟩:=e2.get k1;obtain⟨u',Wa,Zq⟩:=e4.get k2;refine⟨⟨ws,Kb,u,u',f1,f2,h5,Wa⟩,λx H3⟨p2,y1,y2,h7,h8,h9,QO,SK⟩=>.inr ⟨p2,_,_,h7,h9,h8,rfl,?_⟩⟩;have t1:=QO ws f1;have t2:=SK Kb f2;rw[h5] at t1;cases t1;rw[Wa] at t2;cases t2;exact .cons (h6.mono s2) (.cons (Zq.mono s2) .nil)
 ·rw[e2.length,e4.length,AM];lia
end
end CV
namespace CV
open PySem PySem.Spec PyProof.Rows L2 SF
variable {α:Type}
def E9(g:J9 α)(t:xx α)(e:Ev α)(xs:List AV):Sa->(List AV->Option α)->Option α:=List.rec (motive:=λ_=>Sa->(List AV->Option α)->Option α) (λ_ k=>k []) (λx _ ih s k=>g x s λs1=>t s1 λb s2=>eX b (e s2 λy s3=>eX (uH s3) (ih s3 λys=>k (y::ys)) none) (eX (uH s2) (ih s2 k) none)) xs
def Ml(n:Nat)(fr:List Nat)(ie:eE α)(g:J9 α)(t:xx α)(e:Ev α):eE α:=λσ k=>ie σ λxs bc=>ED xs (Ox fr bc λs=>E9 g t e xs (IX n s) λys=>k ys bc)
section
variable {K:PySem.W.Frag} {C:Addr} {X:α->Hp->Hp->Hp->Prop} {rt:AV->α}
theorem OY{own:List Str}{n:Nat}{fr:List Nat}{ie:eE α}{ti:TI}{ge:J9 α}{tg:TG}{tE:xx α}{tt:TT}{e:Ev α}{te:TE}(hn:n=own.length)(hi:uA K C X ie ti)(hg:K2 K C ge tg)(ht:kK K C (λ_ _ _ _=>True) tE tt)(he:bR K C (λ_ _ _ _=>True) e te):sP K C X (Ml n fr ie ge tE e) (Au own fr ti tg tt te):=by
 intro bE k r h Fo Hf H σ g hx Q q;refine hi _ _ _ h Fo Hf H σ g hx _ λxs mE J bO H1 h1 s1 g1 wk=>?_;obtain⟨US,h1⟩:=qi h1;obtain⟨s,hs,QR,h2⟩:=AI h1;intro D hD;obtain⟨d1,d2⟩:=g1.nil hD;have d3:=g1.sO hD;refine⟨λi m bQ H2=>∃s2 cM pre vQ,m=xs.length-i/\i<=xs.length/\aJ bO cM/\Good K C Fo cM H2 mE σ/\cM D=none/\H2 D=some (.lst vQ)/\d9 K C cM pre vQ/\pre.length<=i/\
  bQ.length=s2.length/\uH s2=true/\(∀j x,gx s2 j=.fz x->∃v,bQ[j]?=some (some v)/\Rl K C cM x v)/\E9 ge tE e (xs.drop i) s2 (λys=>k (pre++ys) mE)=some r,
  ⟨_,IX n s,bO,[],[],rfl,Nat.zero_le _,aJ.fO _,g1.side d1 d2 d3 _,d1,aE,.nil,Nat.le_refl _,?_,xN QR,λj x ej=>?_,h2⟩,?_⟩
 ·rw[sT,hs];unfold i6;rw[List.length_append,List.length_append,List.length_replicate,List.length_replicate,List.length_map,List.length_map,hn]
 ·rw[sT,hs,j7] at ej;by_cases hj:j<n
  ·rw[List.getElem?_append_left (by rw[List.length_replicate];exact hj),List.getElem?_replicate,if_pos hj] at ej;exact nomatch ej
  ·rw[List.getElem?_append_right (by rw[List.length_replicate];lia),List.length_replicate,List.getElem?_map] at ej;cases z:fr[j-n]? with
   |none=>rw[z] at ej;exact nomatch ej
   |some i=>
    rw[z] at ej;obtain⟨v,e1,e2⟩:=g1.fz i x ej;refine⟨v,?_,e2⟩;unfold i6;rw[List.getElem?_append_right (by rw[List.length_replicate];lia),List.length_replicate,List.getElem?_map,<-hn,z];show some ((σ[i]?).join)=_;rw[e1];rfl
 ·rintro i m bQ H2 ⟨s2,cM,pre,vQ,rfl,Zo,J',g2,d4,d5,rl,pe,R0,SI,UT,h3⟩;obtain⟨w1,w2⟩:=wk cM H2 J' g2.sub;by_cases nz:i<xs.length
  ·obtain⟨go,yl⟩:=w1 i xs[i] (List.getElem?_eq_getElem nz);rw[List.drop_eq_getElem_cons nz] at h3;refine .inr ⟨go,λx H3 y=>?_⟩;have key:∃jB,aJ cM jB/\Good K C Fo jB H3 mE σ/\Rl K C jB xs[i] x/\jB D=none/\H3 D=some (.lst vQ):=by
    rcases yl x H3 y with⟨rfl,rl⟩|⟨p',ys,vs,e1,e2,e3,e4,e5⟩
    ·exact⟨cM,aJ.fO _,g2,rl,d4,d5⟩
    ·subst e2 e3;rw[e4];have sm:aJ cM (upd cM p' (.tup vs)):=aJ.new (g2.nil e1).1 _;have ne:D≠p':=aW d5 e1;exact⟨_,sm,g2.new e1 _,.tup (.inl (.inl aE)) (e5.mono sm),by rw[ay ne];exact d4,by rw[ay ne];exact d5⟩
   obtain⟨jB,Ka,g3,UU,d6,d7⟩:=key;have gi:Good K C (jL jB H3) jB H3 s2 bQ:=AJ g3.sub nG R0 SI λj z ej=>by
    obtain⟨v,a1,a2⟩:=UT j z ej;exact⟨v,a1,a2.mono Ka⟩
   refine hg _ _ _ _ h3 _ jB H3 bQ x gi UU _ λs4 qh h4 g4=>?_;refine ht _ _ _ h4 _ jB H3 qh g4 (λ_ _ _ _=>trivial) _ λb Z0 A2 H4 h4' WO Tc=>?_;have WQ:H4 D=some (.lst vQ)/\A2 D=none:=Tc.fo D _ (by rw[sU d6];exact d7);cases b with
   |false=>
    obtain⟨c5,h6⟩:=cx (show eX (uH Z0) (E9 ge tE e (xs.drop (i+1)) Z0 (λys=>k (pre++ys) mE)) none=some r from h4');obtain⟨k1,k2⟩:=eF g3.sub WO Tc.sub Tc.fo;have g6:Good K C Fo A2 H4 mE σ:=g3.call k1 WO Tc.sub k2;exact⟨xs.length-(i+1),by lia,Z0,A2,pre,vQ,rfl,nz,aJ.trans' J' (aJ.trans' Ka WO),g6,WQ.2,WQ.1,rl.mono (aJ.trans' Ka WO),by lia,Tc.len,c5,Tc.fz,h6⟩
   |true=>
   refine he _ _ _ h4' _ A2 H4 qh Tc (λ_ _ _ _=>trivial) _ λy s5 v uh H5 h5 Lq g5 V8=>?_;have Lq:=aJ.trans' WO Lq;obtain⟨c5,h6⟩:=cx h5;have EJ:H5 D=some (.lst vQ)/\uh D=none:=g5.fo D _ (by rw[sU d6];exact d7);obtain⟨k1,k2⟩:=eF g3.sub Lq g5.sub g5.fo;have g6:Good K C Fo uh H5 mE σ:=g3.call k1 Lq g5.sub k2;have SJ:=rl.mono (aJ.trans' Ka Lq);refine⟨vQ,EJ.1,Nat.lt_of_lt_of_le (by rw[rl.length];lia:vQ.length<1000) (cR (Nat.le_refl _)),xs.length-(i+1),by lia,s5,uh,pre++[y],_,rfl,nz,aJ.trans' J' (aJ.trans' Ka Lq),g6.side EJ.2 d2 d3 _,EJ.2,aE,SJ.append (.cons V8 .nil),by rw[List.length_append,List.length_singleton];lia,g5.len,c5,g5.fz,?_⟩;have e:(λys=>k (pre++[y]++ys) mE)=λys=>k (pre++y::ys) mE:=by
    funext ys
    rw[List.append_assoc];rfl
   rw[e];exact h6
  ·obtain rfl:i=xs.length:=by lia
   rw[List.drop_length] at h3;have NA:k (pre++[]) mE=some r:=h3;rw[List.append_nil] at NA;exact .inl ⟨w2,q _ _ _ _ _ _ NA (aJ.trans' s1 J') g2 ⟨d4,d2,d5,rl,d3⟩⟩
end
end CV
namespace L2
open PySem PySem.Spec PyProof.Rows
inductive qZ:List Expr->List (Str×Str)->Prop
 |nil:qZ [] []
 |cons {a b a' b':Str} {j k m:Nat} {p q r:Pos} {es:List Expr} {rs:List (Str×Str)} (h1:a=a') (h2:b=b') (h:qZ es rs):qZ (.Tuple [.Constant (.str a) j p,.Constant (.str b) k q] m r::es) ((a',b')::rs)
def C8:List (Str×Str)->TA
 |[]=>iY
 |p::rs=>dm (Iq (dm (tC (.str p.1)) (dm (tC (.str p.2)) iY))) (C8 rs)
theorem wW{X:Cx}:∀{es:List Expr}{rs:List (Str×Str)},qZ es rs->PA X es (C8 rs)
 |_,_,.nil=>ah
 |_,_,.cons h1 h2 h=>by
  subst h1 h2;exact λpos pins s σ H Q I q=>aa (bV (aa a_ (aa a_ ah))) (wW h) rfl pos pins s σ H Q I q
inductive Mm(X:Cx)(x:Str):List Stmt->List (List (Str×Str))->Prop
 |ret {p q r t:Pos} {es:List Expr} {rs:List (Str×Str)} (h:qZ es rs):Mm X x [.Return (some (.BinOp (.Name x p) .Add (.List es q) r)) t] [rs]
 |add {p q r t u:Pos} {es:List Expr} {rs:List (Str×Str)} {ss:List Stmt} {cs:List (List (Str×Str))} (hs:swapsWith (.BinOp (.Name x p) .Add (.List es q) r) (some (.Name x u)) t.line X.env=pure false) (h:qZ es rs) (w:Mm X x ss cs):
  Mm X x (.Assign [.Name x u] (.BinOp (.Name x p) .Add (.List es q) r) t::ss) (rs::cs)
def Z1:List (List (Str×Str))->TS
 |[]=>B2
 |[rs]=>Af (lp Iz (eA 0) (Ir (C8 rs)))
 |rs::c::cs=>Ae (sG (lp Iz (eA 0) (Ir (C8 rs))) (fj 0)) (Z1 (c::cs))
theorem Mn{X:Cx}{x:Str}(hN:X.N.Nodup)(hi:X.N[0]?=some x)(hl:X.env.scope.names.lookup x=some .local)(hd:(x==("__debug__":Str))=false)(hc:(x==("__classdict__":Str))=false):∀{ss:List Stmt}{cs:List (List (Str×Str))},Mm X x ss cs->vJ X ss (Z1 cs)
 |_,_,.ret h=>aq (aC (aH xq (xg hi (.inl hl) hd hc) (bN (wW h))))
 |_,_,.add (cs:=[]) hs h w=>nomatch w
 |_,_,.add (cs:=c::cs) hs h w=>ag (aw hN hi (.inl hl) (aH xq (xg hi (.inl hl) hd hc) (bN (wW h))) hs (.inr hl)) (Mn hN hi hl hd hc w)
def Te{α:Type}:List Nat->List α->List (List α)
 |[],_=>[]
 |n::ns,l=>l.take n::Te ns (l.drop n)
end L2
namespace CV
open PySem PySem.Spec PyProof.Rows L2
variable {α:Type}
def HH(rs:List (Str×Str)):eE α:=List.rec az (λp _ ih=>ai (fK (ai (eC (.str p.1)) (ai (eC (.str p.2)) az))) ih) rs
theorem A3{K:PySem.W.Frag}{C:Addr}{X:α->Hp->Hp->Hp->Prop}:∀{rs:List (Str×Str)},gm K C X (HH rs) (C8 rs)
 |[]=>ao
 |(⟨⟨_⟩⟩,⟨⟨_⟩⟩)::_=>af (de (af (bS rfl) (af (bS rfl) ao))) A3
def Z2:List (List (Str×Str))->cZ AV
 |[]=>fQ
 |[rs]=>bA (ky (Ol (aj 0) (ky (oLst (HH rs)))))
 |rs::c::cs=>aK (aY 0 (ky (Ol (aj 0) (ky (oLst (HH rs)))))) (Z2 (c::cs))
theorem WR{K:PySem.W.Frag}{C:Addr}{X:AV->Hp->Hp->Hp->Prop}:∀{c:List (Str×Str)}{cs:List (List (Str×Str))},kL K C X (λx=>x) (Z2 (c::cs)) (Z1 (c::cs))
 |_,[]=>aV (dR (Lf ae (dR (dq A3))))
 |_,_::_=>au (aA (dR (Lf ae (dR (dq A3))))) WR
def Tf(c:List (Str×Str))(cs:List (List (Str×Str))):cZ AV:=aK (aY 0 (ky (oLst (HH c)))) (Z2 cs)
theorem Rf{P:Program}{w:World}{K:PySem.W.Frag}{mg:Str->Option Value}{base:Heap}{C:Addr}{n x:Str}{st:Stmt}{k:Nat}{es:List Expr}{ss:List Stmt}{p q t:Pos}{c:List (Str×Str)}{cs:List (List (Str×Str))}(D:aU K mg n st [])(S:aI [x] [] (ax st))(hl:(ax st).names.lookup x=some .local)(hd:(x==("__debug__":Str))=false)(hc:(x==("__classdict__":Str))=false)(hb:dc st=.Assign [.Name x p] (.List es q) t::ss)(h0:qZ es c)(hs:∀X:Cx,X.env.scope=ax st->swapsWith (.List es q) (some (.Name x p)) t.line X.env=pure false)(h:∀X:Cx,X.env.scope=ax st->Mm X x ss cs):bo P w K mg base (k+1) n [] (aM K C (bY 1 (Tf c cs)) 0):=by
 refine D.ok S (λvs H Q E h=>aP h) (λf bH A outer s H vs Q E hr z=>?_);obtain⟨y,ys,rfl⟩:∃y ys,cs=y::ys:=by
  have:=h (xp kr P w K mg base [x] n (ax st) f bH A outer s H E).J7 rfl;cases this<;>exact⟨_,_,rfl⟩
 refine⟨_,by rw[hb];exact ag (aw (i:=0) S.nd rfl (.inl hl) (bN (wW h0)) (hs _ rfl) (.inr hl)) (Mn S.nd rfl hl hd hc (h _ rfl)),?_⟩;exact bb (n:=1) (au (aA (dR (dq A3))) WR) rfl z
end CV
namespace lX
open PySem PyProof.Rows L2 SF CV
def top(i:Nat):Stmt:=PySem.Challenge.pw_surefoot_k27_desk_refusals.main.body.getD i (.Pass ⟨0,0,0,0⟩)
abbrev hX:Stmt:=top 8
theorem dP:aI ["one","other","greater","lesser","rest"] ["one","other"] (ax hX):=bf
abbrev E_:Stmt:=top 9
theorem OZ:aI ["number"] ["number"] (ax E_):=bf
abbrev A4:Stmt:=top 10
theorem lA:aI ["number","many","product","square","left"] ["number","many"] (ax A4):=bf
abbrev A5:Stmt:=top 11
theorem x8:aI ["top","under","shared"] ["top","under"] (ax A5):=bf
abbrev Fb:Stmt:=top 12
theorem O0:aI ["one","other"] ["one","other"] (ax Fb):=bf
abbrev A6:Stmt:=top 13
theorem Mo:aI ["one","other"] ["one","other"] (ax A6):=bf
abbrev x9:Stmt:=top 14
theorem Jl:aI ["one","other"] ["one","other"] (ax x9):=bf
abbrev q_:Stmt:=top 15
theorem C9:aI ["one","other"] ["one","other"] (ax q_):=bf
abbrev uO:Stmt:=top 17
theorem rh:aI ["row","length"] ["row"] (ax uO):=bf
abbrev x_:Stmt:=top 18
theorem Jm:aI ["poly"] ["poly"] (ax x_):=bf
abbrev A7:Stmt:=top 19
theorem tx:aI ["one","other","total","power","number"] ["one","other"] (ax A7):=bf
abbrev nJ:Stmt:=top 20
theorem gp:aI ["one","other","product","power","number","further","factor"] ["one","other"] (ax nJ):=bf
abbrev ya:Stmt:=top 21
theorem Jn:aI ["poly","factor"] ["poly","factor"] (ax ya):=bf
abbrev nK:Stmt:=top 22
theorem y8:aI ["poly"] ["poly"] (ax nK):=bf
abbrev uP:Stmt:=top 23
theorem nL:aI ["poly","shared","number"] ["poly"] (ax uP):=bf
abbrev pG:Stmt:=top 24
theorem tD:aI ["poly","shared"] ["poly"] (ax pG):=bf
abbrev rj:Stmt:=top 25
theorem mj:aI ["poly","point","value","number"] ["poly","point"] (ax rj):=bf
abbrev yb:Stmt:=top 26
theorem kW:aI ["value","point","poly","rest","number"] ["value","point"] (ax yb):=bf
abbrev uQ:Stmt:=top 27
theorem iN:aI ["poly","divisor","rest","factors","factor","shift","power","number"] ["poly","divisor"] (ax uQ):=bf
abbrev uR:Stmt:=top 28
theorem Fc:aI ["poly"] ["poly"] (ax uR):=bf
abbrev nM:Stmt:=top 29
theorem eZ:aI ["one","other","first","second","point","shared","found"] ["one","other"] (ax nM):=bf
abbrev rk:Stmt:=top 30
theorem C_:aI ["one","other"] ["one","other"] (ax rk):=bf
abbrev mF:Stmt:=top 31
theorem yc:aI ["poly"] ["poly"] (ax mF):=bf
abbrev rm:Stmt:=top 32
theorem iV:aI ["poly","top","under","made","scale","number"] ["poly","top","under"] (ax rm):=bf
abbrev pH:Stmt:=top 33
theorem hZ:aI ["poly","top","under","height","scale","number"] ["poly","top","under"] (ax pH):=bf
abbrev uS:Stmt:=top 34
theorem Fd:aI ["poly","given"] ["poly","given"] (ax uS):=bf
abbrev nN:Stmt:=top 36
theorem gq:aI ["row","many","before","number"] ["row"] (ax nN):=bf
abbrev pI:Stmt:=top 37
theorem dW:aI ["one","other","size","turn","rest","shift","factor","power_of_x","number"] ["one","other"] (ax pI):=bf
abbrev rn:Stmt:=top 38
theorem dY:aI ["free","chain","size","scale","one","other","gap","shared"] ["free"] (ax rn):=bf
abbrev nO:Stmt:=top 39
theorem y9:aI ["chain","given"] ["chain","given"] (ax nO):=bf
abbrev pJ:Stmt:=top 42
theorem kM:aI ["free","reach","bound","number"] ["free","reach"] (ax pJ):=bf
abbrev rp:Stmt:=top 43
theorem pK:aI ["free","reach"] ["free"] (ax rp):=bf
abbrev i':Stmt:=top 44
theorem f_:aI ["free","odd","bound"] ["free"] (ax i'):=bf
abbrev yd:Stmt:=top 45
theorem Jo:aI ["chain","given"] ["chain","given"] (ax yd):=bf
abbrev rq:Stmt:=top 46
theorem dM:aI ["poly","free","chain","around","waiting","found","stretch","low","high","many","cut"] ["poly"] (ax rq):=bf
abbrev nQ:Stmt:=top 47
theorem mG:aI ["pair","low","high"] ["pair"] (ax nQ):=bf
abbrev lB:Stmt:=top 48
theorem oO:aI ["stretch","width","room"] ["stretch","width"] (ax lB):=bf
abbrev lC:Stmt:=top 49
theorem gn:aI ["free","stretch","parts","near","far","under","start","at_near","at_far"] ["free","stretch","parts","near","far"] (ax lC):=bf
abbrev uT:Stmt:=top 50
theorem jN:aI ["free","stretch","parts","step","at_low","at_high","part","near"] ["free","stretch","parts"] (ax uT):=bf
abbrev ye:Stmt:=top 51
theorem uU:aI ["free","stretch","cut","lower"] ["free","stretch"] (ax ye):=bf
abbrev rA:Stmt:=top 52
theorem fR:aI ["free","pair","width","stretch","parts","needed","found"] ["free","pair","width"] (ax rA):=bf
abbrev rB:Stmt:=top 53
theorem pL:aI ["free","pair","stretch","poly"] ["free","pair"] (ax rB):=bf
abbrev rC:Stmt:=top 56
theorem Dc:aI ["given"] ["given"] (ax rC):=bf
abbrev pM:Stmt:=top 57
theorem h_:aI ["free","pair","weight","last","narrow","low","high","given"] ["free","pair","weight"] (ax pM):=bf
abbrev Mp:Stmt:=top 58
theorem Fe:aI ["poly","k","pairs","free"] ["poly","k"] (ax Mp):=bf
abbrev rD:Stmt:=top 59
theorem Dd:aI ["number"] ["number"] (ax rD):=bf
abbrev pN:Stmt:=top 60
theorem A8:aI ["number"] ["number"] (ax pN):=bf
abbrev uV:Stmt:=top 61
theorem rE:aI ["number","given","low","side"] ["number","given"] (ax uV):=bf
abbrev rF:Stmt:=top 62
theorem ml:aI ["one","other","low","high","shared"] ["one","other"] (ax rF):=bf
abbrev yf:Stmt:=top 63
theorem mY:aI ["one","other","pair","width"] ["one","other"] (ax yf):=bf
abbrev rG:Stmt:=top 64
theorem De:aI ["one","other"] ["one","other"] (ax rG):=bf
abbrev uW:Stmt:=top 65
theorem Ff:aI ["number"] ["number"] (ax uW):=bf
abbrev mH:Stmt:=top 66
theorem lD:aI ["number","scale","low","whole"] ["number","scale"] (ax mH):=bf
abbrev rH:Stmt:=top 67
theorem Df:aI ["number"] ["number"] (ax rH):=bf
abbrev uX:Stmt:=top 69
theorem lE:aI ["poly","scale","row","factor","number"] ["poly","scale"] (ax uX):=bf
abbrev nR:Stmt:=top 70
theorem gr:aI ["row","many","sums","count","total","place"] ["row","many"] (ax nR):=bf
abbrev ja:Stmt:=top 71
theorem dy:aI ["sums","row","count","total","place"] ["sums"] (ax ja):=bf
abbrev jb:Stmt:=top 72
theorem d_:aI ["sums","scale","poly","factor","number"] ["sums","scale"] (ax jb):=bf
abbrev jO:Stmt:=top 73
theorem cv:aI ["one","other","many","scale","first","second","sums","choices","count"] ["one","other"] (ax jO):=bf
abbrev gL:Stmt:=top 74
theorem ez:aI ["one","other","many","first","second"] ["one","other"] (ax gL):=bf
abbrev qj:Stmt:=top 75
theorem rJ:aI ["one","other"] ["one","other"] (ax qj):=bf
abbrev j9:Stmt:=top 76
theorem lF:aI ["one","other"] ["one","other"] (ax j9):=bf
abbrev lG:Stmt:=top 77
theorem wq:aI ["poly"] ["poly"] (ax lG):=bf
abbrev mI:Stmt:=top 78
theorem yg:aI ["poly"] ["poly"] (ax mI):=bf
abbrev Fg:Stmt:=top 83
theorem O1:aI ["number","width"] ["number","width"] (ax Fg):=bf
abbrev kX:Stmt:=top 84
theorem lH:aI ["free","pair_by","width","pair"] ["free","pair_by"] (ax kX):=bf
abbrev kB:Stmt:=top 85
theorem mZ:aI ["one","other","weight"] ["one","other"] (ax kB):=bf
abbrev cX:Stmt:=top 86
theorem eM:aI ["one","other","poly_of","pair_of","weight","poly","free","pair"] ["one","other","poly_of","pair_of"] (ax cX):=bf
abbrev lI:Stmt:=top 87
theorem wt:aI ["one","other"] ["one","other"] (ax lI):=bf
abbrev iO:Stmt:=top 88
theorem dS:aI ["one","other","first","second","tops","under"] ["one","other"] (ax iO):=bf
abbrev rK:Stmt:=top 89
theorem vU:aI ["one","other"] ["one","other"] (ax rK):=bf
abbrev rL:Stmt:=top 90
theorem pO:aI ["number","low","high"] ["number"] (ax rL):=bf
abbrev Fh:Stmt:=top 91
theorem HI:aI ["one","other"] ["one","other"] (ax Fh):=bf
abbrev iI:Stmt:=top 92
theorem m5:aI ["one","other"] ["one","other"] (ax iI):=bf
abbrev gM:Stmt:=top 93
theorem dw:aI ["number","pair","width"] ["number"] (ax gM):=bf
abbrev uY:Stmt:=top 94
theorem lJ:aI ["number","pair","low","high","inverses"] ["number"] (ax uY):=bf
abbrev Fi:Stmt:=top 95
theorem O2:aI ["one","other"] ["one","other"] (ax Fi):=bf
abbrev nS:Stmt:=top 96
theorem cz:aI ["number","many","product","turn","given","again","factor"] ["number","many"] (ax nS):=bf
abbrev uZ:Stmt:=top 98
theorem rM:aI ["number","many","side","weight","free","pair"] ["number","many"] (ax uZ):=bf
abbrev kN:Stmt:=top 102
theorem cN:aI ["number","many","cut"] ["number"] (ax kN):=bf
abbrev nT:Stmt:=top 103
theorem y_:aI ["number"] ["number"] (ax nT):=bf
abbrev nU:Stmt:=top 104
theorem qM:aI ["given","top"] ["given"] (ax nU):=bf
abbrev u5:Stmt:=top 105
theorem lK:aI ["number","digits","floor","figures","cut","point"] ["number","digits"] (ax u5):=bf
abbrev jP:Stmt:=top 106
theorem jc:aI ["text","start","end"] ["text","start"] (ax jP):=bf
abbrev jQ:Stmt:=top 107
theorem jd:aI ["text","start","end","figures","has_noughts_ahead"] ["text","start","end"] (ax jQ):=bf
abbrev lL:Stmt:=top 108
theorem kC:aI ["text","start","end","is_ahead","size"] ["text","start","end"] (ax lL):=bf
abbrev rN:Stmt:=top 109
theorem mn:aI ["text","start","begin","end","place"] ["text","start"] (ax rN):=bf
abbrev u6:Stmt:=top 110
theorem nV:aI ["text","start","above","middle","size","behind"] ["text","start","above"] (ax u6):=bf
abbrev u7:Stmt:=top 111
theorem yh:aI ["text","start","between"] ["text","start"] (ax u7):=bf
abbrev Fj:Stmt:=top 112
theorem kO:aI ["text","row","is_below","start","above","part"] ["text"] (ax Fj):=bf
abbrev rO:Stmt:=top 113
theorem mq:aI ["text","start","top","begin","end","under"] ["text","start","top"] (ax rO):=bf
abbrev nW:Stmt:=top 114
theorem gs:aI ["text","is_below","start","end","top","behind"] ["text"] (ax nW):=bf
abbrev Fl:Stmt:=top 118
theorem A9:aI ["kind","word","least","greatest"] ["kind","word"] (ax Fl):=bf
abbrev rP:Stmt:=top 119
theorem mr:aI ["row","word","form","words"] ["row"] (ax rP):=bf
abbrev u9:Stmt:=top 120
theorem O3:aI ["word","given"] ["word","given"] (ax u9):=bf
abbrev Fm:Stmt:=top 121
theorem HJ:aI ["word","given","found"] ["word","given"] (ax Fm):=bf
abbrev gO:Stmt:=top 122
theorem jG:aI ["text","poly"] ["text"] (ax gO):=bf
abbrev Fp:Stmt:=top 124
theorem HK:aI ["text","desk"] ["text"] (ax Fp):=bf
abbrev rQ:Stmt:=top 126
theorem Dg:aI ["_law_script","_law_k"] ["_law_script","_law_k"] (ax rQ):=bf
abbrev pP:Stmt:=top 127
theorem tF:aI ["_law_cell_here","_law_k","_law_more"] ["_law_cell_here","_law_k"] (ax pP):=bf
abbrev mJ:Stmt:=top 128
theorem yi:aI ["_law_some"] [] (ax mJ):=bf
abbrev rR:Stmt:=top 129
theorem Dh:aI ["_law_some"] [] (ax rR):=bf
abbrev tG:Stmt:=top 130
theorem iP:aI ["_law_script","_law_more","_law_lines","_law_due","_law_good_here","_law_k","_law_cell_here","_law_line","_law_found"] ["_law_script"] (ax tG):=bf
structure Nm(mg:Str->Option Value):Prop where
 pQ:mg "abs"=none
 WS:mg "all"=none
 WT:mg "any"=none
 gP:mg "enumerate"=none
 Rg:mg "int"=none
 dF:mg "len"=none
 Fq:mg "list"=none
 Mq:mg "max"=none
 Di:mg "min"=none
 j_:mg "range"=none
 iQ:mg "reversed"=none
 yj:mg "str"=none
 WU:mg "sum"=none
 Mr:mg "zip"=none
end lX
local macro_rules|`(tactic| walk_at "sf")=>`(tactic| (repeat first
 |((with_reducible apply L2.Vx);exact rfl)
 |with_reducible apply L2.N3|with_reducible apply L2.fM|with_reducible apply L2.kh|with_reducible apply L2.oM|with_reducible apply L2.Ar|with_reducible apply L2.YV
 |with_reducible apply L2.YW|with_reducible apply L2.r_u|with_reducible apply L2.R'|with_reducible apply L2.YX|with_reducible apply L2.YY|with_reducible apply L2.Qo|with_reducible apply L2.Qp
 |with_reducible apply L2.qI|with_reducible apply L2.Vz|with_reducible apply L2.VA|with_reducible apply L2.YZ|with_reducible apply L2.VB|with_reducible apply L2.Sb|with_reducible apply L2.VC|with_reducible apply L2.Sd
 |with_reducible apply L2.ki|with_reducible apply L2.kx|with_reducible apply L2.pk|with_reducible apply L2.Se|with_reducible apply L2.VD|with_reducible apply L2.xr|with_reducible apply L2.R6|with_reducible apply L2.R7
 |with_reducible apply L2.VE|with_reducible apply L2.Vy|with_reducible apply L2.R8|with_reducible apply L2.GQ|with_reducible apply L2.N0|with_reducible apply L2.R_|with_reducible apply L2.Qn
 |with_reducible apply L2.N6|with_reducible apply L2.Sg|with_reducible apply L2.Sh|with_reducible apply L2.N7|with_reducible apply L2.Si|with_reducible apply L2.Sj|with_reducible apply L2.KP|with_reducible apply L2.N8|with_reducible apply L2.VJ
 |((with_reducible show(_<=PySem.sizeLine)/\_);refine And.intro (L2.cR (Nat.le_of_ble_eq_true rfl)) ?_)))
namespace lX
open PySem PyProof.Rows L2 SF CV
theorem WV{i j:Int}{m n:Nat}(hi:Bd m i)(hj:Bd n j)(h:m+n<=134217728):IntMulOk i j:=by
 have bits:∀{k:Nat}{x:Int},Bd k x->Builtin.Int.intBits x<=k:=λ{k x} hx=>PySem.intBits_le_iff.mpr hx;exact PySem.IntMulOk.of_le (bits hi) (bits hj) (by lia)
abbrev rS:Stmt:=inClass (top 55) 0
theorem O4:aI ["self","poly","pair","weight"] ["self","poly","pair","weight"] (ax rS):=⟨rfl,rfl,rfl,by decide +kernel,rfl,by decide +kernel,by decide +kernel⟩
structure Rc(K:PySem.W.Frag)(mg:Str->Option Value)(C fI:Addr)(fd:FuncData):Prop where
 m:mg "Root"=some (.ref C)
 Rh:Mk K C fI
 cl:B9 K C
 n1:jI K C "poly"
 n2:jI K C "pair"
 n3:jI K C "weight"
 ex:∃(oc:Value)(od:Option Addr)(dV kV doc pm:Value)(an:Option Addr)(bH ct:Value)(vM:Array (Option Value)),
  fd=PySem.W.fnOf "__init__" "Root.__init__" (fu rS) (dc rS) (ax rS) dV kV doc pm an bH ct/\K.lookup fI=some ⟨oc,od,.func fd,vM⟩/\PySem.W.codeIn K bH "Root.__init__"=true
 b:Binds K fd ["self","poly","pair","weight"] []
section
variable {P:Program} {w:World} {K:PySem.W.Frag} {mg:Str->Option Value} {base:Heap} {C fI:Addr} {fd:FuncData}
theorem O5(RC:Rc K mg C fI fd):dU P w K mg base kr 1 fI fd ["self","poly","pair","weight"] (pA C):=by
 obtain⟨oc,od,dV,kV,doc,pm,an,bH,ct,vM,rfl,lk,iq⟩:=RC.ex;refine Ku lk iq O4 (λvs H Q E h=>?_) λA outer s H vs Q E hr h=>?_
 ·obtain⟨x,dx,v1,v2,v3,rfl,_⟩:=h;rfl
 obtain⟨x,dx,v1,v2,v3,rfl,hx,q⟩:=h;refine⟨_,vJ.J7 (ag (Ak (pv 0) (pv 1) ?s1) (ag (Ak (pv 0) (pv 2) ?s2) (aq (Ak (pv 0) (pv 3) ?s3)))),?_⟩
 case s1=>rfl
 case s2=>rfl
 case s3=>rfl
 walk_at "sf";refine⟨_,rfl,_,rfl,x,C,dx,[],rfl,hx,RC.cl,RC.n1,by decide,?_⟩;walk_at "sf";refine⟨_,rfl,_,rfl,x,C,dx,_,rfl,aE,RC.cl,RC.n2,Nat.lt_of_le_of_lt (kg _ _ _) (by decide),?_⟩;walk_at "sf";refine⟨_,rfl,_,rfl,x,C,dx,_,rfl,aE,RC.cl,RC.n3,Nat.lt_of_le_of_lt (kg _ _ _) (Nat.lt_of_le_of_lt (Nat.add_le_add_right (kg _ _ _) 1) (by decide)),?_⟩;walk_at "sf";refine q _ (λc hc=>?_) ?_
 ·rw[ay hc,ay hc,ay hc]
 ·rw[aE];rfl
theorem Tg(T:Nm mg)(D:aU K mg "common_divisor" hX ["one","other"]):bo P w K mg base 1 "common_divisor" ["one","other"] (λvs H Q _=>∃a b:Int,vs=[.int a,.int b]/\Q (.int ((Int.gcd a b:Nat):Int)) H):=by
 refine D.ok dP (λvs H Q E h=>?_) (λf bH A outer s H vs Q E hr h=>?_)
 ·obtain⟨a,b,rfl,_⟩:=h;rfl
 obtain⟨a,b,rfl,q⟩:=h;refine⟨_,(ag (aw (i:=2) dP.nd rfl (Or.inl rfl) (ba gJ rfl T.pQ boot_abs (aa (pv 0) ah)))
  (ag (aw (i:=3) dP.nd rfl (Or.inl rfl) (ba gJ rfl T.pQ boot_abs (aa (pv 1) ah)))
  (ag (dj PassesOwn.never (cU (pv 3) (λ_=>rfl))
  (ag (aw (i:=4) dP.nd rfl (Or.inl rfl) (aH iH (pv 2) (pv 3)))
  (ag (aw (i:=2) dP.nd rfl (Or.inl rfl) (pv 3))
  (aq (aw (i:=3) dP.nd rfl (Or.inl rfl) (pv 4))))))
  (aq (aC (pv 2)))))),?_⟩;walk_at "sf";refine⟨_,rfl,?_⟩;walk_at "sf";refine⟨_,rfl,?_⟩;walk_at "sf";refine Cq (λm σ H'=>∃(g l:Int)(r:Option V),m=l.toNat/\σ=[some (.int a),some (.int b),some (.int g),some (.int l),r]/\H'=H/\0<=g/\0<=l/\Int.gcd g l=Int.gcd a b)
  ⟨_,_,_,_,rfl,rfl,rfl,by split<;>lia,by split<;>lia,N9⟩ ?_
 rintro m σ H' ⟨g,l,r,rfl,rfl,rfl,hg,hl,e⟩;walk_at "sf";refine NY (λc=>?_) (λc=>?_)
 ·have Yc:l≠0:=by simpa using c
  have hp:0<l:=by lia
  refine⟨_,λcH H' h=>h,?_⟩;walk_at "sf";refine Er Yc ?_;walk_at "sf";have h1:=Int.emod_nonneg g Yc;have h2:=Int.emod_lt_of_pos g hp;rw[sL hp];exact⟨_,by lia,_,_,_,rfl,rfl,rfl,hl,h1,by rw[KQ hg hp,e]⟩
 ·have Yc:l=0:=by simpa using c
  subst Yc;walk_at "sf";have e':((Int.gcd a b:Nat):Int)=g:=by rw[<-e];exact N_ hg
  rw[e'] at q;exact q
theorem tH(T:Nm mg)(D:aU K mg "common_divisor" hX ["one","other"]):bo P w K mg base 34 "common_divisor" ["one","other"] (aM K C bP 2):=
 ((Tg T D).imp λvs H Q E h=>SM h).mono (by decide)
end
end lX
namespace lX
open PySem PyProof.Rows L2 SF PySem.W
structure Ad where
 cf:Addr
 c0:Addr
 c1:Addr
 c2:Addr
 c3:Addr
 c4:Addr
def Ad.l(a:Ad):List Addr:=[a.c0,a.c1,a.c2,a.c3,a.c4]
def Ad.c(a:Ad)(i:Nat):Addr:=a.l.getD i 0
def Th(K:Frag)(D:Addr):Bool:=(findIn K (.ref D) "__getattribute__"==some (some (.builtin "BaseException.__getattribute__")))&&(findIn K (.ref D) "__getattr__"==some none)&&(subIn K (.ref D) (.type "BaseException")==some true)
 &&(findIn K (.ref D) "__class__"==some (some (.builtin "object.__class__")))&&(specialIn K (.builtin "object.__class__") "__get__"==some (some (.builtin "getset_descriptor.__get__")))&&(takesIn K (.builtin "object.__class__")==some true)
 &&(mroIn K D (.type "object")==some true)&&hasDictIn K D&&(findIn K (.ref D) "__str__"==some (some (.builtin "BaseException.__str__")))
theorem Ti{K:Frag}{D:Addr}(h:Th K D=true):S0 K D:=by
 simp only[Th,Bool.and_eq_true,beq_iff_eq] at h;obtain⟨⟨⟨⟨⟨⟨⟨⟨a,b⟩,c⟩,d⟩,e⟩,f⟩,g⟩,i⟩,j⟩:=h;exact⟨a,b,c,d,e,f,g,i,j⟩
def Yd(K:Frag)(a:Ad):Bool:=((List.range 5).all λi=>Th K (a.c i)&&keepIn K (.ref (a.c i))&&(kitOne K (.ref (a.c i)) (.ref a.cf)==some true)&&(kitOne K (.ref (a.c i)) (.type "ValueError")==some true)
 &&((List.range 5).all λj=>kitOne K (.ref (a.c i)) (.ref (a.c j))==some (i==j))&&(i==3||excIn K (a.c i) UW "ValueError.__new__"))
 &&(exmOne K (.ref a.c0) (.ref a.cf)==some true)&&(findIn K (.ref a.c3) "at"==some none)
structure A_(K:Frag)(mg:Str->Option Value)(a:Ad):Prop where
 mf:mg "FootError"=some (.ref a.cf)
 m0:mg "NoRatio"=some (.ref a.c0)
 m1:mg "NoNumber"=some (.ref a.c1)
 m2:mg "TooGreat"=some (.ref a.c2)
 m3:mg "BadText"=some (.ref a.c3)
 m4:mg "BadRow"=some (.ref a.c4)
 ok:Yd K a=true
section
variable {K:Frag} {mg:Str->Option Value} {a:Ad} {i j:Nat}
theorem A_.all(C:A_ K mg a)(h:i<5):S0 K (a.c i)/\keepIn K (.ref (a.c i))=true/\kitOne K (.ref (a.c i)) (.ref a.cf)=some true/\kitOne K (.ref (a.c i)) (.type "ValueError")=some true/\
 (∀j,j<5->kitOne K (.ref (a.c i)) (.ref (a.c j))=some (i==j))/\(i≠3->Jd K (a.c i)):=by
 have q:=C.ok;simp only[Yd,Bool.and_eq_true] at q;have r:=(List.all_eq_true.mp q.1.1) i (List.mem_range.mpr h);simp only[Bool.and_eq_true,beq_iff_eq,Bool.or_eq_true] at r;obtain⟨⟨⟨⟨⟨r1,r2⟩,r3⟩,r4⟩,r5⟩,r6⟩:=r;refine⟨Ti r1,r2,r3,r4,λj hj=>?_,λn=>r6.resolve_left n⟩;have z:=(List.all_eq_true.mp r5) j (List.mem_range.mpr hj);exact beq_iff_eq.mp z
theorem A_.at'(C:A_ K mg a):findIn K (.ref a.c3) "at"=some none:=by
 have q:=C.ok;simp only[Yd,Bool.and_eq_true,beq_iff_eq] at q;exact q.2
end
end lX
namespace lX
open PySem PyProof.Rows L2 SF PySem.W CV
abbrev nX:Stmt:=inClass (top 5) 0
theorem Ms:aI ["self","text","at"] ["self","text","at"] (ax nX):=⟨rfl,rfl,rfl,by decide +kernel,rfl,by decide +kernel,by decide +kernel⟩
structure Z3(K:Frag)(a:Ad)(fI:Addr)(fd:FuncData):Prop where
 ex:∃(oc:Value)(od:Option Addr)(dV kV doc pm:Value)(an:Option Addr)(bH ct:Value)(vM:Array (Option Value)),
  fd=fnOf "__init__" "BadText.__init__" (fu nX) (dc nX) (ax nX) dV kV doc pm an bH ct/\K.lookup fI=some ⟨oc,od,.func fd,vM⟩/\codeIn K bH "BadText.__init__"=true
 b1:∃t,Binds K fd ["self","text","at"] [.int 0 t]
 b2:Binds K fd ["self","text","at"] []
 fn:typeIn K (.ref fI)=some (.type "function")
 cls:xV K a.c3 fI
 ov:wQ K a.c3=true
 sa:findIn K (.ref a.c3) "__setattr__"=some (some (.builtin "object.__setattr__"))
 ob:mroIn K a.c3 (.type "object")=some true
 ga:specialIn K (.ref a.cf) "__getattribute__"=some (some (.builtin "type.__getattribute__"))
 rd:readsIn K a.cf (.type "type")=true
 fc:findCls K (.ref a.cf) (.type "type") "__init__"=some (.val (.builtin "ValueError.__init__"))
section
variable {P:Program} {w:World} {K:Frag} {mg:Str->Option Value} {base:Heap} {a:Ad} {C fI:Addr} {fd:FuncData}
def j'(c:Addr):Sp:=λvs H Q _=>∃x m k tp,vs=[.ref x,.str m,.int k]/\H x=some (c_ x c tp .none none)/\∀wR dx,H wR=none->H dx=none->wR≠dx->wR≠x->dx≠x->
 Q .dH (upd (upd (upd (upd H wR (.tup [.str m])) x (c_ x c wR .none none)) dx (.xd [("at",.int k)])) x (c_ x c wR .none (some dx)))
theorem Mt(CL:A_ K mg a)(I:Z3 K a fI fd):dU P w K mg base kr 1 fI fd ["self","text","at"] (j' a.c3):=by
 obtain⟨oc,od,dV,kV,doc,pm,an,bH,ct,vM,rfl,lk,iq⟩:=I.ex;refine Ku lk iq Ms (λvs H Q E h=>?_) λA outer s H vs Q E hr h=>?_
 ·obtain⟨x,m,k,tp,rfl,_⟩:=h;rfl
 obtain⟨x,m,k,tp,rfl,hx,q⟩:=h;refine⟨_,vJ.J7 (ag (gC (LW (fI:=fI) (pl:=?pl) rfl CL.mf I.ga I.rd I.fc (aa (pv 0) (aa (pv 1) ah)))) (aq (ON (pv 0) (pv 2) ?sw))),?_⟩
 case sw=>rfl
 walk_at "sf";unfold LV;walk_at "sf";refine⟨x,_,_,tp,_,_,rfl,hx,I.cls,(by decide:1<=1000),λwR h1 n1=>?_⟩;walk_at "sf";unfold Q5;walk_at "sf";refine⟨x,a.c3,wR,.none,rfl,aE,I.ov,I.sa,I.ob,CL.at',λdx h2 n2=>?_⟩;have h3:dx≠wR:=λz=>by subst z;rw[ay n2,aE] at h2;cases h2
 have h4:H dx=none:=by rw[ay n2,ay h3] at h2;exact h2
 exact q wR dx h1 h4 (Ne.symm h3) n1 n2
theorem Mu{H:Hp}{x tp wR dx C:Addr}{vs ws:List V}{fs:List (Str×V)}(h1:H x=none)(h2:H tp=none)(h3:H wR=none)(h4:H dx=none):
 aJ H (upd (upd (upd (upd (upd (upd H tp (.tup vs)) x (c_ x C tp .none none)) wR (.tup ws)) x (c_ x C wR .none none)) dx (.xd fs)) x (c_ x C wR .none (some dx))):=λb o e=>by
 rw[ay (aW e h1),ay (aW e h4),ay (aW e h1),ay (aW e h3),ay (aW e h1),ay (aW e h2)];exact e
theorem O6{H:Hp}{Q:Hp->Prop}{c x tp:Addr}{m:Str}{k:Int}{vs:List V}(h1:H x=none)(h2:H tp=none)(q:∀t dx H',aJ H H'->H' x=some (c_ x c t .none (some dx))->H' t=some (.tup [.str m])->H' dx=some (.xd [("at",.int k)])->Q H'):
 j' c [.ref x,.str m,.int k] (upd (upd H tp (.tup vs)) x (c_ x c tp .none none)) (λv H2=>v=.dH/\Q H2) E0:=by
 refine⟨x,m,k,tp,rfl,aE,λwR dx e1 e2 n1 n2 n3=>⟨rfl,?_⟩⟩;have t1:H wR=none:=by
  by_cases z:wR=tp
  ·subst z;exact h2
  ·rw[ay n2,ay z] at e1;exact e1
 have t2:H dx=none:=by
  by_cases z:dx=tp
  ·subst z;exact h2
  ·rw[ay n3,ay z] at e2;exact e2
 exact q wR dx _ (Mu h1 h2 t1 t2) aE (by rw[ay n2,ay n1,ay n2,aE]) (by rw[ay n3,aE])
structure Bx(K:Frag)(mg:Str->Option Value)(c3 fI:Addr)(fd:FuncData):Prop where
 cls:xV K c3 fI
 fn:typeIn K (.ref fI)=some (.type "function")
 kp:keepIn K (.ref c3)=true
 m3:mg "BadText"=some (.ref c3)
 b2:Binds K fd ["self","text","at"] []
theorem pR{E:XK}{rt:AV->ir}{m:Str}{e:Ev ir}{te:TE}(BI:Bx K mg (a.c 3) fI fd)(he:bR K C (XA a.c E) e te):
 kL K C (XA a.c E) rt (AX e) (Hr K E (EY (a.c 3) (j' (a.c 3)) [] E0 (dm (tC (.str m)) (dm te iY)))):=by
 intro bE nx r h Fo Hf H σ g hx D n t;refine he _ _ _ h Fo Hf H σ g hx _ λx bc v bO H1 h1 s1 g1 r1=>?_;obtain⟨i,rfl,h2⟩:=cg h1;cases r1;cases h2;have w:oS a.c E H1 3 i:=hx bO H1 s1 g1.Ov;exact⟨show 2<=1000 by decide,λx tq e1 e2 _=>O6 (k:=i) e1 e2 λt d H' s' f _ g'=>⟨x,a.c 3,t,some d,fI,rfl,f,BI.cls,w d H' s' g'⟩⟩
theorem A_.cls(CL:A_ K mg a)(i:Nat)(h:i<5:=by decide)(n:i≠3:=by decide):Jd K (a.c i):=(CL.all h).2.2.2.2.2 n
end
end lX
namespace lX
open CV
def m7:Tab:=[(⟨⟨[108,101,116]⟩⟩,.tup [.str ⟨⟨[110,101,119]⟩⟩,.str ⟨⟨[114,97,116,105,111]⟩⟩]),(⟨⟨[114,111,111,116]⟩⟩,.tup [.str ⟨⟨[110,101,119]⟩⟩,.str ⟨⟨[112,108,97,99,101]⟩⟩,.str ⟨⟨[112,111,108,121]⟩⟩]),(⟨⟨[115,117,109]⟩⟩,.tup [.str ⟨⟨[110,101,119]⟩⟩,.str ⟨⟨[104,101,108,100]⟩⟩,.str ⟨⟨[104,101,108,100]⟩⟩]),(⟨⟨[108,101,115,115]⟩⟩,.tup [.str ⟨⟨[110,101,119]⟩⟩,.str ⟨⟨[104,101,108,100]⟩⟩,.str ⟨⟨[104,101,108,100]⟩⟩]),(⟨⟨[112,114,111,100,117,99,116]⟩⟩,.tup [.str ⟨⟨[110,101,119]⟩⟩,.str ⟨⟨[104,101,108,100]⟩⟩,.str ⟨⟨[104,101,108,100]⟩⟩]),(⟨⟨[111,118,101,114]⟩⟩,.tup [.str ⟨⟨[110,101,119]⟩⟩,.str ⟨⟨[104,101,108,100]⟩⟩,.str ⟨⟨[104,101,108,100]⟩⟩]),(⟨⟨[111,112,112,111,115,105,116,101]⟩⟩,.tup [.str ⟨⟨[110,101,119]⟩⟩,.str ⟨⟨[104,101,108,100]⟩⟩]),(⟨⟨[105,110,118,101,114,115,101]⟩⟩,.tup [.str ⟨⟨[110,101,119]⟩⟩,.str ⟨⟨[104,101,108,100]⟩⟩]),(⟨⟨[112,111,119,101,114]⟩⟩,.tup [.str ⟨⟨[110,101,119]⟩⟩,.str ⟨⟨[104,101,108,100]⟩⟩,.str ⟨⟨[116,105,109,101,115]⟩⟩]),(⟨⟨[114,111,111,116,111,102]⟩⟩,.tup [.str ⟨⟨[110,101,119]⟩⟩,.str ⟨⟨[104,101,108,100]⟩⟩,.str ⟨⟨[109,97,110,121]⟩⟩]),(⟨⟨[99,111,117,110,116]⟩⟩,.tup [.str ⟨⟨[112,111,108,121]⟩⟩]),(⟨⟨[99,111,109,112,97,114,101]⟩⟩,.tup [.str ⟨⟨[104,101,108,100]⟩⟩,.str ⟨⟨[104,101,108,100]⟩⟩]),(⟨⟨[115,105,103,110]⟩⟩,.tup [.str ⟨⟨[104,101,108,100]⟩⟩]),(⟨⟨[102,108,111,111,114]⟩⟩,.tup [.str ⟨⟨[104,101,108,100]⟩⟩]),(⟨⟨[100,101,99,105,109,97,108]⟩⟩,.tup [.str ⟨⟨[104,101,108,100]⟩⟩,.str ⟨⟨[100,105,103,105,116,115]⟩⟩]),(⟨⟨[114,97,116,105,111]⟩⟩,.tup [.str ⟨⟨[104,101,108,100]⟩⟩])]
def jR:Tab:=[(⟨⟨[112,108,97,99,101]⟩⟩,.tup [.int 0,.int 12]),(⟨⟨[116,105,109,101,115]⟩⟩,.tup [.int 0,.int 12]),(⟨⟨[109,97,110,121]⟩⟩,.tup [.int 1,.int 12]),(⟨⟨[100,105,103,105,116,115]⟩⟩,.tup [.int 0,.int 30])]
def nY:cZ AV:=(aK (fZ (eT (eV ltI (aj 0) (eC (.int 0)))) (bA (md mh (eC (.int 1))))
 fQ)
 (bA (ug (eT (eV BV (aj 0) (eC (.int 0)))) (eC (.int 1)) (eC (.int 0)))))
def iy:Fn:=bY 0 nY
def nZ:cZ AV:=(aK (aY 2 (eC (.int 1)))
 (aK (aY 3 (aj 0))
 (aK (aY 4 (aj 1))
 (aK (CM (eT (eV BV (aj 4) (eC (.int 0))))
 (aK (fZ (eT (eV nD (bu Int.fmod uf (aj 4) (eC (.int 2))) (eC (.int 1)))) (aY 2 (bu Int.mul eK (aj 2) (aj 3)))
 fQ)
 (aK (aY 4 (bu Int.fdiv uf (aj 4) (eC (.int 2))))
 (fZ (eT (eV BV (aj 4) (eC (.int 0)))) (aY 3 (bu Int.mul eK (aj 3) (aj 3)))
 fQ))))
 (bA (aj 2))))))
def ia:Fn:=bY 3 nZ
def iJ:cZ AV:=(aK (fZ (eT (eV nD (aj 1) (eC (.int 0)))) UQ
 fQ)
 (aK (aY 2 (aF bP 2 (ai (aj 0) (ai (aj 1) az))))
 (aK (fZ (eT (eV ltI (aj 1) (eC (.int 0)))) (aY 2 (md mh (aj 2)))
 fQ)
 (bA (fK (ai (bu Int.fdiv uf (aj 0) (aj 2)) (ai (bu Int.fdiv uf (aj 1) (aj 2)) az)))))))
def df:Fn:=bY 1 iJ
def Ba:cZ AV:=(bA (aF df 2 (ai (gy Int.add (bu Int.mul eK (bh (aj 0) (eC (.int 0))) (bh (aj 1) (eC (.int 1)))) (bu Int.mul eK (bh (aj 1) (eC (.int 0))) (bh (aj 0) (eC (.int 1))))) (ai (bu Int.mul eK (bh (aj 0) (eC (.int 1))) (bh (aj 1) (eC (.int 1)))) az))))
def Bb:Fn:=bY 0 Ba
def qk:cZ AV:=(bA (aF df 2 (ai (bu Int.mul eK (bh (aj 0) (eC (.int 0))) (bh (aj 1) (eC (.int 0)))) (ai (bu Int.mul eK (bh (aj 0) (eC (.int 1))) (bh (aj 1) (eC (.int 1)))) az))))
def ka:Fn:=bY 0 qk
def tI:cZ AV:=(bA (aF df 2 (ai (gy Int.add (bu Int.mul eK (bh (aj 0) (eC (.int 0))) (bh (aj 1) (eC (.int 1)))) (bu Int.mul eK (bh (aj 1) (eC (.int 0))) (bh (aj 0) (eC (.int 1))))) (ai (bu Int.mul eK (bu Int.mul eK (eC (.int 2)) (bh (aj 0) (eC (.int 1)))) (bh (aj 1) (eC (.int 1)))) az))))
def yk:Fn:=bY 0 tI
def jS:cZ AV:=(bA (aF iy 1 (ai (gy Int.sub (bu Int.mul eK (bh (aj 0) (eC (.int 0))) (bh (aj 1) (eC (.int 1)))) (bu Int.mul eK (bh (aj 1) (eC (.int 0))) (bh (aj 0) (eC (.int 1))))) az)))
def e_:Fn:=bY 0 jS
def kY:cZ AV:=(aK (aY 1 (kz (ai (aj 0) az)))
 (aK (CM (yY (eT (eV BV (aj 1) (eC (.int 0)))) (eT (eV nD (cW (aj 0) (gy Int.sub (aj 1) (eC (.int 1)))) (eC (.int 0)))))
 (aY 1 (gy Int.sub (aj 1) (eC (.int 1)))))
 (bA (ky (QJ (aj 0) Nz (GZ (aj 1)))))))
def jT:Fn:=bY 1 kY
def gQ:cZ AV:=(bA (gy Int.sub (kz (ai (aj 0) az)) (eC (.int 1))))
def cA:Fn:=bY 0 gQ
def wX:cZ AV:=(aK (px 2 (Ol (aj 0) (ky (Om (ky (oLst (ai (eC (.int 0)) az))) (gy Int.sub (kz (ai (aj 1) az)) (kz (ai (aj 0) az)))))))
 (aK (l_ (QM (ai (aj 1) az)) (IV 3 4)
 (IW 2 (aj 3) (gy Int.add (xF 2 (aj 3)) (aj 4))))
 (bA (aF jT 1 (ai (aj 2) az)))))
def Bc:Fn:=bY 3 wX
def je:cZ AV:=(aK (fZ (Oi (xD (nF (aj 0))) (xD (nF (aj 1)))) (bA (ky (oLst az)))
 fQ)
 (aK (px 2 (Om (ky (oLst (ai (eC (.int 0)) az))) (gy Int.sub (gy Int.add (kz (ai (aj 0) az)) (kz (ai (aj 1) az))) (eC (.int 1)))))
 (aK (l_ (QM (ai (aj 0) az)) (IV 3 4)
 (l_ (QM (ai (aj 1) az)) (IV 5 6)
 (IW 2 (gy Int.add (aj 3) (aj 5)) (gy Int.add (xF 2 (gy Int.add (aj 3) (aj 5))) (bu Int.mul eK (aj 4) (aj 6))))))
 (bA (aj 2)))))
def ib:Fn:=bY 5 je
def tJ:cZ AV:=(aK (fZ (eT (eV nD (aj 1) (eC (.int 0)))) (bA (ky (oLst az)))
 fQ)
 (bA (ky (mV 1 [1] (xI (aj 0)) (gN 0) (bu Int.mul eK (aj 0) (aj 1))))))
def ym:Fn:=bY 0 tJ
def jf:cZ AV:=(bA (ky (QJ (ky (mV 2 [] (QM (ai (aj 0) az)) (IV 0 1) (bu Int.mul eK (aj 0) (aj 1)))) (GZ (eC (.int 1))) Nz)))
def jg:Fn:=bY 0 jf
def ql:cZ AV:=(aK (aY 1 (eC (.int 0)))
 (aK (l_ (xI (aj 0)) (gN 2)
 (aY 1 (aF bP 2 (ai (aj 1) (ai (aj 2) az)))))
 (bA (ug (yY (nF (aj 0)) (eT (eV ltI (cW (aj 0) (md mh (eC (.int 1)))) (eC (.int 0))))) (md mh (aj 1)) (aj 1)))))
def u_:Fn:=bY 2 ql
def di:cZ AV:=(aK (aY 1 (aF u_ 1 (ai (aj 0) az)))
 (bA (ky (mV 1 [1] (xI (aj 0)) (gN 0) (bu Int.fdiv uf (aj 0) (aj 1))))))
def bD:Fn:=bY 1 di
def n0:cZ AV:=(aK (aY 2 (eC (.int 0)))
 (aK (l_ (SG (ai (aj 0) az)) (gN 3)
 (aY 2 (gy Int.add (bu Int.mul eK (aj 2) (aj 1)) (aj 3))))
 (bA (aj 2))))
def n4:Fn:=bY 2 n0
def tK:cZ AV:=(aK (px 2 (oLst az))
 (aK (aY 3 (aj 0))
 (aK (CM (nF (aj 3))
 (aK (aY 4 (bu Int.fmod uf (aj 3) (aj 1)))
 (aK (fZ (eT (eV BV (bu Int.mul eK (eC (.int 2)) (aj 4)) (aj 1))) (aY 4 (gy Int.sub (aj 4) (aj 1)))
 fQ)
 (aK (wm 2 (ai (aj 4) az))
 (aY 3 (bu Int.fdiv uf (gy Int.sub (aj 3) (aj 4)) (aj 1)))))))
 (bA (aj 2)))))
def yn:Fn:=bY 3 tK
def m8:cZ AV:=(aK (px 2 (Li (ai (aj 0) az)))
 (aK (px 3 (oLst az))
 (aK (CM (eT (eV UO (Lh 2) (kz (ai (aj 1) az))))
 (aK (aY 4 (bu Int.fdiv uf (xF 2 (md mh (eC (.int 1)))) (cW (aj 1) (md mh (eC (.int 1))))))
 (aK (aY 5 (gy Int.sub (Lh 2) (kz (ai (aj 1) az))))
 (aK (l_ (QM (ai (aj 1) az)) (IV 6 7)
 (IW 2 (gy Int.add (aj 5) (aj 6)) (gy Int.sub (xF 2 (gy Int.add (aj 5) (aj 6))) (bu Int.mul eK (aj 4) (aj 7)))))
 (aK (fZ (eT (eV La (Ou 2) (eC (.int 0)))) (bA (eC .dH))
 fQ)
 (wm 3 (ai (aj 4) az)))))))
 (aK (fZ (eT (V2 (ai (aj 2) az))) (bA (eC .dH))
 fQ)
 (bA (ky (V0 (ai (aj 3) az))))))))
def kZ:Fn:=bY 6 m8
def qm:cZ AV:=(bA (Lj (ai (ky (mV 1 [] (xI (aj 0)) (gN 0) (yZ (ai (aj 0) az)))) az)))
def qo:Fn:=bY 0 qm
def jh:cZ AV:=(aK (aY 2 (aF bD 1 (ai (aj 0) az)))
 (aK (aY 3 (aF bD 1 (ai (aj 1) az)))
 (aK (fZ (xD (nF (aj 2))) (bA (aj 3))
 fQ)
 (aK (fZ (xD (nF (aj 3))) (bA (aj 2))
 fQ)
 (aK (aY 4 (bu Int.mul eK (bu Int.mul eK (eC (.int 2)) (gy Int.add (G0 (ai (aF qo 1 (ai (aj 2) az)) (ai (aF qo 1 (ai (aj 3) az)) az))) (eC (.int 1)))) (bu (λi j=>i^j.toNat) QD (eC (.int 2)) (eC (.int 32)))))
 (CM (nF (eC (.bl true)))
 (aK (aY 5 (aF bP 2 (ai (aF n4 2 (ai (aj 2) (ai (aj 4) az))) (ai (aF n4 2 (ai (aj 3) (ai (aj 4) az))) az))))
 (aK (aY 6 (aF bD 1 (ai (aF yn 2 (ai (aj 5) (ai (aj 4) az))) az)))
 (aK (fZ (yY (eT (xB (aF kZ 2 (ai (aj 2) (ai (aj 6) az))))) (eT (xB (aF kZ 2 (ai (aj 3) (ai (aj 6) az)))))) (bA (aj 6))
 fQ)
 (aY 4 (bu Int.mul eK (aj 4) (aj 4))))))))))))
def ji:Fn:=bY 5 jh
def n5:cZ AV:=(bA (aF kZ 2 (ai (aF bD 1 (ai (aj 0) az)) (ai (aF bD 1 (ai (aj 1) az)) az))))
def rT:Fn:=bY 0 n5
def gu:cZ AV:=(bA (aF rT 2 (ai (aj 0) (ai (aF ji 2 (ai (aj 0) (ai (aF jg 1 (ai (aj 0) az)) az))) az))))
def cO:Fn:=bY 0 gu
def fb:cZ AV:=(aK (aY 3 (ky (oLst az)))
 (aK (aY 4 (ky (oLst (ai (eC (.int 1)) az))))
 (aK (l_ (SG (ai (aj 0) az)) (gN 5)
 (aK (aY 3 (aF Bc 2 (ai (aF ib 2 (ai (aj 3) (ai (aj 1) az))) (ai (aF ym 2 (ai (aj 4) (ai (aj 5) az))) az))))
 (aY 4 (aF ib 2 (ai (aj 4) (ai (aj 2) az))))))
 (bA (aj 3)))))
def cS:Fn:=bY 3 fb
def iW:cZ AV:=(aK (aY 3 (eC (.int 0)))
 (aK (aY 4 (eC (.int 1)))
 (aK (l_ (SG (ai (aj 0) az)) (gN 5)
 (aK (aY 3 (gy Int.add (bu Int.mul eK (aj 3) (aj 1)) (bu Int.mul eK (aj 5) (aj 4))))
 (aY 4 (bu Int.mul eK (aj 4) (aj 2)))))
 (bA (aj 3)))))
def dZ:Fn:=bY 3 iW
def jU:cZ AV:=(bA (aF iy 1 (ai (aF dZ 3 (ai (aj 0) (ai (bh (aj 1) (eC (.int 0))) (ai (bh (aj 1) (eC (.int 1))) az)))) az)))
def fC:Fn:=bY 0 jU
def jj:cZ AV:=(aK (aY 1 (eC (.int 0)))
 (aK (aY 2 (eC (.int 0)))
 (aK (l_ (xI (aj 0)) (gN 3)
 (aK (fZ (eT (eV ltI (bu Int.mul eK (aj 3) (aj 2)) (eC (.int 0)))) (aY 1 (gy Int.add (aj 1) (eC (.int 1))))
 fQ)
 (fZ (eT (eV La (aj 3) (eC (.int 0)))) (aY 2 (aF iy 1 (ai (aj 3) az)))
 fQ)))
 (bA (aj 1)))))
def jk:Fn:=bY 3 jj
def mw:cZ AV:=(aK (aY 2 (yZ (ai (cW (aj 1) (md mh (eC (.int 1)))) az)))
 (aK (aY 3 (aF iy 1 (ai (cW (aj 1) (md mh (eC (.int 1)))) az)))
 (aK (px 4 (Li (ai (aj 0) az)))
 (aK (l_ (iR3 (ai (gy Int.sub (kz (ai (aj 0) az)) (kz (ai (aj 1) az))) (ai (md mh (eC (.int 1))) (ai (md mh (eC (.int 1))) az)))) (gN 5)
 (aK (aY 6 (bu Int.mul eK (Ou 4) (aj 3)))
 (aK (px 4 (mV 1 [2] (xI (aj 4)) (gN 0) (bu Int.mul eK (aj 0) (aj 1))))
 (l_ (QM (ai (ky (QJ (aj 1) Nz (GZ (md mh (eC (.int 1)))))) az)) (IV 7 8)
 (IW 4 (gy Int.add (aj 5) (aj 7)) (gy Int.sub (xF 4 (gy Int.add (aj 5) (aj 7))) (bu Int.mul eK (aj 6) (aj 8))))))))
 (bA (aF jT 1 (ai (aj 4) az)))))))
def pS:Fn:=bY 7 mw
def n8:cZ AV:=(aK (px 1 (oLst (ai (aj 0) (ai (aF jg 1 (ai (aj 0) az)) az))))
 (aK (aY 2 (eC (.int 1)))
 (aK (aY 3 (eC (.int 1)))
 (aK (CM (eT (eV BV (kz (ai (xF 1 (md mh (eC (.int 1)))) az)) (eC (.int 1))))
 (aK (aY 4 (xF 1 (md mh (eC (.int 2)))))
 (aK (aY 5 (xF 1 (md mh (eC (.int 1)))))
 (aK (aY 6 (gy Int.sub (kz (ai (aj 4) az)) (kz (ai (aj 5) az))))
 (aK (aY 7 (bu Int.mul eK (aj 2) (aF ia 2 (ai (aj 3) (ai (aj 6) az)))))
 (aK (wm 1 (ai (ky (mV 1 [7] (xI (aF pS 2 (ai (aj 4) (ai (aj 5) az)))) (gN 0) (bu Int.fdiv uf (md mh (aj 0)) (aj 1)))) az))
 (aK (aY 2 (yZ (ai (cW (aj 5) (md mh (eC (.int 1)))) az)))
 (aY 3 (bu Int.fdiv uf (aF ia 2 (ai (aj 2) (ai (aj 6) az))) (aF ia 2 (ai (aj 3) (ai (gy Int.sub (aj 6) (eC (.int 1))) az))))))))))))
 (bA (aj 1))))))
def rV:Fn:=bY 7 n8
def kP:cZ AV:=(bA (aF jk 1 (ai (ky (mV 1 [1] (xI (aj 0)) (gN 0) (aF fC 2 (ai (aj 0) (ai (aj 1) az))))) az)))
def n9:Fn:=bY 0 kP
def mx:cZ AV:=(aK (aY 2 (yZ (ai (cW (aj 0) (md mh (eC (.int 1)))) az)))
 (aK (l_ (SG (ai (ky (QJ (aj 0) Nz (GZ (md mh (eC (.int 1)))))) az)) (gN 3)
 (aK (aY 2 (bu Int.mul eK (aj 2) (aj 1)))
 (fZ (eT (eV BV (yZ (ai (aj 3) az)) (aj 2))) (bA (eC (.bl false)))
 fQ)))
 (bA (eC (.bl true)))))
def pT:Fn:=bY 2 mx
def n_:cZ AV:=(aK (aY 1 (eC (.int 1)))
 (aK (CM (xD (eT (aF pT 2 (ai (aj 0) (ai (aj 1) az)))))
 (aY 1 (bu Int.mul eK (eC (.int 2)) (aj 1))))
 (bA (bu Int.mul eK (eC (.int 2)) (aj 1)))))
def rW:Fn:=bY 1 n_
def gF:cZ AV:=(aK (aY 1 (eC (.int 3)))
 (aK (CM (eT (eV nD (bu Int.fmod uf (cW (aj 0) (md mh (eC (.int 1)))) (aj 1)) (eC (.int 0))))
 (aY 1 (gy Int.add (aj 1) (eC (.int 2)))))
 (aK (aY 2 (gy Int.add (aF rW 1 (ai (aj 0) az)) (eC (.int 1))))
 (bA (fK (ai (aF df 2 (ai (gy Int.sub (eC (.int 1)) (bu Int.mul eK (aj 1) (aj 2))) (ai (aj 1) az))) (ai (aF df 2 (ai (gy Int.add (eC (.int 1)) (bu Int.mul eK (aj 1) (aj 2))) (ai (aj 1) az))) az)))))))
def jl:Fn:=bY 2 gF
def tL:cZ AV:=(bA (fK (ai (aj 1) (ai (aF n9 2 (ai (aj 0) (ai (aj 1) az))) az))))
def pU:Fn:=bY 0 tL
def lM:cZ AV:=(aK (fZ (eT (eV BV (aF cA 1 (ai (aj 0) az)) (eC (.int 12)))) UQ
 fQ)
 (aK (aY 1 (aF cO 1 (ai (aj 0) az)))
 (aK (aY 2 (aF rV 1 (ai (aj 1) az)))
 (aK (aY 3 (aF jl 1 (ai (aj 1) az)))
 (aK (px 4 (oLst (ai (fK (ai (aF pU 2 (ai (aj 2) (ai (bh (aj 3) (eC (.int 0))) az))) (ai (aF pU 2 (ai (aj 2) (ai (bh (aj 3) (eC (.int 1))) az))) az))) az)))
 (aK (px 5 (oLst az))
 (aK (CM (QF 4)
 (aK (aY 6 (Ou 4))
 (aK (aY 7 (bh (aj 6) (eC (.int 0))))
 (aK (aY 8 (bh (aj 6) (eC (.int 1))))
 (aK (aY 9 (gy Int.sub (bh (aj 7) (eC (.int 1))) (bh (aj 8) (eC (.int 1)))))
 (aK (fZ (eT (eV nD (aj 9) (eC (.int 1)))) (wm 5 (ai (fK (ai (bh (aj 7) (eC (.int 0))) (ai (bh (aj 8) (eC (.int 0))) az))) az))
 fQ)
 (fZ (eT (eV BV (aj 9) (eC (.int 1)))) (aK (aY 10 (aF pU 2 (ai (aj 2) (ai (aF yk 2 (ai (bh (aj 7) (eC (.int 0))) (ai (bh (aj 8) (eC (.int 0))) az))) az))))
 (aK (wm 4 (ai (fK (ai (aj 10) (ai (aj 8) az))) az))
 (wm 4 (ai (fK (ai (aj 7) (ai (aj 10) az))) az))))
 fQ)))))))
 (bA (aj 5)))))))))
def lN:Fn:=bY 10 lM
def ic:cZ AV:=(aK (aY 1 (bh (aj 0) (eC (.int 0))))
 (aK (aY 2 (bh (aj 0) (eC (.int 1))))
 (bA (fK (ai (bu Int.mul eK (bh (aj 1) (eC (.int 0))) (bh (aj 2) (eC (.int 1)))) (ai (bu Int.mul eK (bh (aj 2) (eC (.int 0))) (bh (aj 1) (eC (.int 1)))) (ai (bu Int.mul eK (bh (aj 1) (eC (.int 1))) (bh (aj 2) (eC (.int 1)))) az)))))))
def eN:Fn:=bY 2 ic
def jm:cZ AV:=(aK (aY 2 (bu Int.mul eK (bh (aj 1) (eC (.int 0))) (bh (aj 0) (eC (.int 2)))))
 (bA (bu Int.fdiv uf (gy Int.sub (gy Int.add (bu Int.mul eK (gy Int.sub (bh (aj 0) (eC (.int 1))) (bh (aj 0) (eC (.int 0)))) (bh (aj 1) (eC (.int 1)))) (aj 2)) (eC (.int 1))) (aj 2))))
def jn:Fn:=bY 1 jm
def gR:cZ AV:=(aK (aY 5 (bu Int.mul eK (bh (aj 1) (eC (.int 2))) (aj 2)))
 (aK (aY 6 (aF iy 1 (ai (aF dZ 3 (ai (aj 0) (ai (bh (aj 1) (eC (.int 0))) (ai (bh (aj 1) (eC (.int 2))) az)))) az)))
 (aK (aY 7 (aF iy 1 (ai (aF dZ 3 (ai (aj 0) (ai (aj 3) (ai (aj 5) az)))) az)))
 (aK (fZ (eT (eV nD (aj 7) (eC (.int 0)))) (bA (fK (ai (aj 3) (ai (aj 3) (ai (aj 5) az)))))
 fQ)
 (aK (aY 8 (aF iy 1 (ai (aF dZ 3 (ai (aj 0) (ai (aj 4) (ai (aj 5) az)))) az)))
 (aK (fZ (eT (eV nD (aj 8) (eC (.int 0)))) (bA (fK (ai (aj 4) (ai (aj 4) (ai (aj 5) az)))))
 fQ)
 (bA (ug (yY (eT (eV nD (aj 7) (aj 6))) (eT (eV La (aj 8) (aj 6)))) (fK (ai (aj 3) (ai (aj 4) (ai (aj 5) az)))) (eC .dH)))))))))
def gS:Fn:=bY 4 gR
def qp:cZ AV:=(aK (aY 3 (gy Int.sub (bh (aj 1) (eC (.int 1))) (bh (aj 1) (eC (.int 0)))))
 (aK (aY 4 (yZ (ai (aF dZ 3 (ai (aj 0) (ai (bh (aj 1) (eC (.int 0))) (ai (bh (aj 1) (eC (.int 2))) az)))) az)))
 (aK (aY 5 (yZ (ai (aF dZ 3 (ai (aj 0) (ai (bh (aj 1) (eC (.int 1))) (ai (bh (aj 1) (eC (.int 2))) az)))) az)))
 (aK (aY 6 (bu Int.fdiv uf (bu Int.mul eK (aj 2) (aj 4)) (gy Int.add (aj 4) (aj 5))))
 (aK (aY 7 (gy Int.add (bu Int.mul eK (bh (aj 1) (eC (.int 0))) (aj 2)) (bu Int.mul eK (aj 3) (aj 6))))
 (bA (aF gS 5 (ai (aj 0) (ai (aj 1) (ai (aj 2) (ai (aj 7) (ai (gy Int.add (aj 7) (aj 3)) az))))))))))))
def vd:Fn:=bY 5 qp
def tM:cZ AV:=(aK (aY 2 (gy Int.add (bh (aj 1) (eC (.int 0))) (bh (aj 1) (eC (.int 1)))))
 (aK (aY 3 (aF gS 5 (ai (aj 0) (ai (aj 1) (ai (eC (.int 2)) (ai (bu Int.mul eK (eC (.int 2)) (bh (aj 1) (eC (.int 0)))) (ai (aj 2) az)))))))
 (bA (ug (eT (Lb (aj 3))) (fK (ai (aj 2) (ai (bu Int.mul eK (eC (.int 2)) (bh (aj 1) (eC (.int 1)))) (ai (bu Int.mul eK (eC (.int 2)) (bh (aj 1) (eC (.int 2)))) az)))) (aj 3)))))
def yo:Fn:=bY 2 tM
def iR:cZ AV:=(aK (aY 3 (aF eN 1 (ai (aj 1) az)))
 (aK (aY 4 (eC (.int 4)))
 (aK (aY 5 (aF jn 2 (ai (aj 3) (ai (aj 2) az))))
 (aK (CM (eT (eV BV (aj 5) (eC (.int 1))))
 (aK (aY 6 (aF vd 3 (ai (aj 0) (ai (aj 3) (ai (G0 (ai (aj 4) (ai (aj 5) az))) az)))))
 (aK (aY 4 (ug (eT (Lb (aj 6))) (eC (.int 4)) (bu Int.mul eK (aj 4) (aj 4))))
 (aK (aY 3 (ug (eT (Lb (aj 6))) (aF yo 2 (ai (aj 0) (ai (aj 3) az))) (aj 6)))
 (aY 5 (aF jn 2 (ai (aj 3) (ai (aj 2) az))))))))
 (bA (fK (ai (aF df 2 (ai (bh (aj 3) (eC (.int 0))) (ai (bh (aj 3) (eC (.int 2))) az))) (ai (aF df 2 (ai (bh (aj 3) (eC (.int 1))) (ai (bh (aj 3) (eC (.int 2))) az))) az))))))))
def gb:Fn:=bY 4 iR
def oa:cZ AV:=(aK (aY 2 (aF eN 1 (ai (aj 1) az)))
 (aK (aY 3 (aF cS 3 (ai (aj 0) (ai (ky (oLst (ai (bh (aj 2) (eC (.int 0))) (ai (bh (aj 2) (eC (.int 1))) az)))) (ai (ky (oLst (ai (bh (aj 2) (eC (.int 2))) (ai (bh (aj 2) (eC (.int 2))) az)))) az)))))
 (bA (CF (eV nD (kz (ai (aj 3) az)) (kz (ai (aj 0) az))) (CF (eV La (cW (aj 3) (eC (.int 0))) (eC (.int 0))) (eV nD (aF jk 1 (ai (aj 3) az)) (eC (.int 1))))))))
def jV:Fn:=bY 2 oa
def fg:cZ AV:=(bA (V9 (ai (ky (oLst (ai (md mh (bh (aj 0) (eC (.int 0)))) (ai (bh (aj 0) (eC (.int 1))) az)))) (ai (fK (ai (aj 0) (ai (aj 0) az))) (ai (eC (.int 1)) az)))))
def bG:Fn:=bY 0 fg
def ko:cZ AV:=(aK (aY 3 (cW (aj 0) (md mh (eC (.int 1)))))
 (aK (aY 4 (aF gb 3 (ai (aj 0) (ai (aj 1) (ai (fK (ai (eC (.int 1)) (ai (aj 3) az))) az)))))
 (aK (aY 5 (bh (aj 4) (eC (.int 0))))
 (aK (aY 6 (bh (aj 4) (eC (.int 1))))
 (aK (fZ (eT (Su (aj 5) (aj 6))) (bA (aF bG 1 (ai (aj 5) az)))
 fQ)
 (aK (aY 7 (aF df 2 (ai (gy Int.add (bu Int.fdiv uf (bu Int.mul eK (bh (aj 5) (eC (.int 0))) (aj 3)) (bh (aj 5) (eC (.int 1)))) (eC (.int 1))) (ai (aj 3) az))))
 (aK (fZ (yY (eT (eV ltI (aF e_ 2 (ai (aj 7) (ai (aj 6) az))) (eC (.int 0)))) (eT (eV nD (aF fC 2 (ai (aj 0) (ai (aj 7) az))) (eC (.int 0))))) (bA (aF bG 1 (ai (aj 7) az)))
 fQ)
 (bA (V9 (ai (aj 0) (ai (aj 4) (ai (aj 2) az))))))))))))
def eO:Fn:=bY 5 ko
def HL:cZ ir:=(aK (aY 2 (aF lN 1 (ai (aj 0) az)))
 (aK (fZ (Oi (eT (eV ltI (aj 1) (eC (.int 0)))) (eT (eV UO (aj 1) (kz (ai (aj 2) az))))) (nI 1)
 fQ)
 (aK (aY 3 (aF cO 1 (ai (aj 0) az)))
 (du .ret (aF eO 3 (ai (aj 3) (ai (cW (aj 2) (aj 1)) (ai (aF cA 1 (ai (aj 3) az)) az))))))))
def Mv:vT:=oU 2 HL
def gc:cZ AV:=(bA (ug (eT (Su (bh (zR (aj 0)) (eC (.int 0))) (bh (zR (aj 0)) (eC (.int 1))))) (bh (zR (aj 0)) (eC (.int 0))) (eC .dH)))
def bz:Fn:=bY 0 gc
def gT:cZ AV:=(bA (eFw (aj 0)))
def fT:Fn:=bY 0 gT
def jW:cZ AV:=(aK (aY 2 (bh (zR (aj 0)) (eC (.int 0))))
 (aK (aY 3 (aF e_ 2 (ai (aj 2) (ai (aj 1) az))))
 (aK (fZ (eT (eV nD (aj 3) (aF e_ 2 (ai (bh (zR (aj 0)) (eC (.int 1))) (ai (aj 1) az))))) (bA (aj 3))
 fQ)
 (bA (bu Int.mul eK (aF fC 2 (ai (NB (aj 0)) (ai (aj 2) az))) (aF fC 2 (ai (NB (aj 0)) (ai (aj 1) az))))))))
def fD:Fn:=bY 2 jW
def og:cZ AV:=(aK (aY 2 (ug (eT (eV BV (aF e_ 2 (ai (bh (zR (aj 0)) (eC (.int 0))) (ai (bh (zR (aj 1)) (eC (.int 0))) az))) (eC (.int 0)))) (bh (zR (aj 0)) (eC (.int 0))) (bh (zR (aj 1)) (eC (.int 0)))))
 (aK (aY 3 (ug (eT (eV ltI (aF e_ 2 (ai (bh (zR (aj 0)) (eC (.int 1))) (ai (bh (zR (aj 1)) (eC (.int 1))) az))) (eC (.int 0)))) (bh (zR (aj 0)) (eC (.int 1))) (bh (zR (aj 1)) (eC (.int 1)))))
 (aK (fZ (eT (eV UO (aF e_ 2 (ai (aj 2) (ai (aj 3) az))) (eC (.int 0)))) (bA (eC (.bl false)))
 fQ)
 (aK (aY 4 (aF ji 2 (ai (NB (aj 0)) (ai (NB (aj 1)) az))))
 (bA (eV ltI (bu Int.mul eK (aF fC 2 (ai (aj 4) (ai (aj 2) az))) (aF fC 2 (ai (aj 4) (ai (aj 3) az)))) (eC (.int 0))))))))
def rX:Fn:=bY 3 og
def tN:cZ AV:=(aK (aY 2 (zR (aj 0)))
 (aK (aY 3 (fK (ai (eC (.int 1)) (ai (eC (.int 16)) az))))
 (CM (nF (eC (.bl true)))
 (aK (fZ (eT (eV ltI (aF fD 2 (ai (aj 1) (ai (bh (aj 2) (eC (.int 0))) az))) (eC (.int 0)))) (bA (eC (.int 1)))
 fQ)
 (aK (fZ (eT (eV BV (aF fD 2 (ai (aj 1) (ai (bh (aj 2) (eC (.int 1))) az))) (eC (.int 0)))) (bA (md mh (eC (.int 1))))
 fQ)
 (aK (aY 2 (aF gb 3 (ai (NB (aj 0)) (ai (aj 2) (ai (aj 3) az)))))
 (aY 3 (aF ka 2 (ai (aj 3) (ai (aj 3) az))))))))))
def yp:Fn:=bY 2 tN
def oh:cZ AV:=(aK (fZ (eT (xB (aF bz 1 (ai (aj 1) az)))) (bA (aF fD 2 (ai (aj 0) (ai (aF bz 1 (ai (aj 1) az)) az))))
 fQ)
 (aK (fZ (eT (xB (aF bz 1 (ai (aj 0) az)))) (bA (md mh (aF fD 2 (ai (aj 1) (ai (aF bz 1 (ai (aj 0) az)) az)))))
 fQ)
 (bA (ug (eT (aF rX 2 (ai (aj 0) (ai (aj 1) az)))) (eC (.int 0)) (aF yp 2 (ai (aj 0) (ai (aj 1) az)))))))
def rY:Fn:=bY 0 oh
def iX:cZ AV:=(bA (aF fD 2 (ai (aj 0) (ai (fK (ai (eC (.int 0)) (ai (eC (.int 1)) az))) az))))
def cY:Fn:=bY 0 iX
def iB:cZ AV:=(aK (aY 2 (bh (aF gb 3 (ai (NB (aj 0)) (ai (zR (aj 0)) (ai (fK (ai (eC (.int 1)) (ai (aj 1) az))) az)))) (eC (.int 0))))
 (aK (aY 3 (bu Int.fdiv uf (bu Int.mul eK (bh (aj 2) (eC (.int 0))) (aj 1)) (bh (aj 2) (eC (.int 1)))))
 (bA (ug (eT (eV ltI (aF fD 2 (ai (aj 0) (ai (aF df 2 (ai (gy Int.add (aj 3) (eC (.int 1))) (ai (aj 1) az))) az))) (eC (.int 0)))) (aj 3) (gy Int.add (aj 3) (eC (.int 1)))))))
def iC:Fn:=bY 2 iB
def oi:cZ AV:=(bA (aF iC 2 (ai (aj 0) (ai (eC (.int 1)) az))))
def rZ:Fn:=bY 0 oi
def m9:cZ AV:=(aK (px 2 (oLst az))
 (aK (aY 3 (eC (.int 1)))
 (aK (l_ (SG (ai (aj 0) az)) (gN 4)
 (aK (wm 2 (ai (bu Int.fdiv uf (bu Int.mul eK (aj 4) (aj 3)) (cW (aj 0) (md mh (eC (.int 1))))) az))
 (aY 3 (bu Int.mul eK (aj 3) (aj 1)))))
 (bA (aj 2)))))
def jX:Fn:=bY 3 m9
def jo:cZ AV:=(aK (px 2 (oLst (ai (gy Int.sub (kz (ai (aj 0) az)) (eC (.int 1))) az)))
 (aK (l_ (QN (ai (eC (.int 1)) (ai (gy Int.add (aj 1) (eC (.int 1))) az))) (gN 3)
 (aK (aY 4 (ug (eT (eV ltI (aj 3) (kz (ai (aj 0) az)))) (bu Int.mul eK (aj 3) (cW (aj 0) (aj 3))) (eC (.int 0))))
 (aK (l_ (QN (ai (eC (.int 1)) (ai (G0 (ai (aj 3) (ai (kz (ai (aj 0) az)) az))) az))) (gN 5)
 (aY 4 (gy Int.add (aj 4) (bu Int.mul eK (cW (aj 0) (aj 5)) (xF 2 (gy Int.sub (aj 3) (aj 5)))))))
 (wm 2 (ai (md mh (aj 4)) az)))))
 (bA (aj 2))))
def gf:Fn:=bY 4 jo
def gG:cZ AV:=(aK (px 1 (oLst (ai (eC (.int 1)) az)))
 (aK (l_ (QN (ai (eC (.int 1)) (ai (kz (ai (aj 0) az)) az))) (gN 2)
 (aK (aY 3 (cW (aj 0) (aj 2)))
 (aK (l_ (QN (ai (eC (.int 1)) (ai (aj 2) az))) (gN 4)
 (aY 3 (gy Int.add (aj 3) (bu Int.mul eK (xF 1 (aj 4)) (cW (aj 0) (gy Int.sub (aj 2) (aj 4)))))))
 (wm 1 (ai (bu Int.fdiv uf (md mh (aj 3)) (aj 2)) az)))))
 (bA (aj 1))))
def jq:Fn:=bY 4 gG
def eQ:cZ AV:=(aK (px 2 (oLst az))
 (aK (aY 3 (eC (.int 1)))
 (aK (l_ (SG (ai (aF jq 1 (ai (aj 0) az)) az)) (gN 4)
 (aK (wm 2 (ai (bu Int.mul eK (aj 4) (aj 3)) az))
 (aY 3 (bu Int.mul eK (aj 3) (aj 1)))))
 (bA (aF bD 1 (ai (aj 2) az))))))
def eR:Fn:=bY 3 eQ
def fE:cZ AV:=(aK (aY 2 (bu Int.mul eK (aF cA 1 (ai (aj 0) az)) (aF cA 1 (ai (aj 1) az))))
 (aK (aY 3 (bu Int.fdiv uf (bu Int.mul eK (cW (aj 0) (md mh (eC (.int 1)))) (cW (aj 1) (md mh (eC (.int 1))))) (aF bP 2 (ai (cW (aj 0) (md mh (eC (.int 1)))) (ai (cW (aj 1) (md mh (eC (.int 1)))) az)))))
 (aK (aY 4 (aF gf 2 (ai (aF jX 2 (ai (aj 0) (ai (aj 3) az))) (ai (aj 2) az))))
 (aK (aY 5 (aF gf 2 (ai (aF jX 2 (ai (aj 1) (ai (aj 3) az))) (ai (aj 2) az))))
 (aK (px 6 (oLst az))
 (aK (aY 7 (ky (oLst (ai (eC (.int 1)) az))))
 (aK (l_ (iR1 (ai (gy Int.add (aj 2) (eC (.int 1))) az)) (gN 8)
 (aK (wm 6 (ai (V1 (ai (ky (mV 2 [5,4,8] (QM (ai (aj 7) az)) (IV 0 1) (bu Int.mul eK (bu Int.mul eK (aj 1) (cW (aj 3) (aj 0))) (cW (aj 2) (gy Int.sub (aj 4) (aj 0)))))) az)) az))
 (aY 7 (aF ib 2 (ai (aj 7) (ai (ky (oLst (ai (eC (.int 1)) (ai (eC (.int 1)) az)))) az))))))
 (bA (aF eR 2 (ai (aj 6) (ai (aj 3) az)))))))))))
def fF:Fn:=bY 7 fE
def dN:cZ AV:=(aK (aY 2 (bu Int.mul eK (aF cA 1 (ai (aj 0) az)) (aF cA 1 (ai (aj 1) az))))
 (aK (aY 3 (aF gf 2 (ai (aF jX 2 (ai (aj 0) (ai (cW (aj 0) (md mh (eC (.int 1)))) az))) (ai (aj 2) az))))
 (aK (aY 4 (aF gf 2 (ai (aF jX 2 (ai (aj 1) (ai (cW (aj 1) (md mh (eC (.int 1)))) az))) (ai (aj 2) az))))
 (bA (aF eR 2 (ai (ky (mV 2 [] (iZp (ai (aj 3) (ai (aj 4) az))) (IV 0 1) (bu Int.mul eK (aj 0) (aj 1)))) (ai (bu Int.mul eK (cW (aj 0) (md mh (eC (.int 1)))) (cW (aj 1) (md mh (eC (.int 1))))) az)))))))
def dO:Fn:=bY 3 dN
def oj:cZ AV:=(aK (fZ (eT (eV nD (aF cA 1 (ai (aj 0) az)) (eC (.int 1)))) (bA (aF bD 1 (ai (aF cS 3 (ai (aj 1) (ai (aj 0) (ai (ky (oLst (ai (cW (aj 0) (eC (.int 1))) az))) az)))) az)))
 fQ)
 (bA (ug (eT (eV nD (aF cA 1 (ai (aj 1) az)) (eC (.int 1)))) (aF (λ_=>none) 2 (ai (aj 1) (ai (aj 0) az))) (aF fF 2 (ai (aj 0) (ai (aj 1) az))))))
def r_:Fn:=bY 0 oj
def qq:cZ AV:=(aK (fZ (eT (eV nD (aF cA 1 (ai (aj 0) az)) (eC (.int 1)))) (bA (aF bD 1 (ai (aF cS 3 (ai (aj 1) (ai (aj 0) (ai (ky (oLst (ai (cW (aj 0) (eC (.int 1))) az))) az)))) az)))
 fQ)
 (bA (ug (eT (eV nD (aF cA 1 (ai (aj 1) az)) (eC (.int 1)))) (aF r_ 2 (ai (aj 1) (ai (aj 0) az))) (aF fF 2 (ai (aj 0) (ai (aj 1) az))))))
def vg:Fn:=bY 0 qq
def jr:cZ AV:=(aK (fZ (eT (eV nD (aF cA 1 (ai (aj 0) az)) (eC (.int 1)))) (bA (aF bD 1 (ai (aF cS 3 (ai (aj 1) (ai (ky (oLst (ai (eC (.int 0)) (ai (cW (aj 0) (eC (.int 1))) az)))) (ai (ky (oLst (ai (md mh (cW (aj 0) (eC (.int 0)))) az))) az)))) az)))
 fQ)
 (bA (ug (eT (eV nD (aF cA 1 (ai (aj 1) az)) (eC (.int 1)))) (aF (λ_=>none) 2 (ai (aj 1) (ai (aj 0) az))) (aF dO 2 (ai (aj 0) (ai (aj 1) az))))))
def lO:Fn:=bY 0 jr
def iD:cZ AV:=(aK (fZ (eT (eV nD (aF cA 1 (ai (aj 0) az)) (eC (.int 1)))) (bA (aF bD 1 (ai (aF cS 3 (ai (aj 1) (ai (ky (oLst (ai (eC (.int 0)) (ai (cW (aj 0) (eC (.int 1))) az)))) (ai (ky (oLst (ai (md mh (cW (aj 0) (eC (.int 0)))) az))) az)))) az)))
 fQ)
 (bA (ug (eT (eV nD (aF cA 1 (ai (aj 1) az)) (eC (.int 1)))) (aF lO 2 (ai (aj 1) (ai (aj 0) az))) (aF dO 2 (ai (aj 0) (ai (aj 1) az))))))
def iE:Fn:=bY 0 iD
def js:cZ AV:=(bA (aF bD 1 (ai (aF cS 3 (ai (aj 0) (ai (ky (oLst (ai (eC (.int 0)) (ai (md mh (eC (.int 1))) az)))) (ai (ky (oLst (ai (eC (.int 1)) az))) az)))) az)))
def lP:Fn:=bY 0 js
def kb:cZ AV:=(bA (aF bD 1 (ai (aF cS 3 (ai (aj 0) (ai (ky (oLst (ai (eC (.int 1)) az))) (ai (ky (oLst (ai (eC (.int 0)) (ai (eC (.int 1)) az)))) az)))) az)))
def mK:Fn:=bY 0 kb
def yq:cZ AV:=(bA (aF gb 3 (ai (NB (aj 0)) (ai (zR (aj 0)) (ai (aj 1) az)))))
def vh:Fn:=bY 0 yq
def jt:cZ AV:=(bA (fK (ai (aF Bb 2 (ai (bh (aj 0) (eC (.int 0))) (ai (bh (aj 1) (eC (.int 0))) az))) (ai (aF Bb 2 (ai (bh (aj 0) (eC (.int 1))) (ai (bh (aj 1) (eC (.int 1))) az))) az))))
def lQ:Fn:=bY 0 jt
def eg:cZ AV:=(aK (aY 2 (aF eN 1 (ai (aj 0) az)))
 (aK (aY 3 (aF eN 1 (ai (aj 1) az)))
 (aK (aY 4 (ky (oLst (ai (bu Int.mul eK (bh (aj 2) (eC (.int 0))) (bh (aj 3) (eC (.int 0)))) (ai (bu Int.mul eK (bh (aj 2) (eC (.int 0))) (bh (aj 3) (eC (.int 1)))) (ai (bu Int.mul eK (bh (aj 2) (eC (.int 1))) (bh (aj 3) (eC (.int 0)))) (ai (bu Int.mul eK (bh (aj 2) (eC (.int 1))) (bh (aj 3) (eC (.int 1)))) az)))))))
 (aK (aY 5 (bu Int.mul eK (bh (aj 2) (eC (.int 2))) (bh (aj 3) (eC (.int 2)))))
 (bA (fK (ai (aF df 2 (ai (QK (ai (aj 4) az)) (ai (aj 5) az))) (ai (aF df 2 (ai (Lj (ai (aj 4) az)) (ai (aj 5) az))) az))))))))
def ek:Fn:=bY 4 eg
def lR:cZ AV:=(aK (aY 1 (bh (zR (aj 0)) (eC (.int 0))))
 (aK (aY 2 (bh (zR (aj 0)) (eC (.int 1))))
 (bA (V9 (ai (aF lP 1 (ai (NB (aj 0)) az)) (ai (fK (ai (fK (ai (md mh (bh (aj 2) (eC (.int 0)))) (ai (bh (aj 2) (eC (.int 1))) az))) (ai (fK (ai (md mh (bh (aj 1) (eC (.int 0)))) (ai (bh (aj 1) (eC (.int 1))) az))) az))) (ai (aF fT 1 (ai (aj 0) az)) az)))))))
def jY:Fn:=bY 2 lR
def eS:cZ AV:=(aK (aY 1 (zR (aj 0)))
 (aK (aY 2 (fK (ai (eC (.int 1)) (ai (eC (.int 16)) az))))
 (aK (CM (eT (eV La (bu Int.mul eK (aF iy 1 (ai (bh (bh (aj 1) (eC (.int 0))) (eC (.int 0))) az)) (aF iy 1 (ai (bh (bh (aj 1) (eC (.int 1))) (eC (.int 0))) az))) (eC (.int 1))))
 (aK (aY 1 (aF vh 2 (ai (aj 0) (ai (aj 2) az))))
 (aY 2 (aF ka 2 (ai (aj 2) (ai (aj 2) az))))))
 (bA (aj 1)))))
def gU:Fn:=bY 2 eS
def m_:cZ ir:=(aK (fZ (eT (eV nD (aF cY 1 (ai (aj 0) az)) (eC (.int 0)))) (nI 0)
 fQ)
 (aK (aY 1 (aF gU 1 (ai (aj 0) az)))
 (aK (aY 2 (bh (aj 1) (eC (.int 0))))
 (aK (aY 3 (bh (aj 1) (eC (.int 1))))
 (aK (aY 4 (fK (ai (aF df 2 (ai (bh (aj 3) (eC (.int 1))) (ai (bh (aj 3) (eC (.int 0))) az))) (ai (aF df 2 (ai (bh (aj 2) (eC (.int 1))) (ai (bh (aj 2) (eC (.int 0))) az))) az))))
 (du .ret (V9 (ai (aF mK 1 (ai (NB (aj 0)) az)) (ai (aj 4) (ai (aF fT 1 (ai (aj 0) az)) az))))))))))
def nc:vT:=oU 4 m_
def kc:cZ AV:=(aK (fZ (eT (eV ltI (aj 0) (bu (λi j=>i^j.toNat) QD (eC (.int 10)) (eC (.int 64))))) (bA (x5 (ai (aj 0) az)))
 fQ)
 (aK (aY 1 (eC (.int 64)))
 (aK (aY 2 (bu (λi j=>i^j.toNat) QD (eC (.int 10)) (eC (.int 64))))
 (aK (CM (eT (eV K' (bu Int.mul eK (aj 2) (aj 2)) (aj 0)))
 (aK (aY 1 (bu Int.mul eK (eC (.int 2)) (aj 1)))
 (aY 2 (bu Int.mul eK (aj 2) (aj 2)))))
 (bA (gy Int.add (aF (λ_=>none) 1 (ai (bu Int.fdiv uf (aj 0) (aj 2)) az)) (AZ (aF (λ_=>none) 1 (ai (bu Int.fmod uf (aj 0) (aj 2)) az)) (ai (aj 1) az))))))))
def ke:Fn:=bY 2 kc
def ig:cZ AV:=(aK (fZ (eT (eV ltI (aj 0) (bu (λi j=>i^j.toNat) QD (eC (.int 10)) (eC (.int 64))))) (bA (x5 (ai (aj 0) az)))
 fQ)
 (aK (aY 1 (eC (.int 64)))
 (aK (aY 2 (bu (λi j=>i^j.toNat) QD (eC (.int 10)) (eC (.int 64))))
 (aK (CM (eT (eV K' (bu Int.mul eK (aj 2) (aj 2)) (aj 0)))
 (aK (aY 1 (bu Int.mul eK (eC (.int 2)) (aj 1)))
 (aY 2 (bu Int.mul eK (aj 2) (aj 2)))))
 (bA (gy Int.add (aF ke 1 (ai (bu Int.fdiv uf (aj 0) (aj 2)) az)) (AZ (aF ke 1 (ai (bu Int.fmod uf (aj 0) (aj 2)) az)) (ai (aj 1) az))))))))
def gg:Fn:=bY 2 ig
def ju:cZ AV:=(bA (xZ (ug (eT (eV ltI (aj 0) (eC (.int 0)))) (eC (.str ⟨⟨[45]⟩⟩)) (eC (.str ⟨⟨[]⟩⟩))) (aF gg 1 (ai (yZ (ai (aj 0) az)) az))))
def jv:Fn:=bY 0 ju
def kQ:cZ AV:=(aK (aY 1 (aF jv 1 (ai (bh (aj 0) (eC (.int 0))) az)))
 (bA (ug (eT (eV nD (bh (aj 0) (eC (.int 1))) (eC (.int 1)))) (aj 1) (xZ (xZ (aj 1) (eC (.str ⟨⟨[47]⟩⟩))) (aF gg 1 (ai (bh (aj 0) (eC (.int 1))) az))))))
def om:Fn:=bY 1 kQ
def qr:cZ AV:=(aK (aY 2 (aF iC 2 (ai (aj 0) (ai (aF ia 2 (ai (eC (.int 10)) (ai (aj 1) az))) az))))
 (aK (aY 3 (AZ (aF gg 1 (ai (yZ (ai (aj 2) az)) az)) (ai (gy Int.add (aj 1) (eC (.int 1))) az)))
 (aK (aY 4 (gy Int.sub (x4 (ai (aj 3) az)) (aj 1)))
 (aK (aY 5 (ug (eT (eV BV (aj 1) (eC (.int 0)))) (eC (.str ⟨⟨[46]⟩⟩)) (eC (.str ⟨⟨[]⟩⟩))))
 (bA (xZ (xZ (xZ (ug (eT (eV ltI (aj 2) (eC (.int 0)))) (eC (.str ⟨⟨[45]⟩⟩)) (eC (.str ⟨⟨[]⟩⟩))) (L6 (aj 3) Nz (GZ (aj 4)))) (aj 5)) (L6 (aj 3) (GZ (aj 4)) Nz)))))))
def vi:Fn:=bY 4 qr
def dz:cZ AV:=(aK (aY 2 (aj 1))
 (aK (CM (yY (eT (eV ltI (aj 2) (x4 (ai (aj 0) az)))) (eT (L7 (WJ (aj 0) (aj 2)))))
 (aY 2 (gy Int.add (aj 2) (eC (.int 1)))))
 (bA (aj 2))))
def cE:Fn:=bY 1 dz
def dA:cZ ir:=(aK (aY 3 (L6 (aj 0) (GZ (aj 1)) (GZ (aj 2))))
 (aK (aY 4 (CF (mi (aj 3) (ai (eC (.str ⟨⟨[48]⟩⟩)) az)) (L5 (aj 3) (eC (.str ⟨⟨[48]⟩⟩)))))
 (aK (fZ (Oi (eT (kn (aj 3) (eC (.str ⟨⟨[]⟩⟩)))) (Oi (eT (eV BV (x4 (ai (aj 3) az)) (eC (.int 12)))) (nF (aj 4)))) (AX (aj 1))
 fQ)
 (du .ret (L8 (ai (aj 3) az))))))
def cF:vT:=oU 2 dA
def jw:cZ ir:=(aK (aY 3 (mi (aj 0) (ai (eC (.str ⟨⟨[120]⟩⟩)) (ai (aj 2) az))))
 (aK (fZ (yY (nF (aj 3)) (eT (eV nD (aj 1) (aj 2)))) (du .ret (eC (.int 1)))
 fQ)
 (aK (aY 4 (da cF 3 (ai (aj 0) (ai (aj 1) (ai (aj 2) az)))))
 (aK (fZ (Oi (eT (eV nD (aj 4) (eC (.int 0)))) (yY (nF (aj 3)) (eT (eV nD (aj 4) (eC (.int 1)))))) (AX (aj 1))
 fQ)
 (du .ret (aj 4))))))
def lS:vT:=oU 2 jw
def oo:cZ ir:=(aK (fZ (xD (eT (mi (aj 0) (ai (eC (.str ⟨⟨[120]⟩⟩)) (ai (aj 1) az))))) (du .ret (fK (ai (eC (.int 0)) (ai (aj 1) az))))
 fQ)
 (aK (fZ (xD (eT (mi (aj 0) (ai (eC (.str ⟨⟨[94]⟩⟩)) (ai (gy Int.add (aj 1) (eC (.int 1))) az))))) (du .ret (fK (ai (eC (.int 1)) (ai (gy Int.add (aj 1) (eC (.int 1))) az))))
 fQ)
 (aK (aY 2 (gy Int.add (aj 1) (eC (.int 2))))
 (aK (aY 3 (aF cE 2 (ai (aj 0) (ai (aj 2) az))))
 (aK (aY 4 (da cF 3 (ai (aj 0) (ai (aj 2) (ai (aj 3) az)))))
 (aK (fZ (Oi (eT (eV ltI (aj 4) (eC (.int 2)))) (eT (eV BV (aj 4) (eC (.int 12))))) (AX (aj 2))
 fQ)
 (du .ret (fK (ai (aj 4) (ai (aj 3) az))))))))))
def sd:vT:=oU 3 oo
def qu:cZ ir:=(aK (aY 3 (aF cE 2 (ai (aj 0) (ai (aj 1) az))))
 (aK (aY 4 (da lS 3 (ai (aj 0) (ai (aj 1) (ai (aj 3) az)))))
 (aK (aY 5 (da sd 2 (ai (aj 0) (ai (aj 3) az))))
 (aK (fZ (eT (eV UO (bh (aj 5) (eC (.int 0))) (aj 2))) (AX (aj 1))
 fQ)
 (du .ret (fK (ai (aj 4) (ai (bh (aj 5) (eC (.int 0))) (ai (bh (aj 5) (eC (.int 1))) az)))))))))
def vj:vT:=oU 3 qu
def qv:cZ ir:=(aK (aY 2 (L6 (aj 0) (GZ (aj 1)) (GZ (gy Int.add (aj 1) (eC (.int 3))))))
 (aK (fZ (eT (Mc (aj 2) (fK (ai (eC (.str ⟨⟨[32,43,32]⟩⟩)) (ai (eC (.str ⟨⟨[32,45,32]⟩⟩)) az))))) (AX (aj 1))
 fQ)
 (du .ret (kn (aj 2) (eC (.str ⟨⟨[32,45,32]⟩⟩))))))
def vk:vT:=oU 1 qv
def Be:cZ ir:=(aK (fZ (eT (kn (aj 0) (eC (.str ⟨⟨[48]⟩⟩)))) (du .ret (ky (oLst az)))
 fQ)
 (aK (px 1 (Om (ky (oLst (ai (eC (.int 0)) az))) (gy Int.add (eC (.int 12)) (eC (.int 1)))))
 (aK (aY 2 (mi (aj 0) (ai (eC (.str ⟨⟨[45]⟩⟩)) az)))
 (aK (aY 3 (ug (nF (aj 2)) (eC (.int 1)) (eC (.int 0))))
 (aK (aY 4 (gy Int.add (eC (.int 12)) (eC (.int 1))))
 (CM (nF (eC (.bl true)))
 (aK (aY 5 (da vj 3 (ai (aj 0) (ai (aj 3) (ai (aj 4) az)))))
 (aK (aY 4 (bh (aj 5) (eC (.int 1))))
 (aK (IW 1 (aj 4) (ug (nF (aj 2)) (md mh (bh (aj 5) (eC (.int 0)))) (bh (aj 5) (eC (.int 0)))))
 (aK (fZ (eT (eV nD (bh (aj 5) (eC (.int 2))) (x4 (ai (aj 0) az)))) (du .ret (aF jT 1 (ai (aj 1) az)))
 fQ)
 (aK (aY 2 (da vk 2 (ai (aj 0) (ai (bh (aj 5) (eC (.int 2))) az))))
 (aY 3 (gy Int.add (bh (aj 5) (eC (.int 2))) (eC (.int 3)))))))))))))))
def Fs:vT:=oU 5 Be
def oq:cZ ir:=(aK (fZ (xD (eT (mi (aj 0) (ai (eC (.str ⟨⟨[47]⟩⟩)) (ai (aj 1) az))))) (du .ret (fK (ai (eC (.int 1)) (ai (aj 1) az))))
 fQ)
 (aK (aY 3 (gy Int.add (aj 1) (eC (.int 1))))
 (aK (aY 4 (aF cE 2 (ai (aj 0) (ai (aj 3) az))))
 (aK (aY 5 (da cF 3 (ai (aj 0) (ai (aj 3) (ai (aj 4) az)))))
 (aK (fZ (Oi (eT (eV ltI (aj 5) (eC (.int 2)))) (eT (eV La (aF bP 2 (ai (aj 2) (ai (aj 5) az))) (eC (.int 1))))) (AX (aj 3))
 fQ)
 (du .ret (fK (ai (aj 5) (ai (aj 4) az)))))))))
def se:vT:=oU 3 oq
def kR:cZ ir:=(aK (aY 1 (mi (aj 0) (ai (eC (.str ⟨⟨[45]⟩⟩)) az)))
 (aK (aY 2 (ug (nF (aj 1)) (eC (.int 1)) (eC (.int 0))))
 (aK (aY 3 (aF cE 2 (ai (aj 0) (ai (aj 2) az))))
 (aK (aY 4 (da cF 3 (ai (aj 0) (ai (aj 2) (ai (aj 3) az)))))
 (aK (fZ (yY (nF (aj 1)) (eT (eV nD (aj 4) (eC (.int 0))))) (AX (aj 2))
 fQ)
 (aK (aY 5 (da se 3 (ai (aj 0) (ai (aj 3) (ai (aj 4) az)))))
 (aK (fZ (eT (eV La (bh (aj 5) (eC (.int 1))) (x4 (ai (aj 0) az)))) (AX (bh (aj 5) (eC (.int 1))))
 fQ)
 (du .ret (fK (ai (ug (nF (aj 1)) (md mh (aj 4)) (aj 4)) (ai (bh (aj 5) (eC (.int 0))) az)))))))))))
def ou:vT:=oU 5 kR
def Bf:cZ AV:=(aK (fZ (eT (S' jR (aj 0))) (aK (aY 2 (bh (C7 jR (aj 0)) (eC (.int 0))))
 (aK (aY 3 (bh (C7 jR (aj 0)) (eC (.int 1))))
 (bA (eIn (aj 1) (ky (mV 1 [] (QN (ai (aj 2) (ai (gy Int.add (aj 3) (eC (.int 1))) az))) (gN 0) (x5 (ai (aj 0) az))))))))
 fQ)
 (aK (fZ (Oi (eT (kn (aj 0) (eC (.str ⟨⟨[110,101,119]⟩⟩)))) (eT (kn (aj 0) (eC (.str ⟨⟨[104,101,108,100]⟩⟩))))) (bA (CF (eV nD (x4 (ai (aj 1) az)) (eC (.int 1))) (HF (eC (.str ⟨⟨[97]⟩⟩)) (aj 1) (eC (.str ⟨⟨[122]⟩⟩)))))
 fQ)
 (bA (eC (.bl true)))))
def Ft:Fn:=bY 2 Bf
def ow:cZ ir:=(aK (aY 1 (bh (Ra (aj 0) (ai (eC (.str ⟨⟨[32]⟩⟩)) az)) (eC (.int 0))))
 (aK (fZ (eT (HD m7 (aj 1))) (nI 4)
 fQ)
 (aK (aY 2 (C7 m7 (aj 1)))
 (aK (aY 3 (ug (eT (kn (bh (aj 2) (md mh (eC (.int 1)))) (eC (.str ⟨⟨[112,111,108,121]⟩⟩)))) (ky (HE (aj 0) (ai (eC (.str ⟨⟨[32]⟩⟩)) (ai (kz (ai (aj 2) az)) az)))) (ky (Mf (aj 0) (ai (eC (.str ⟨⟨[32]⟩⟩)) az)))))
 (aK (fZ (eT (eV La (kz (ai (aj 3) az)) (gy Int.add (kz (ai (aj 2) az)) (eC (.int 1))))) (nI 4)
 fQ)
 (aK (fZ (xD (eT (WM (ai (ky (mV 2 [] (Tb (ai (aj 2) (ai (ky (QJ (aj 3) (GZ (eC (.int 1))) Nz)) az))) (IV 0 1) (aF Ft 2 (ai (aj 0) (ai (aj 1) az))))) az)))) (nI 4)
 fQ)
 (du .ret (aj 3))))))))
def sh:vT:=oU 3 ow
def Bg:cZ AV:=(aK (fZ (eT (kn (aj 0) (eC (.str ⟨⟨[99,111,117,110,116]⟩⟩)))) (bA (x5 (ai (kz (ai (aF lN 1 (ai (cW (aj 1) (eC (.int 0))) az)) az)) az)))
 fQ)
 (aK (fZ (eT (kn (aj 0) (eC (.str ⟨⟨[99,111,109,112,97,114,101]⟩⟩)))) (bA (x5 (ai (aF rY 2 (ai (cW (aj 1) (eC (.int 0))) (ai (cW (aj 1) (eC (.int 1))) az))) az)))
 fQ)
 (aK (fZ (eT (kn (aj 0) (eC (.str ⟨⟨[115,105,103,110]⟩⟩)))) (bA (x5 (ai (aF cY 1 (ai (cW (aj 1) (eC (.int 0))) az)) az)))
 fQ)
 (aK (fZ (eT (kn (aj 0) (eC (.str ⟨⟨[102,108,111,111,114]⟩⟩)))) (bA (aF jv 1 (ai (aF rZ 1 (ai (cW (aj 1) (eC (.int 0))) az)) az)))
 fQ)
 (aK (fZ (eT (kn (aj 0) (eC (.str ⟨⟨[100,101,99,105,109,97,108]⟩⟩)))) (bA (aF vi 2 (ai (cW (aj 1) (eC (.int 0))) (ai (cW (aj 1) (eC (.int 1))) az))))
 fQ)
 (aK (aY 2 (aF bz 1 (ai (cW (aj 1) (eC (.int 0))) az)))
 (bA (ug (eT (Lb (aj 2))) (eC (.str ⟨⟨[110,111,110,101]⟩⟩)) (aF om 1 (ai (aj 2) az))))))))))
def Fu:Fn:=bY 1 Bg
def eU:cZ ir:=(aK (aY 1 (da Fs 1 (ai (aj 0) az)))
 (aK (fZ (xD (nF (aj 1))) (nI 1)
 fQ)
 (du .ret (aj 1))))
def gW:vT:=oU 1 eU
end lX
namespace lX
open PySem PyProof.Rows L2 SF CV
section
variable {P:Program} {w:World} {K:PySem.W.Frag} {mg:Str->Option Value} {base:Heap} {C fI fB:Addr} {fd uk:FuncData} {a:Ad}
theorem O7 (D:aU K mg "sign" E_ ["number"]):bo P w K mg base 34 "sign" ["number"] (aM K C iy 1):=by
 refine D.ok OZ (λvs H Q E h=>aP h) (λf bH A outer s H vs Q E hr h=>?_);refine⟨_,(ag (bj (aG i5 (pv 0) ak (aN _))
  (aq (aC (cQ bU ak)))
  aO)
  (aq (aC (bW (aG jE (pv 0) ak (aN _)) ak ak)))),?_⟩;exact bb (s:=nY) (n:=0) (au (br (aQ (nE ae av)) (aV (fq av))
  bt)
  (aV (jK (aQ (qE ae av)) av av))) rfl h
theorem Mw(hT:P.given.tree=none)(D:aU K mg "power" A4 ["number","many"]):bo P w K mg base 34 "power" ["number","many"] (aM K C ia 2):=by
 refine D.ok lA (λvs H Q E h=>aP h) (λf bH A outer s H vs Q E hr h=>?_);refine⟨_,(ag (aw (i:=2) lA.nd rfl (Or.inl rfl) ak)
  (ag (aw (i:=3) lA.nd rfl (Or.inl rfl) (pv 0))
  (ag (aw (i:=4) lA.nd rfl (Or.inl rfl) (pv 1))
  (ag (dj PassesOwn.never (aG jE (pv 4) ak (aN _))
  (ag (bj (aG bI (aH iH (pv 4) ak) ak (aN _))
  (aq (aw (i:=2) lA.nd rfl (Or.inl rfl) (aH aT (pv 2) (pv 3))))
  aO)
  (ag (aw (i:=4) lA.nd rfl (Or.inl rfl) (aH (cV ⟨hT,⟨_,_,rfl,rfl,rfl,rfl,rfl⟩,hr.py⟩) (pv 4) ak))
  (aq (bj (aG jE (pv 4) ak (aN _))
  (aq (aw (i:=3) lA.nd rfl (Or.inl rfl) (aH aT (pv 3) (pv 3))))
  aO)))))
  (aq (aC (pv 2))))))),?_⟩;exact bb (s:=nZ) (n:=3) (au (aA av)
  (au (aA ae)
  (au (aA ae)
  (au (kG (aQ (qE ae av))
  (au (br (aQ (s_eq (CB ae av) av)) (aA (bq ae ae))
  bt)
  (au (aA (i8 ae av))
  (br (aQ (qE ae av)) (aA (bq ae ae))
  bt))))
  (aV ae))))) rfl h
theorem Mx(hT:P.given.tree=none)(cG:bo P w K mg base 34 "common_divisor" ["one","other"] (aM K C bP 2))(D:aU K mg "ratio" A5 ["top","under"]):bo P w K mg base 35 "ratio" ["top","under"] (aM K C df 2):=by
 refine D.ok x8 (λvs H Q E h=>aP h) (λf bH A outer s H vs Q E hr h=>?_);refine⟨_,(ag (bj (aG bI (pv 1) ak (aN _))
  (aq dQ)
  aO)
  (ag (aw (i:=2) x8.nd rfl (Or.inl rfl) (aB cG hr (aa (pv 0) (aa (pv 1) ah))))
  (ag (bj (aG i5 (pv 1) ak (aN _))
  (aq (aw (i:=2) x8.nd rfl (Or.inl rfl) (cQ bU (pv 2))))
  aO)
  (aq (aC (bV (aa (aH (cV ⟨hT,⟨_,_,rfl,rfl,rfl,rfl,rfl⟩,hr.py⟩) (pv 0) (pv 2)) (aa (aH (cV ⟨hT,⟨_,_,rfl,rfl,rfl,rfl,rfl⟩,hr.py⟩) (pv 1) (pv 2)) ah)))))))),?_⟩;exact bb (s:=iJ) (n:=1) (au (br (aQ (s_eq ae av)) CN
  bt)
  (au (aA (s_call (af ae (af ae ao))))
  (au (br (aQ (nE ae av)) (aA (fq ae))
  bt)
  (aV (de (af (i8 ae ae) (af (i8 ae ae) ao))))))) rfl h
theorem O8(dG:bo P w K mg base 35 "ratio" ["top","under"] (aM K C df 2))(D:aU K mg "plus" Fb ["one","other"]):bo P w K mg base 36 "plus" ["one","other"] (aM K C Bb 2):=by
 refine D.ok O0 (λvs H Q E h=>aP h) (λf bH A outer s H vs Q E hr h=>?_);refine⟨_,(aq (aC (aB dG hr (aa (aH bF (aH aT (aD aL (pv 0) ak (λ_ _=>rfl)) (aD aL (pv 1) ak (λ_ _=>rfl))) (aH aT (aD aL (pv 1) ak (λ_ _=>rfl)) (aD aL (pv 0) ak (λ_ _=>rfl)))) (aa (aH aT (aD aL (pv 0) ak (λ_ _=>rfl)) (aD aL (pv 1) ak (λ_ _=>rfl))) ah))))),?_⟩;exact bb (s:=Ba) (n:=0) (aV (s_call (af (cC (bq (aS ae av) (aS ae av)) (bq (aS ae av) (aS ae av))) (af (bq (aS ae av) (aS ae av)) ao)))) rfl h
theorem My(dG:bo P w K mg base 35 "ratio" ["top","under"] (aM K C df 2))(D:aU K mg "times" A6 ["one","other"]):bo P w K mg base 36 "times" ["one","other"] (aM K C ka 2):=by
 refine D.ok Mo (λvs H Q E h=>aP h) (λf bH A outer s H vs Q E hr h=>?_);refine⟨_,(aq (aC (aB dG hr (aa (aH aT (aD aL (pv 0) ak (λ_ _=>rfl)) (aD aL (pv 1) ak (λ_ _=>rfl))) (aa (aH aT (aD aL (pv 0) ak (λ_ _=>rfl)) (aD aL (pv 1) ak (λ_ _=>rfl))) ah))))),?_⟩;exact bb (s:=qk) (n:=0) (aV (s_call (af (bq (aS ae av) (aS ae av)) (af (bq (aS ae av) (aS ae av)) ao)))) rfl h
theorem Jp(dG:bo P w K mg base 35 "ratio" ["top","under"] (aM K C df 2))(D:aU K mg "middle" x9 ["one","other"]):bo P w K mg base 36 "middle" ["one","other"] (aM K C yk 2):=by
 refine D.ok Jl (λvs H Q E h=>aP h) (λf bH A outer s H vs Q E hr h=>?_);refine⟨_,(aq (aC (aB dG hr (aa (aH bF (aH aT (aD aL (pv 0) ak (λ_ _=>rfl)) (aD aL (pv 1) ak (λ_ _=>rfl))) (aH aT (aD aL (pv 1) ak (λ_ _=>rfl)) (aD aL (pv 0) ak (λ_ _=>rfl)))) (aa (aH aT (aH aT ak (aD aL (pv 0) ak (λ_ _=>rfl))) (aD aL (pv 1) ak (λ_ _=>rfl))) ah))))),?_⟩;exact bb (s:=tI) (n:=0) (aV (s_call (af (cC (bq (aS ae av) (aS ae av)) (bq (aS ae av) (aS ae av))) (af (bq (bq av (aS ae av)) (aS ae av)) ao)))) rfl h
theorem Dj(jx:bo P w K mg base 34 "sign" ["number"] (aM K C iy 1))(D:aU K mg "order_of" q_ ["one","other"]):bo P w K mg base 35 "order_of" ["one","other"] (aM K C e_ 2):=by
 refine D.ok C9 (λvs H Q E h=>aP h) (λf bH A outer s H vs Q E hr h=>?_);refine⟨_,(aq (aC (aB jx hr (aa (aH dI (aH aT (aD aL (pv 0) ak (λ_ _=>rfl)) (aD aL (pv 1) ak (λ_ _=>rfl))) (aH aT (aD aL (pv 1) ak (λ_ _=>rfl)) (aD aL (pv 0) ak (λ_ _=>rfl)))) ah)))),?_⟩;exact bb (s:=jS) (n:=0) (aV (s_call (af (fP (bq (aS ae av) (aS ae av)) (bq (aS ae av) (aS ae av))) ao))) rfl h
theorem Fv(T:Nm mg)(D:aU K mg "trimmed" uO ["row"]):bo P w K mg base 34 "trimmed" ["row"] (aM K C jT 1):=by
 refine D.ok rh (λvs H Q E h=>aP h) (λf bH A outer s H vs Q E hr h=>?_);refine⟨_,(ag (aw (i:=1) rh.nd rfl (Or.inl rfl) (ba bg rfl T.dF boot_len (aa (pv 0) ah)))
  (ag (dj PassesOwn.never (PW.pt (mB (aG jE (pv 1) ak (aN _)) (j4 (aG bI (aD aZ (pv 0) (aH dI (pv 1) ak) (λ_ _=>rfl)) ak (aN _)))))
  (aq (aw (i:=1) rh.nd rfl (Or.inl rfl) (aH dI (pv 1) ak))))
  (aq (aC (gK nA (pv 0) kJ (hU (pv 1))))))),?_⟩;exact bb (s:=kY) (n:=1) (au (aA (gE (af ae ao)))
  (au (kG (sQ (aQ (qE ae av)) (aQ (s_eq (bM ae (fP ae av)) av)))
  (aA (fP ae av)))
  (aV (dR (EF ae sR (mU ae)))))) rfl h
theorem Jq(T:Nm mg)(D:aU K mg "degree" x_ ["poly"]):bo P w K mg base 34 "degree" ["poly"] (aM K C cA 1):=by
 refine D.ok Jm (λvs H Q E h=>aP h) (λf bH A outer s H vs Q E hr h=>?_);refine⟨_,(aq (aC (aH dI (ba bg rfl T.dF boot_len (aa (pv 0) ah)) ak))),?_⟩;exact bb (s:=gQ) (n:=0) (aV (fP (gE (af ae ao)) av)) rfl h
end
section
variable {P:Program} {w:World} {K:PySem.W.Frag} {mg:Str->Option Value} {base:Heap} {C fI fB:Addr} {fd uk:FuncData} {a:Ad}
theorem Mz(T:Nm mg)(ng:bo P w K mg base 34 "trimmed" ["row"] (aM K C jT 1))(D:aU K mg "added" A7 ["one","other"]):bo P w K mg base 35 "added" ["one","other"] (aM K C Bc 2):=by
 refine D.ok tx (λvs H Q E h=>aP h) (λf bH A outer s H vs Q E hr h=>?_);refine⟨_,(ag (aw (i:=2) tx.nd rfl (Or.inl rfl) (aH xq (pv 0) (aH Ep (bN (aa ak ah)) (aH dI (ba bg rfl T.dF boot_len (aa (pv 1) ah)) (ba bg rfl T.dF boot_len (aa (pv 0) ah))))))
  (ag (eB PassesOwn.never rfl (nB rfl T.gP (aa (pv 1) ah)) (qP rfl (bZ (bp (i:=3) tx.nd rfl (Or.inl rfl)) (bZ (bp (i:=4) tx.nd rfl (Or.inl rfl)) g_)))
  (aq (uq (aH bF (aD aZ (pv 2) (pv 3) (λ_ _=>rfl)) (pv 4)) (xi (pv 2) (pv 3) set_list))))
  (aq (aC (aB ng hr (aa (pv 2) ah)))))),?_⟩;exact bb (s:=wX) (n:=3) (au (ix (Lf ae (dR (Lg (dR (dq (af av ao))) (fP (gE (af ae ao)) (gE (af ae ao)))))))
  (au (eY (xJ (af ae ao)) pw
  (xM ae (cC (qK ae) ae)))
  (aV (s_call (af ae ao))))) rfl h
theorem za(T:Nm mg)(D:aU K mg "multiplied" nJ ["one","other"]):bo P w K mg base 34 "multiplied" ["one","other"] (aM K C ib 2):=by
 refine D.ok gp (λvs H Q E h=>aP h) (λf bH A outer s H vs Q E hr h=>?_);refine⟨_,(ag (bj (PW.pt (oH (lj (cU (pv 0) (λ_=>rfl))) (lh (lj (cU (pv 1) (λ_=>rfl))))))
  (aq (aC (bN ah)))
  aO)
  (ag (aw (i:=2) gp.nd rfl (Or.inl rfl) (aH Ep (bN (aa ak ah)) (aH dI (aH bF (ba bg rfl T.dF boot_len (aa (pv 0) ah)) (ba bg rfl T.dF boot_len (aa (pv 1) ah))) ak)))
  (ag (eB PassesOwn.never rfl (nB rfl T.gP (aa (pv 0) ah)) (qP rfl (bZ (bp (i:=3) gp.nd rfl (Or.inl rfl)) (bZ (bp (i:=4) gp.nd rfl (Or.inl rfl)) g_)))
  (aq (eB PassesOwn.never rfl (nB rfl T.gP (aa (pv 1) ah)) (qP rfl (bZ (bp (i:=5) gp.nd rfl (Or.inl rfl)) (bZ (bp (i:=6) gp.nd rfl (Or.inl rfl)) g_)))
  (aq (uq (aH bF (aD aZ (pv 2) (aH bF (pv 3) (pv 5)) (λ_ _=>rfl)) (aH aT (pv 4) (pv 6))) (xi (pv 2) (aH bF (pv 3) (pv 5)) set_list))))))
  (aq (aC (pv 2)))))),?_⟩;exact bb (s:=je) (n:=5) (au (br (CG (qJ (jF ae)) (qJ (jF ae))) (aV (dR (dq ao)))
  bt)
  (au (ix (Lg (dR (dq (af av ao))) (fP (cC (gE (af ae ao)) (gE (af ae ao))) av)))
  (au (eY (xJ (af ae ao)) pw
  (eY (xJ (af ae ao)) pw
  (xM (cC ae ae) (cC (qK (cC ae ae)) (bq ae ae)))))
  (aV ae)))) rfl h
theorem Jr (D:aU K mg "scaled" ya ["poly","factor"]):bo P w K mg base 34 "scaled" ["poly","factor"] (aM K C ym 2):=by
 refine D.ok Jn (λvs H Q E h=>aP h) (λf bH A outer s H vs Q E hr h=>?_);refine⟨_,(ag (bj (aG bI (pv 1) ak (aN _))
  (aq (aC (bN ah)))
  aO)
  (aq (aC (j6 rfl rfl (iL (own:=["number"]) (fr:=[1]) (fs:=["factor"]) (by with_unfolding_all rfl) rfl (by decide +kernel) (by decide +kernel) (by exact⟨rfl,trivial⟩) (by with_unfolding_all rfl) (by exact⟨⟨rfl,rfl,rfl,Or.inl rfl⟩,trivial⟩)) (iZ (pv 0)) (λ_ _ _ _ _=>(bp (i:=0) (show List.Nodup (["number","factor"]:List Str) by decide +kernel) rfl (Or.inl rfl) (Or.inr rfl))) (λ_ _ _ _ _=>(aH aT (pv 0) (pv 1))))))),?_⟩;exact bb (s:=tJ) (n:=0) (au (br (aQ (s_eq ae av)) (aV (dR (dq ao)))
  bt)
  (aV (dR (kA rfl (mD ae) lr (bq ae ae))))) rfl h
theorem zb(T:Nm mg)(D:aU K mg "derivative" nK ["poly"]):bo P w K mg base 34 "derivative" ["poly"] (aM K C jg 1):=by
 refine D.ok y8 (λvs H Q E h=>aP h) (λf bH A outer s H vs Q E hr h=>?_);refine⟨_,(aq (aC (gK nA (j6 rfl rfl (iL (own:=["power","number"]) (fr:=[]) (fs:=[]) (by with_unfolding_all rfl) rfl (by decide +kernel) (by decide +kernel) (by exact trivial) (by with_unfolding_all rfl) (by exact trivial)) (nB rfl T.gP (aa (pv 0) ah)) (λ_ _ _ _ _=>(nC (K:=K) (n:=2) rfl rfl (bZ (bp (i:=0) (show List.Nodup (["power","number"]:List Str) by decide +kernel) rfl (Or.inl rfl) (Or.inr rfl)) (bZ (bp (i:=1) (show List.Nodup (["power","number"]:List Str) by decide +kernel) rfl (Or.inl rfl) (Or.inr rfl)) g_)) rfl rfl)) (λ_ _ _ _ _=>(aH aT (pv 0) (pv 1)))) (hU ak) kJ))),?_⟩;exact bb (s:=jf) (n:=0) (aV (dR (EF (dR (kA rfl (xJ (af ae ao)) pw (bq ae ae))) (mU av) sR))) rfl h
theorem Fw(cG:bo P w K mg base 34 "common_divisor" ["one","other"] (aM K C bP 2))(D:aU K mg "content" uP ["poly"]):bo P w K mg base 35 "content" ["poly"] (aM K C u_ 1):=by
 refine D.ok nL (λvs H Q E h=>aP h) (λf bH A outer s H vs Q E hr h=>?_);refine⟨_,(ag (aw (i:=1) nL.nd rfl (Or.inl rfl) ak)
  (ag (eB PassesOwn.never rfl (iZ (pv 0)) (bp (i:=2) nL.nd rfl (Or.inl rfl))
  (aq (aw (i:=1) nL.nd rfl (Or.inl rfl) (aB cG hr (aa (pv 1) (aa (pv 2) ah))))))
  (aq (aC (bW (PW.pt (mB (cU (pv 0) (λ_=>rfl)) (j4 (aG i5 (aD aZ (pv 0) (cQ bU ak) (λ_ _=>rfl)) ak (aN _))))) (cQ bU (pv 1)) (pv 1)))))),?_⟩;exact bb (s:=ql) (n:=2) (au (aA av)
  (au (eY (mD ae) lr
  (aA (s_call (af ae (af ae ao)))))
  (aV (jK (sQ (jF ae) (aQ (nE (bM ae (fq av)) av))) (fq ae) ae)))) rfl h
theorem Bh(hT:P.given.tree=none)(Js:bo P w K mg base 35 "content" ["poly"] (aM K C u_ 1))(D:aU K mg "primitive" pG ["poly"]):bo P w K mg base 36 "primitive" ["poly"] (aM K C bD 1):=by
 refine D.ok tD (λvs H Q E h=>aP h) (λf bH A outer s H vs Q E hr h=>?_);refine⟨_,(ag (aw (i:=1) tD.nd rfl (Or.inr rfl) (aB Js hr (aa (pv 0) ah)))
  (aq (aC (j6 rfl rfl (iL (own:=["number"]) (fr:=[1]) (fs:=["shared"]) (by with_unfolding_all rfl) rfl (by decide +kernel) (by decide +kernel) (by exact⟨rfl,trivial⟩) (by with_unfolding_all rfl) (by exact⟨⟨rfl,rfl,rfl,Or.inl rfl⟩,trivial⟩)) (iZ (pv 0)) (λ_ _ _ _ _=>(bp (i:=0) (show List.Nodup (["number","shared"]:List Str) by decide +kernel) rfl (Or.inl rfl) (Or.inr rfl))) (λ_ _ _ _ _=>(aH (cV ⟨hT,⟨_,_,rfl,rfl,rfl,rfl,rfl⟩,hr.py⟩) (pv 0) (pv 1))))))),?_⟩;exact bb (s:=di) (n:=1) (au (aA (s_call (af ae ao)))
  (aV (dR (kA rfl (mD ae) lr (i8 ae ae))))) rfl h
theorem Dk(T:Nm mg)(D:aU K mg "value_at" rj ["poly","point"]):bo P w K mg base 34 "value_at" ["poly","point"] (aM K C n4 2):=by
 refine D.ok mj (λvs H Q E h=>aP h) (λf bH A outer s H vs Q E hr h=>?_);refine⟨_,(ag (aw (i:=2) mj.nd rfl (Or.inl rfl) ak)
  (ag (eB PassesOwn.never rfl (uz rfl T.iQ (aa (pv 0) ah)) (bp (i:=3) mj.nd rfl (Or.inl rfl))
  (aq (aw (i:=2) mj.nd rfl (Or.inl rfl) (aH bF (aH aT (pv 2) (pv 1)) (pv 3)))))
  (aq (aC (pv 2))))),?_⟩;exact bb (s:=n0) (n:=2) (au (aA av)
  (au (eY (zQ (af ae ao)) lr
  (aA (cC (bq ae ae) ae)))
  (aV ae))) rfl h
theorem Jt(hT:P.given.tree=none)(D:aU K mg "spread" yb ["value","point"]):bo P w K mg base 34 "spread" ["value","point"] (aM K C yn 2):=by
 refine D.ok kW (λvs H Q E h=>aP h) (λf bH A outer s H vs Q E hr h=>?_);refine⟨_,(ag (aw (i:=2) kW.nd rfl (Or.inl rfl) (bN ah))
  (ag (aw (i:=3) kW.nd rfl (Or.inl rfl) (pv 0))
  (ag (dj PassesOwn.never (cU (pv 3) (λ_=>rfl))
  (ag (aw (i:=4) kW.nd rfl (Or.inl rfl) (aH iH (pv 3) (pv 1)))
  (ag (bj (aG jE (aH aT ak (pv 4)) (pv 1) (aN _))
  (aq (aw (i:=4) kW.nd rfl (Or.inl rfl) (aH dI (pv 4) (pv 1))))
  aO)
  (ag (gC (eJ PySem.F.plainAttrs_list PySem.F.slot_list_append PySem.F.type_list_append dh (pv 2) (aa (pv 4) ah)))
  (aq (aw (i:=3) kW.nd rfl (Or.inl rfl) (aH (cV ⟨hT,⟨_,_,rfl,rfl,rfl,rfl,rfl⟩,hr.py⟩) (aH dI (pv 3) (pv 4)) (pv 1))))))))
  (aq (aC (pv 2)))))),?_⟩;exact bb (s:=tK) (n:=3) (au (ix (dq ao))
  (au (aA ae)
  (au (kG (jF ae)
  (au (aA (CB ae ae))
  (au (br (aQ (qE (bq av ae) ae)) (aA (fP ae ae))
  bt)
  (au (lu (af ae ao))
  (aA (i8 (fP ae ae) ae))))))
  (aV ae)))) rfl h
theorem Fx(T:Nm mg)(hT:P.given.tree=none)(D:aU K mg "divided" uQ ["poly","divisor"]):bo P w K mg base 34 "divided" ["poly","divisor"] (aM K C kZ 2):=by
 refine D.ok iN (λvs H Q E h=>aP h) (λf bH A outer s H vs Q E hr h=>?_);refine⟨_,(ag (aw (i:=2) iN.nd rfl (Or.inl rfl) (fw sJ rfl T.Fq boot_list (aa (pv 0) ah)))
  (ag (aw (i:=3) iN.nd rfl (Or.inl rfl) (bN ah))
  (ag (dj PassesOwn.never (aG GK (ba bg rfl T.dF boot_len (aa (pv 2) ah)) (ba bg rfl T.dF boot_len (aa (pv 1) ah)) (aN _))
  (ag (aw (i:=4) iN.nd rfl (Or.inl rfl) (aH (cV ⟨hT,⟨_,_,rfl,rfl,rfl,rfl,rfl⟩,hr.py⟩) (aD aZ (pv 2) (cQ bU ak) (λ_ _=>rfl)) (aD aZ (pv 1) (cQ bU ak) (λ_ _=>rfl))))
  (ag (aw (i:=5) iN.nd rfl (Or.inl rfl) (aH dI (ba bg rfl T.dF boot_len (aa (pv 2) ah)) (ba bg rfl T.dF boot_len (aa (pv 1) ah))))
  (ag (eB PassesOwn.never rfl (nB rfl T.gP (aa (pv 1) ah)) (qP rfl (bZ (bp (i:=6) iN.nd rfl (Or.inl rfl)) (bZ (bp (i:=7) iN.nd rfl (Or.inl rfl)) g_)))
  (aq (uq (aH dI (aD aZ (pv 2) (aH bF (pv 5) (pv 6)) (λ_ _=>rfl)) (aH aT (pv 4) (pv 7))) (xi (pv 2) (aH bF (pv 5) (pv 6)) set_list))))
  (ag (bj (aG oJ (Ap PySem.F.plainAttrs_list PySem.F.slot_list_pop PySem.F.type_list_pop Eo (pv 2)) ak (aN _))
  (aq (aC gw))
  aO)
  (aq (gC (eJ PySem.F.plainAttrs_list PySem.F.slot_list_append PySem.F.type_list_append dh (pv 3) (aa (pv 4) ah)))))))))
  (ag (bj (ny (ba (II rfl) rfl T.WT boot_any (aa (pv 2) ah)))
  (aq (aC gw))
  aO)
  (aq (aC (Ob rfl rfl T.iQ rfl T.Fq (aa (pv 3) ah)))))))),?_⟩;exact bb (s:=m8) (n:=6) (au (ix (Ll (af ae ao)))
  (au (ix (dq ao))
  (au (kG (aQ (Og Lk (gE (af ae ao))))
  (au (aA (i8 (qK (fq av)) (bM ae (fq av))))
  (au (aA (fP Lk (gE (af ae ao))))
  (au (eY (xJ (af ae ao)) pw
  (xM (cC ae ae) (fP (qK (cC ae ae)) (bq ae ae))))
  (au (br (aQ (CD s_pop av)) (aV GU)
  bt)
  (lu (af ae ao)))))))
  (au (br (xE (V5 (af ae ao))) (aV GU)
  bt)
  (aV (dR (V3 (af ae ao)))))))) rfl h
end
section
variable {P:Program} {w:World} {K:PySem.W.Frag} {mg:Str->Option Value} {base:Heap} {C fI fB:Addr} {fd uk:FuncData} {a:Ad}
theorem Fy(T:Nm mg)(D:aU K mg "largest" uR ["poly"]):bo P w K mg base 34 "largest" ["poly"] (aM K C qo 1):=by
 refine D.ok Fc (λvs H Q E h=>aP h) (λf bH A outer s H vs Q E hr h=>?_);refine⟨_,(aq (aC (ba (zL rfl) rfl T.Mq boot_max (aa (j6 rfl rfl (iL (own:=["number"]) (fr:=[]) (fs:=[]) (by with_unfolding_all rfl) rfl (by decide +kernel) (by decide +kernel) (by exact trivial) (by with_unfolding_all rfl) (by exact trivial)) (iZ (pv 0)) (λ_ _ _ _ _=>(bp (i:=0) (show List.Nodup (["number"]:List Str) by decide +kernel) rfl (Or.inl rfl) (Or.inr rfl))) (λ_ _ _ _ _=>(ba gJ rfl T.pQ boot_abs (aa (pv 0) ah)))) ah)))),?_⟩;exact bb (s:=qm) (n:=0) (aV (Lm (af (dR (kA rfl (mD ae) lr (sS (af ae ao)))) ao))) rfl h
theorem zc(T:Nm mg)(qw:bo P w K mg base 36 "divided" ["poly","divisor"] (aM K C kZ 2))(MA:bo P w K mg base 36 "spread" ["value","point"] (aM K C yn 2))(bK:bo P w K mg base 36 "primitive" ["poly"] (aM K C bD 1))(yr:bo P w K mg base 36 "value_at" ["poly","point"] (aM K C n4 2))(cG:bo P w K mg base 36 "common_divisor" ["one","other"] (aM K C bP 2))(z8:bo P w K mg base 36 "largest" ["poly"] (aM K C qo 1))(D:aU K mg "divisor_of" nM ["one","other"]):bo P w K mg base 37 "divisor_of" ["one","other"] (aM K C ji 2):=by
 refine D.ok eZ (λvs H Q E h=>aP h) (λf bH A outer s H vs Q E hr h=>?_);refine⟨_,(ag (aw (i:=2) eZ.nd rfl (Or.inl rfl) (aB bK hr (aa (pv 0) ah)))
  (ag (aw (i:=3) eZ.nd rfl (Or.inl rfl) (aB bK hr (aa (pv 1) ah)))
  (ag (bj (lj (cU (pv 2) (λ_=>rfl)))
  (aq (aC (pv 3)))
  aO)
  (ag (bj (lj (cU (pv 3) (λ_=>rfl)))
  (aq (aC (pv 2)))
  aO)
  (ag (aw (i:=4) eZ.nd rfl (Or.inl rfl) (aH aT (aH aT ak (aH bF (ba (qf rfl) rfl T.Di boot_min (aa (aB z8 hr (aa (pv 2) ah)) (aa (aB z8 hr (aa (pv 3) ah)) ah))) ak)) (aH xj ak ak)))
  (aq (dj PassesOwn.never (cU xh (λ_=>rfl))
  (ag (aw (i:=5) eZ.nd rfl (Or.inl rfl) (aB cG hr (aa (aB yr hr (aa (pv 2) (aa (pv 4) ah))) (aa (aB yr hr (aa (pv 3) (aa (pv 4) ah))) ah))))
  (ag (aw (i:=6) eZ.nd rfl (Or.inl rfl) (aB bK hr (aa (aB MA hr (aa (pv 5) (aa (pv 4) ah))) ah)))
  (ag (bj (PW.pt (mB (aG j5 (aB qw hr (aa (pv 2) (aa (pv 6) ah))) gw (aN _)) (j4 (aG j5 (aB qw hr (aa (pv 3) (aa (pv 6) ah))) gw (aN _)))))
  (aq (aC (pv 6)))
  aO)
  (aq (aw (i:=4) eZ.nd rfl (Or.inl rfl) (aH aT (pv 4) (pv 4)))))))))))))),?_⟩;exact bb (s:=jh) (n:=5) (au (aA (s_call (af ae ao)))
  (au (aA (s_call (af ae ao)))
  (au (br (qJ (jF ae)) (aV ae)
  bt)
  (au (br (qJ (jF ae)) (aV ae)
  bt)
  (au (aA (bq (bq av (cC (EG (af (s_call (af ae ao)) (af (s_call (af ae ao)) ao))) av)) (CC av av)))
  (kG (jF EA)
  (au (aA (s_call (af (s_call (af ae (af ae ao))) (af (s_call (af ae (af ae ao))) ao))))
  (au (aA (s_call (af (s_call (af ae (af ae ao))) ao)))
  (au (br (sQ (aQ (uE (s_call (af ae (af ae ao))))) (aQ (uE (s_call (af ae (af ae ao)))))) (aV ae)
  bt)
  (aA (bq ae ae))))))))))) rfl h
theorem Dm(bK:bo P w K mg base 36 "primitive" ["poly"] (aM K C bD 1))(qw:bo P w K mg base 36 "divided" ["poly","divisor"] (aM K C kZ 2))(D:aU K mg "quotient" rk ["one","other"]):bo P w K mg base 37 "quotient" ["one","other"] (aM K C rT 2):=by
 refine D.ok C_ (λvs H Q E h=>aP h) (λf bH A outer s H vs Q E hr h=>?_);refine⟨_,(aq (aC (aB qw hr (aa (aB bK hr (aa (pv 0) ah)) (aa (aB bK hr (aa (pv 1) ah)) ah))))),?_⟩;exact bb (s:=n5) (n:=0) (aV (s_call (af (s_call (af ae ao)) (af (s_call (af ae ao)) ao)))) rfl h
theorem yt(oy:bo P w K mg base 37 "derivative" ["poly"] (aM K C jg 1))(oz:bo P w K mg base 37 "divisor_of" ["one","other"] (aM K C ji 2))(Fz:bo P w K mg base 37 "quotient" ["one","other"] (aM K C rT 2))(D:aU K mg "square_free" mF ["poly"]):bo P w K mg base 38 "square_free" ["poly"] (aM K C cO 1):=by
 refine D.ok yc (λvs H Q E h=>aP h) (λf bH A outer s H vs Q E hr h=>?_);refine⟨_,(aq (aC (aB Fz hr (aa (pv 0) (aa (aB oz hr (aa (pv 0) (aa (aB oy hr (aa (pv 0) ah)) ah))) ah))))),?_⟩;exact bb (s:=gu) (n:=0) (aV (s_call (af ae (af (s_call (af ae (af (s_call (af ae ao)) ao))) ao)))) rfl h
theorem Dn(T:Nm mg)(kS:bo P w K mg base 35 "multiplied" ["one","other"] (aM K C ib 2))(MB:bo P w K mg base 35 "scaled" ["poly","factor"] (aM K C ym 2))(O9:bo P w K mg base 35 "added" ["one","other"] (aM K C Bc 2))(D:aU K mg "composed" rm ["poly","top","under"]):bo P w K mg base 36 "composed" ["poly","top","under"] (aM K C cS 3):=by
 refine D.ok iV (λvs H Q E h=>aP h) (λf bH A outer s H vs Q E hr h=>?_);refine⟨_,(ag (aw (i:=3) iV.nd rfl (Or.inl rfl) (bN ah))
  (ag (aw (i:=4) iV.nd rfl (Or.inl rfl) (bN (aa ak ah)))
  (ag (eB PassesOwn.never rfl (uz rfl T.iQ (aa (pv 0) ah)) (bp (i:=5) iV.nd rfl (Or.inl rfl))
  (ag (aw (i:=3) iV.nd rfl (Or.inl rfl) (aB O9 hr (aa (aB kS hr (aa (pv 3) (aa (pv 1) ah))) (aa (aB MB hr (aa (pv 4) (aa (pv 5) ah))) ah))))
  (aq (aw (i:=4) iV.nd rfl (Or.inl rfl) (aB kS hr (aa (pv 4) (aa (pv 2) ah)))))))
  (aq (aC (pv 3)))))),?_⟩;exact bb (s:=fb) (n:=3) (au (aA (dR (dq ao)))
  (au (aA (dR (dq (af av ao))))
  (au (eY (zQ (af ae ao)) lr
  (au (aA (s_call (af (s_call (af ae (af ae ao))) (af (s_call (af ae (af ae ao))) ao))))
  (aA (s_call (af ae (af ae ao))))))
  (aV ae)))) rfl h
theorem Bi(T:Nm mg)(D:aU K mg "height_at" pH ["poly","top","under"]):bo P w K mg base 34 "height_at" ["poly","top","under"] (aM K C dZ 3):=by
 refine D.ok hZ (λvs H Q E h=>aP h) (λf bH A outer s H vs Q E hr h=>?_);refine⟨_,(ag (aw (i:=3) hZ.nd rfl (Or.inl rfl) ak)
  (ag (aw (i:=4) hZ.nd rfl (Or.inl rfl) ak)
  (ag (eB PassesOwn.never rfl (uz rfl T.iQ (aa (pv 0) ah)) (bp (i:=5) hZ.nd rfl (Or.inl rfl))
  (ag (aw (i:=3) hZ.nd rfl (Or.inl rfl) (aH bF (aH aT (pv 3) (pv 1)) (aH aT (pv 5) (pv 4))))
  (aq (aw (i:=4) hZ.nd rfl (Or.inl rfl) (aH aT (pv 4) (pv 2))))))
  (aq (aC (pv 3)))))),?_⟩;exact bb (s:=iW) (n:=3) (au (aA av)
  (au (aA av)
  (au (eY (zQ (af ae ao)) lr
  (au (aA (cC (bq ae ae) (bq ae ae)))
  (aA (bq ae ae))))
  (aV ae)))) rfl h
theorem FA(fU:bo P w K mg base 34 "height_at" ["poly","top","under"] (aM K C dZ 3))(jx:bo P w K mg base 34 "sign" ["number"] (aM K C iy 1))(D:aU K mg "sign_at" uS ["poly","given"]):bo P w K mg base 35 "sign_at" ["poly","given"] (aM K C fC 2):=by
 refine D.ok Fd (λvs H Q E h=>aP h) (λf bH A outer s H vs Q E hr h=>?_);refine⟨_,(aq (aC (aB jx hr (aa (aB fU hr (aa (pv 0) (aa (aD aL (pv 1) ak (λ_ _=>rfl)) (aa (aD aL (pv 1) ak (λ_ _=>rfl)) ah)))) ah)))),?_⟩;exact bb (s:=jU) (n:=0) (aV (s_call (af (s_call (af ae (af (aS ae av) (af (aS ae av) ao)))) ao))) rfl h
theorem zd(jx:bo P w K mg base 34 "sign" ["number"] (aM K C iy 1))(D:aU K mg "changes_in" nN ["row"]):bo P w K mg base 35 "changes_in" ["row"] (aM K C jk 1):=by
 refine D.ok gq (λvs H Q E h=>aP h) (λf bH A outer s H vs Q E hr h=>?_);refine⟨_,(ag (aw (i:=1) gq.nd rfl (Or.inl rfl) ak)
  (ag (aw (i:=2) gq.nd rfl (Or.inl rfl) ak)
  (ag (eB PassesOwn.never rfl (iZ (pv 0)) (bp (i:=3) gq.nd rfl (Or.inl rfl))
  (ag (bj (aG i5 (aH aT (pv 3) (pv 2)) ak (aN _))
  (aq (aw (i:=1) gq.nd rfl (Or.inl rfl) (aH bF (pv 1) ak)))
  aO)
  (aq (bj (aG oJ (pv 3) ak (aN _))
  (aq (aw (i:=2) gq.nd rfl (Or.inl rfl) (aB jx hr (aa (pv 3) ah))))
  aO))))
  (aq (aC (pv 1)))))),?_⟩;exact bb (s:=jj) (n:=3) (au (aA av)
  (au (aA av)
  (au (eY (mD ae) lr
  (au (br (aQ (nE (bq ae ae) av)) (aA (cC ae av))
  bt)
  (br (aQ (CD ae av)) (aA (s_call (af ae ao)))
  bt)))
  (aV ae)))) rfl h
theorem Bj(T:Nm mg)(ng:bo P w K mg base 34 "trimmed" ["row"] (aM K C jT 1))(jx:bo P w K mg base 34 "sign" ["number"] (aM K C iy 1))(D:aU K mg "remainder" pI ["one","other"]):bo P w K mg base 35 "remainder" ["one","other"] (aM K C pS 2):=by
 refine D.ok dW (λvs H Q E h=>aP h) (λf bH A outer s H vs Q E hr h=>?_);refine⟨_,(ag (aw (i:=2) dW.nd rfl (Or.inr rfl) (ba gJ rfl T.pQ boot_abs (aa (aD aZ (pv 1) (cQ bU ak) (λ_ _=>rfl)) ah)))
  (ag (aw (i:=3) dW.nd rfl (Or.inl rfl) (aB jx hr (aa (aD aZ (pv 1) (cQ bU ak) (λ_ _=>rfl)) ah)))
  (ag (aw (i:=4) dW.nd rfl (Or.inl rfl) (fw sJ rfl T.Fq boot_list (aa (pv 0) ah)))
  (ag (eB PassesOwn.never rfl (ID rfl T.j_ (aa (aH dI (ba bg rfl T.dF boot_len (aa (pv 0) ah)) (ba bg rfl T.dF boot_len (aa (pv 1) ah))) (aa (cQ bU ak) (aa (cQ bU ak) ah)))) (bp (i:=5) dW.nd rfl (Or.inl rfl))
  (ag (aw (i:=6) dW.nd rfl (Or.inl rfl) (aH aT (Ap PySem.F.plainAttrs_list PySem.F.slot_list_pop PySem.F.type_list_pop Eo (pv 4)) (pv 3)))
  (ag (N4 (i:=4) dW.nd rfl rfl rfl (iL (own:=["number"]) (fr:=[2]) (fs:=["size"]) (by with_unfolding_all rfl) rfl (by decide +kernel) (by decide +kernel) (by exact⟨rfl,trivial⟩) (by with_unfolding_all rfl) (by exact⟨⟨rfl,rfl,rfl,Or.inl rfl⟩,trivial⟩)) (iZ (pv 4)) (λ_ _ _ _ _=>(bp (i:=0) (show List.Nodup (["number","size"]:List Str) by decide +kernel) rfl (Or.inl rfl) (Or.inr rfl))) (λ_ _ _ _ _=>(aH aT (pv 0) (pv 1))) rfl)
  (aq (eB PassesOwn.never rfl (nB rfl T.gP (aa (gK nA (pv 1) kJ (hU (cQ bU ak))) ah)) (qP rfl (bZ (bp (i:=7) dW.nd rfl (Or.inl rfl)) (bZ (bp (i:=8) dW.nd rfl (Or.inl rfl)) g_)))
  (aq (uq (aH dI (aD aZ (pv 4) (aH bF (pv 5) (pv 7)) (λ_ _=>rfl)) (aH aT (pv 6) (pv 8))) (xi (pv 4) (aH bF (pv 5) (pv 7)) set_list))))))))
  (aq (aC (aB ng hr (aa (pv 4) ah)))))))),?_⟩;exact bb (s:=mw) (n:=7) (au (aA (sS (af (bM ae (fq av)) ao)))
  (au (aA (s_call (af (bM ae (fq av)) ao)))
  (au (ix (Ll (af ae ao)))
  (au (eY (V7 (af (fP (gE (af ae ao)) (gE (af ae ao))) (af (fq av) (af (fq av) ao)))) lr
  (au (aA (bq s_pop ae))
  (au (ix (kA rfl (mD ae) lr (bq ae ae)))
  (eY (xJ (af (dR (EF ae sR (mU (fq av)))) ao)) pw
  (xM (cC ae ae) (fP (qK (cC ae ae)) (bq ae ae)))))))
  (aV (s_call (af ae ao))))))) rfl h
end
section
variable {P:Program} {w:World} {K:PySem.W.Frag} {mg:Str->Option Value} {base:Heap} {C fI fB:Addr} {fd uk:FuncData} {a:Ad}
theorem Dp(T:Nm mg)(hT:P.given.tree=none)(jy:bo P w K mg base 35 "power" ["number","many"] (aM K C ia 2))(Dq:bo P w K mg base 35 "remainder" ["one","other"] (aM K C pS 2))(oy:bo P w K mg base 35 "derivative" ["poly"] (aM K C jg 1))(D:aU K mg "chain_of" rn ["free"]):bo P w K mg base 36 "chain_of" ["free"] (aM K C rV 1):=by
 refine D.ok dY (λvs H Q E h=>aP h) (λf bH A outer s H vs Q E hr h=>?_);refine⟨_,(ag (aw (i:=1) dY.nd rfl (Or.inl rfl) (bN (aa (pv 0) (aa (aB oy hr (aa (pv 0) ah)) ah))))
  (ag (aw (i:=2) dY.nd rfl (Or.inl rfl) ak)
  (ag (aw (i:=3) dY.nd rfl (Or.inl rfl) ak)
  (ag (dj PassesOwn.never (aG jE (ba bg rfl T.dF boot_len (aa (aD aZ (pv 1) (cQ bU ak) (λ_ _=>rfl)) ah)) ak (aN _))
  (ag (aw (i:=4) dY.nd rfl (Or.inl rfl) (aD aZ (pv 1) (cQ bU ak) (λ_ _=>rfl)))
  (ag (aw (i:=5) dY.nd rfl (Or.inl rfl) (aD aZ (pv 1) (cQ bU ak) (λ_ _=>rfl)))
  (ag (aw (i:=6) dY.nd rfl (Or.inl rfl) (aH dI (ba bg rfl T.dF boot_len (aa (pv 4) ah)) (ba bg rfl T.dF boot_len (aa (pv 5) ah))))
  (ag (aw (i:=7) dY.nd rfl (Or.inr rfl) (aH aT (pv 2) (aB jy hr (aa (pv 3) (aa (pv 6) ah)))))
  (ag (gC (eJ PySem.F.plainAttrs_list PySem.F.slot_list_append PySem.F.type_list_append dh (pv 1) (aa (j6 rfl rfl (iL (own:=["number"]) (fr:=[7]) (fs:=["shared"]) (by with_unfolding_all rfl) rfl (by decide +kernel) (by decide +kernel) (by exact⟨rfl,trivial⟩) (by with_unfolding_all rfl) (by exact⟨⟨rfl,rfl,rfl,Or.inl rfl⟩,trivial⟩)) (iZ (aB Dq hr (aa (pv 4) (aa (pv 5) ah)))) (λ_ _ _ _ _=>(bp (i:=0) (show List.Nodup (["number","shared"]:List Str) by decide +kernel) rfl (Or.inl rfl) (Or.inr rfl))) (λ_ _ _ _ _=>(aH (cV ⟨hT,⟨_,_,rfl,rfl,rfl,rfl,rfl⟩,hr.py⟩) (cQ bU (pv 0)) (pv 1)))) ah)))
  (ag (aw (i:=2) dY.nd rfl (Or.inl rfl) (ba gJ rfl T.pQ boot_abs (aa (aD aZ (pv 5) (cQ bU ak) (λ_ _=>rfl)) ah)))
  (aq (aw (i:=3) dY.nd rfl (Or.inl rfl) (aH (cV ⟨hT,⟨_,_,rfl,rfl,rfl,rfl,rfl⟩,hr.py⟩) (aB jy hr (aa (pv 2) (aa (pv 6) ah))) (aB jy hr (aa (pv 3) (aa (aH dI (pv 6) ak) ah)))))))))))))
  (aq (aC (pv 1))))))),?_⟩;exact bb (s:=n8) (n:=7) (au (ix (dq (af ae (af (s_call (af ae ao)) ao))))
  (au (aA av)
  (au (aA av)
  (au (kG (aQ (qE (gE (af (qK (fq av)) ao)) av))
  (au (aA (qK (fq av)))
  (au (aA (qK (fq av)))
  (au (aA (fP (gE (af ae ao)) (gE (af ae ao))))
  (au (aA (bq ae (s_call (af ae (af ae ao)))))
  (au (lu (af (dR (kA rfl (mD (s_call (af ae (af ae ao)))) lr (i8 (fq ae) ae))) ao))
  (au (aA (sS (af (bM ae (fq av)) ao)))
  (aA (i8 (s_call (af ae (af ae ao))) (s_call (af ae (af (fP ae av) ao))))))))))))
  (aV ae))))) rfl h
theorem ze(ij:bo P w K mg base 35 "sign_at" ["poly","given"] (aM K C fC 2))(oA:bo P w K mg base 35 "changes_in" ["row"] (aM K C jk 1))(D:aU K mg "changes_at" nO ["chain","given"]):bo P w K mg base 36 "changes_at" ["chain","given"] (aM K C n9 2):=by
 refine D.ok y9 (λvs H Q E h=>aP h) (λf bH A outer s H vs Q E hr h=>?_);refine⟨_,(aq (aC (aB oA hr (aa (j6 rfl rfl (iL (own:=["poly"]) (fr:=[1]) (fs:=["given"]) (by with_unfolding_all rfl) rfl (by decide +kernel) (by decide +kernel) (by exact⟨rfl,trivial⟩) (by with_unfolding_all rfl) (by exact⟨⟨rfl,rfl,rfl,Or.inl rfl⟩,trivial⟩)) (iZ (pv 0)) (λ_ _ _ _ _=>(bp (i:=0) (show List.Nodup (["poly","given"]:List Str) by decide +kernel) rfl (Or.inl rfl) (Or.inr rfl))) (λ_ _ _ _ _=>(aB ij hr (aa (pv 0) (aa (pv 1) ah))))) ah)))),?_⟩;exact bb (s:=kP) (n:=0) (aV (s_call (af (dR (kA rfl (mD ae) lr (s_call (af ae (af ae ao))))) ao))) rfl h
theorem Bk(T:Nm mg)(D:aU K mg "is_within" pJ ["free","reach"]):bo P w K mg base 34 "is_within" ["free","reach"] (aM K C pT 2):=by
 refine D.ok kM (λvs H Q E h=>aP h) (λf bH A outer s H vs Q E hr h=>?_);refine⟨_,(ag (aw (i:=2) kM.nd rfl (Or.inl rfl) (ba gJ rfl T.pQ boot_abs (aa (aD aZ (pv 0) (cQ bU ak) (λ_ _=>rfl)) ah)))
  (ag (eB PassesOwn.never rfl (uz rfl T.iQ (aa (gK nA (pv 0) kJ (hU (cQ bU ak))) ah)) (bp (i:=3) kM.nd rfl (Or.inl rfl))
  (ag (aw (i:=2) kM.nd rfl (Or.inl rfl) (aH aT (pv 2) (pv 1)))
  (aq (bj (aG jE (ba gJ rfl T.pQ boot_abs (aa (pv 3) ah)) (pv 2) (aN _))
  (aq (aC xh))
  aO))))
  (aq (aC xh)))),?_⟩;exact bb (s:=mx) (n:=2) (au (aA (sS (af (bM ae (fq av)) ao)))
  (au (eY (zQ (af (dR (EF ae sR (mU (fq av)))) ao)) lr
  (au (aA (bq ae ae))
  (br (aQ (qE (sS (af ae ao)) ae)) (aV EA)
  bt)))
  (aV EA))) rfl h
theorem Dr(Ds:bo P w K mg base 34 "is_within" ["free","reach"] (aM K C pT 2))(D:aU K mg "bound_of" rp ["free"]):bo P w K mg base 35 "bound_of" ["free"] (aM K C rW 1):=by
 refine D.ok pK (λvs H Q E h=>aP h) (λf bH A outer s H vs Q E hr h=>?_);refine⟨_,(ag (aw (i:=1) pK.nd rfl (Or.inl rfl) ak)
  (ag (dj PassesOwn.never (lj (ny (aB Ds hr (aa (pv 0) (aa (pv 1) ah)))))
  (aq (aw (i:=1) pK.nd rfl (Or.inl rfl) (aH aT ak (pv 1)))))
  (aq (aC (aH aT ak (pv 1)))))),?_⟩;exact bb (s:=n_) (n:=1) (au (aA av)
  (au (kG (qJ (xE (s_call (af ae (af ae ao)))))
  (aA (bq av ae)))
  (aV (bq av ae)))) rfl h
theorem si(dG:bo P w K mg base 35 "ratio" ["top","under"] (aM K C df 2))(FC:bo P w K mg base 35 "bound_of" ["free"] (aM K C rW 1))(D:aU K mg "pair_around_all" i' ["free"]):bo P w K mg base 36 "pair_around_all" ["free"] (aM K C jl 1):=by
 refine D.ok f_ (λvs H Q E h=>aP h) (λf bH A outer s H vs Q E hr h=>?_);refine⟨_,(ag (aw (i:=1) f_.nd rfl (Or.inl rfl) ak)
  (ag (dj PassesOwn.never (aG bI (aH iH (aD aZ (pv 0) (cQ bU ak) (λ_ _=>rfl)) (pv 1)) ak (aN _))
  (aq (aw (i:=1) f_.nd rfl (Or.inl rfl) (aH bF (pv 1) ak))))
  (ag (aw (i:=2) f_.nd rfl (Or.inl rfl) (aH bF (aB FC hr (aa (pv 0) ah)) ak))
  (aq (aC (bV (aa (aB dG hr (aa (aH dI ak (aH aT (pv 1) (pv 2))) (aa (pv 1) ah))) (aa (aB dG hr (aa (aH bF ak (aH aT (pv 1) (pv 2))) (aa (pv 1) ah))) ah)))))))),?_⟩;exact bb (s:=gF) (n:=2) (au (aA av)
  (au (kG (aQ (s_eq (CB (bM ae (fq av)) ae) av))
  (aA (cC ae av)))
  (au (aA (cC (s_call (af ae ao)) av))
  (aV (de (af (s_call (af (fP av (bq ae ae)) (af ae ao))) (af (s_call (af (cC av (bq ae ae)) (af ae ao))) ao))))))) rfl h
theorem Ju(Bl:bo P w K mg base 36 "changes_at" ["chain","given"] (aM K C n9 2))(D:aU K mg "marked" yd ["chain","given"]):bo P w K mg base 37 "marked" ["chain","given"] (aM K C pU 2):=by
 refine D.ok Jo (λvs H Q E h=>aP h) (λf bH A outer s H vs Q E hr h=>?_);refine⟨_,(aq (aC (bV (aa (pv 1) (aa (aB Bl hr (aa (pv 0) (aa (pv 1) ah))) ah))))),?_⟩;exact bb (s:=tL) (n:=0) (aV (de (af ae (af (s_call (af ae (af ae ao))) ao)))) rfl h
theorem Dt(dB:∃uG,mg "GREATEST_DEGREE"=some uG/\RelV (.int 12) uG)(MC:bo P w K mg base 38 "middle" ["one","other"] (aM K C yk 2))(yu:bo P w K mg base 38 "marked" ["chain","given"] (aM K C pU 2))(tO:bo P w K mg base 38 "pair_around_all" ["free"] (aM K C jl 1))(FD:bo P w K mg base 38 "chain_of" ["free"] (aM K C rV 1))(iF:bo P w K mg base 38 "square_free" ["poly"] (aM K C cO 1))(cP:bo P w K mg base 38 "degree" ["poly"] (aM K C cA 1))(D:aU K mg "isolated" rq ["poly"]):bo P w K mg base 39 "isolated" ["poly"] (aM K C lN 1):=by
 refine D.ok dM (λvs H Q E h=>aP h) (λf bH A outer s H vs Q E hr h=>?_);obtain⟨uG,dB⟩:=dB;refine⟨_,(ag (bj (aG jE (aB cP hr (aa (pv 0) ah)) (gZ rfl dB.1 dB.2) (aN _))
  (aq dQ)
  aO)
  (ag (aw (i:=1) dM.nd rfl (Or.inl rfl) (aB iF hr (aa (pv 0) ah)))
  (ag (aw (i:=2) dM.nd rfl (Or.inl rfl) (aB FD hr (aa (pv 1) ah)))
  (ag (aw (i:=3) dM.nd rfl (Or.inl rfl) (aB tO hr (aa (pv 1) ah)))
  (ag (aw (i:=4) dM.nd rfl (Or.inl rfl) (bN (aa (bV (aa (aB yu hr (aa (pv 2) (aa (aD aL (pv 3) ak (λ_ _=>rfl)) ah))) (aa (aB yu hr (aa (pv 2) (aa (aD aL (pv 3) ak (λ_ _=>rfl)) ah))) ah))) ah)))
  (ag (aw (i:=5) dM.nd rfl (Or.inl rfl) (bN ah))
  (ag (dj PassesOwn.never (cU (pv 4) (λ_=>rfl))
  (ag (aw (i:=6) dM.nd rfl (Or.inl rfl) (Ap PySem.F.plainAttrs_list PySem.F.slot_list_pop PySem.F.type_list_pop Eo (pv 4)))
  (ag (aw (i:=7) dM.nd rfl (Or.inl rfl) (aD aL (pv 6) ak (λ_ _=>rfl)))
  (ag (aw (i:=8) dM.nd rfl (Or.inl rfl) (aD aL (pv 6) ak (λ_ _=>rfl)))
  (ag (aw (i:=9) dM.nd rfl (Or.inl rfl) (aH dI (aD aL (pv 7) ak (λ_ _=>rfl)) (aD aL (pv 8) ak (λ_ _=>rfl))))
  (ag (bj (aG bI (pv 9) ak (aN _))
  (aq (gC (eJ PySem.F.plainAttrs_list PySem.F.slot_list_append PySem.F.type_list_append dh (pv 5) (aa (bV (aa (aD aL (pv 7) ak (λ_ _=>rfl)) (aa (aD aL (pv 8) ak (λ_ _=>rfl)) ah))) ah))))
  aO)
  (aq (bj (aG jE (pv 9) ak (aN _))
  (ag (aw (i:=10) dM.nd rfl (Or.inl rfl) (aB yu hr (aa (pv 2) (aa (aB MC hr (aa (aD aL (pv 7) ak (λ_ _=>rfl)) (aa (aD aL (pv 8) ak (λ_ _=>rfl)) ah))) ah))))
  (ag (gC (eJ PySem.F.plainAttrs_list PySem.F.slot_list_append PySem.F.type_list_append dh (pv 4) (aa (bV (aa (pv 10) (aa (pv 8) ah))) ah)))
  (aq (gC (eJ PySem.F.plainAttrs_list PySem.F.slot_list_append PySem.F.type_list_append dh (pv 4) (aa (bV (aa (pv 7) (aa (pv 10) ah))) ah))))))
  aO))))))))
  (aq (aC (pv 5)))))))))),?_⟩;exact bb (s:=lM) (n:=10) (au (br (aQ (qE (s_call (af ae ao)) av)) CN
  bt)
  (au (aA (s_call (af ae ao)))
  (au (aA (s_call (af ae ao)))
  (au (aA (s_call (af ae ao)))
  (au (ix (dq (af (de (af (s_call (af ae (af (aS ae av) ao))) (af (s_call (af ae (af (aS ae av) ao))) ao))) ao)))
  (au (ix (dq ao))
  (au (kG Sv
  (au (aA s_pop)
  (au (aA (aS ae av))
  (au (aA (aS ae av))
  (au (aA (fP (aS ae av) (aS ae av)))
  (au (br (aQ (s_eq ae av)) (lu (af (de (af (aS ae av) (af (aS ae av) ao))) ao))
  bt)
  (br (aQ (qE ae av)) (au (aA (s_call (af ae (af (s_call (af (aS ae av) (af (aS ae av) ao))) ao))))
  (au (lu (af (de (af ae (af ae ao))) ao))
  (lu (af (de (af ae (af ae ao))) ao))))
  bt)))))))
  (aV ae)))))))) rfl h
theorem zf (D:aU K mg "stretch_of" nQ ["pair"]):bo P w K mg base 34 "stretch_of" ["pair"] (aM K C eN 1):=by
 refine D.ok mG (λvs H Q E h=>aP h) (λf bH A outer s H vs Q E hr h=>?_);refine⟨_,(ag (aw (i:=1) mG.nd rfl (Or.inl rfl) (aD aL (pv 0) ak (λ_ _=>rfl)))
  (ag (aw (i:=2) mG.nd rfl (Or.inl rfl) (aD aL (pv 0) ak (λ_ _=>rfl)))
  (aq (aC (bV (aa (aH aT (aD aL (pv 1) ak (λ_ _=>rfl)) (aD aL (pv 2) ak (λ_ _=>rfl))) (aa (aH aT (aD aL (pv 2) ak (λ_ _=>rfl)) (aD aL (pv 1) ak (λ_ _=>rfl))) (aa (aH aT (aD aL (pv 1) ak (λ_ _=>rfl)) (aD aL (pv 2) ak (λ_ _=>rfl))) ah)))))))),?_⟩;exact bb (s:=ic) (n:=2) (au (aA (aS ae av))
  (au (aA (aS ae av))
  (aV (de (af (bq (aS ae av) (aS ae av)) (af (bq (aS ae av) (aS ae av)) (af (bq (aS ae av) (aS ae av)) ao))))))) rfl h
theorem wu(hT:P.given.tree=none)(D:aU K mg "parts_needed" lB ["stretch","width"]):bo P w K mg base 34 "parts_needed" ["stretch","width"] (aM K C jn 2):=by
 refine D.ok oO (λvs H Q E h=>aP h) (λf bH A outer s H vs Q E hr h=>?_);refine⟨_,(ag (aw (i:=2) oO.nd rfl (Or.inl rfl) (aH aT (aD aL (pv 1) ak (λ_ _=>rfl)) (aD aL (pv 0) ak (λ_ _=>rfl))))
  (aq (aC (aH (cV ⟨hT,⟨_,_,rfl,rfl,rfl,rfl,rfl⟩,hr.py⟩) (aH dI (aH bF (aH aT (aH dI (aD aL (pv 0) ak (λ_ _=>rfl)) (aD aL (pv 0) ak (λ_ _=>rfl))) (aD aL (pv 1) ak (λ_ _=>rfl))) (pv 2)) ak) (pv 2))))),?_⟩;exact bb (s:=jm) (n:=1) (au (aA (bq (aS ae av) (aS ae av)))
  (aV (i8 (fP (cC (bq (fP (aS ae av) (aS ae av)) (aS ae av)) ae) av) ae))) rfl h
end
section
variable {P:Program} {w:World} {K:PySem.W.Frag} {mg:Str->Option Value} {base:Heap} {C fI fB:Addr} {fd uk:FuncData} {a:Ad}
theorem wx(fU:bo P w K mg base 34 "height_at" ["poly","top","under"] (aM K C dZ 3))(jx:bo P w K mg base 34 "sign" ["number"] (aM K C iy 1))(D:aU K mg "part_between" lC ["free","stretch","parts","near","far"]):bo P w K mg base 35 "part_between" ["free","stretch","parts","near","far"] (aM K C gS 5):=by
 refine D.ok gn (λvs H Q E h=>aP h) (λf bH A outer s H vs Q E hr h=>?_);refine⟨_,(ag (aw (i:=5) gn.nd rfl (Or.inl rfl) (aH aT (aD aL (pv 1) ak (λ_ _=>rfl)) (pv 2)))
  (ag (aw (i:=6) gn.nd rfl (Or.inl rfl) (aB jx hr (aa (aB fU hr (aa (pv 0) (aa (aD aL (pv 1) ak (λ_ _=>rfl)) (aa (aD aL (pv 1) ak (λ_ _=>rfl)) ah)))) ah)))
  (ag (aw (i:=7) gn.nd rfl (Or.inl rfl) (aB jx hr (aa (aB fU hr (aa (pv 0) (aa (pv 3) (aa (pv 5) ah)))) ah)))
  (ag (bj (aG bI (pv 7) ak (aN _))
  (aq (aC (bV (aa (pv 3) (aa (pv 3) (aa (pv 5) ah))))))
  aO)
  (ag (aw (i:=8) gn.nd rfl (Or.inl rfl) (aB jx hr (aa (aB fU hr (aa (pv 0) (aa (pv 4) (aa (pv 5) ah)))) ah)))
  (ag (bj (aG bI (pv 8) ak (aN _))
  (aq (aC (bV (aa (pv 4) (aa (pv 4) (aa (pv 5) ah))))))
  aO)
  (aq (aC (bW (PW.pt (mB (aG bI (pv 7) (pv 6) (aN _)) (j4 (aG oJ (pv 8) (pv 6) (aN _))))) (bV (aa (pv 3) (aa (pv 4) (aa (pv 5) ah)))) gw))))))))),?_⟩;exact bb (s:=gR) (n:=4) (au (aA (bq (aS ae av) ae))
  (au (aA (s_call (af (s_call (af ae (af (aS ae av) (af (aS ae av) ao)))) ao)))
  (au (aA (s_call (af (s_call (af ae (af ae (af ae ao)))) ao)))
  (au (br (aQ (s_eq ae av)) (aV (de (af ae (af ae (af ae ao)))))
  bt)
  (au (aA (s_call (af (s_call (af ae (af ae (af ae ao)))) ao)))
  (au (br (aQ (s_eq ae av)) (aV (de (af ae (af ae (af ae ao)))))
  bt)
  (aV (jK (sQ (aQ (s_eq ae ae)) (aQ (CD ae ae))) (de (af ae (af ae (af ae ao)))) GU)))))))) rfl h
theorem FE(T:Nm mg)(hT:P.given.tree=none)(lT:bo P w K mg base 35 "part_between" ["free","stretch","parts","near","far"] (aM K C gS 5))(fU:bo P w K mg base 35 "height_at" ["poly","top","under"] (aM K C dZ 3))(D:aU K mg "guessed" uT ["free","stretch","parts"]):bo P w K mg base 36 "guessed" ["free","stretch","parts"] (aM K C vd 3):=by
 refine D.ok jN (λvs H Q E h=>aP h) (λf bH A outer s H vs Q E hr h=>?_);refine⟨_,(ag (aw (i:=3) jN.nd rfl (Or.inl rfl) (aH dI (aD aL (pv 1) ak (λ_ _=>rfl)) (aD aL (pv 1) ak (λ_ _=>rfl))))
  (ag (aw (i:=4) jN.nd rfl (Or.inl rfl) (ba gJ rfl T.pQ boot_abs (aa (aB fU hr (aa (pv 0) (aa (aD aL (pv 1) ak (λ_ _=>rfl)) (aa (aD aL (pv 1) ak (λ_ _=>rfl)) ah)))) ah)))
  (ag (aw (i:=5) jN.nd rfl (Or.inl rfl) (ba gJ rfl T.pQ boot_abs (aa (aB fU hr (aa (pv 0) (aa (aD aL (pv 1) ak (λ_ _=>rfl)) (aa (aD aL (pv 1) ak (λ_ _=>rfl)) ah)))) ah)))
  (ag (aw (i:=6) jN.nd rfl (Or.inl rfl) (aH (cV ⟨hT,⟨_,_,rfl,rfl,rfl,rfl,rfl⟩,hr.py⟩) (aH aT (pv 2) (pv 4)) (aH bF (pv 4) (pv 5))))
  (ag (aw (i:=7) jN.nd rfl (Or.inl rfl) (aH bF (aH aT (aD aL (pv 1) ak (λ_ _=>rfl)) (pv 2)) (aH aT (pv 3) (pv 6))))
  (aq (aC (aB lT hr (aa (pv 0) (aa (pv 1) (aa (pv 2) (aa (pv 7) (aa (aH bF (pv 7) (pv 3)) ah))))))))))))),?_⟩;exact bb (s:=qp) (n:=5) (au (aA (fP (aS ae av) (aS ae av)))
  (au (aA (sS (af (s_call (af ae (af (aS ae av) (af (aS ae av) ao)))) ao)))
  (au (aA (sS (af (s_call (af ae (af (aS ae av) (af (aS ae av) ao)))) ao)))
  (au (aA (i8 (bq ae ae) (cC ae ae)))
  (au (aA (cC (bq (aS ae av) ae) (bq ae ae)))
  (aV (s_call (af ae (af ae (af ae (af ae (af (cC ae ae) ao)))))))))))) rfl h
theorem Jv(lT:bo P w K mg base 35 "part_between" ["free","stretch","parts","near","far"] (aM K C gS 5))(D:aU K mg "halved" ye ["free","stretch"]):bo P w K mg base 36 "halved" ["free","stretch"] (aM K C yo 2):=by
 refine D.ok uU (λvs H Q E h=>aP h) (λf bH A outer s H vs Q E hr h=>?_);refine⟨_,(ag (aw (i:=2) uU.nd rfl (Or.inl rfl) (aH bF (aD aL (pv 1) ak (λ_ _=>rfl)) (aD aL (pv 1) ak (λ_ _=>rfl))))
  (ag (aw (i:=3) uU.nd rfl (Or.inl rfl) (aB lT hr (aa (pv 0) (aa (pv 1) (aa ak (aa (aH aT ak (aD aL (pv 1) ak (λ_ _=>rfl))) (aa (pv 2) ah)))))))
  (aq (aC (bW (aG Ai (pv 3) gw (aN _)) (bV (aa (pv 2) (aa (aH aT ak (aD aL (pv 1) ak (λ_ _=>rfl))) (aa (aH aT ak (aD aL (pv 1) ak (λ_ _=>rfl))) ah)))) (pv 3)))))),?_⟩;exact bb (s:=tM) (n:=2) (au (aA (cC (aS ae av) (aS ae av)))
  (au (aA (s_call (af ae (af ae (af av (af (bq av (aS ae av)) (af ae ao)))))))
  (aV (jK (aQ (GV ae)) (de (af ae (af (bq av (aS ae av)) (af (bq av (aS ae av)) ao)))) ae)))) rfl h
theorem Du(T:Nm mg)(dG:bo P w K mg base 36 "ratio" ["top","under"] (aM K C df 2))(pV:bo P w K mg base 36 "parts_needed" ["stretch","width"] (aM K C jn 2))(MD:bo P w K mg base 36 "halved" ["free","stretch"] (aM K C yo 2))(Jw:bo P w K mg base 36 "guessed" ["free","stretch","parts"] (aM K C vd 3))(ik:bo P w K mg base 36 "stretch_of" ["pair"] (aM K C eN 1))(D:aU K mg "narrowed" rA ["free","pair","width"]):bo P w K mg base 37 "narrowed" ["free","pair","width"] (aM K C gb 3):=by
 refine D.ok fR (λvs H Q E h=>aP h) (λf bH A outer s H vs Q E hr h=>?_);refine⟨_,(ag (aw (i:=3) fR.nd rfl (Or.inl rfl) (aB ik hr (aa (pv 1) ah)))
  (ag (aw (i:=4) fR.nd rfl (Or.inl rfl) ak)
  (ag (aw (i:=5) fR.nd rfl (Or.inl rfl) (aB pV hr (aa (pv 3) (aa (pv 2) ah))))
  (ag (dj PassesOwn.never (aG jE (pv 5) ak (aN _))
  (ag (aw (i:=6) fR.nd rfl (Or.inl rfl) (aB Jw hr (aa (pv 0) (aa (pv 3) (aa (ba (qf rfl) rfl T.Di boot_min (aa (pv 4) (aa (pv 5) ah))) ah)))))
  (ag (aw (i:=4) fR.nd rfl (Or.inl rfl) (bW (aG Ai (pv 6) gw (aN _)) ak (aH aT (pv 4) (pv 4))))
  (ag (aw (i:=3) fR.nd rfl (Or.inl rfl) (bW (aG Ai (pv 6) gw (aN _)) (aB MD hr (aa (pv 0) (aa (pv 3) ah))) (pv 6)))
  (aq (aw (i:=5) fR.nd rfl (Or.inl rfl) (aB pV hr (aa (pv 3) (aa (pv 2) ah)))))))))
  (aq (aC (bV (aa (aB dG hr (aa (aD aL (pv 3) ak (λ_ _=>rfl)) (aa (aD aL (pv 3) ak (λ_ _=>rfl)) ah))) (aa (aB dG hr (aa (aD aL (pv 3) ak (λ_ _=>rfl)) (aa (aD aL (pv 3) ak (λ_ _=>rfl)) ah))) ah))))))))),?_⟩;exact bb (s:=iR) (n:=4) (au (aA (s_call (af ae ao)))
  (au (aA av)
  (au (aA (s_call (af ae (af ae ao))))
  (au (kG (aQ (qE ae av))
  (au (aA (s_call (af ae (af ae (af (EG (af ae (af ae ao))) ao)))))
  (au (aA (jK (aQ (GV ae)) av (bq ae ae)))
  (au (aA (jK (aQ (GV ae)) (s_call (af ae (af ae ao))) ae))
  (aA (s_call (af ae (af ae ao))))))))
  (aV (de (af (s_call (af (aS ae av) (af (aS ae av) ao))) (af (s_call (af (aS ae av) (af (aS ae av) ao))) ao)))))))) rfl h
theorem Dw(T:Nm mg)(oA:bo P w K mg base 36 "changes_in" ["row"] (aM K C jk 1))(dC:bo P w K mg base 36 "composed" ["poly","top","under"] (aM K C cS 3))(ik:bo P w K mg base 36 "stretch_of" ["pair"] (aM K C eN 1))(D:aU K mg "is_alone" rB ["free","pair"]):bo P w K mg base 37 "is_alone" ["free","pair"] (aM K C jV 2):=by
 refine D.ok pL (λvs H Q E h=>aP h) (λf bH A outer s H vs Q E hr h=>?_);refine⟨_,(ag (aw (i:=2) pL.nd rfl (Or.inl rfl) (aB ik hr (aa (pv 1) ah)))
  (ag (aw (i:=3) pL.nd rfl (Or.inl rfl) (aB dC hr (aa (pv 0) (aa (bN (aa (aD aL (pv 2) ak (λ_ _=>rfl)) (aa (aD aL (pv 2) ak (λ_ _=>rfl)) ah))) (aa (bN (aa (aD aL (pv 2) ak (λ_ _=>rfl)) (aa (aD aL (pv 2) ak (λ_ _=>rfl)) ah))) ah)))))
  (aq (aC (Ac (kI bI (ba bg rfl T.dF boot_len (aa (pv 3) ah)) (ba bg rfl T.dF boot_len (aa (pv 0) ah)) (aN _)) (Ac (kI oJ (aD aZ (pv 3) ak (λ_ _=>rfl)) ak (aN _)) (D8 (kI bI (aB oA hr (aa (pv 3) ah)) ak (aN _))))))))),?_⟩;exact bb (s:=oa) (n:=2) (au (aA (s_call (af ae ao)))
  (au (aA (s_call (af ae (af (dR (dq (af (aS ae av) (af (aS ae av) ao)))) (af (dR (dq (af (aS ae av) (af (aS ae av) ao)))) ao)))))
  (aV (Ay (s_eq (gE (af ae ao)) (gE (af ae ao))) (Ay (CD (bM ae av) av) (s_eq (s_call (af ae ao)) av)))))) rfl h
theorem Dx(RC:Rc K mg C fI fd)(gz:dU P w K mg base kr 32 fI fd ["self","poly","pair","weight"] (pA C))(D:aU K mg "of_ratio" rC ["given"]):bo P w K mg base 34 "of_ratio" ["given"] (aM K C bG 1):=by
 refine D.ok Dc (λvs H Q E h=>aP h) (λf bH A outer s H vs Q E hr h=>?_);refine⟨_,(aq (aC (qg (dvs:=[]) (E:=E0) RC.Rh gz hr rfl RC.m RC.b .nil fA (aa (bN (aa (cQ bU (aD aL (pv 0) ak (λ_ _=>rfl))) (aa (aD aL (pv 0) ak (λ_ _=>rfl)) ah))) (aa (bV (aa (pv 0) (aa (pv 0) ah))) (aa ak ah)))))),?_⟩;exact bb (s:=fg) (n:=0) (aV (AK (af (dR (dq (af (fq (aS ae av)) (af (aS ae av) ao)))) (af (de (af ae (af ae ao))) (af av ao))))) rfl h
theorem Bm(hT:P.given.tree=none)(RC:Rc K mg C fI fd)(gz:dU P w K mg base kr 36 fI fd ["self","poly","pair","weight"] (pA C))(ij:bo P w K mg base 37 "sign_at" ["poly","given"] (aM K C fC 2))(gX:bo P w K mg base 37 "order_of" ["one","other"] (aM K C e_ 2))(cJ:bo P w K mg base 37 "of_ratio" ["given"] (aM K C bG 1))(dG:bo P w K mg base 37 "ratio" ["top","under"] (aM K C df 2))(iS:bo P w K mg base 37 "narrowed" ["free","pair","width"] (aM K C gb 3))(D:aU K mg "number_in" pM ["free","pair","weight"]):bo P w K mg base 38 "number_in" ["free","pair","weight"] (aM K C eO 3):=by
 refine D.ok h_ (λvs H Q E h=>aP h) (λf bH A outer s H vs Q E hr h=>?_);refine⟨_,(ag (aw (i:=3) h_.nd rfl (Or.inl rfl) (aD aZ (pv 0) (cQ bU ak) (λ_ _=>rfl)))
  (ag (aw (i:=4) h_.nd rfl (Or.inl rfl) (aB iS hr (aa (pv 0) (aa (pv 1) (aa (bV (aa ak (aa (pv 3) ah))) ah)))))
  (ag (aw (i:=5) h_.nd rfl (Or.inl rfl) (aD aL (pv 4) ak (λ_ _=>rfl)))
  (ag (aw (i:=6) h_.nd rfl (Or.inl rfl) (aD aL (pv 4) ak (λ_ _=>rfl)))
  (ag (bj (aG (KU hr.Eh) (pv 5) (pv 6) (aN _))
  (aq (aC (aB cJ hr (aa (pv 5) ah))))
  aO)
  (ag (aw (i:=7) h_.nd rfl (Or.inl rfl) (aB dG hr (aa (aH bF (aH (cV ⟨hT,⟨_,_,rfl,rfl,rfl,rfl,rfl⟩,hr.py⟩) (aH aT (aD aL (pv 5) ak (λ_ _=>rfl)) (pv 3)) (aD aL (pv 5) ak (λ_ _=>rfl))) ak) (aa (pv 3) ah))))
  (ag (bj (PW.pt (mB (aG i5 (aB gX hr (aa (pv 7) (aa (pv 6) ah))) ak (aN _)) (j4 (aG bI (aB ij hr (aa (pv 0) (aa (pv 7) ah))) ak (aN _)))))
  (aq (aC (aB cJ hr (aa (pv 7) ah))))
  aO)
  (aq (aC (qg (dvs:=[]) (E:=E0) RC.Rh gz hr rfl RC.m RC.b .nil fA (aa (pv 0) (aa (pv 4) (aa (pv 2) ah))))))))))))),?_⟩;exact bb (s:=ko) (n:=5) (au (aA (bM ae (fq av)))
  (au (aA (s_call (af ae (af ae (af (de (af av (af ae ao))) ao)))))
  (au (aA (aS ae av))
  (au (aA (aS ae av))
  (au (br (aQ (QE ae ae)) (aV (s_call (af ae ao)))
  bt)
  (au (aA (s_call (af (cC (i8 (bq (aS ae av) ae) (aS ae av)) av) (af ae ao))))
  (au (br (sQ (aQ (nE (s_call (af ae (af ae ao))) av)) (aQ (s_eq (s_call (af ae (af ae ao))) av))) (aV (s_call (af ae ao)))
  bt)
  (aV (AK (af ae (af ae (af ae ao)))))))))))) rfl h
theorem Tj(T:Nm mg)(cP:bo P w K mg base 39 "degree" ["poly"] (aM K C cA 1))(pW:bo P w K mg base 39 "number_in" ["free","pair","weight"] (aM K C eO 3))(iF:bo P w K mg base 39 "square_free" ["poly"] (aM K C cO 1))(sj:bo P w K mg base 39 "isolated" ["poly"] (aM K C lN 1))(CL:A_ K mg a)(D:aU K mg "nth" Mp ["poly","k"]):cq P w K mg base (f9 P w) true 40 "nth" ["poly","k"] (λ_=>dJ K C a.c Mv 2):=by
 refine D.pD Fe (λs vs H Q E h=>dv h) (λf bH A outer s H vs Q E iq hr h=>?_);refine⟨_,(ag (aw (i:=2) Fe.nd rfl (Or.inl rfl) (aB sj hr.calm (aa (pv 0) ah)))
  (ag (bj (PW.pt (oH (aG i5 (pv 1) ak (aN _)) (lh (aG GK (pv 1) (ba bg rfl T.dF boot_len (aa (pv 2) ah)) (aN _)))))
  (aq (iz (E:=E) aR rfl rfl (show mg "NoNumber"=some (.ref (a.c 1)) from CL.m1) (CL.cls 1) (aa a_ ah)))
  aO)
  (ag (aw (i:=3) Fe.nd rfl (Or.inl rfl) (aB iF hr.calm (aa (pv 0) ah)))
  (aq (aC (aB pW hr.calm (aa (pv 3) (aa (aD aZ (pv 2) (pv 1) (λ_ _=>rfl)) (aa (aB cP hr.calm (aa (pv 3) ah)) ah))))))))),?_⟩;exact eL (s:=HL) (n:=2) (au (aA (s_call (af ae ao)))
  (au (br (CG (aQ (nE ae av)) (aQ (Og ae (gE (af ae ao))))) (km (by decide))
  bt)
  (au (aA (s_call (af ae ao)))
  (bJ (s_call (af ae (af (bM ae ae) (af (s_call (af ae ao)) ao)))))))) rfl h
theorem Dy(RC:Rc K mg C fI fd)(D:aU K mg "as_ratio" rD ["number"]):bo P w K mg base 34 "as_ratio" ["number"] (aM K C bz 1):=by
 refine D.ok Dd (λvs H Q E h=>aP h) (λf bH A outer s H vs Q E hr h=>?_);refine⟨_,(aq (aC (bW (aG (KU hr.Eh) (aD aL (bX (pv 0) rfl) ak (λ_ _=>rfl)) (aD aL (bX (pv 0) rfl) ak (λ_ _=>rfl)) (aN _)) (aD aL (bX (pv 0) rfl) ak (λ_ _=>rfl)) gw))),?_⟩;exact bb (s:=gc) (n:=0) (aV (jK (aQ (QE (aS (f7 RC.cl RC.n2 ae) av) (aS (f7 RC.cl RC.n2 ae) av))) (aS (f7 RC.cl RC.n2 ae) av) GU)) rfl h
end
section
variable {P:Program} {w:World} {K:PySem.W.Frag} {mg:Str->Option Value} {base:Heap} {C fI fB:Addr} {fd uk:FuncData} {a:Ad}
theorem Bo(RC:Rc K mg C fI fd)(D:aU K mg "weight_of" pN ["number"]):bo P w K mg base 34 "weight_of" ["number"] (aM K C fT 1):=by
 refine D.ok A8 (λvs H Q E h=>aP h) (λf bH A outer s H vs Q E hr h=>?_);refine⟨_,(aq (aC (bX (pv 0) rfl))),?_⟩;exact bb (s:=gT) (n:=0) (aV (Ls RC.cl RC.n3 ae)) rfl h
theorem FF(RC:Rc K mg C fI fd)(ij:bo P w K mg base 35 "sign_at" ["poly","given"] (aM K C fC 2))(gX:bo P w K mg base 35 "order_of" ["one","other"] (aM K C e_ 2))(D:aU K mg "against" uV ["number","given"]):bo P w K mg base 36 "against" ["number","given"] (aM K C fD 2):=by
 refine D.ok rE (λvs H Q E h=>aP h) (λf bH A outer s H vs Q E hr h=>?_);refine⟨_,(ag (aw (i:=2) rE.nd rfl (Or.inl rfl) (aD aL (bX (pv 0) rfl) ak (λ_ _=>rfl)))
  (ag (aw (i:=3) rE.nd rfl (Or.inl rfl) (aB gX hr (aa (pv 2) (aa (pv 1) ah))))
  (ag (bj (aG bI (pv 3) (aB gX hr (aa (aD aL (bX (pv 0) rfl) ak (λ_ _=>rfl)) (aa (pv 1) ah))) (aN _))
  (aq (aC (pv 3)))
  aO)
  (aq (aC (aH aT (aB ij hr (aa (bX (pv 0) rfl) (aa (pv 2) ah))) (aB ij hr (aa (bX (pv 0) rfl) (aa (pv 1) ah))))))))),?_⟩;exact bb (s:=jW) (n:=2) (au (aA (aS (f7 RC.cl RC.n2 ae) av))
  (au (aA (s_call (af ae (af ae ao))))
  (au (br (aQ (s_eq ae (s_call (af (aS (f7 RC.cl RC.n2 ae) av) (af ae ao))))) (aV ae)
  bt)
  (aV (bq (s_call (af (nH RC.cl RC.n1 ae) (af ae ao))) (s_call (af (nH RC.cl RC.n1 ae) (af ae ao)))))))) rfl h
theorem Dz(RC:Rc K mg C fI fd)(ij:bo P w K mg base 37 "sign_at" ["poly","given"] (aM K C fC 2))(oz:bo P w K mg base 37 "divisor_of" ["one","other"] (aM K C ji 2))(gX:bo P w K mg base 37 "order_of" ["one","other"] (aM K C e_ 2))(D:aU K mg "are_same" rF ["one","other"]):bo P w K mg base 38 "are_same" ["one","other"] (aM K C rX 2):=by
 refine D.ok ml (λvs H Q E h=>aP h) (λf bH A outer s H vs Q E hr h=>?_);refine⟨_,(ag (aw (i:=2) ml.nd rfl (Or.inl rfl) (bW (aG jE (aB gX hr (aa (aD aL (bX (pv 0) rfl) ak (λ_ _=>rfl)) (aa (aD aL (bX (pv 1) rfl) ak (λ_ _=>rfl)) ah))) ak (aN _)) (aD aL (bX (pv 0) rfl) ak (λ_ _=>rfl)) (aD aL (bX (pv 1) rfl) ak (λ_ _=>rfl))))
  (ag (aw (i:=3) ml.nd rfl (Or.inl rfl) (bW (aG i5 (aB gX hr (aa (aD aL (bX (pv 0) rfl) ak (λ_ _=>rfl)) (aa (aD aL (bX (pv 1) rfl) ak (λ_ _=>rfl)) ah))) ak (aN _)) (aD aL (bX (pv 0) rfl) ak (λ_ _=>rfl)) (aD aL (bX (pv 1) rfl) ak (λ_ _=>rfl))))
  (ag (bj (aG GK (aB gX hr (aa (pv 2) (aa (pv 3) ah))) ak (aN _))
  (aq (aC xh))
  aO)
  (ag (aw (i:=4) ml.nd rfl (Or.inl rfl) (aB oz hr (aa (bX (pv 0) rfl) (aa (bX (pv 1) rfl) ah))))
  (aq (aC (kI i5 (aH aT (aB ij hr (aa (pv 4) (aa (pv 2) ah))) (aB ij hr (aa (pv 4) (aa (pv 3) ah)))) ak (aN _)))))))),?_⟩;exact bb (s:=og) (n:=3) (au (aA (jK (aQ (qE (s_call (af (aS (f7 RC.cl RC.n2 ae) av) (af (aS (f7 RC.cl RC.n2 ae) av) ao))) av)) (aS (f7 RC.cl RC.n2 ae) av) (aS (f7 RC.cl RC.n2 ae) av)))
  (au (aA (jK (aQ (nE (s_call (af (aS (f7 RC.cl RC.n2 ae) av) (af (aS (f7 RC.cl RC.n2 ae) av) ao))) av)) (aS (f7 RC.cl RC.n2 ae) av) (aS (f7 RC.cl RC.n2 ae) av)))
  (au (br (aQ (Og (s_call (af ae (af ae ao))) av)) (aV EA)
  bt)
  (au (aA (s_call (af (nH RC.cl RC.n1 ae) (af (nH RC.cl RC.n1 ae) ao))))
  (aV (nE (bq (s_call (af ae (af ae ao))) (s_call (af ae (af ae ao)))) av)))))) rfl h
theorem Jx(RC:Rc K mg C fI fd)(tP:bo P w K mg base 37 "times" ["one","other"] (aM K C ka 2))(iS:bo P w K mg base 37 "narrowed" ["free","pair","width"] (aM K C gb 3))(il:bo P w K mg base 37 "against" ["number","given"] (aM K C fD 2))(D:aU K mg "parted" yf ["one","other"]):bo P w K mg base 38 "parted" ["one","other"] (aM K C yp 2):=by
 refine D.ok mY (λvs H Q E h=>aP h) (λf bH A outer s H vs Q E hr h=>?_);refine⟨_,(ag (aw (i:=2) mY.nd rfl (Or.inl rfl) (bX (pv 0) rfl))
  (ag (aw (i:=3) mY.nd rfl (Or.inl rfl) (bV (aa ak (aa ak ah))))
  (aq (dj PassesOwn.never (cU xh (λ_=>rfl))
  (ag (bj (aG i5 (aB il hr (aa (pv 1) (aa (aD aL (pv 2) ak (λ_ _=>rfl)) ah))) ak (aN _))
  (aq (aC ak))
  aO)
  (ag (bj (aG jE (aB il hr (aa (pv 1) (aa (aD aL (pv 2) ak (λ_ _=>rfl)) ah))) ak (aN _))
  (aq (aC (cQ bU ak)))
  aO)
  (ag (aw (i:=2) mY.nd rfl (Or.inl rfl) (aB iS hr (aa (bX (pv 0) rfl) (aa (pv 2) (aa (pv 3) ah)))))
  (aq (aw (i:=3) mY.nd rfl (Or.inl rfl) (aB tP hr (aa (pv 3) (aa (pv 3) ah)))))))))))),?_⟩;exact bb (s:=tN) (n:=2) (au (aA (f7 RC.cl RC.n2 ae))
  (au (aA (de (af av (af av ao))))
  (kG (jF EA)
  (au (br (aQ (nE (s_call (af ae (af (aS ae av) ao))) av)) (aV av)
  bt)
  (au (br (aQ (qE (s_call (af ae (af (aS ae av) ao))) av)) (aV (fq av))
  bt)
  (au (aA (s_call (af (nH RC.cl RC.n1 ae) (af ae (af ae ao)))))
  (aA (s_call (af ae (af ae ao)))))))))) rfl h
theorem DA(FG:bo P w K mg base 38 "are_same" ["one","other"] (aM K C rX 2))(ME:bo P w K mg base 38 "parted" ["one","other"] (aM K C yp 2))(cL:bo P w K mg base 38 "as_ratio" ["number"] (aM K C bz 1))(il:bo P w K mg base 38 "against" ["number","given"] (aM K C fD 2))(D:aU K mg "compared" rG ["one","other"]):bo P w K mg base 39 "compared" ["one","other"] (aM K C rY 2):=by
 refine D.ok De (λvs H Q E h=>aP h) (λf bH A outer s H vs Q E hr h=>?_);refine⟨_,(ag (bj (aG j5 (aB cL hr (aa (pv 1) ah)) gw (aN _))
  (aq (aC (aB il hr (aa (pv 0) (aa (aB cL hr (aa (pv 1) ah)) ah)))))
  aO)
  (ag (bj (aG j5 (aB cL hr (aa (pv 0) ah)) gw (aN _))
  (aq (aC (cQ bU (aB il hr (aa (pv 1) (aa (aB cL hr (aa (pv 0) ah)) ah))))))
  aO)
  (aq (aC (bW (ny (aB FG hr (aa (pv 0) (aa (pv 1) ah)))) ak (aB ME hr (aa (pv 0) (aa (pv 1) ah)))))))),?_⟩;exact bb (s:=oh) (n:=0) (au (br (aQ (uE (s_call (af ae ao)))) (aV (s_call (af ae (af (s_call (af ae ao)) ao))))
  bt)
  (au (br (aQ (uE (s_call (af ae ao)))) (aV (fq (s_call (af ae (af (s_call (af ae ao)) ao)))))
  bt)
  (aV (jK (xE (s_call (af ae (af ae ao)))) av (s_call (af ae (af ae ao))))))) rfl h
theorem FH(il:bo P w K mg base 36 "against" ["number","given"] (aM K C fD 2))(D:aU K mg "sign_of" uW ["number"]):bo P w K mg base 37 "sign_of" ["number"] (aM K C cY 1):=by
 refine D.ok Ff (λvs H Q E h=>aP h) (λf bH A outer s H vs Q E hr h=>?_);refine⟨_,(aq (aC (aB il hr (aa (pv 0) (aa (bV (aa ak (aa ak ah))) ah))))),?_⟩;exact bb (s:=iX) (n:=0) (aV (s_call (af ae (af (de (af av (af av ao))) ao)))) rfl h
theorem yv(hT:P.given.tree=none)(RC:Rc K mg C fI fd)(dG:bo P w K mg base 37 "ratio" ["top","under"] (aM K C df 2))(il:bo P w K mg base 37 "against" ["number","given"] (aM K C fD 2))(iS:bo P w K mg base 37 "narrowed" ["free","pair","width"] (aM K C gb 3))(D:aU K mg "floor_times" mH ["number","scale"]):bo P w K mg base 38 "floor_times" ["number","scale"] (aM K C iC 2):=by
 refine D.ok lD (λvs H Q E h=>aP h) (λf bH A outer s H vs Q E hr h=>?_);refine⟨_,(ag (aw (i:=2) lD.nd rfl (Or.inl rfl) (aD aL (aB iS hr (aa (bX (pv 0) rfl) (aa (bX (pv 0) rfl) (aa (bV (aa ak (aa (pv 1) ah))) ah)))) ak (λ_ _=>rfl)))
  (ag (aw (i:=3) lD.nd rfl (Or.inl rfl) (aH (cV ⟨hT,⟨_,_,rfl,rfl,rfl,rfl,rfl⟩,hr.py⟩) (aH aT (aD aL (pv 2) ak (λ_ _=>rfl)) (pv 1)) (aD aL (pv 2) ak (λ_ _=>rfl))))
  (aq (aC (bW (aG i5 (aB il hr (aa (pv 0) (aa (aB dG hr (aa (aH bF (pv 3) ak) (aa (pv 1) ah))) ah))) ak (aN _)) (pv 3) (aH bF (pv 3) ak)))))),?_⟩;exact bb (s:=iB) (n:=2) (au (aA (aS (s_call (af (nH RC.cl RC.n1 ae) (af (f7 RC.cl RC.n2 ae) (af (de (af av (af ae ao))) ao)))) av))
  (au (aA (i8 (bq (aS ae av) ae) (aS ae av)))
  (aV (jK (aQ (nE (s_call (af ae (af (s_call (af (cC ae av) (af ae ao))) ao))) av)) ae (cC ae av))))) rfl h
theorem DB(mL:bo P w K mg base 38 "floor_times" ["number","scale"] (aM K C iC 2))(D:aU K mg "floor_of" rH ["number"]):bo P w K mg base 39 "floor_of" ["number"] (aM K C rZ 1):=by
 refine D.ok Df (λvs H Q E h=>aP h) (λf bH A outer s H vs Q E hr h=>?_);refine⟨_,(aq (aC (aB mL hr (aa (pv 0) (aa ak ah))))),?_⟩;exact bb (s:=oi) (n:=0) (aV (s_call (af ae (af av ao)))) rfl h
theorem FI(T:Nm mg)(hT:P.given.tree=none)(D:aU K mg "falling" uX ["poly","scale"]):bo P w K mg base 34 "falling" ["poly","scale"] (aM K C jX 2):=by
 refine D.ok lE (λvs H Q E h=>aP h) (λf bH A outer s H vs Q E hr h=>?_);refine⟨_,(ag (aw (i:=2) lE.nd rfl (Or.inl rfl) (bN ah))
  (ag (aw (i:=3) lE.nd rfl (Or.inl rfl) ak)
  (ag (eB PassesOwn.never rfl (uz rfl T.iQ (aa (pv 0) ah)) (bp (i:=4) lE.nd rfl (Or.inl rfl))
  (ag (gC (eJ PySem.F.plainAttrs_list PySem.F.slot_list_append PySem.F.type_list_append dh (pv 2) (aa (aH (cV ⟨hT,⟨_,_,rfl,rfl,rfl,rfl,rfl⟩,hr.py⟩) (aH aT (pv 4) (pv 3)) (aD aZ (pv 0) (cQ bU ak) (λ_ _=>rfl))) ah)))
  (aq (aw (i:=3) lE.nd rfl (Or.inl rfl) (aH aT (pv 3) (pv 1))))))
  (aq (aC (pv 2)))))),?_⟩;exact bb (s:=m9) (n:=3) (au (ix (dq ao))
  (au (aA av)
  (au (eY (zQ (af ae ao)) lr
  (au (lu (af (i8 (bq ae ae) (bM ae (fq av))) ao))
  (aA (bq ae ae))))
  (aV ae)))) rfl h
end
section
variable {P:Program} {w:World} {K:PySem.W.Frag} {mg:Str->Option Value} {base:Heap} {C fI fB:Addr} {fd uk:FuncData} {a:Ad}
theorem zg(T:Nm mg)(D:aU K mg "power_sums" nR ["row","many"]):bo P w K mg base 34 "power_sums" ["row","many"] (aM K C gf 2):=by
 refine D.ok gr (λvs H Q E h=>aP h) (λf bH A outer s H vs Q E hr h=>?_);refine⟨_,(ag (aw (i:=2) gr.nd rfl (Or.inl rfl) (bN (aa (aH dI (ba bg rfl T.dF boot_len (aa (pv 0) ah)) ak) ah)))
  (ag (eB PassesOwn.never rfl (jH rfl T.j_ (aa ak (aa (aH bF (pv 1) ak) ah))) (bp (i:=3) gr.nd rfl (Or.inl rfl))
  (ag (aw (i:=4) gr.nd rfl (Or.inl rfl) (bW (aG i5 (pv 3) (ba bg rfl T.dF boot_len (aa (pv 0) ah)) (aN _)) (aH aT (pv 3) (aD aZ (pv 0) (pv 3) (λ_ _=>rfl))) ak))
  (ag (eB PassesOwn.never rfl (jH rfl T.j_ (aa ak (aa (ba (qf rfl) rfl T.Di boot_min (aa (pv 3) (aa (ba bg rfl T.dF boot_len (aa (pv 0) ah)) ah))) ah))) (bp (i:=5) gr.nd rfl (Or.inl rfl))
  (aq (aw (i:=4) gr.nd rfl (Or.inl rfl) (aH bF (pv 4) (aH aT (aD aZ (pv 0) (pv 5) (λ_ _=>rfl)) (aD aZ (pv 2) (aH dI (pv 3) (pv 5)) (λ_ _=>rfl)))))))
  (aq (gC (eJ PySem.F.plainAttrs_list PySem.F.slot_list_append PySem.F.type_list_append dh (pv 2) (aa (cQ bU (pv 4)) ah)))))))
  (aq (aC (pv 2))))),?_⟩;exact bb (s:=jo) (n:=4) (au (ix (dq (af (fP (gE (af ae ao)) av) ao)))
  (au (eY (xK (af av (af (cC ae av) ao))) lr
  (au (aA (jK (aQ (nE ae (gE (af ae ao)))) (bq ae (bM ae ae)) av))
  (au (eY (xK (af av (af (EG (af ae (af (gE (af ae ao)) ao))) ao))) lr
  (aA (cC ae (bq (bM ae ae) (qK (fP ae ae))))))
  (lu (af (fq ae) ao)))))
  (aV ae))) rfl h
theorem sk(T:Nm mg)(hT:P.given.tree=none)(D:aU K mg "falling_of_sums" ja ["sums"]):bo P w K mg base 34 "falling_of_sums" ["sums"] (aM K C jq 1):=by
 refine D.ok dy (λvs H Q E h=>aP h) (λf bH A outer s H vs Q E hr h=>?_);refine⟨_,(ag (aw (i:=1) dy.nd rfl (Or.inl rfl) (bN (aa ak ah)))
  (ag (eB PassesOwn.never rfl (jH rfl T.j_ (aa ak (aa (ba bg rfl T.dF boot_len (aa (pv 0) ah)) ah))) (bp (i:=2) dy.nd rfl (Or.inl rfl))
  (ag (aw (i:=3) dy.nd rfl (Or.inl rfl) (aD aZ (pv 0) (pv 2) (λ_ _=>rfl)))
  (ag (eB PassesOwn.never rfl (jH rfl T.j_ (aa ak (aa (pv 2) ah))) (bp (i:=4) dy.nd rfl (Or.inl rfl))
  (aq (aw (i:=3) dy.nd rfl (Or.inl rfl) (aH bF (pv 3) (aH aT (aD aZ (pv 1) (pv 4) (λ_ _=>rfl)) (aD aZ (pv 0) (aH dI (pv 2) (pv 4)) (λ_ _=>rfl)))))))
  (aq (gC (eJ PySem.F.plainAttrs_list PySem.F.slot_list_append PySem.F.type_list_append dh (pv 1) (aa (aH (cV ⟨hT,⟨_,_,rfl,rfl,rfl,rfl,rfl⟩,hr.py⟩) (cQ bU (pv 3)) (pv 2)) ah)))))))
  (aq (aC (pv 1))))),?_⟩;exact bb (s:=gG) (n:=4) (au (ix (dq (af av ao)))
  (au (eY (xK (af av (af (gE (af ae ao)) ao))) lr
  (au (aA (bM ae ae))
  (au (eY (xK (af av (af ae ao))) lr
  (aA (cC ae (bq (qK ae) (bM ae (fP ae ae))))))
  (lu (af (i8 (fq ae) ae) ao)))))
  (aV ae))) rfl h
theorem sq(T:Nm mg)(bK:bo P w K mg base 36 "primitive" ["poly"] (aM K C bD 1))(tQ:bo P w K mg base 36 "falling_of_sums" ["sums"] (aM K C jq 1))(D:aU K mg "with_power_sums" jb ["sums","scale"]):bo P w K mg base 37 "with_power_sums" ["sums","scale"] (aM K C eR 2):=by
 refine D.ok d_ (λvs H Q E h=>aP h) (λf bH A outer s H vs Q E hr h=>?_);refine⟨_,(ag (aw (i:=2) d_.nd rfl (Or.inl rfl) (bN ah))
  (ag (aw (i:=3) d_.nd rfl (Or.inl rfl) ak)
  (ag (eB PassesOwn.never rfl (uz rfl T.iQ (aa (aB tQ hr (aa (pv 0) ah)) ah)) (bp (i:=4) d_.nd rfl (Or.inl rfl))
  (ag (gC (eJ PySem.F.plainAttrs_list PySem.F.slot_list_append PySem.F.type_list_append dh (pv 2) (aa (aH aT (pv 4) (pv 3)) ah)))
  (aq (aw (i:=3) d_.nd rfl (Or.inl rfl) (aH aT (pv 3) (pv 1))))))
  (aq (aC (aB bK hr (aa (pv 2) ah))))))),?_⟩;exact bb (s:=eQ) (n:=3) (au (ix (dq ao))
  (au (aA av)
  (au (eY (zQ (af (s_call (af ae ao)) ao)) lr
  (au (lu (af (bq ae ae) ao))
  (aA (bq ae ae))))
  (aV (s_call (af ae ao)))))) rfl h
theorem tR(T:Nm mg)(hT:P.given.tree=none)(jz:bo P w K mg base 37 "with_power_sums" ["sums","scale"] (aM K C eR 2))(kS:bo P w K mg base 37 "multiplied" ["one","other"] (aM K C ib 2))(nh:bo P w K mg base 37 "falling" ["poly","scale"] (aM K C jX 2))(jA:bo P w K mg base 37 "power_sums" ["row","many"] (aM K C gf 2))(cG:bo P w K mg base 37 "common_divisor" ["one","other"] (aM K C bP 2))(cP:bo P w K mg base 37 "degree" ["poly"] (aM K C cA 1))(D:aU K mg "sums_by_powers" jO ["one","other"]):bo P w K mg base 38 "sums_by_powers" ["one","other"] (aM K C fF 2):=by
 refine D.ok cv (λvs H Q E h=>aP h) (λf bH A outer s H vs Q E hr h=>?_);refine⟨_,(ag (aw (i:=2) cv.nd rfl (Or.inl rfl) (aH aT (aB cP hr (aa (pv 0) ah)) (aB cP hr (aa (pv 1) ah))))
  (ag (aw (i:=3) cv.nd rfl (Or.inl rfl) (aH (cV ⟨hT,⟨_,_,rfl,rfl,rfl,rfl,rfl⟩,hr.py⟩) (aH aT (aD aZ (pv 0) (cQ bU ak) (λ_ _=>rfl)) (aD aZ (pv 1) (cQ bU ak) (λ_ _=>rfl))) (aB cG hr (aa (aD aZ (pv 0) (cQ bU ak) (λ_ _=>rfl)) (aa (aD aZ (pv 1) (cQ bU ak) (λ_ _=>rfl)) ah)))))
  (ag (aw (i:=4) cv.nd rfl (Or.inr rfl) (aB jA hr (aa (aB nh hr (aa (pv 0) (aa (pv 3) ah))) (aa (pv 2) ah))))
  (ag (aw (i:=5) cv.nd rfl (Or.inr rfl) (aB jA hr (aa (aB nh hr (aa (pv 1) (aa (pv 3) ah))) (aa (pv 2) ah))))
  (ag (aw (i:=6) cv.nd rfl (Or.inl rfl) (bN ah))
  (ag (aw (i:=7) cv.nd rfl (Or.inl rfl) (bN (aa ak ah)))
  (ag (eB PassesOwn.never rfl (zA rfl T.j_ (aa (aH bF (pv 2) ak) ah)) (bp (i:=8) cv.nd rfl (Or.inr rfl))
  (ag (gC (eJ PySem.F.plainAttrs_list PySem.F.slot_list_append PySem.F.type_list_append dh (pv 6) (aa (ba (IG rfl) rfl T.WU boot_sum (aa (j6 rfl rfl (iL (own:=["place","times"]) (fr:=[5,4,8]) (fs:=["second","first","count"]) (by with_unfolding_all rfl) rfl (by decide +kernel) (by decide +kernel) (by exact⟨rfl,⟨rfl,⟨rfl,trivial⟩⟩⟩) (by with_unfolding_all rfl) (by exact⟨⟨rfl,rfl,rfl,Or.inl rfl⟩,⟨⟨rfl,rfl,rfl,Or.inl rfl⟩,⟨⟨rfl,rfl,rfl,Or.inl rfl⟩,trivial⟩⟩⟩)) (nB rfl T.gP (aa (pv 7) ah)) (λ_ _ _ _ _=>(nC (K:=K) (n:=2) rfl rfl (bZ (bp (i:=0) (show List.Nodup (["place","times","second","first","count"]:List Str) by decide +kernel) rfl (Or.inl rfl) (Or.inr rfl)) (bZ (bp (i:=1) (show List.Nodup (["place","times","second","first","count"]:List Str) by decide +kernel) rfl (Or.inl rfl) (Or.inr rfl)) g_)) rfl rfl)) (λ_ _ _ _ _=>(aH aT (aH aT (pv 1) (aD (Cr (K:=K) rfl) (pv 3) (pv 0) (λ_ _=>rfl))) (aD (Cr (K:=K) rfl) (pv 2) (aH dI (pv 4) (pv 0)) (λ_ _=>rfl))))) ah)) ah)))
  (aq (aw (i:=7) cv.nd rfl (Or.inl rfl) (aB kS hr (aa (pv 7) (aa (bN (aa ak (aa ak ah))) ah)))))))
  (aq (aC (aB jz hr (aa (pv 6) (aa (pv 3) ah)))))))))))),?_⟩;exact bb (s:=fE) (n:=7) (au (aA (bq (s_call (af ae ao)) (s_call (af ae ao))))
  (au (aA (i8 (bq (bM ae (fq av)) (bM ae (fq av))) (s_call (af (bM ae (fq av)) (af (bM ae (fq av)) ao)))))
  (au (aA (s_call (af (s_call (af ae (af ae ao))) (af ae ao))))
  (au (aA (s_call (af (s_call (af ae (af ae ao))) (af ae ao))))
  (au (ix (dq ao))
  (au (aA (dR (dq (af av ao))))
  (au (eY (V6 (af (cC ae av) ao)) lr
  (au (lu (af (V4 (af (dR (kA rfl (xJ (af ae ao)) pw (bq (bq ae (bM ae ae)) (bM ae (fP ae ae))))) ao)) ao))
  (aA (s_call (af ae (af (dR (dq (af av (af av ao)))) ao))))))
  (aV (s_call (af ae (af ae ao))))))))))) rfl h
theorem oV(T:Nm mg)(jz:bo P w K mg base 37 "with_power_sums" ["sums","scale"] (aM K C eR 2))(nh:bo P w K mg base 37 "falling" ["poly","scale"] (aM K C jX 2))(jA:bo P w K mg base 37 "power_sums" ["row","many"] (aM K C gf 2))(cP:bo P w K mg base 37 "degree" ["poly"] (aM K C cA 1))(D:aU K mg "products_by_powers" gL ["one","other"]):bo P w K mg base 38 "products_by_powers" ["one","other"] (aM K C dO 2):=by
 refine D.ok ez (λvs H Q E h=>aP h) (λf bH A outer s H vs Q E hr h=>?_);refine⟨_,(ag (aw (i:=2) ez.nd rfl (Or.inl rfl) (aH aT (aB cP hr (aa (pv 0) ah)) (aB cP hr (aa (pv 1) ah))))
  (ag (aw (i:=3) ez.nd rfl (Or.inl rfl) (aB jA hr (aa (aB nh hr (aa (pv 0) (aa (aD aZ (pv 0) (cQ bU ak) (λ_ _=>rfl)) ah))) (aa (pv 2) ah))))
  (ag (aw (i:=4) ez.nd rfl (Or.inl rfl) (aB jA hr (aa (aB nh hr (aa (pv 1) (aa (aD aZ (pv 1) (cQ bU ak) (λ_ _=>rfl)) ah))) (aa (pv 2) ah))))
  (aq (aC (aB jz hr (aa (j6 rfl rfl (iL (own:=["left","right"]) (fr:=[]) (fs:=[]) (by with_unfolding_all rfl) rfl (by decide +kernel) (by decide +kernel) (by exact trivial) (by with_unfolding_all rfl) (by exact trivial)) (Sl rfl T.Mr (aa (pv 3) (aa (pv 4) ah))) (λ_ _ _ _ _=>(nC (K:=K) (n:=2) rfl rfl (bZ (bp (i:=0) (show List.Nodup (["left","right"]:List Str) by decide +kernel) rfl (Or.inl rfl) (Or.inr rfl)) (bZ (bp (i:=1) (show List.Nodup (["left","right"]:List Str) by decide +kernel) rfl (Or.inl rfl) (Or.inr rfl)) g_)) rfl rfl)) (λ_ _ _ _ _=>(aH aT (pv 0) (pv 1)))) (aa (aH aT (aD aZ (pv 0) (cQ bU ak) (λ_ _=>rfl)) (aD aZ (pv 1) (cQ bU ak) (λ_ _=>rfl))) ah)))))))),?_⟩;exact bb (s:=dN) (n:=3) (au (aA (bq (s_call (af ae ao)) (s_call (af ae ao))))
  (au (aA (s_call (af (s_call (af ae (af (bM ae (fq av)) ao))) (af ae ao))))
  (au (aA (s_call (af (s_call (af ae (af (bM ae (fq av)) ao))) (af ae ao))))
  (aV (s_call (af (dR (kA rfl (V' (af ae (af ae ao))) pw (bq ae ae))) (af (bq (bM ae (fq av)) (bM ae (fq av))) ao))))))) rfl h
theorem DE(cP:bo P w K mg base 38 "degree" ["poly"] (aM K C cA 1))(ni:bo P w K mg base 38 "sums_of" ["one","other"] (aM K C (λ_=>none) 2))(jZ:bo P w K mg base 38 "sums_by_powers" ["one","other"] (aM K C fF 2))(dC:bo P w K mg base 38 "composed" ["poly","top","under"] (aM K C cS 3))(bK:bo P w K mg base 38 "primitive" ["poly"] (aM K C bD 1))(D:aU K mg "sums_of" qj ["one","other"]):bo P w K mg base 39 "sums_of" ["one","other"] (aM K C r_ 2):=by
 refine D.ok rJ (λvs H Q E h=>aP h) (λf bH A outer s H vs Q E hr h=>?_);refine⟨_,(ag (bj (aG bI (aB cP hr (aa (pv 0) ah)) ak (aN _))
  (aq (aC (aB bK hr (aa (aB dC hr (aa (pv 1) (aa (pv 0) (aa (bN (aa (aD aZ (pv 0) ak (λ_ _=>rfl)) ah)) ah)))) ah))))
  aO)
  (aq (aC (bW (aG bI (aB cP hr (aa (pv 1) ah)) ak (aN _)) (aB ni hr (aa (pv 1) (aa (pv 0) ah))) (aB jZ hr (aa (pv 0) (aa (pv 1) ah))))))),?_⟩;exact bb (s:=oj) (n:=0) (au (br (aQ (s_eq (s_call (af ae ao)) av)) (aV (s_call (af (s_call (af ae (af ae (af (dR (dq (af (bM ae av) ao))) ao)))) ao)))
  bt)
  (aV (jK (aQ (s_eq (s_call (af ae ao)) av)) (s_call (af ae (af ae ao))) (s_call (af ae (af ae ao)))))) rfl h
theorem FJ(cP:bo P w K mg base 39 "degree" ["poly"] (aM K C cA 1))(ni:bo P w K mg base 39 "sums_of" ["one","other"] (aM K C r_ 2))(jZ:bo P w K mg base 39 "sums_by_powers" ["one","other"] (aM K C fF 2))(dC:bo P w K mg base 39 "composed" ["poly","top","under"] (aM K C cS 3))(bK:bo P w K mg base 39 "primitive" ["poly"] (aM K C bD 1))(D:aU K mg "sums_of" qj ["one","other"]):bo P w K mg base 40 "sums_of" ["one","other"] (aM K C vg 2):=by
 refine D.ok rJ (λvs H Q E h=>aP h) (λf bH A outer s H vs Q E hr h=>?_);refine⟨_,(ag (bj (aG bI (aB cP hr (aa (pv 0) ah)) ak (aN _))
  (aq (aC (aB bK hr (aa (aB dC hr (aa (pv 1) (aa (pv 0) (aa (bN (aa (aD aZ (pv 0) ak (λ_ _=>rfl)) ah)) ah)))) ah))))
  aO)
  (aq (aC (bW (aG bI (aB cP hr (aa (pv 1) ah)) ak (aN _)) (aB ni hr (aa (pv 1) (aa (pv 0) ah))) (aB jZ hr (aa (pv 0) (aa (pv 1) ah))))))),?_⟩;exact bb (s:=qq) (n:=0) (au (br (aQ (s_eq (s_call (af ae ao)) av)) (aV (s_call (af (s_call (af ae (af ae (af (dR (dq (af (bM ae av) ao))) ao)))) ao)))
  bt)
  (aV (jK (aQ (s_eq (s_call (af ae ao)) av)) (s_call (af ae (af ae ao))) (s_call (af ae (af ae ao)))))) rfl h
theorem wy(cP:bo P w K mg base 38 "degree" ["poly"] (aM K C cA 1))(fi:bo P w K mg base 38 "products_of" ["one","other"] (aM K C (λ_=>none) 2))(gY:bo P w K mg base 38 "products_by_powers" ["one","other"] (aM K C dO 2))(dC:bo P w K mg base 38 "composed" ["poly","top","under"] (aM K C cS 3))(bK:bo P w K mg base 38 "primitive" ["poly"] (aM K C bD 1))(D:aU K mg "products_of" j9 ["one","other"]):bo P w K mg base 39 "products_of" ["one","other"] (aM K C lO 2):=by
 refine D.ok lF (λvs H Q E h=>aP h) (λf bH A outer s H vs Q E hr h=>?_);refine⟨_,(ag (bj (aG bI (aB cP hr (aa (pv 0) ah)) ak (aN _))
  (aq (aC (aB bK hr (aa (aB dC hr (aa (pv 1) (aa (bN (aa ak (aa (aD aZ (pv 0) ak (λ_ _=>rfl)) ah))) (aa (bN (aa (cQ bU (aD aZ (pv 0) ak (λ_ _=>rfl))) ah)) ah)))) ah))))
  aO)
  (aq (aC (bW (aG bI (aB cP hr (aa (pv 1) ah)) ak (aN _)) (aB fi hr (aa (pv 1) (aa (pv 0) ah))) (aB gY hr (aa (pv 0) (aa (pv 1) ah))))))),?_⟩;exact bb (s:=jr) (n:=0) (au (br (aQ (s_eq (s_call (af ae ao)) av)) (aV (s_call (af (s_call (af ae (af (dR (dq (af av (af (bM ae av) ao)))) (af (dR (dq (af (fq (bM ae av)) ao))) ao)))) ao)))
  bt)
  (aV (jK (aQ (s_eq (s_call (af ae ao)) av)) (s_call (af ae (af ae ao))) (s_call (af ae (af ae ao)))))) rfl h
theorem yw(cP:bo P w K mg base 39 "degree" ["poly"] (aM K C cA 1))(fi:bo P w K mg base 39 "products_of" ["one","other"] (aM K C lO 2))(gY:bo P w K mg base 39 "products_by_powers" ["one","other"] (aM K C dO 2))(dC:bo P w K mg base 39 "composed" ["poly","top","under"] (aM K C cS 3))(bK:bo P w K mg base 39 "primitive" ["poly"] (aM K C bD 1))(D:aU K mg "products_of" j9 ["one","other"]):bo P w K mg base 40 "products_of" ["one","other"] (aM K C iE 2):=by
 refine D.ok lF (λvs H Q E h=>aP h) (λf bH A outer s H vs Q E hr h=>?_);refine⟨_,(ag (bj (aG bI (aB cP hr (aa (pv 0) ah)) ak (aN _))
  (aq (aC (aB bK hr (aa (aB dC hr (aa (pv 1) (aa (bN (aa ak (aa (aD aZ (pv 0) ak (λ_ _=>rfl)) ah))) (aa (bN (aa (cQ bU (aD aZ (pv 0) ak (λ_ _=>rfl))) ah)) ah)))) ah))))
  aO)
  (aq (aC (bW (aG bI (aB cP hr (aa (pv 1) ah)) ak (aN _)) (aB fi hr (aa (pv 1) (aa (pv 0) ah))) (aB gY hr (aa (pv 0) (aa (pv 1) ah))))))),?_⟩;exact bb (s:=iD) (n:=0) (au (br (aQ (s_eq (s_call (af ae ao)) av)) (aV (s_call (af (s_call (af ae (af (dR (dq (af av (af (bM ae av) ao)))) (af (dR (dq (af (fq (bM ae av)) ao))) ao)))) ao)))
  bt)
  (aV (jK (aQ (s_eq (s_call (af ae ao)) av)) (s_call (af ae (af ae ao))) (s_call (af ae (af ae ao)))))) rfl h
end
section
variable {P:Program} {w:World} {K:PySem.W.Frag} {mg:Str->Option Value} {base:Heap} {C fI fB:Addr} {fd uk:FuncData} {a:Ad}
theorem wz(dC:bo P w K mg base 36 "composed" ["poly","top","under"] (aM K C cS 3))(bK:bo P w K mg base 36 "primitive" ["poly"] (aM K C bD 1))(D:aU K mg "opposites_of" lG ["poly"]):bo P w K mg base 37 "opposites_of" ["poly"] (aM K C lP 1):=by
 refine D.ok wq (λvs H Q E h=>aP h) (λf bH A outer s H vs Q E hr h=>?_);refine⟨_,(aq (aC (aB bK hr (aa (aB dC hr (aa (pv 0) (aa (bN (aa ak (aa (cQ bU ak) ah))) (aa (bN (aa ak ah)) ah)))) ah)))),?_⟩;exact bb (s:=js) (n:=0) (aV (s_call (af (s_call (af ae (af (dR (dq (af av (af (fq av) ao)))) (af (dR (dq (af av ao))) ao)))) ao))) rfl h
theorem yx(dC:bo P w K mg base 36 "composed" ["poly","top","under"] (aM K C cS 3))(bK:bo P w K mg base 36 "primitive" ["poly"] (aM K C bD 1))(D:aU K mg "inverses_of" mI ["poly"]):bo P w K mg base 37 "inverses_of" ["poly"] (aM K C mK 1):=by
 refine D.ok yg (λvs H Q E h=>aP h) (λf bH A outer s H vs Q E hr h=>?_);refine⟨_,(aq (aC (aB bK hr (aa (aB dC hr (aa (pv 0) (aa (bN (aa ak ah)) (aa (bN (aa ak (aa ak ah))) ah)))) ah)))),?_⟩;exact bb (s:=kb) (n:=0) (aV (s_call (af (s_call (af ae (af (dR (dq (af av ao))) (af (dR (dq (af av (af av ao)))) ao)))) ao))) rfl h
theorem O_(RC:Rc K mg C fI fd)(iS:bo P w K mg base 37 "narrowed" ["free","pair","width"] (aM K C gb 3))(D:aU K mg "near" Fg ["number","width"]):bo P w K mg base 38 "near" ["number","width"] (aM K C vh 2):=by
 refine D.ok O1 (λvs H Q E h=>aP h) (λf bH A outer s H vs Q E hr h=>?_);refine⟨_,(aq (aC (aB iS hr (aa (bX (pv 0) rfl) (aa (bX (pv 0) rfl) (aa (pv 1) ah)))))),?_⟩;exact bb (s:=yq) (n:=0) (aV (s_call (af (nH RC.cl RC.n1 ae) (af (f7 RC.cl RC.n2 ae) (af ae ao))))) rfl h
theorem wA(MF:bo P w K mg base 36 "plus" ["one","other"] (aM K C Bb 2))(D:aU K mg "pair_of_sums" lI ["one","other"]):bo P w K mg base 37 "pair_of_sums" ["one","other"] (aM K C lQ 2):=by
 refine D.ok wt (λvs H Q E h=>aP h) (λf bH A outer s H vs Q E hr h=>?_);refine⟨_,(aq (aC (bV (aa (aB MF hr (aa (aD aL (pv 0) ak (λ_ _=>rfl)) (aa (aD aL (pv 1) ak (λ_ _=>rfl)) ah))) (aa (aB MF hr (aa (aD aL (pv 0) ak (λ_ _=>rfl)) (aa (aD aL (pv 1) ak (λ_ _=>rfl)) ah))) ah))))),?_⟩;exact bb (s:=jt) (n:=0) (aV (de (af (s_call (af (aS ae av) (af (aS ae av) ao))) (af (s_call (af (aS ae av) (af (aS ae av) ao))) ao)))) rfl h
theorem qG(T:Nm mg)(dG:bo P w K mg base 35 "ratio" ["top","under"] (aM K C df 2))(ik:bo P w K mg base 35 "stretch_of" ["pair"] (aM K C eN 1))(D:aU K mg "pair_of_products" iO ["one","other"]):bo P w K mg base 36 "pair_of_products" ["one","other"] (aM K C ek 2):=by
 refine D.ok dS (λvs H Q E h=>aP h) (λf bH A outer s H vs Q E hr h=>?_);refine⟨_,(ag (aw (i:=2) dS.nd rfl (Or.inl rfl) (aB ik hr (aa (pv 0) ah)))
  (ag (aw (i:=3) dS.nd rfl (Or.inl rfl) (aB ik hr (aa (pv 1) ah)))
  (ag (aw (i:=4) dS.nd rfl (Or.inl rfl) (bN (aa (aH aT (aD aL (pv 2) ak (λ_ _=>rfl)) (aD aL (pv 3) ak (λ_ _=>rfl))) (aa (aH aT (aD aL (pv 2) ak (λ_ _=>rfl)) (aD aL (pv 3) ak (λ_ _=>rfl))) (aa (aH aT (aD aL (pv 2) ak (λ_ _=>rfl)) (aD aL (pv 3) ak (λ_ _=>rfl))) (aa (aH aT (aD aL (pv 2) ak (λ_ _=>rfl)) (aD aL (pv 3) ak (λ_ _=>rfl))) ah))))))
  (ag (aw (i:=5) dS.nd rfl (Or.inl rfl) (aH aT (aD aL (pv 2) ak (λ_ _=>rfl)) (aD aL (pv 3) ak (λ_ _=>rfl))))
  (aq (aC (bV (aa (aB dG hr (aa (ba (IL rfl) rfl T.Di boot_min (aa (pv 4) ah)) (aa (pv 5) ah))) (aa (aB dG hr (aa (ba (zL rfl) rfl T.Mq boot_max (aa (pv 4) ah)) (aa (pv 5) ah))) ah))))))))),?_⟩;exact bb (s:=eg) (n:=4) (au (aA (s_call (af ae ao)))
  (au (aA (s_call (af ae ao)))
  (au (aA (dR (dq (af (bq (aS ae av) (aS ae av)) (af (bq (aS ae av) (aS ae av)) (af (bq (aS ae av) (aS ae av)) (af (bq (aS ae av) (aS ae av)) ao)))))))
  (au (aA (bq (aS ae av) (aS ae av)))
  (aV (de (af (s_call (af (SE (af ae ao)) (af ae ao))) (af (s_call (af (Lm (af ae ao)) (af ae ao))) ao)))))))) rfl h
theorem DF(RC:Rc K mg C fI fd)(gz:dU P w K mg base kr 36 fI fd ["self","poly","pair","weight"] (pA C))(fV:bo P w K mg base 37 "weight_of" ["number"] (aM K C fT 1))(yy:bo P w K mg base 37 "opposites_of" ["poly"] (aM K C lP 1))(D:aU K mg "opposite" rL ["number"]):bo P w K mg base 38 "opposite" ["number"] (aM K C jY 1):=by
 refine D.ok pO (λvs H Q E h=>aP h) (λf bH A outer s H vs Q E hr h=>?_);refine⟨_,(ag (aw (i:=1) pO.nd rfl (Or.inl rfl) (aD aL (bX (pv 0) rfl) ak (λ_ _=>rfl)))
  (ag (aw (i:=2) pO.nd rfl (Or.inl rfl) (aD aL (bX (pv 0) rfl) ak (λ_ _=>rfl)))
  (aq (aC (qg (dvs:=[]) (E:=E0) RC.Rh gz hr rfl RC.m RC.b .nil fA (aa (aB yy hr (aa (bX (pv 0) rfl) ah)) (aa (bV (aa (bV (aa (cQ bU (aD aL (pv 2) ak (λ_ _=>rfl))) (aa (aD aL (pv 2) ak (λ_ _=>rfl)) ah))) (aa (bV (aa (cQ bU (aD aL (pv 1) ak (λ_ _=>rfl))) (aa (aD aL (pv 1) ak (λ_ _=>rfl)) ah))) ah))) (aa (aB fV hr (aa (pv 0) ah)) ah)))))))),?_⟩;exact bb (s:=lR) (n:=2) (au (aA (aS (f7 RC.cl RC.n2 ae) av))
  (au (aA (aS (f7 RC.cl RC.n2 ae) av))
  (aV (AK (af (s_call (af (nH RC.cl RC.n1 ae) ao)) (af (de (af (de (af (fq (aS ae av)) (af (aS ae av) ao))) (af (de (af (fq (aS ae av)) (af (aS ae av) ao))) ao))) (af (s_call (af ae ao)) ao))))))) rfl h
theorem oW(RC:Rc K mg C fI fd)(jx:bo P w K mg base 38 "sign" ["number"] (aM K C iy 1))(tP:bo P w K mg base 38 "times" ["one","other"] (aM K C ka 2))(Bp:bo P w K mg base 38 "near" ["number","width"] (aM K C vh 2))(D:aU K mg "pair_beside_nought" gM ["number"]):bo P w K mg base 39 "pair_beside_nought" ["number"] (aM K C gU 1):=by
 refine D.ok dw (λvs H Q E h=>aP h) (λf bH A outer s H vs Q E hr h=>?_);refine⟨_,(ag (aw (i:=1) dw.nd rfl (Or.inl rfl) (bX (pv 0) rfl))
  (ag (aw (i:=2) dw.nd rfl (Or.inl rfl) (bV (aa ak (aa ak ah))))
  (ag (dj PassesOwn.never (aG oJ (aH aT (aB jx hr (aa (aD aL (aD aL (pv 1) ak (λ_ _=>rfl)) ak (λ_ _=>rfl)) ah)) (aB jx hr (aa (aD aL (aD aL (pv 1) ak (λ_ _=>rfl)) ak (λ_ _=>rfl)) ah))) ak (aN _))
  (ag (aw (i:=1) dw.nd rfl (Or.inl rfl) (aB Bp hr (aa (pv 0) (aa (pv 2) ah))))
  (aq (aw (i:=2) dw.nd rfl (Or.inl rfl) (aB tP hr (aa (pv 2) (aa (pv 2) ah)))))))
  (aq (aC (pv 1)))))),?_⟩;exact bb (s:=eS) (n:=2) (au (aA (f7 RC.cl RC.n2 ae))
  (au (aA (de (af av (af av ao))))
  (au (kG (aQ (CD (bq (s_call (af (aS (aS ae av) av) ao)) (s_call (af (aS (aS ae av) av) ao))) av))
  (au (aA (s_call (af ae (af ae ao))))
  (aA (s_call (af ae (af ae ao))))))
  (aV ae)))) rfl h
theorem FK(RC:Rc K mg C fI fd)(gz:dU P w K mg base kr 38 fI fd ["self","poly","pair","weight"] (pA C))(fV:bo P w K mg base 39 "weight_of" ["number"] (aM K C fT 1))(zh:bo P w K mg base 39 "inverses_of" ["poly"] (aM K C mK 1))(dG:bo P w K mg base 39 "ratio" ["top","under"] (aM K C df 2))(pX:bo P w K mg base 39 "pair_beside_nought" ["number"] (aM K C gU 1))(fG:bo P w K mg base 39 "sign_of" ["number"] (aM K C cY 1))(CL:A_ K mg a)(D:aU K mg "inverse" uY ["number"]):cq P w K mg base (f9 P w) true 40 "inverse" ["number"] (λ_=>dJ K C a.c nc 1):=by
 refine D.pD lJ (λs vs H Q E h=>dv h) (λf bH A outer s H vs Q E iq hr h=>?_);refine⟨_,(ag (bj (aG bI (aB fG hr.calm (aa (pv 0) ah)) ak (aN _))
  (aq (iz (E:=E) aR rfl rfl (show mg "NoRatio"=some (.ref (a.c 0)) from CL.m0) (CL.cls 0) (aa a_ ah)))
  aO)
  (ag (aw (i:=1) lJ.nd rfl (Or.inl rfl) (aB pX hr.calm (aa (pv 0) ah)))
  (ag (aw (i:=2) lJ.nd rfl (Or.inl rfl) (aD aL (pv 1) ak (λ_ _=>rfl)))
  (ag (aw (i:=3) lJ.nd rfl (Or.inl rfl) (aD aL (pv 1) ak (λ_ _=>rfl)))
  (ag (aw (i:=4) lJ.nd rfl (Or.inl rfl) (bV (aa (aB dG hr.calm (aa (aD aL (pv 3) ak (λ_ _=>rfl)) (aa (aD aL (pv 3) ak (λ_ _=>rfl)) ah))) (aa (aB dG hr.calm (aa (aD aL (pv 2) ak (λ_ _=>rfl)) (aa (aD aL (pv 2) ak (λ_ _=>rfl)) ah))) ah))))
  (aq (aC (qg (dvs:=[]) (E:=E0) RC.Rh gz hr.calm rfl RC.m RC.b .nil fA (aa (aB zh hr.calm (aa (bX (pv 0) rfl) ah)) (aa (pv 4) (aa (aB fV hr.calm (aa (pv 0) ah)) ah))))))))))),?_⟩;exact eL (s:=m_) (n:=4) (au (br (aQ (s_eq (s_call (af ae ao)) av)) (km (by decide))
  bt)
  (au (aA (s_call (af ae ao)))
  (au (aA (aS ae av))
  (au (aA (aS ae av))
  (au (aA (de (af (s_call (af (aS ae av) (af (aS ae av) ao))) (af (s_call (af (aS ae av) (af (aS ae av) ao))) ao))))
  (bJ (AK (af (s_call (af (nH RC.cl RC.n1 ae) ao)) (af ae (af (s_call (af ae ao)) ao)))))))))) rfl h
theorem yz(T:Nm mg)(hT:P.given.tree=none)(dg:bo P w K mg base 33 "figures_of" ["number"] (aM K C (λ_=>none) 1))(D:aU K mg "figures_of" kN ["number"]):bo P w K mg base 34 "figures_of" ["number"] (aM K C ke 1):=by
 refine D.ok cN (λvs H Q E h=>aP h) (λf bH A outer s H vs Q E hr h=>?_);refine⟨_,(ag (bj (aG i5 (pv 0) (aH xj ak ak) (aN _))
  (aq (aC (fw fX rfl T.yj boot_str (aa (pv 0) ah))))
  aO)
  (ag (aw (i:=1) cN.nd rfl (Or.inl rfl) ak)
  (ag (aw (i:=2) cN.nd rfl (Or.inl rfl) (aH xj ak ak))
  (ag (dj PassesOwn.never (aG Qk (aH aT (pv 2) (pv 2)) (pv 0) (aN _))
  (ag (aw (i:=1) cN.nd rfl (Or.inl rfl) (aH aT ak (pv 1)))
  (aq (aw (i:=2) cN.nd rfl (Or.inl rfl) (aH aT (pv 2) (pv 2))))))
  (aq (aC (aH bF (aB dg hr (aa (aH (cV ⟨hT,⟨_,_,rfl,rfl,rfl,rfl,rfl⟩,hr.py⟩) (pv 0) (pv 2)) ah)) (eJ PySem.F.plainAttrs_str PySem.F.slot_str_zfill PySem.F.type_str_zfill xP (aB dg hr (aa (aH iH (pv 0) (pv 2)) ah)) (aa (pv 1) ah))))))))),?_⟩;exact bb (s:=kc) (n:=2) (au (br (aQ (nE ae (CC av av))) (aV (uN (af ae ao)))
  bt)
  (au (aA av)
  (au (aA (CC av av))
  (au (kG (aQ (VX (bq ae ae) ae))
  (au (aA (bq av ae))
  (aA (bq ae ae))))
  (aV (cC (s_call (af (i8 ae ae) ao)) (A0 (s_call (af (CB ae ae) ao)) (af ae ao)))))))) rfl h
end
section
variable {P:Program} {w:World} {K:PySem.W.Frag} {mg:Str->Option Value} {base:Heap} {C fI fB:Addr} {fd uk:FuncData} {a:Ad}
theorem zi(T:Nm mg)(hT:P.given.tree=none)(dg:bo P w K mg base 34 "figures_of" ["number"] (aM K C ke 1))(D:aU K mg "figures_of" kN ["number"]):bo P w K mg base 35 "figures_of" ["number"] (aM K C gg 1):=by
 refine D.ok cN (λvs H Q E h=>aP h) (λf bH A outer s H vs Q E hr h=>?_);refine⟨_,(ag (bj (aG i5 (pv 0) (aH xj ak ak) (aN _))
  (aq (aC (fw fX rfl T.yj boot_str (aa (pv 0) ah))))
  aO)
  (ag (aw (i:=1) cN.nd rfl (Or.inl rfl) ak)
  (ag (aw (i:=2) cN.nd rfl (Or.inl rfl) (aH xj ak ak))
  (ag (dj PassesOwn.never (aG Qk (aH aT (pv 2) (pv 2)) (pv 0) (aN _))
  (ag (aw (i:=1) cN.nd rfl (Or.inl rfl) (aH aT ak (pv 1)))
  (aq (aw (i:=2) cN.nd rfl (Or.inl rfl) (aH aT (pv 2) (pv 2))))))
  (aq (aC (aH bF (aB dg hr (aa (aH (cV ⟨hT,⟨_,_,rfl,rfl,rfl,rfl,rfl⟩,hr.py⟩) (pv 0) (pv 2)) ah)) (eJ PySem.F.plainAttrs_str PySem.F.slot_str_zfill PySem.F.type_str_zfill xP (aB dg hr (aa (aH iH (pv 0) (pv 2)) ah)) (aa (pv 1) ah))))))))),?_⟩;exact bb (s:=ig) (n:=2) (au (br (aQ (nE ae (CC av av))) (aV (uN (af ae ao)))
  bt)
  (au (aA av)
  (au (aA (CC av av))
  (au (kG (aQ (VX (bq ae ae) ae))
  (au (aA (bq av ae))
  (aA (bq ae ae))))
  (aV (cC (s_call (af (i8 ae ae) ao)) (A0 (s_call (af (CB ae ae) ao)) (af ae ao)))))))) rfl h
theorem zj(T:Nm mg)(dg:bo P w K mg base 35 "figures_of" ["number"] (aM K C gg 1))(D:aU K mg "whole_text" nT ["number"]):bo P w K mg base 36 "whole_text" ["number"] (aM K C jv 1):=by
 refine D.ok y_ (λvs H Q E h=>aP h) (λf bH A outer s H vs Q E hr h=>?_);refine⟨_,(aq (aC (aH gI (bW (aG i5 (pv 0) ak (aN _)) a_ a_) (aB dg hr (aa (ba gJ rfl T.pQ boot_abs (aa (pv 0) ah)) ah))))),?_⟩;exact bb (s:=ju) (n:=0) (aV (uL (jK (aQ (nE ae av)) (bS (bC _)) (bS (bC _))) (s_call (af (sS (af ae ao)) ao)))) rfl h
theorem zk(dg:bo P w K mg base 36 "figures_of" ["number"] (aM K C gg 1))(oB:bo P w K mg base 36 "whole_text" ["number"] (aM K C jv 1))(D:aU K mg "ratio_text" nU ["given"]):bo P w K mg base 37 "ratio_text" ["given"] (aM K C om 1):=by
 refine D.ok qM (λvs H Q E h=>aP h) (λf bH A outer s H vs Q E hr h=>?_);refine⟨_,(ag (aw (i:=1) qM.nd rfl (Or.inl rfl) (aB oB hr (aa (aD aL (pv 0) ak (λ_ _=>rfl)) ah)))
  (aq (aC (bW (aG bI (aD aL (pv 0) ak (λ_ _=>rfl)) ak (aN _)) (pv 1) (aH gI (aH gI (pv 1) a_) (aB dg hr (aa (aD aL (pv 0) ak (λ_ _=>rfl)) ah))))))),?_⟩;exact bb (s:=kQ) (n:=1) (au (aA (s_call (af (aS ae av) ao)))
  (aV (jK (aQ (s_eq (aS ae av) av)) ae (uL (uL ae (bS (bC _))) (s_call (af (aS ae av) ao)))))) rfl h
theorem FL(T:Nm mg)(dg:bo P w K mg base 38 "figures_of" ["number"] (aM K C gg 1))(jy:bo P w K mg base 38 "power" ["number","many"] (aM K C ia 2))(mL:bo P w K mg base 38 "floor_times" ["number","scale"] (aM K C iC 2))(D:aU K mg "decimal" u5 ["number","digits"]):bo P w K mg base 39 "decimal" ["number","digits"] (aM K C vi 2):=by
 refine D.ok lK (λvs H Q E h=>aP h) (λf bH A outer s H vs Q E hr h=>?_);refine⟨_,(ag (aw (i:=2) lK.nd rfl (Or.inl rfl) (aB mL hr (aa (pv 0) (aa (aB jy hr (aa ak (aa (pv 1) ah))) ah))))
  (ag (aw (i:=3) lK.nd rfl (Or.inl rfl) (eJ PySem.F.plainAttrs_str PySem.F.slot_str_zfill PySem.F.type_str_zfill xP (aB dg hr (aa (ba gJ rfl T.pQ boot_abs (aa (pv 2) ah)) ah)) (aa (aH bF (pv 1) ak) ah)))
  (ag (aw (i:=4) lK.nd rfl (Or.inl rfl) (aH dI (ba hV rfl T.dF boot_len (aa (pv 3) ah)) (pv 1)))
  (ag (aw (i:=5) lK.nd rfl (Or.inl rfl) (bW (aG jE (pv 1) ak (aN _)) a_ a_))
  (aq (aC (aH gI (aH gI (aH gI (bW (aG i5 (pv 2) ak (aN _)) a_ a_) (gK AN (pv 3) kJ (hU (pv 4)))) (pv 5)) (gK AN (pv 3) (hU (pv 4)) kJ)))))))),?_⟩;exact bb (s:=qr) (n:=4) (au (aA (s_call (af ae (af (s_call (af av (af ae ao))) ao))))
  (au (aA (A0 (s_call (af (sS (af ae ao)) ao)) (af (cC ae av) ao)))
  (au (aA (fP (uM (af ae ao)) ae))
  (au (aA (jK (aQ (qE ae av)) (bS (bC _)) (bS (bC _))))
  (aV (uL (uL (uL (jK (aQ (nE ae av)) (bS (bC _)) (bS (bC _))) (HB ae sR (mU ae))) ae) (HB ae (mU ae) sR))))))) rfl h
theorem tS(T:Nm mg)(D:aU K mg "end_of_figures" jP ["text","start"]):bo P w K mg base 34 "end_of_figures" ["text","start"] (aM K C cE 2):=by
 refine D.ok jc (λvs H Q E h=>aP h) (λf bH A outer s H vs Q E hr h=>?_);refine⟨_,(ag (aw (i:=2) jc.nd rfl (Or.inl rfl) (pv 1))
  (ag (dj PassesOwn.never (PW.pt (mB (aG i5 (pv 2) (ba hV rfl T.dF boot_len (aa (pv 0) ah)) (aN _)) (j4 (ny (Ap PySem.F.plainAttrs_str PySem.F.slot_str_isdigit PySem.F.type_str_isdigit EL (aD RV (pv 0) (pv 2) (λ_ _=>rfl)))))))
  (aq (aw (i:=2) jc.nd rfl (Or.inl rfl) (aH bF (pv 2) ak))))
  (aq (aC (pv 2))))),?_⟩;exact bb (s:=dz) (n:=1) (au (aA ae)
  (au (kG (sQ (aQ (nE ae (uM (af ae ao)))) (xE (OU (WK ae ae))))
  (aA (cC ae av)))
  (aV ae))) rfl h
theorem tT(T:Nm mg)(eG:∃uG,mg "MOST_FIGURES"=some uG/\RelV (.int 12) uG)(gz:dU P w K mg base kr 32 fI fd ["self","poly","pair","weight"] (pA C))(BI:Bx K mg (a.c 3) fB uk)(gH:dU P w K mg base kr 1 fB uk ["self","text","at"] (j' (a.c 3)))(D:aU K mg "number_between" jQ ["text","start","end"]):cq P w K mg base (f9 P w) true 34 "number_between" ["text","start","end"] (λ_=>dJ K C a.c cF 3):=by
 refine D.pD jd (λs vs H Q E h=>dv h) (λf bH A outer s H vs Q E iq hr h=>?_);obtain⟨uG,eG⟩:=eG;refine⟨_,(ag (aw (i:=3) jd.nd rfl (Or.inl rfl) (gK AN (pv 0) (hU (pv 1)) (hU (pv 2))))
  (ag (aw (i:=4) jd.nd rfl (Or.inl rfl) (Ac (eJ PySem.F.plainAttrs_str PySem.F.slot_str_startswith PySem.F.type_str_startswith jM (pv 3) (aa a_ ah)) (D8 (kI oJ (pv 3) a_ (aN _)))))
  (ag (bj (PW.pt (oH (aG bI (pv 3) a_ (aN _)) (oH (aG jE (ba hV rfl T.dF boot_len (aa (pv 3) ah)) (gZ rfl eG.1 eG.2) (aN _)) (lh (cU (pv 4) (λ_=>rfl))))))
  (aq (iU (E:=E) aR rfl (pE (dvs:=[]) (E:=E0) BI.cls BI.fn BI.kp gH (fv.mono hr.calm (by decide)) rfl BI.m3 BI.b2 .nil fA (aa a_ (aa (pv 1) ah)))))
  aO)
  (aq (aC (fw sV rfl T.Rg boot_int (aa (pv 3) ah))))))),?_⟩;exact eL (s:=dA) (n:=2) (au (aA (HB ae (mU ae) (mU ae)))
  (au (aA (Ay (ly ae (af (bS (bC _)) ao)) (HA ae (bS (bC _)))))
  (au (br (CG (aQ (fk ae (bS (bC _)))) (CG (aQ (qE (uM (af ae ao)) av)) (jF ae))) (pR BI ae)
  bt)
  (bJ (Ma (af ae ao)))))) rfl h
theorem wB(gz:dU P w K mg base kr 33 fI fd ["self","poly","pair","weight"] (pA C))(dD:cq P w K mg base (f9 P w) true 34 "number_between" ["text","start","end"] (λ_=>dJ K C a.c cF 3))(BI:Bx K mg (a.c 3) fB uk)(gH:dU P w K mg base kr 1 fB uk ["self","text","at"] (j' (a.c 3)))(D:aU K mg "size_between" lL ["text","start","end"]):cq P w K mg base (f9 P w) true 35 "size_between" ["text","start","end"] (λ_=>dJ K C a.c lS 3):=by
 refine D.pD kC (λs vs H Q E h=>dv h) (λf bH A outer s H vs Q E iq hr h=>?_);refine⟨_,(ag (aw (i:=3) kC.nd rfl (Or.inl rfl) (eJ PySem.F.plainAttrs_str PySem.F.slot_str_startswith PySem.F.type_str_startswith jM (pv 0) (aa a_ (aa (pv 2) ah))))
  (ag (bj (PW.pt (mB (cU (pv 3) (λ_=>rfl)) (j4 (aG bI (pv 1) (pv 2) (aN _)))))
  (aq (aC ak))
  aO)
  (ag (aw (i:=4) kC.nd rfl (Or.inl rfl) (cj (E:=E) dD hr aR.passes (aa (pv 0) (aa (pv 1) (aa (pv 2) ah)))))
  (ag (bj (PW.pt (oH (aG bI (pv 4) ak (aN _)) (lh (PW.pt (mB (cU (pv 3) (λ_=>rfl)) (j4 (aG bI (pv 4) ak (aN _))))))))
  (aq (iU (E:=E) aR rfl (pE (dvs:=[]) (E:=E0) BI.cls BI.fn BI.kp gH (fv.mono hr.calm (by decide)) rfl BI.m3 BI.b2 .nil fA (aa a_ (aa (pv 1) ah)))))
  aO)
  (aq (aC (pv 4))))))),?_⟩;exact eL (s:=jw) (n:=2) (au (aA (ly ae (af (bS (bC _)) (af ae ao))))
  (au (br (sQ (jF ae) (aQ (s_eq ae ae))) (bJ av)
  bt)
  (au (aA (cu (af ae (af ae (af ae ao)))))
  (au (br (CG (aQ (s_eq ae av)) (sQ (jF ae) (aQ (s_eq ae av)))) (pR BI ae)
  bt)
  (bJ ae))))) rfl h
theorem DG(bx:∃uG,mg "GREATEST_POWER"=some uG/\RelV (.int 12) uG)(gz:dU P w K mg base kr 33 fI fd ["self","poly","pair","weight"] (pA C))(dD:cq P w K mg base (f9 P w) true 34 "number_between" ["text","start","end"] (λ_=>dJ K C a.c cF 3))(dE:bo P w K mg base 34 "end_of_figures" ["text","start"] (aM K C cE 2))(BI:Bx K mg (a.c 3) fB uk)(gH:dU P w K mg base kr 1 fB uk ["self","text","at"] (j' (a.c 3)))(D:aU K mg "power_at" rN ["text","start"]):cq P w K mg base (f9 P w) true 35 "power_at" ["text","start"] (λ_=>dJ K C a.c sd 2):=by
 refine D.pD mn (λs vs H Q E h=>dv h) (λf bH A outer s H vs Q E iq hr h=>?_);obtain⟨uG,bx⟩:=bx;refine⟨_,(ag (bj (lj (ny (eJ PySem.F.plainAttrs_str PySem.F.slot_str_startswith PySem.F.type_str_startswith jM (pv 0) (aa a_ (aa (pv 1) ah)))))
  (aq (aC (bV (aa ak (aa (pv 1) ah)))))
  aO)
  (ag (bj (lj (ny (eJ PySem.F.plainAttrs_str PySem.F.slot_str_startswith PySem.F.type_str_startswith jM (pv 0) (aa a_ (aa (aH bF (pv 1) ak) ah)))))
  (aq (aC (bV (aa ak (aa (aH bF (pv 1) ak) ah)))))
  aO)
  (ag (aw (i:=2) mn.nd rfl (Or.inl rfl) (aH bF (pv 1) ak))
  (ag (aw (i:=3) mn.nd rfl (Or.inl rfl) (aB dE hr.calm (aa (pv 0) (aa (pv 2) ah))))
  (ag (aw (i:=4) mn.nd rfl (Or.inl rfl) (cj (E:=E) dD hr aR.passes (aa (pv 0) (aa (pv 2) (aa (pv 3) ah)))))
  (ag (bj (PW.pt (oH (aG i5 (pv 4) ak (aN _)) (lh (aG jE (pv 4) (gZ rfl bx.1 bx.2) (aN _)))))
  (aq (iU (E:=E) aR rfl (pE (dvs:=[]) (E:=E0) BI.cls BI.fn BI.kp gH (fv.mono hr.calm (by decide)) rfl BI.m3 BI.b2 .nil fA (aa a_ (aa (pv 2) ah)))))
  aO)
  (aq (aC (bV (aa (pv 4) (aa (pv 3) ah))))))))))),?_⟩;exact eL (s:=oo) (n:=3) (au (br (qJ (xE (ly ae (af (bS (bC _)) (af ae ao))))) (bJ (de (af av (af ae ao))))
  bt)
  (au (br (qJ (xE (ly ae (af (bS (bC _)) (af (cC ae av) ao))))) (bJ (de (af av (af (cC ae av) ao))))
  bt)
  (au (aA (cC ae av))
  (au (aA (s_call (af ae (af ae ao))))
  (au (aA (cu (af ae (af ae (af ae ao)))))
  (au (br (CG (aQ (nE ae av)) (aQ (qE ae av))) (pR BI ae)
  bt)
  (bJ (de (af ae (af ae ao)))))))))) rfl h
theorem FN(gz:dU P w K mg base kr 34 fI fd ["self","poly","pair","weight"] (pA C))(FO:cq P w K mg base (f9 P w) true 35 "power_at" ["text","start"] (λ_=>dJ K C a.c sd 2))(yA:cq P w K mg base (f9 P w) true 35 "size_between" ["text","start","end"] (λ_=>dJ K C a.c lS 3))(dE:bo P w K mg base 35 "end_of_figures" ["text","start"] (aM K C cE 2))(BI:Bx K mg (a.c 3) fB uk)(gH:dU P w K mg base kr 1 fB uk ["self","text","at"] (j' (a.c 3)))(D:aU K mg "part_at" u6 ["text","start","above"]):cq P w K mg base (f9 P w) true 36 "part_at" ["text","start","above"] (λ_=>dJ K C a.c vj 3):=by
 refine D.pD nV (λs vs H Q E h=>dv h) (λf bH A outer s H vs Q E iq hr h=>?_);refine⟨_,(ag (aw (i:=3) nV.nd rfl (Or.inl rfl) (aB dE hr.calm (aa (pv 0) (aa (pv 1) ah))))
  (ag (aw (i:=4) nV.nd rfl (Or.inl rfl) (cj (E:=E) yA hr aR.passes (aa (pv 0) (aa (pv 1) (aa (pv 3) ah)))))
  (ag (aw (i:=5) nV.nd rfl (Or.inl rfl) (cj (E:=E) FO hr aR.passes (aa (pv 0) (aa (pv 3) ah))))
  (ag (bj (aG GK (aD aL (pv 5) ak (λ_ _=>rfl)) (pv 2) (aN _))
  (aq (iU (E:=E) aR rfl (pE (dvs:=[]) (E:=E0) BI.cls BI.fn BI.kp gH (fv.mono hr.calm (by decide)) rfl BI.m3 BI.b2 .nil fA (aa a_ (aa (pv 1) ah)))))
  aO)
  (aq (aC (bV (aa (pv 4) (aa (aD aL (pv 5) ak (λ_ _=>rfl)) (aa (aD aL (pv 5) ak (λ_ _=>rfl)) ah)))))))))),?_⟩;exact eL (s:=qu) (n:=3) (au (aA (s_call (af ae (af ae ao))))
  (au (aA (cu (af ae (af ae (af ae ao)))))
  (au (aA (cu (af ae (af ae ao))))
  (au (br (aQ (Og (aS ae av) ae)) (pR BI ae)
  bt)
  (bJ (de (af ae (af (aS ae av) (af (aS ae av) ao))))))))) rfl h
end
section
variable {P:Program} {w:World} {K:PySem.W.Frag} {mg:Str->Option Value} {base:Heap} {C fI fB:Addr} {fd uk:FuncData} {a:Ad}
theorem FP(gz:dU P w K mg base kr 32 fI fd ["self","poly","pair","weight"] (pA C))(BI:Bx K mg (a.c 3) fB uk)(gH:dU P w K mg base kr 1 fB uk ["self","text","at"] (j' (a.c 3)))(D:aU K mg "turn_at" u7 ["text","start"]):cq P w K mg base (f9 P w) true 34 "turn_at" ["text","start"] (λ_=>dJ K C a.c vk 2):=by
 refine D.pD yh (λs vs H Q E h=>dv h) (λf bH A outer s H vs Q E iq hr h=>?_);refine⟨_,(ag (aw (i:=2) yh.nd rfl (Or.inl rfl) (gK AN (pv 0) (hU (pv 1)) (hU (aH bF (pv 1) ak))))
  (ag (bj (aG Ao (pv 2) (bV (aa a_ (aa a_ ah))) rfl)
  (aq (iU (E:=E) aR rfl (pE (dvs:=[]) (E:=E0) BI.cls BI.fn BI.kp gH (fv.mono hr.calm (by decide)) rfl BI.m3 BI.b2 .nil fA (aa a_ (aa (pv 1) ah)))))
  aO)
  (aq (aC (kI bI (pv 2) a_ (aN _)))))),?_⟩;exact eL (s:=qv) (n:=1) (au (aA (HB ae (mU ae) (mU (cC ae av))))
  (au (br (aQ (OW ae (de (af (bS (bC _)) (af (bS (bC _)) ao))))) (pR BI ae)
  bt)
  (bJ (fk ae (bS (bC _)))))) rfl h
theorem Pa(T:Nm mg)(bx:∃uG,mg "GREATEST_POWER"=some uG/\RelV (.int 12) uG)(Jy:cq P w K mg base (f9 P w) true 36 "turn_at" ["text","start"] (λ_=>dJ K C a.c vk 2))(ng:bo P w K mg base 36 "trimmed" ["row"] (aM K C jT 1))(Jz:cq P w K mg base (f9 P w) true 36 "part_at" ["text","start","above"] (λ_=>dJ K C a.c vj 3))(D:aU K mg "read" Fj ["text"]):cq P w K mg base (f9 P w) true 37 "read" ["text"] (λ_=>dJ K C a.c Fs 1):=by
 refine D.pD kO (λs vs H Q E h=>dv h) (λf bH A outer s H vs Q E iq hr h=>?_);obtain⟨uG,bx⟩:=bx;refine⟨_,(ag (bj (aG bI (pv 0) a_ (aN _))
  (aq (aC (bN ah)))
  aO)
  (ag (aw (i:=1) kO.nd rfl (Or.inl rfl) (aH Ep (bN (aa ak ah)) (aH bF (gZ rfl bx.1 bx.2) ak)))
  (ag (aw (i:=2) kO.nd rfl (Or.inl rfl) (eJ PySem.F.plainAttrs_str PySem.F.slot_str_startswith PySem.F.type_str_startswith jM (pv 0) (aa a_ ah)))
  (ag (aw (i:=3) kO.nd rfl (Or.inl rfl) (bW (cU (pv 2) (λ_=>rfl)) ak ak))
  (ag (aw (i:=4) kO.nd rfl (Or.inl rfl) (aH bF (gZ rfl bx.1 bx.2) ak))
  (aq (dj PassesOwn.leaving (cU xh (λ_=>rfl))
  (ag (aw (i:=5) kO.nd rfl (Or.inl rfl) (cj (E:=E) Jz hr aR.passes (aa (pv 0) (aa (pv 3) (aa (pv 4) ah)))))
  (ag (aw (i:=4) kO.nd rfl (Or.inl rfl) (aD aL (pv 5) ak (λ_ _=>rfl)))
  (ag (uq (bW (cU (pv 2) (λ_=>rfl)) (cQ bU (aD aL (pv 5) ak (λ_ _=>rfl))) (aD aL (pv 5) ak (λ_ _=>rfl))) (xi (pv 1) (pv 4) set_list))
  (ag (bj (aG bI (aD aL (pv 5) ak (λ_ _=>rfl)) (ba hV rfl T.dF boot_len (aa (pv 0) ah)) (aN _))
  (aq (aC (aB ng hr.calm (aa (pv 1) ah))))
  aO)
  (ag (aw (i:=2) kO.nd rfl (Or.inl rfl) (cj (E:=E) Jy hr aR.passes (aa (pv 0) (aa (aD aL (pv 5) ak (λ_ _=>rfl)) ah))))
  (aq (aw (i:=3) kO.nd rfl (Or.inl rfl) (aH bF (aD aL (pv 5) ak (λ_ _=>rfl)) ak))))))))))))))),?_⟩;exact eL (s:=Be) (n:=5) (au (br (aQ (fk ae (bS (bC _)))) (bJ (dR (dq ao)))
  bt)
  (au (ix (Lg (dR (dq (af av ao))) (cC av av)))
  (au (aA (ly ae (af (bS (bC _)) ao)))
  (au (aA (jK (jF ae) av av))
  (au (aA (cC av av))
  (kG (jF EA)
  (au (aA (cu (af ae (af ae (af ae ao)))))
  (au (aA (aS ae av))
  (au (xM ae (jK (jF ae) (fq (aS ae av)) (aS ae av)))
  (au (br (aQ (s_eq (aS ae av) (uM (af ae ao)))) (bJ (s_call (af ae ao)))
  bt)
  (au (aA (cu (af ae (af (aS ae av) ao))))
  (aA (cC (aS ae av) av))))))))))))) rfl h
theorem DH(gz:dU P w K mg base kr 33 fI fd ["self","poly","pair","weight"] (pA C))(cG:bo P w K mg base 34 "common_divisor" ["one","other"] (aM K C bP 2))(dD:cq P w K mg base (f9 P w) true 34 "number_between" ["text","start","end"] (λ_=>dJ K C a.c cF 3))(dE:bo P w K mg base 34 "end_of_figures" ["text","start"] (aM K C cE 2))(BI:Bx K mg (a.c 3) fB uk)(gH:dU P w K mg base kr 1 fB uk ["self","text","at"] (j' (a.c 3)))(D:aU K mg "under_at" rO ["text","start","top"]):cq P w K mg base (f9 P w) true 35 "under_at" ["text","start","top"] (λ_=>dJ K C a.c se 3):=by
 refine D.pD mq (λs vs H Q E h=>dv h) (λf bH A outer s H vs Q E iq hr h=>?_);refine⟨_,(ag (bj (lj (ny (eJ PySem.F.plainAttrs_str PySem.F.slot_str_startswith PySem.F.type_str_startswith jM (pv 0) (aa a_ (aa (pv 1) ah)))))
  (aq (aC (bV (aa ak (aa (pv 1) ah)))))
  aO)
  (ag (aw (i:=3) mq.nd rfl (Or.inl rfl) (aH bF (pv 1) ak))
  (ag (aw (i:=4) mq.nd rfl (Or.inl rfl) (aB dE hr.calm (aa (pv 0) (aa (pv 3) ah))))
  (ag (aw (i:=5) mq.nd rfl (Or.inl rfl) (cj (E:=E) dD hr aR.passes (aa (pv 0) (aa (pv 3) (aa (pv 4) ah)))))
  (ag (bj (PW.pt (oH (aG i5 (pv 5) ak (aN _)) (lh (aG oJ (aB cG hr.calm (aa (pv 2) (aa (pv 5) ah))) ak (aN _)))))
  (aq (iU (E:=E) aR rfl (pE (dvs:=[]) (E:=E0) BI.cls BI.fn BI.kp gH (fv.mono hr.calm (by decide)) rfl BI.m3 BI.b2 .nil fA (aa a_ (aa (pv 3) ah)))))
  aO)
  (aq (aC (bV (aa (pv 5) (aa (pv 4) ah)))))))))),?_⟩;exact eL (s:=oq) (n:=3) (au (br (qJ (xE (ly ae (af (bS (bC _)) (af ae ao))))) (bJ (de (af av (af ae ao))))
  bt)
  (au (aA (cC ae av))
  (au (aA (s_call (af ae (af ae ao))))
  (au (aA (cu (af ae (af ae (af ae ao)))))
  (au (br (CG (aQ (nE ae av)) (aQ (CD (s_call (af ae (af ae ao))) av))) (pR BI ae)
  bt)
  (bJ (de (af ae (af ae ao))))))))) rfl h
theorem zl(T:Nm mg)(gz:dU P w K mg base kr 34 fI fd ["self","poly","pair","weight"] (pA C))(FQ:cq P w K mg base (f9 P w) true 35 "under_at" ["text","start","top"] (λ_=>dJ K C a.c se 3))(dD:cq P w K mg base (f9 P w) true 35 "number_between" ["text","start","end"] (λ_=>dJ K C a.c cF 3))(dE:bo P w K mg base 35 "end_of_figures" ["text","start"] (aM K C cE 2))(BI:Bx K mg (a.c 3) fB uk)(gH:dU P w K mg base kr 1 fB uk ["self","text","at"] (j' (a.c 3)))(D:aU K mg "read_ratio" nW ["text"]):cq P w K mg base (f9 P w) true 36 "read_ratio" ["text"] (λ_=>dJ K C a.c ou 1):=by
 refine D.pD gs (λs vs H Q E h=>dv h) (λf bH A outer s H vs Q E iq hr h=>?_);refine⟨_,(ag (aw (i:=1) gs.nd rfl (Or.inl rfl) (eJ PySem.F.plainAttrs_str PySem.F.slot_str_startswith PySem.F.type_str_startswith jM (pv 0) (aa a_ ah)))
  (ag (aw (i:=2) gs.nd rfl (Or.inl rfl) (bW (cU (pv 1) (λ_=>rfl)) ak ak))
  (ag (aw (i:=3) gs.nd rfl (Or.inl rfl) (aB dE hr.calm (aa (pv 0) (aa (pv 2) ah))))
  (ag (aw (i:=4) gs.nd rfl (Or.inl rfl) (cj (E:=E) dD hr aR.passes (aa (pv 0) (aa (pv 2) (aa (pv 3) ah)))))
  (ag (bj (PW.pt (mB (cU (pv 1) (λ_=>rfl)) (j4 (aG bI (pv 4) ak (aN _)))))
  (aq (iU (E:=E) aR rfl (pE (dvs:=[]) (E:=E0) BI.cls BI.fn BI.kp gH (fv.mono hr.calm (by decide)) rfl BI.m3 BI.b2 .nil fA (aa a_ (aa (pv 2) ah)))))
  aO)
  (ag (aw (i:=5) gs.nd rfl (Or.inl rfl) (cj (E:=E) FQ hr aR.passes (aa (pv 0) (aa (pv 3) (aa (pv 4) ah)))))
  (ag (bj (aG oJ (aD aL (pv 5) ak (λ_ _=>rfl)) (ba hV rfl T.dF boot_len (aa (pv 0) ah)) (aN _))
  (aq (iU (E:=E) aR rfl (pE (dvs:=[]) (E:=E0) BI.cls BI.fn BI.kp gH (fv.mono hr.calm (by decide)) rfl BI.m3 BI.b2 .nil fA (aa a_ (aa (aD aL (pv 5) ak (λ_ _=>rfl)) ah)))))
  aO)
  (aq (aC (bV (aa (bW (cU (pv 1) (λ_=>rfl)) (cQ bU (pv 4)) (pv 4)) (aa (aD aL (pv 5) ak (λ_ _=>rfl)) ah)))))))))))),?_⟩;exact eL (s:=kR) (n:=5) (au (aA (ly ae (af (bS (bC _)) ao)))
  (au (aA (jK (jF ae) av av))
  (au (aA (s_call (af ae (af ae ao))))
  (au (aA (cu (af ae (af ae (af ae ao)))))
  (au (br (sQ (jF ae) (aQ (s_eq ae av))) (pR BI ae)
  bt)
  (au (aA (cu (af ae (af ae (af ae ao)))))
  (au (br (aQ (CD (aS ae av) (uM (af ae ao)))) (pR BI (aS ae av))
  bt)
  (bJ (de (af (jK (jF ae) (fq ae) ae) (af (aS ae av) ao))))))))))) rfl h
theorem Pb(T:Nm mg)(k_:Ta P w K mg C "COUNTS" jR)(D:aU K mg "fits" Fl ["kind","word"]):bo P w K mg base 34 "fits" ["kind","word"] (aM K C Ft 2):=by
 refine D.ok A9 (λvs H Q E h=>aP h) (λf bH A outer s H vs Q E hr h=>?_);obtain⟨MG,JA,nj,nk,nq⟩:=k_;refine⟨_,(ag (bj (Ab (LB nk rfl nj (pv 0)) rfl)
  (ag (aw (i:=2) A9.nd rfl (Or.inl rfl) (aD aL (wO nk rfl nj (pv 0) (λ_ _=>rfl)) ak (λ_ _=>rfl)))
  (ag (aw (i:=3) A9.nd rfl (Or.inl rfl) (aD aL (wO nk rfl nj (pv 0) (λ_ _=>rfl)) ak (λ_ _=>rfl)))
  (aq (aC (kI Iw (pv 1) (j6 rfl rfl (iL (own:=["count"]) (fr:=[]) (fs:=[]) (by with_unfolding_all rfl) rfl (by decide +kernel) (by decide +kernel) (by exact trivial) (by with_unfolding_all rfl) (by exact trivial)) (jH rfl T.j_ (aa (pv 2) (aa (aH bF (pv 3) ak) ah))) (λ_ _ _ _ _=>(bp (i:=0) (show List.Nodup (["count"]:List Str) by decide +kernel) rfl (Or.inl rfl) (Or.inr rfl))) (λ_ _ _ _ _=>(fw fX rfl T.yj boot_str (aa (pv 0) ah)))) rfl)))))
  aO)
  (ag (bj (PW.pt (oH (aG bI (pv 0) a_ (aN _)) (lh (aG bI (pv 0) a_ (aN _)))))
  (aq (aC (Ac (kI bI (ba hV rfl T.dF boot_len (aa (pv 1) ah)) ak (aN _)) (D8 (Ko zU zU a_ (pv 1) a_)))))
  aO)
  (aq (aC xh)))),?_⟩;exact bb (s:=Bf) (n:=2) (au (br (xE (Rb nq ae)) (au (aA (aS (A1 nq ae) av))
  (au (aA (aS (A1 nq ae) av))
  (aV (ZZ ae (dR (kA rfl (xK (af ae (af (cC ae av) ao))) lr (uN (af ae ao))))))))
  bt)
  (au (br (CG (aQ (fk ae (bS (bC _)))) (aQ (fk ae (bS (bC _))))) (aV (Ay (s_eq (uM (af ae ao)) av) (Mi (bS (bC _)) ae (bS (bC _)))))
  bt)
  (aV EA))) rfl h
theorem DI(T:Nm mg)(nr:Ta P w K mg C "FORMS" m7)(To:bo P w K mg base 34 "fits" ["kind","word"] (aM K C Ft 2))(CL:A_ K mg a)(D:aU K mg "words_of" rP ["row"]):cq P w K mg base (f9 P w) true 35 "words_of" ["row"] (λ_=>dJ K C a.c sh 1):=by
 refine D.pD mr (λs vs H Q E h=>dv h) (λf bH A outer s H vs Q E iq hr h=>?_);obtain⟨Pc,MH,tU,tV,tW⟩:=nr;refine⟨_,(ag (aw (i:=1) mr.nd rfl (Or.inl rfl) (aD aL (eJ PySem.F.plainAttrs_str PySem.F.slot_str_partition PySem.F.type_str_partition AO (pv 0) (aa a_ ah)) ak (λ_ _=>rfl)))
  (ag (bj (Ab (Jb tV rfl tU (pv 1)) rfl)
  (aq (iz (E:=E) aR rfl rfl (show mg "BadRow"=some (.ref (a.c 4)) from CL.m4) (CL.cls 4) (aa a_ ah)))
  aO)
  (ag (aw (i:=2) mr.nd rfl (Or.inl rfl) (wO tV rfl tU (pv 1) (λ_ _=>rfl)))
  (ag (aw (i:=3) mr.nd rfl (Or.inl rfl) (bW (aG bI (aD aL (pv 2) (cQ bU ak) (λ_ _=>rfl)) a_ (aN _)) (eJ PySem.F.plainAttrs_str PySem.F.slot_str_split PySem.F.type_str_split Jc (pv 0) (aa a_ (aa (ba bg rfl T.dF boot_len (aa (pv 2) ah)) ah))) (eJ PySem.F.plainAttrs_str PySem.F.slot_str_split PySem.F.type_str_split CW (pv 0) (aa a_ ah))))
  (ag (bj (aG oJ (ba bg rfl T.dF boot_len (aa (pv 3) ah)) (aH bF (ba bg rfl T.dF boot_len (aa (pv 2) ah)) ak) (aN _))
  (aq (iz (E:=E) aR rfl rfl (show mg "BadRow"=some (.ref (a.c 4)) from CL.m4) (CL.cls 4) (aa a_ ah)))
  aO)
  (ag (bj (lj (ny (ba (IJ rfl) rfl T.WS boot_all (aa (KY rfl (iL (own:=["kind","given"]) (fr:=[]) (fs:=[]) (by with_unfolding_all rfl) rfl (by decide +kernel) (by decide +kernel) (by exact trivial) (by with_unfolding_all rfl) (by exact trivial)) (GR rfl T.Mr (aa (pv 2) (aa (gK nA (pv 3) (hU ak) kJ) ah))) (λ_ _ _ _ _=>(nC (K:=K) (n:=2) rfl rfl (bZ (bp (i:=0) (show List.Nodup (["kind","given"]:List Str) by decide +kernel) rfl (Or.inl rfl) (Or.inr rfl)) (bZ (bp (i:=1) (show List.Nodup (["kind","given"]:List Str) by decide +kernel) rfl (Or.inl rfl) (Or.inr rfl)) g_)) rfl rfl)) (λ_ _ _ _ _=>(aB To hr.calm (aa (pv 0) (aa (pv 1) ah))))) ah))))
  (aq (iz (E:=E) aR rfl rfl (show mg "BadRow"=some (.ref (a.c 4)) from CL.m4) (CL.cls 4) (aa a_ ah)))
  aO)
  (aq (aC (pv 3))))))))),?_⟩;exact eL (s:=ow) (n:=3) (au (aA (aS (S9 ae (af (bS (bC _)) ao)) av))
  (au (br (xE (Me tW ae)) (km (by decide))
  bt)
  (au (aA (A1 tW ae))
  (au (aA (jK (aQ (fk (aS ae (fq av)) (bS (bC _)))) (dR (Mh ae (af (bS (bC _)) (af (gE (af ae ao)) ao)))) (dR (s_split ae (af (bS (bC _)) ao)))))
  (au (br (aQ (CD (gE (af ae ao)) (cC (gE (af ae ao)) av))) (km (by decide))
  bt)
  (au (br (qJ (xE (WN (af (dR (kA rfl (Mj (af ae (af (dR (EF ae (mU av) sR)) ao))) pw (s_call (af ae (af ae ao))))) ao)))) (km (by decide))
  bt)
  (bJ ae))))))) rfl h
theorem Pd(T:Nm mg)(Bq:bo P w K mg base 39 "ratio_text" ["given"] (aM K C om 1))(cL:bo P w K mg base 39 "as_ratio" ["number"] (aM K C bz 1))(JB:bo P w K mg base 39 "decimal" ["number","digits"] (aM K C vi 2))(FR:bo P w K mg base 39 "floor_of" ["number"] (aM K C rZ 1))(oB:bo P w K mg base 39 "whole_text" ["number"] (aM K C jv 1))(fG:bo P w K mg base 39 "sign_of" ["number"] (aM K C cY 1))(FT:bo P w K mg base 39 "compared" ["one","other"] (aM K C rY 2))(sj:bo P w K mg base 39 "isolated" ["poly"] (aM K C lN 1))(D:aU K mg "told" Fm ["word","given"]):bo P w K mg base 40 "told" ["word","given"] (aM K C Fu 2):=by
 refine D.ok HJ (λvs H Q E h=>aP h) (λf bH A outer s H vs Q E hr h=>?_);refine⟨_,(ag (bj (aG bI (pv 0) a_ (aN _))
  (aq (aC (fw fX rfl T.yj boot_str (aa (ba bg rfl T.dF boot_len (aa (aB sj hr (aa (aD aZ (pv 1) ak (λ_ _=>rfl)) ah)) ah)) ah))))
  aO)
  (ag (bj (aG bI (pv 0) a_ (aN _))
  (aq (aC (fw fX rfl T.yj boot_str (aa (aB FT hr (aa (aD aZ (pv 1) ak (λ_ _=>rfl)) (aa (aD aZ (pv 1) ak (λ_ _=>rfl)) ah))) ah))))
  aO)
  (ag (bj (aG bI (pv 0) a_ (aN _))
  (aq (aC (fw fX rfl T.yj boot_str (aa (aB fG hr (aa (aD aZ (pv 1) ak (λ_ _=>rfl)) ah)) ah))))
  aO)
  (ag (bj (aG bI (pv 0) a_ (aN _))
  (aq (aC (aB oB hr (aa (aB FR hr (aa (aD aZ (pv 1) ak (λ_ _=>rfl)) ah)) ah))))
  aO)
  (ag (bj (aG bI (pv 0) a_ (aN _))
  (aq (aC (aB JB hr (aa (aD aZ (pv 1) ak (λ_ _=>rfl)) (aa (aD aZ (pv 1) ak (λ_ _=>rfl)) ah)))))
  aO)
  (ag (aw (i:=2) HJ.nd rfl (Or.inl rfl) (aB cL hr (aa (aD aZ (pv 1) ak (λ_ _=>rfl)) ah)))
  (aq (aC (bW (aG Ai (pv 2) gw (aN _)) a_ (aB Bq hr (aa (pv 2) ah))))))))))),?_⟩;exact bb (s:=Bg) (n:=1) (au (br (aQ (fk ae (bS (bC _)))) (aV (uN (af (gE (af (s_call (af (bM ae av) ao)) ao)) ao)))
  bt)
  (au (br (aQ (fk ae (bS (bC _)))) (aV (uN (af (s_call (af (bM ae av) (af (bM ae av) ao))) ao)))
  bt)
  (au (br (aQ (fk ae (bS (bC _)))) (aV (uN (af (s_call (af (bM ae av) ao)) ao)))
  bt)
  (au (br (aQ (fk ae (bS (bC _)))) (aV (s_call (af (s_call (af (bM ae av) ao)) ao)))
  bt)
  (au (br (aQ (fk ae (bS (bC _)))) (aV (s_call (af (bM ae av) (af (bM ae av) ao))))
  bt)
  (au (aA (s_call (af (bM ae av) ao)))
  (aV (jK (aQ (GV ae)) (bS (bC _)) (s_call (af ae ao)))))))))) rfl h
theorem oX(Tp:cq P w K mg base (f9 P w) true 37 "read" ["text"] (λ_=>dJ K C a.c Fs 1))(CL:A_ K mg a)(D:aU K mg "read_unless_nought" gO ["text"]):cq P w K mg base (f9 P w) true 38 "read_unless_nought" ["text"] (λ_=>dJ K C a.c gW 1):=by
 refine D.pD jG (λs vs H Q E h=>dv h) (λf bH A outer s H vs Q E iq hr h=>?_);refine⟨_,(ag (aw (i:=1) jG.nd rfl (Or.inl rfl) (cj (E:=E) Tp hr aR.passes (aa (pv 0) ah)))
  (ag (bj (lj (cU (pv 1) (λ_=>rfl)))
  (aq (iz (E:=E) aR rfl rfl (show mg "NoNumber"=some (.ref (a.c 1)) from CL.m1) (CL.cls 1) (aa a_ ah)))
  aO)
  (aq (aC (pv 1))))),?_⟩;exact eL (s:=eU) (n:=1) (au (aA (cu (af ae ao)))
  (au (br (qJ (jF ae)) (km (by decide))
  bt)
  (bJ ae))) rfl h
end
end lX
namespace lX
open PySem PyProof.Rows L2 SF CV PySem.W
structure Step(Hf H bL H':Hp):Prop where
 hh:aJ H H'
 ff:aJ Hf bL
 fh:aJ bL H'
 nn:∀b,Hf b=none->H b≠none->bL b=none
theorem Step.refl{Hf H:Hp}(s:aJ Hf H):Step Hf H Hf H:=⟨aJ.fO _,aJ.fO _,s,λ_ h _=>h⟩
theorem oC{H H':Hp}(s:aJ H H'){b:Addr}(h:H b≠none):H' b≠none:=by
 cases e:H b with
 |none=>exact absurd e h
 |some o=>rw[s _ _ e];nofun
theorem Step.trans{Hf H bO H1 cM H2:Hp}(a:Step Hf H bO H1)(b:Step bO H1 cM H2):Step Hf H cM H2:=
 ⟨a.hh.trans b.hh,a.ff.trans b.ff,b.fh,λc h1 h2=>b.nn c (a.nn c h1 h2) (oC a.hh h2)⟩
theorem Step.new{Hf H:Hp}(s:aJ Hf H){p:Addr}(h:H p=none)(o:HO):Step Hf H (upd Hf p o) (upd H p o):=by
 have hf:Hf p=none:=by
  cases e:Hf p with
  |none=>rfl
  |some u=>rw[s _ _ e] at h;cases h
 refine⟨aJ.new h o,aJ.new hf o,λb u e=>?_,λb h1 h2=>?_⟩
 ·by_cases z:b=p
  ·subst z;rw[aE] at e ⊢;exact e
  ·rw[ay z] at e ⊢;exact s _ _ e
 ·have z:b≠p:=λz=>h2 (by rw[z];exact h);rw[ay z];exact h1
theorem fH{K:Frag}{C:Addr}{F:Fn}{m:Nat}{vs:List V}{Hf H:Hp}{Q:VK}{E:XK}{as:List AV}{r:AV}(s:aJ Hf H)(rl:d9 K C Hf as vs)(hl:as.length=m)(hF:F as=some r)(q:∀v bL H',Step Hf H bL H'->Rl K C bL r v->Q v H'):aM K C F m vs H Q E:=
 ⟨Hf,as,r,s,rl,hl,hF,λv bL H' a b c d rl=>q v bL H' ⟨a,b,c,d⟩ rl⟩
def kD(a:O)(k:AV->O):O:=Option.rec none k a
theorem gA{a:O}{k:AV->O}{r:AV}(h:kD a k=some r):∃x,a=some x/\k x=some r:=by
 cases a with
 |none=>exact nomatch h
 |some x=>exact⟨x,rfl,h⟩
def WW(F2:Fn)(x y w:AV):O:=kD (vh [x,w]) λa=>kD (vh [y,w]) λb=>F2 [a,b]
def zm(F2:Fn)(fr x y:AV)(n:Nat):AV->O:=Nat.rec (motive:=λ_=>AV->O) (λ_=>none) (λ_ ih w=>kD (WW F2 x y w) λp=>kD (jV [fr,p]) λb=>QC b λc=>eX c (some p) (kD (ka [w,w]) ih)) n
def JC:AV:=.tup [.int 1,.int 16]
def FU(F1 F2:Fn)(x y:AV):Option (Option AV):=AV.casesOn x none (λ_=>none) (λ_=>none) (λ_=>none) (λ_=>none) (λ_=>none) λp q w=>
 AV.casesOn y none (λ_=>none) (λ_=>none) (λ_=>none) (λ_=>none) (λ_=>none) λp' q' w'=>
 AV.casesOn w none (λ_=>none) (λi=>AV.casesOn w' none (λ_=>none) (λj=>Bool.rec none (Bool.rec
  (Option.rec none (λr=>some (some r)) (kD (F1 [p,p']) λnt=>kD (bz [x]) λa=>kD (bz [y]) λb=>
   eX (xC (uC a) (uC b)) (kD (cO [nt]) λfr=>kD (zm F2 fr x y 40 JC) λpr=>eO [fr,pr,.int (Int.mul i j)])
    (kD (F2 [q,q']) λpr=>some (.root nt pr (.int (Int.mul i j))))))
  (some none) (ltI 12 (Int.mul i j))) (eK i j)) (λ_=>none) (λ_=>none) (λ_=>none) (λ_ _ _=>none)) (λ_=>none) (λ_=>none) (λ_=>none) (λ_ _ _=>none)
def Tq:Expr:=match(dc cX)[(4:Nat)]? with
 |some (.Assign _ (.Call _ (_::l::_) _ _) _)=>l
 |_=>.Constant .none 0 ⟨0,0,0,0⟩
def Tr:Arguments:=match Tq with
 |.Lambda x _ _ _=>x
 |_=>{posonlyargs:=[],args:=[],vararg:=none,kwonlyargs:=[],kw_defaults:=[],kwarg:=none,defaults:=[]}
def Ts:Expr:=match Tq with
 |.Lambda _ b _ _=>b
 |e=>e
def FW:Scope:=match Tq with
 |.Lambda _ _ sc _=>sc
 |_=>{kind:=.function,names:=[],isGenerator:=false,isCoroutine:=false}
abbrev jC:Str:=("result_of":Str)++".<locals>."++"<lambda>"
abbrev FX(c1 c2 c3:Addr):List (Str×Addr):=[("pair_of",c3),("other",c2),("one",c1)]
theorem Tt:C3 ["width","one","other","pair_of"] ["width"] FW:=⟨rfl,rfl,rfl,by decide +kernel,by decide +kernel⟩
theorem vm{c1 c2 c3 c:Addr}{x:Str}(e:(FX c1 c2 c3).lookup x=some c):(x="one"/\c=c1)\/(x="other"/\c=c2)\/(x="pair_of"/\c=c3):=by
 unfold FX at e;rw[List.lookup_cons] at e;by_cases z:x="pair_of"
 ·subst z;simp only[beq_self_eq_true] at e;exact .inr (.inr ⟨rfl,(Option.some.inj e).symm⟩)
 ·rw[show(x==("pair_of":Str))=false from beq_eq_false_iff_ne.mpr z] at e
  dsimp only at e
  rw[List.lookup_cons] at e;by_cases z2:x="other"
  ·subst z2;simp only[beq_self_eq_true] at e;exact .inr (.inl ⟨rfl,(Option.some.inj e).symm⟩)
  ·rw[show(x==("other":Str))=false from beq_eq_false_iff_ne.mpr z2] at e
   dsimp only at e
   rw[List.lookup_cons] at e;by_cases z3:x="one"
   ·subst z3;simp only[beq_self_eq_true] at e;exact .inl ⟨rfl,(Option.some.inj e).symm⟩
   ·rw[show(x==("one":Str))=false from beq_eq_false_iff_ne.mpr z3] at e;cases e
section
variable {P:Program} {w:World} {K:Frag} {mg:Str->Option Value} {base:Heap} {C fI:Addr} {fd:FuncData}
theorem vn{k j:Nat}{x:Str}{ps:List Str}{sp:Sp}(F:bo P w K mg base k x ps sp)(h:k<=j):∃f,mg x=some (.ref f)/\S7 P w K mg base kr true j f ps λ_=>sp:=by
 obtain⟨f,fd,a,b,c,d⟩:=(F.mono h).ex;exact⟨f,b,fd,⟨λ_ vs H Q E z=>a.len vs H Q E z,λA outer s H args us vs Q E hr=>a.run A outer s H args us vs Q E hr.calm⟩,c,d⟩
def MI(P:Program)(w:World)(K:Frag)(mg:Str->Option Value)(base:Heap)(C:Addr):Shared->Sp:=λs vs H Q _=>∃(vf v1 v2:V)(f c' c1 c2 c3 f2:Addr)(oc:Obj)(u1 u2 u3:Value)(Hf:Hp)(fr x y:AV)(F2:Fn)(pr:AV),
 vs=[vf,.ref f]/\aJ Hf H/\Rl K C Hf fr vf/\H f=some (s_ f "<lambda>" jC Tr Ts FW (FX c1 c2 c3) c')/\H c'=some (.vY oc (.own 0))/\Wu oc jC/\(c1≠c2/\c1≠c3/\c2≠c3)/\
 (H c1=none/\s.heap.IsCell c1 (some u1)/\RelV v1 u1/\Rl K C Hf x v1)/\(H c2=none/\s.heap.IsCell c2 (some u2)/\RelV v2 u2/\Rl K C Hf y v2)/\(H c3=none/\s.heap.IsCell c3 (some u3)/\RelV (.ref f2) u3)/\
 S7 P w K mg base kr true 38 f2 ["one","other"] (λ_=>aM K C F2 2)/\zm F2 fr x y 40 JC=some pr/\∀v bL H',Step Hf H bL H'->Rl K C bL pr v->Q v H'
theorem FY(Bp:bo P w K mg base 38 "near" ["number","width"] (aM K C vh 2))(FZ:bo P w K mg base 39 "is_alone" ["free","pair"] (aM K C jV 2))(tP:bo P w K mg base 39 "times" ["one","other"] (aM K C ka 2))(D:aU K mg "located" kX ["free","pair_by"]):cq P w K mg base kr true 40 "located" ["free","pair_by"] (MI P w K mg base C):=by
 refine D.pD lH (λs vs H Q E h=>?_) (λf0 bH A outer s H vs Q E iq hr h=>?_)
 ·obtain⟨vf,v1,v2,f,c',c1,c2,c3,f2,oc,u1,u2,u3,Hf,fr,x,y,F2,pr,rfl,_⟩:=h;rfl
 obtain⟨vf,v1,v2,f,c',c1,c2,c3,f2,oc,u1,u2,u3,Hf,fr,x,y,F2,pr,rfl,sf,rf,hf,hc,Tu,⟨Pe,Tv,Tw⟩,⟨z1,i1,e1,r1⟩,⟨z2,i2,e2,r2⟩,⟨z3,i3,e3⟩,FV,ND,q⟩:=h;obtain⟨R,hR⟩:∃R:Addr->Addr->List V->Hp->VK->Prop,R=λf1 U0 vs H1 Q1=>f1=f/\U0=c'/\∃bO w' pr,Step Hf H bO H1/\d9 K C bO [w'] vs/\WW F2 x y w'=some pr/\∀v cM H2,Step bO H1 cM H2->Rl K C cM pr v->Q1 v H2:=⟨_,rfl⟩;have run:∀pins bc H1 s1 f1 U0 vs us Q1,Inv (LR kr true P w K mg base ["free","pair_by","width","pair"] "located" (ax kX) f0 bH A outer s H E).J7 pins bc H1 s1->H1 f1=some (s_ f1 "<lambda>" jC Tr Ts FW (FX c1 c2 c3) U0)->Vals vs us->R f1 U0 vs H1 Q1->
  codeAny (model P w) (A.deeper (envOfC "located" (ax kX) s.heap.objs.size f0 bH)) (.call (.ref f1) ⟨us,[]⟩) (CR kr (envOfC "located" (ax kX) s.heap.objs.size f0 bH::outer) P w H1 s1 Q1 E0) s1:=by
  intro pins bc H1 s1 f1 U0 vs us Q1 J hf1 rv r;rw[hR] at r;obtain⟨rfl,rfl,bO,w',pr',st,rl,hpb,q1⟩:=r;obtain⟨v0,rfl,WX⟩:=rl.one;obtain⟨u0,rfl,rv0⟩:=vals1 rv;obtain⟨pm,EV,ho⟩:=(J.b_ _ _ hf1).1;have UL:=(J.b_ _ _ (st.hh _ _ hc)).1;obtain⟨vs,tq,e5,e6⟩:=Tu;have xb:∀b:Addr,b∉([]:List Addr):=λb z=>by simp at z
  have cellK:∀{cell:Addr}{u:Value},H cell=none->s.heap.IsCell cell (some u)->s1.heap.IsCell cell (some u)/\H1 cell=none:=λ{cell u} hn⟨ob,OM,ZJ⟩=>by
   obtain⟨sl,Z4⟩:=J.base.any OM hn (xb cell);exact⟨⟨_,Z4,ZJ⟩,J.base.free cell ob OM hn (xb cell)⟩
  obtain⟨j1,y1⟩:=cellK z1 i1;obtain⟨j2,y2⟩:=cellK z2 i2;obtain⟨j3,y3⟩:=cellK z3 i3;refine OJ (CX:=kr) (cm:=true) (k:=38) (N:=["width","one","other","pair_of"]) (ps:=["width"]) (us:=[u0]) Tt ho ⟨U0,oc,vs,tq,rfl,UL,e5,e6⟩ J.env0 hr rfl (λx c e=>?_) (λx y c e1 e2=>?_) (λx e=>?_) (σ:=[some v0,some v1,some v2,some (.ref f2)]) rfl (λi x v h1 h2=>?_) λRi=>⟨_,xX (i:=3) FV Ri fA rfl (Or.inr (Or.inr rfl)) (aa (aB Bp Ri.calm (aa (pv 1) (aa (pv 0) ah))) (aa (aB Bp Ri.calm (aa (pv 2) (aa (pv 0) ah))) ah)),?_⟩
  ·rcases vm e with⟨_,rfl⟩|⟨_,rfl⟩|⟨_,rfl⟩
   ·exact⟨⟨_,j1⟩,y1⟩
   ·exact⟨⟨_,j2⟩,y2⟩
   ·exact⟨⟨_,j3⟩,y3⟩
  ·rcases vm e1 with⟨a1,a2⟩|⟨a1,a2⟩|⟨a1,a2⟩<;>rcases vm e2 with⟨b1,b2⟩|⟨b1,b2⟩|⟨b1,b2⟩
   ·exact a1.trans b1.symm
   ·exact absurd (a2.symm.trans b2) Pe
   ·exact absurd (a2.symm.trans b2) Tv
   ·exact absurd (b2.symm.trans a2) Pe
   ·exact a1.trans b1.symm
   ·exact absurd (a2.symm.trans b2) Tw
   ·exact absurd (b2.symm.trans a2) Tv
   ·exact absurd (b2.symm.trans a2) Tw
   ·exact a1.trans b1.symm
  ·have:x="one"\/x="other"\/x="pair_of":=(by decide +kernel:∀y∈FW.names,y.2=.free->y.1="one"\/y.1="other"\/y.1="pair_of") _ (PySem.mem_of_lookup e) rfl;rcases this with rfl|rfl|rfl
   ·exact⟨c1,rfl⟩
   ·exact⟨c2,rfl⟩
   ·exact⟨c3,rfl⟩
  ·match i,h1,h2 with
   |0,h1,h2=>
    cases h1;cases h2;exact .inl ⟨rfl,u0,rv0,rfl⟩
   |1,h1,h2=>
    cases h1;cases h2;exact .inr ⟨rfl,c1,u1,rfl,j1,e1⟩
   |2,h1,h2=>
    cases h1;cases h2;exact .inr ⟨rfl,c2,u2,rfl,j2,e2⟩
   |3,h1,h2=>
    cases h1;cases h2;exact .inr ⟨rfl,c3,u3,rfl,j3,e3⟩
   |i+4,h1,h2=>cases h1
  ·unfold WW at hpb;obtain⟨a,ha,Z5⟩:=gA hpb;obtain⟨b,hb,Z6⟩:=gA Z5;refine⟨rfl,?_⟩;walk_at "sf";refine fH st.fh (.cons (r1.mono st.ff) (.cons WX .nil)) rfl ha λva Hfa Ha sa ra=>?_;walk_at "sf";refine fH sa.fh (.cons (r2.mono (st.ff.trans sa.ff)) (.cons (WX.mono sa.ff) .nil)) rfl hb λvb Hfb Hb sb rb=>?_;walk_at "sf";exact fH sb.fh (.cons (ra.mono sb.ff) (.cons rb .nil)) rfl Z6 λvc Hfc Hc sc rc=>q1 vc Hfc Hc (sa.trans (sb.trans sc)) rc
 refine⟨_,vJ.J7 (ag (aw (i:=2) lH.nd rfl (Or.inl rfl) (bV (aa ak (aa ak ah))))
  (ag (aw (i:=3) lH.nd rfl (Or.inl rfl) (Ht (CX:=kr) (E:=E0) (i:=1) (R:=R) rfl (Or.inl rfl) fA (aa (pv 2) ah) run))
  (ag (dj PassesOwn.never (lj (ny (aB FZ hr.calm (aa (pv 0) (aa (pv 3) ah)))))
   (ag (aw (i:=2) lH.nd rfl (Or.inl rfl) (aB tP hr.calm (aa (pv 2) (aa (pv 2) ah))))
   (aq (aw (i:=3) lH.nd rfl (Or.inl rfl) (Ht (CX:=kr) (E:=E0) (i:=1) (R:=R) rfl (Or.inl rfl) fA (aa (pv 2) ah) run)))))
  (aq (aC (pv 3)))))),?_⟩;walk_at "sf";intro p0 WY;have s0:=Step.new sf WY (.tup [.int 1,.int 16]);have WX:Rl K C (upd Hf p0 (.tup [.int 1,.int 16])) JC (.ref p0):=.tup (.inl (.inl aE)) (.cons .int (.cons .int .nil));generalize upd Hf p0 (.tup [.int 1,.int 16])=oN at*;generalize upd H p0 (.tup [.int 1,.int 16])=H0 at*;walk_at "sf";obtain⟨pa,X5,zZ⟩:=gA (show kD (WW F2 x y JC) (λp=>kD (jV [fr,p]) λb=>QC b λc=>eX c (some p) (kD (ka [JC,JC]) (zm F2 fr x y 39)))=some pr from ND);refine⟨f,c',rfl,s0.hh _ _ hf,?_⟩;walk_at "sf";refine⟨s0.hh _ _ hf,?_⟩;rw[hR];refine⟨rfl,rfl,oN,JC,pa,s0,.cons WX .nil,X5,λv3 jB H3 s3 r3=>?_⟩;walk_at "sf";refine Cq (λm σ H'=>∃(bO:Hp)(w' p':AV)(vw vp:V),σ=[some vf,some (.ref f),some vw,some vp]/\Step Hf H bO H'/\Rl K C bO w' vw/\Rl K C bO p' vp/\kD (jV [fr,p']) (λb=>QC b λc=>eX c (some p') (kD (ka [w',w']) (zm F2 fr x y m)))=some pr)
  ⟨39,jB,JC,pa,_,_,rfl,s0.trans s3,WX.mono s3.ff,r3,zZ⟩ ?_
 rintro m σ H' ⟨bO,w',p',vw,vp,rfl,s1,Z7,U1,hh⟩;obtain⟨b,hb,Qu⟩:=gA hh;obtain⟨c,rfl,J8⟩:=xA Qu;walk_at "sf";refine fH s1.fh (.cons (rf.mono s1.ff) (.cons U1 .nil)) rfl hb λv4 A2 H4 s4 r4=>?_;cases r4;refine⟨c,rfl,?_⟩;cases c with
 |true=>
  refine qD ?_;walk_at "sf";cases J8;exact q _ _ _ (s1.trans s4) (U1.mono s4.ff)
 |false=>
  refine mR ?_;obtain⟨w2,hw2,NF⟩:=gA J8;cases m with
  |zero=>exact nomatch NF
  |succ m=>
   obtain⟨p2,QU,Tx⟩:=gA (show kD (WW F2 x y w2) (λp=>kD (jV [fr,p]) λb=>QC b λc=>eX c (some p) (kD (ka [w2,w2]) (zm F2 fr x y m)))=some pr from NF);have HM:=s1.trans s4;have rw4:=Z7.mono s4.ff;refine⟨_,λcH H' h=>h,?_⟩;walk_at "sf";refine fH s4.fh (.cons rw4 (.cons rw4 .nil)) rfl hw2 λv5 uh H5 s5 r5=>?_;have Kc:=HM.trans s5;walk_at "sf";refine⟨f,c',rfl,Kc.hh _ _ hf,?_⟩;walk_at "sf";refine⟨Kc.hh _ _ hf,?_⟩;refine⟨rfl,rfl,uh,w2,p2,Kc,.cons r5 .nil,QU,λv6 NG H6 s6 r6=>?_⟩;walk_at "sf";exact⟨m,Nat.lt_succ_self m,NG,w2,p2,_,_,rfl,Kc.trans s6,r5.mono s6.ff,r6,Tx⟩
end
structure iu(Pt:Addr)(Hf H bL H':Hp):Prop where
 hh:∀b o,b≠Pt->H b=some o->H' b=some o
 tt:H Pt≠none->H' Pt≠none
 ff:aJ Hf bL
 fh:aJ bL H'
 nn:∀b,Hf b=none->H b≠none->bL b=none
theorem iu.of{Pt:Addr}{Hf H bL H':Hp}(s:Step Hf H bL H'):iu Pt Hf H bL H':=⟨λb o _ e=>s.hh b o e,oC s.hh,s.ff,s.fh,s.nn⟩
theorem iu.ne{Pt:Addr}{Hf H bL H':Hp}(s:iu Pt Hf H bL H'){b:Addr}(h:H b≠none):H' b≠none:=by
 by_cases z:b=Pt
 ·subst z;exact s.tt h
 ·cases e:H b with
  |none=>exact absurd e h
  |some o=>rw[s.hh _ _ z e];nofun
theorem iu.trans{Pt:Addr}{Hf H bO H1 cM H2:Hp}(a:iu Pt Hf H bO H1)(b:iu Pt bO H1 cM H2):iu Pt Hf H cM H2:=
 ⟨λc o z e=>b.hh c o z (a.hh c o z e),λh=>b.tt (a.tt h),a.ff.trans b.ff,b.fh,λc h1 h2=>b.nn c (a.nn c h1 h2) (a.ne h2)⟩
structure qH(Pt:Addr)(q:Str)(H:Hp):Prop where
 ex:∃ps:Array Value,H Pt=some (.vZ ps)/\TriplesOk ps.toList/\∀pos v,codeAmong pos ps.toList=some v->∃c' oc,v=.ref c'/\H c'=some (.vY oc (.own 0))/\Wu oc q
theorem qH.same{Pt:Addr}{q:Str}{H H':Hp}(h:qH Pt q H)(s:aJ H H'):qH Pt q H':=by
 obtain⟨ps,a,b,c⟩:=h.ex;exact⟨ps,s _ _ a,b,λpos v e=>by obtain⟨c',oc,e1,e2,e3⟩:=c pos v e;exact⟨c',oc,e1,s _ _ e2,e3⟩⟩
theorem qH.ne{Pt:Addr}{q:Str}{H:Hp}(h:qH Pt q H):H Pt≠none:=by
 obtain⟨ps,a,_⟩:=h.ex;rw[a];nofun
theorem Br{i j:Int}{c:Value}:∀(l:List Value),TriplesOk l->TriplesOk (l++[rawInt i,rawInt j,c]):=by
 intro l
 fun_induction TriplesOk l with
 |case1=>intro _;exact trivial
 |case2 a b c d e l ih=>intro h;exact ih h
 |case3=>intro h;exact h.elim
theorem F0{pos:Pos}{i j:Int}{c v:Value}:∀(l:List Value),TriplesOk l->codeAmong pos (l++[rawInt i,rawInt j,c])=some v->codeAmong pos l=some v\/v=c:=by
 intro l
 fun_induction TriplesOk l with
 |case1=>
  intro _ h;simp only[List.nil_append,codeAmong,rawInt] at h;split at h
  ·exact .inr (Option.some.inj h).symm
  ·cases h
 |case2 a b c' d e l ih=>
  intro h e1;simp only[List.cons_append,codeAmong] at e1 ⊢;split at e1
  ·rename_i z;rw[if_pos z];exact .inl e1
  ·rename_i z;rw[if_neg z];exact ih h e1
 |case3=>intro h;exact h.elim
theorem MJ{Pt:Addr}{pos:Pos}{q:Str}{params:Arguments}{body:Expr}{scope:Scope}{cl:List (Str×Addr)}{σ:L2.St}{H:Hp}{Q:VK}(T:qH Pt q H)(h:∀f c' oc H1,(∀b o,b≠Pt->H b=some o->H1 b=some o)->qH Pt q H1->H1 f=some (s_ f "<lambda>" q params body scope cl c')->H1 c'=some (.vY oc (.own 0))->Wu oc q->Q (.ref f) H1):Q7 Pt pos q params body scope cl σ H Q:=by
 obtain⟨ps,hP,ht,hc⟩:=T.ex;cases e:codeAmong pos ps.toList with
 |none=>
  refine .inl ⟨ps,hP,ht,e,λf c' oc iq e1 e2 e3=>?_⟩;have nP:∀b,H b=none->b≠Pt:=λb z y=>by rw[y,hP] at z;cases z
  have keep:∀b o,b≠Pt->H b=some o->upd (upd (upd H Pt (.vZ (ps++#[rawInt pos.line,rawInt pos.col,.ref c']))) c' (.vY oc (.own 0))) f (s_ f "<lambda>" q params body scope cl c') b=some o:=λb o so z=>by
   rw[ay (aW z e1),ay (aW z e2),ay so];exact z
  have hc1:upd (upd (upd H Pt (.vZ (ps++#[rawInt pos.line,rawInt pos.col,.ref c']))) c' (.vY oc (.own 0))) f (s_ f "<lambda>" q params body scope cl c') c'=some (.vY oc (.own 0)):=by rw[ay (Ne.symm e3),aE]
  refine h f c' oc _ keep ⟨ps++#[rawInt pos.line,rawInt pos.col,.ref c'],?_,?_,λZ8 v e4=>?_⟩ aE hc1 iq
  ·rw[ay (Ne.symm (nP f e1)),ay (Ne.symm (nP c' e2)),aE]
  ·rw[Array.toList_append];exact Br _ ht
  ·rw[Array.toList_append] at e4;rcases F0 _ ht e4 with z|z
   ·obtain⟨c2,oc2,y1,y2,y3⟩:=hc Z8 v z;exact⟨c2,oc2,y1,keep _ _ (λy=>by rw[y,hP] at y2;cases y2) y2,y3⟩
   ·exact⟨c',oc,z,hc1,iq⟩
 |some v=>
  obtain⟨c',oc,rfl,y2,y3⟩:=hc pos v e;refine .inr ⟨ps,c',hP,ht,e,λf e1=>?_⟩;have s:=aJ.new e1 (s_ f "<lambda>" q params body scope cl c');exact h f c' oc _ (λb o _ z=>s b o z) (T.same s) aE (s _ _ y2) y3
def MK(R:List V->Hp->L2.St->VK->Prop)(t:TA):TE:=λσ H Q=>t σ H λvs H1=>R vs H1 σ Q
theorem Tz{X:Cx}{CX:vL}{cm:Bool}{k:Nat}{ps:List Str}{E:XK}{x:Str}{p pos:Pos}{e:Expr}{es:List Expr}{t:TA}{sp:Shared->Sp}{R:List V->Hp->L2.St->VK->Prop}(F:cq X.prog X.w X.K X.mg X.base CX cm k x ps sp)(hr:iA cm k X.A)(hx:Passes CX X E)(ha:PA X (e::es) t)(hR:∀pins σ H s vs Q,Inv X pins σ H s->R vs H σ Q->sp s vs H Q E)(hg:Gl X x:=by rfl)(uw:(x==("__debug__":Str))=false:=by decide)(he:starEach (e::es) X.env=(false,eval e X.env)::starEach es X.env:=by rfl)(pe:(backTo pos (starEach es X.env)).any (·.1)=false:=by rfl):PE X (.Call (.Name x p) (e::es) [] pos) (MK R t):=by
 obtain⟨f,fd,a,b,c,d⟩:=F.ex;intro pins s σ H Q I h;refine wpAny_Call_Name_kw (fW I hg b ?_ uw);refine callWith_K (h₀:=X.base) I.ok.mod.Kf c (cB (ha pos pins s σ H _ I h) λus s1⟨vs,H1,I1,r,q⟩=>⟨I1.o9,?_⟩) he pe;exact AS a hr d hx I1 r (hR pins σ H1 s1 vs Q I1 q)
theorem Pf{σ:L2.St}{H:Hp}{Q:VK}{t:TA}{R:List V->Hp->L2.St->VK->Prop}(h:t σ H λvs H1=>R vs H1 σ Q):MK R t σ H Q:=h
def Raise(E:XK)(c:Addr)(H:Hp):Prop:=∀(H1:Hp)(x tp:Addr)(mm:Str),aJ H H1->H1 x=none->H1 tp=none->x≠tp->E (.ref c) none (upd (upd H1 tp (.tup [.str mm])) x (c_ x c tp .none none))
theorem Raise.mono{E:XK}{c:Addr}{H H':Hp}(r:Raise E c H)(s:aJ H H'):Raise E c H':=λH1 x tp mm z a b d=>r H1 x tp mm (s.trans z) a b d
abbrev GX:=AV->AV->Option (Option AV)
def Pg(K:Frag)(C Pt c:Addr)(G:GX):Sp:=λvs H Q E=>∃(Hf:Hp)(x y:AV)(res:Option AV),aJ Hf H/\Hf Pt=none/\d9 K C Hf [x,y] vs/\qH Pt jC H/\G x y=some res/\
 (∀r,res=some r->∀v bL H',iu Pt Hf H bL H'->qH Pt jC H'->Rl K C bL r v->Q v H')/\(res=none->Raise E c H)
def Z9(K:Frag)(C c:Addr):Sp:=λvs H Q E=>∃(Hf:Hp)(p q p' q':AV)(i j:Int),aJ Hf H/\d9 K C Hf [.root p q (.int i),.root p' q' (.int j)] vs/\eK i j=true/\(i*j<=12->∀bL H',Step Hf H bL H'->Q (.int (i*j)) H')/\(12<i*j->Raise E c H)
def ML(P:Program)(w:World)(K:Frag)(mg:Str->Option Value)(base:Heap)(C Pt c:Addr):Sp:=λvs H Q E=>∃(Hf:Hp)(x y:AV)(v1 v2:V)(f1 f2:Addr)(F1 F2:Fn)(res:Option AV),vs=[v1,v2,.ref f1,.ref f2]/\aJ Hf H/\Hf Pt=none/\Rl K C Hf x v1/\Rl K C Hf y v2/\qH Pt jC H/\
 S7 P w K mg base kr true 40 f1 ["one","other"] (λ_=>aM K C F1 2)/\S7 P w K mg base kr true 38 f2 ["one","other"] (λ_=>aM K C F2 2)/\FU F1 F2 x y=some res/\
 (∀r,res=some r->∀v bL H',iu Pt Hf H bL H'->qH Pt jC H'->Rl K C bL r v->Q v H')/\(res=none->Raise E c H)
section
variable {P:Program} {w:World} {K:Frag} {mg:Str->Option Value} {base:Heap} {C fI:Addr} {fd:FuncData} {a:Ad}
theorem vo(CL:A_ K mg a)(hG:∃uG,mg "GREATEST_WEIGHT"=some uG/\RelV (.int 12) uG)(fV:bo P w K mg base 39 "weight_of" ["number"] (aM K C fT 1))(D:aU K mg "weight_of_two" kB ["one","other"]):
 cq P w K mg base (f9 P w) true 40 "weight_of_two" ["one","other"] (λ_=>Z9 K C a.c2):=by
 refine D.pD mZ (λs vs H Q E h=>?_) (λf bH A outer s H vs Q E iq hr h=>?_)
 ·obtain⟨Hf,p,q,p',q',i,j,_,rl,_⟩:=h;exact rl.length
 obtain⟨Hf,p,q,p',q',i,j,sf,rl,ok,qn,qx⟩:=h;obtain⟨uG,hG1,hG2⟩:=hG;obtain⟨v1,v2,rfl,r1,r2⟩:=rl.two;have X2:Jd K a.c2:=(CL.all (i:=2) (by decide)).2.2.2.2.2 (by decide);refine⟨_,(ag (aw (i:=2) mZ.nd rfl (Or.inl rfl) (aH aT (aB fV hr.calm (aa (pv 0) ah)) (aB fV hr.calm (aa (pv 1) ah))))
  (ag (bj (aG jE (pv 2) (gZ rfl hG1 hG2) (aN _))
  (aq (iz (E:=E) aR rfl rfl CL.m2 X2 (aa a_ ah)))
  aO)
  (aq (aC (pv 2))))),?_⟩;walk_at "sf";refine fH sf (.cons r1 .nil) rfl (r:=.int i) rfl λva Hfa Ha sa ra=>?_;cases ra;walk_at "sf";refine fH sa.fh (.cons (r2.mono sa.ff) .nil) rfl (r:=.int j) rfl λvb Hfb Hb sb rb=>?_;cases rb;refine Er (K_ i j ok) ?_;walk_at "sf";have NH:=sa.trans sb;by_cases hw:12<i*j
 ·rw[decide_eq_true hw];refine mR ?_;walk_at "sf";exact⟨by decide,λx tp e1 e2 e3=>qx hw Hb x tp _ NH.hh e1 e2 e3⟩
 ·rw[decide_eq_false hw];refine qD ?_;walk_at "sf";exact qn (by lia) Hfb Hb NH
end
theorem clo(L fa c:Addr):closureFor FW (envOfC "result_of" (ax cX) L fa (.ref c))=pure (FX (L+1) (L+1+1) (L+1+1+1)):=by first|(rfl;done)|kernel_rfl
structure Ph(K:Frag)(mg:Str->Option Value)(x:Str)(st:Stmt)(ps:List Str)(c:Addr):Prop where
 ex:∃f fd,ue K x x st f fd/\mg x=some (.ref f)/\Binds K fd ps []/\fd.code=.ref c
theorem HN{F1 F2:Fn}{x y:AV}{res:Option AV}(h:FU F1 F2 x y=some res):∃p q i p' q' j,x=.root p q (.int i)/\y=.root p' q' (.int j)/\eK i j=true/\((12<i*j/\res=none)\/(i*j<=12/\∃r,res=some r/\
 (kD (F1 [p,p']) λnt=>kD (bz [x]) λa=>kD (bz [y]) λb=>
  eX (xC (uC a) (uC b)) (kD (cO [nt]) λfr=>kD (zm F2 fr x y 40 JC) λpr=>eO [fr,pr,.int (i*j)])
   (kD (F2 [q,q']) λpr=>some (.root nt pr (.int (i*j)))))=some r)):=by
 obtain⟨p,q,w,rfl⟩:∃p q w,x=.root p q w:=by
  cases x with
  |root p q w=>exact⟨p,q,w,rfl⟩
  |dH=>exact nomatch h
  |bl _=>exact nomatch h
  |int _=>exact nomatch h
  |str _=>exact nomatch h
  |tup _=>exact nomatch h
  |lst _=>exact nomatch h
 obtain⟨p',q',w',rfl⟩:∃p q w,y=.root p q w:=by
  cases y with
  |root p q w=>exact⟨p,q,w,rfl⟩
  |dH=>exact nomatch h
  |bl _=>exact nomatch h
  |int _=>exact nomatch h
  |str _=>exact nomatch h
  |tup _=>exact nomatch h
  |lst _=>exact nomatch h
 obtain⟨i,rfl⟩:∃i,w=.int i:=by
  cases w with
  |int i=>exact⟨i,rfl⟩
  |dH=>exact nomatch h
  |bl _=>exact nomatch h
  |str _=>exact nomatch h
  |tup _=>exact nomatch h
  |lst _=>exact nomatch h
  |root _ _ _=>exact nomatch h
 obtain⟨j,rfl⟩:∃i,w'=.int i:=by
  cases w' with
  |int i=>exact⟨i,rfl⟩
  |dH=>exact nomatch h
  |bl _=>exact nomatch h
  |str _=>exact nomatch h
  |tup _=>exact nomatch h
  |lst _=>exact nomatch h
  |root _ _ _=>exact nomatch h
 refine⟨p,q,i,p',q',j,rfl,rfl,?_⟩;have h1:(Bool.rec none (Bool.rec
  (Option.rec none (λr=>some (some r)) (kD (F1 [p,p']) λnt=>kD (bz [.root p q (.int i)]) λa=>kD (bz [.root p' q' (.int j)]) λb=>
   eX (xC (uC a) (uC b)) (kD (cO [nt]) λfr=>kD (zm F2 fr (.root p q (.int i)) (.root p' q' (.int j)) 40 JC) λpr=>eO [fr,pr,.int (i*j)])
    (kD (F2 [q,q']) λpr=>some (.root nt pr (.int (i*j))))))
  (some none) (ltI 12 (i*j))) (eK i j):Option (Option AV))=some res:=h;cases e:eK i j with
 |false=>rw[e] at h1;exact nomatch h1
 |true=>
  rw[e] at h1;refine⟨rfl,?_⟩;rw[qW] at h1;by_cases hw:12<i*j
  ·rw[decide_eq_true hw] at h1;exact .inl ⟨hw,(Option.some.inj h1).symm⟩
  ·rw[decide_eq_false hw] at h1;refine .inr ⟨by lia,?_⟩;cases e2:(kD (F1 [p,p']) λnt=>kD (bz [.root p q (.int i)]) λa=>kD (bz [.root p' q' (.int j)]) λb=>
    eX (xC (uC a) (uC b)) (kD (cO [nt]) λfr=>kD (zm F2 fr (.root p q (.int i)) (.root p' q' (.int j)) 40 JC) λpr=>eO [fr,pr,.int (i*j)])
     (kD (F2 [q,q']) λpr=>some (.root nt pr (.int (i*j))))) with
   |none=>rw[e2] at h1;exact nomatch h1
   |some r=>
    rw[e2] at h1;exact⟨r,(Option.some.inj h1).symm,rfl⟩
section
variable {P:Program} {w:World} {K:Frag} {mg:Str->Option Value} {base:Heap} {C fI:Addr} {fd:FuncData} {a:Ad}
theorem Rl.HP{H:Hp}{p q ww:AV}{v:V}(h:Rl K C H (.root p q ww) v):∃l dx vp vq vw,v=.ref l/\H l=some (.ins C dx [("poly",vp),("pair",vq),("weight",vw)])/\Rl K C H p vp/\Rl K C H q vq/\Rl K C H ww vw:=by
 cases h with
 |root h a b c=>exact⟨_,_,_,_,_,rfl,h,a,b,c⟩
theorem Bs{c Pt:Addr}(RC:Rc K mg C fI fd)(gz:dU P w K mg base kr 39 fI fd ["self","poly","pair","weight"] (pA C))(kE:cq P w K mg base (f9 P w) true 40 "weight_of_two" ["one","other"] (λ_=>Z9 K C a.c2))(cL:bo P w K mg base 40 "as_ratio" ["number"] (aM K C bz 1))(iF:bo P w K mg base 40 "square_free" ["poly"] (aM K C cO 1))(pW:bo P w K mg base 40 "number_in" ["free","pair","weight"] (aM K C eO 3))(JD:cq P w K mg base kr true 40 "located" ["free","pair_by"] (MI P w K mg base C))(D:Ph K mg "result_of" cX ["one","other","poly_of","pair_of"] c)(hc:CodeHd base c Pt)(B:SF.BMain base mg):
 cq P w K mg base (f9 P w) true 41 "result_of" ["one","other","poly_of","pair_of"] (λ_=>ML P w K mg base C Pt a.c2):=by
 obtain⟨U2,fd0,F,hm,hb,hfd⟩:=D.ex;refine⟨U2,fd0,?_,hm,F.kp,hb⟩;refine F.pD eM (λs vs H Q E h=>?_) (λbH A outer s H vs Q E iq TB hr h=>?_)
 ·obtain⟨Hf,x,y,v1,v2,f1,f2,F1,F2,res,rfl,_⟩:=h;rfl
 obtain⟨Hf,x,y,v1,v2,f1,f2,F1,F2,res,rfl,sf,hP0,r1,r2,tb,Pj,NI,vt,qn,qx⟩:=h;obtain rfl:Value.ref c=bH:=hfd.symm.trans TB;obtain⟨p,q,i,p',q',j,rfl,rfl,Z_,HQ⟩:=HN vt;obtain⟨c1,c2,c3,k1,k2,k3,Pe,Tv,Tw,Z'⟩:∃c1 c2 c3,(envOfC "result_of" (ax cX) s.heap.objs.size U2 (.ref c)).cells.lookup ("one":Str)=some c1/\(envOfC "result_of" (ax cX) s.heap.objs.size U2 (.ref c)).cells.lookup ("other":Str)=some c2/\(envOfC "result_of" (ax cX) s.heap.objs.size U2 (.ref c)).cells.lookup ("pair_of":Str)=some c3/\
  c1≠c2/\c1≠c3/\c2≠c3/\closureFor FW (envOfC "result_of" (ax cX) s.heap.objs.size U2 (.ref c))=pure (FX c1 c2 c3):=⟨_,_,_,rfl,rfl,rfl,by intro z;simp at z,by intro z;simp at z,by intro z;simp at z,clo _ _ _⟩
 obtain⟨R,hR⟩:∃R:List V->Hp->L2.St->VK->Prop,R=λvs H1 σ Q1=>∃(vf:V)(f c':Addr)(oc:Obj)(bO:Hp)(fr pr:AV),vs=[vf,.ref f]/\aJ bO H1/\Rl K C bO fr vf/\H1 f=some (s_ f "<lambda>" jC Tr Ts FW (FX c1 c2 c3) c')/\H1 c'=some (.vY oc (.own 0))/\Wu oc jC/\
  σ[0]?=some (some v1)/\Rl K C bO (.root p q (.int i)) v1/\σ[1]?=some (some v2)/\Rl K C bO (.root p' q' (.int j)) v2/\σ[3]?=some (some (.ref f2))/\zm F2 fr (.root p q (.int i)) (.root p' q' (.int j)) 40 JC=some pr/\∀v bL H',Step bO H1 bL H'->Rl K C bL pr v->Q1 v H':=⟨_,rfl⟩
 have hRR:∀pins bc H1 s1 vs Q1,Inv (LR (f9 P w) true P w K mg base ["one","other","poly_of","pair_of","weight","poly","free","pair"] "result_of" (ax cX) U2 (.ref c) A outer s H E) pins bc H1 s1->R vs H1 bc Q1->MI P w K mg base C s1 vs H1 Q1 E0:=by
  intro pins bc H1 s1 vs Q1 J r;rw[hR] at r;obtain⟨vf,f,c',oc,bO,fr,pr,rfl,e1,e2,e3,e4,e5,e6,e7,e8,e9,e10,e11,q1⟩:=r;obtain⟨m1,hn,XN⟩:=J.loc;obtain⟨u1,ru1,lk1⟩:=XN 0 "one" v1 rfl e6 (Or.inr (Or.inl rfl));obtain⟨u2,ru2,lk2⟩:=XN 1 "other" v2 rfl e8 (Or.inr (Or.inl rfl));obtain⟨u3,ru3,lk3⟩:=XN 3 "pair_of" (.ref f2) rfl e10 (Or.inr (Or.inl rfl));rcases lk1 with⟨y1,_⟩|⟨_,d1,y1,y2⟩
  ·cases y1
  rcases lk2 with⟨y1,_⟩|⟨_,d2,y3,y4⟩
  ·cases y1
  rcases lk3 with⟨y1,_⟩|⟨_,d3,y5,y6⟩
  ·cases y1
  have ec:d1=c1:=Option.some.inj (y1.symm.trans k1);subst ec;have ec:d2=c2:=Option.some.inj (y3.symm.trans k2);subst ec;have ec:d3=c3:=Option.some.inj (y5.symm.trans k3);subst ec;exact⟨vf,v1,v2,f,c',d1,d2,d3,f2,oc,u1,u2,u3,bO,fr,_,_,F2,pr,rfl,e1,e2,e3,e4,e5,⟨Pe,Tv,Tw⟩,⟨J.jD _ _ y1,y2,ru1,e7⟩,⟨J.jD _ _ y3,y4,ru2,e9⟩,⟨J.jD _ _ y5,y6,ru3⟩,NI,e11,q1⟩
 refine⟨_,(ag (aw (i:=4) eM.nd rfl (Or.inl rfl) (cj (E:=E) kE hr aR.passes (aa (pv 0) (aa (pv 1) ah))))
  (ag (aw (i:=5) eM.nd rfl (Or.inl rfl) (xX (i:=2) (E:=E0) Pj hr fA rfl (Or.inl rfl) (aa (bX (pv 0) rfl) (aa (bX (pv 1) rfl) ah))))
  (ag (bj (PW.pt (oH (aG j5 (aB cL hr.calm (aa (pv 0) ah)) gw (aN _)) (lh (aG j5 (aB cL hr.calm (aa (pv 1) ah)) gw (aN _)))))
  (aq (aC (qg (dvs:=[]) (E:=E0) RC.Rh gz hr.calm rfl RC.m RC.b .nil fA (aa (pv 5) (aa (xX (i:=3) (E:=E0) NI (hr.mono (by decide)) fA rfl (Or.inr (Or.inl rfl)) (aa (bX (pv 0) rfl) (aa (bX (pv 1) rfl) ah))) (aa (pv 4) ah))))))
  aO)
  (ag (aw (i:=6) eM.nd rfl (Or.inl rfl) (aB iF hr.calm (aa (pv 5) ah)))
  (ag (aw (i:=7) eM.nd rfl (Or.inl rfl) (Tz (E:=E0) JD hr fA (aa (pv 6) (aa (OQ rfl hc Z' rfl B) ah)) hRR))
  (aq (aC (aB pW hr.calm (aa (pv 6) (aa (pv 7) (aa (pv 4) ah))))))))))),?_⟩;walk_at "sf";refine⟨Hf,p,q,p',q',i,j,sf,.cons r1 (.cons r2 .nil),Z_,λhw bO H1 s1=>?_,λhw=>?_⟩
 rotate_left
 ·rcases HQ with⟨_,e⟩|⟨e,_⟩
  ·exact qx e
  ·lia
 rcases HQ with⟨e,_⟩|⟨_,r,rfl,hh⟩
 ·lia
 have Ye:=r1;have Yf:=r2;obtain⟨l1,WZ,vp1,vq1,vw1,rfl,h1,U1,rq1,Z7⟩:=Rl.HP r1;obtain⟨l2,W0,vp2,vq2,vw2,rfl,h2,rp2,rq2,rw2⟩:=Rl.HP r2;obtain⟨nt,hF1,Qu⟩:=gA hh;obtain⟨ra,Yg,J8⟩:=gA Qu;obtain⟨rb,Yh,NF⟩:=gA J8;walk_at "sf";refine⟨rfl,?_⟩;walk_at "sf";refine⟨_,rfl,l1,C,WZ,_,_,rfl,s1.hh _ _ (sf _ _ h1),RC.cl,RC.n1,rfl,?_⟩;walk_at "sf";refine⟨_,rfl,l2,C,W0,_,_,rfl,s1.hh _ _ (sf _ _ h2),RC.cl,RC.n1,rfl,?_⟩;walk_at "sf";refine fH s1.fh (.cons (U1.mono s1.ff) (.cons (rp2.mono s1.ff) .nil)) rfl hF1 λv3 jB H3 s3 r3=>?_;have J_:=s1.trans s3;walk_at "sf";refine fH s3.fh (.cons (Ye.mono J_.ff) .nil) rfl Yg λv4 A2 H4 s4 r4=>?_;have HM:=J_.trans s4;walk_at "sf";refine⟨rfl,?_⟩;rw[<-r4.uD];have ratio:xC (uC ra) (uC rb)=false->∀(TC Hx:Hp),Step Hf H TC Hx->Rl K C TC nt v3->Af (B_ C (pA C) [] E0 (dm (eA 5) (dm (E2 3 f2 (aM K C F2 2) E0 (dm (yV K (eA 0) "pair") (dm (yV K (eA 1) "pair") iY))) (dm (eA 4) iY)))) {nx:=λ_ H'=>Q .dH H',rt:=Q} [some (.ref l1),some (.ref l2),some (.ref f1),some (.ref f2),some (.int (i*j)),some v3,none,none] Hx:=by
  intro hz TC Hx sx rx;rw[hz] at NF;obtain⟨pr,ND,Tx⟩:=gA (show kD (F2 [q,q']) (λpr=>some (.root nt pr (.int (i*j))))=some r from NF);cases Tx;walk_at "sf";refine⟨_,rfl,?_⟩;refine⟨rfl,?_⟩;walk_at "sf";refine⟨_,rfl,l1,C,WZ,_,_,rfl,sx.hh _ _ (sf _ _ h1),RC.cl,RC.n2,rfl,?_⟩;walk_at "sf";refine⟨_,rfl,l2,C,W0,_,_,rfl,sx.hh _ _ (sf _ _ h2),RC.cl,RC.n2,rfl,?_⟩;walk_at "sf";refine fH sx.fh (.cons (rq1.mono sx.ff) (.cons (rq2.mono sx.ff) .nil)) rfl ND λv6 NG H6 s6 r6=>?_;have Pk:=sx.trans s6;walk_at "sf";intro xa MM hxa TF jJ;refine⟨xa,MM,v3,v6,.int (i*j),rfl,aE,λH' k1 k2=>⟨rfl,?_⟩⟩;have eH:H'=upd (upd H6 MM (.own xa)) xa (.ins C MM [("poly",v3),("pair",v6),("weight",.int (i*j))]):=by
   funext c
   by_cases z:c=xa
   ·subst z;rw[aE];exact k2
   ·rw[ay z,k1 c z,ay z]
  subst eH;have sa:=Step.new s6.fh TF (.own xa);have sb:=Step.new sa.fh (show upd H6 MM (.own xa) xa=none by rw[ay jJ.symm];exact hxa) (.ins C MM [("poly",v3),("pair",v6),("weight",.int (i*j))]);have NH:=sa.trans sb;have F3:=Pk.trans NH;exact qn _ rfl _ _ _ (iu.of F3) (tb.same F3.hh) (.root aE ((rx.mono s6.ff).mono NH.ff) (r6.mono NH.ff) .int)
 cases e4:uC ra with
 |false=>
  walk_at "sf";refine mR ?_;refine mR ?_;exact ratio (by rw[e4];rfl) A2 H4 HM (r3.mono s4.ff)
 |true=>
  walk_at "sf";refine qD ?_;walk_at "sf";refine fH s4.fh (.cons (Yf.mono HM.ff) .nil) rfl Yh λv5 uh H5 s5 r5=>?_;have Kc:=HM.trans s5;walk_at "sf";refine⟨rfl,?_⟩;rw[<-r5.uD];have Yi:=(r3.mono s4.ff).mono s5.ff;cases e5:uC rb with
  |false=>
   walk_at "sf";refine mR ?_;exact ratio (by rw[e4,e5];rfl) uh H5 Kc Yi
  |true=>
   walk_at "sf";refine qD ?_;rw[e4,e5] at NF;obtain⟨fr,mO,Tx⟩:=gA (show kD (cO [nt]) (λfr=>kD (zm F2 fr (.root p q (.int i)) (.root p' q' (.int j)) 40 JC) λpr=>eO [fr,pr,.int (i*j)])=some r from NF);obtain⟨pr,ND,hh5⟩:=gA Tx;walk_at "sf";refine fH s5.fh (.cons Yi .nil) rfl mO λv6 NG H6 s6 r6=>?_;have Pk:=Kc.trans s6;have tb6:=tb.same Pk.hh;have hP6:NG Pt=none:=Pk.nn Pt hP0 tb.ne;walk_at "sf";refine Pf ?_;walk_at "sf";refine MJ tb6 λf c' oc H7 k7 tb7 hf wa Tu=>?_;have sx7:iu Pt NG H6 NG H7:=⟨k7,λ_=>tb7.ne,aJ.fO _,λb o e=>k7 b o (aW e hP6) (s6.fh _ _ e),λ_ h _=>h⟩;walk_at "sf";rw[hR];refine⟨v6,f,c',oc,NG,fr,pr,rfl,sx7.fh,r6,hf,wa,Tu,rfl,Ye.mono Pk.ff,rfl,Yf.mono Pk.ff,rfl,ND,λv8 Hf8 H8 s8 r8=>?_⟩;walk_at "sf";refine fH s8.fh (.cons (r6.mono s8.ff) (.cons r8 (.cons .int .nil))) rfl hh5 λv9 Hf9 H9 s9 r9=>?_;have s89:=s8.trans s9;exact qn _ rfl _ _ _ ((iu.of Pk).trans (sx7.trans (iu.of s89))) (tb7.same s89.hh) r9
end
def zo(a:O)(k:AV->Option (Option AV)):Option (Option AV):=Option.rec none k a
theorem wY{a:O}{k:AV->Option (Option AV)}{r:Option AV}(h:zo a k=some r):∃x,a=some x/\k x=some r:=by
 cases a with
 |none=>exact nomatch h
 |some x=>exact⟨x,rfl,h⟩
def TJ(x:AV)(k:Int->Option (Option AV)):Option (Option AV):=AV.casesOn x none (λ_=>none) (λi=>k i) (λ_=>none) (λ_=>none) (λ_=>none) (λ_ _ _=>none)
theorem HR{x:AV}{k:Int->Option (Option AV)}{r:Option AV}(h:TJ x k=some r):∃i,x=.int i/\k i=some r:=by
 cases x<;>first|exact⟨_,rfl,h⟩|exact nomatch h
def U3:AV:=.tup [.int 0,.int 1]
def Pm:GX:=FU vg lQ
def HS:GX:=λx y=>zo (jY [y]) λo=>Pm x o
def Pn:GX:=λx y=>zo (cY [x]) λa=>TJ a λi=>Bool.rec (zo (cY [y]) λb=>TJ b λj=>Bool.rec (FU iE ek x y) (zo (bG [U3]) λr=>some (some r)) (Ny j)) (zo (bG [U3]) λr=>some (some r)) (Ny i)
section
variable {P:Program} {w:World} {K:Frag} {mg:Str->Option Value} {base:Heap} {C fI:Addr} {fd:FuncData} {a:Ad} {Pt:Addr}
theorem Bt{G:GX}{vs:List V}{H:Hp}{Q:VK}{E:XK}{c:Addr}(h:Pg K C Pt c G vs H Q E):vs.length=2:=by
 obtain⟨Hf,x,y,res,_,_,rl,_⟩:=h;exact rl.length
theorem DJ(kq:cq P w K mg base (f9 P w) true 41 "result_of" ["one","other","poly_of","pair_of"] (λ_=>ML P w K mg base C Pt a.c2))(ni:bo P w K mg base 40 "sums_of" ["one","other"] (aM K C vg 2))(yB:bo P w K mg base 38 "pair_of_sums" ["one","other"] (aM K C lQ 2))(D:aU K mg "added_to" rK ["one","other"]):cq P w K mg base (f9 P w) true 42 "added_to" ["one","other"] (λ_=>Pg K C Pt a.c2 Pm):=by
 obtain⟨f1,m1,Pj⟩:=vn (j:=40) ni (by decide);obtain⟨f2,m2,NI⟩:=vn (j:=38) yB (by decide);refine D.pD vU (λs vs H Q E h=>Bt h) (λf bH A outer s H vs Q E iq hr h=>?_);obtain⟨Hf,x,y,res,sf,hP,rl,tb,vt,qn,qx⟩:=h;obtain⟨v1,v2,rfl,r1,r2⟩:=rl.two;refine⟨_,aq (aC (cj (E:=E) kq hr aR.passes (aa (pv 0) (aa (pv 1) (aa (gZ (v:=.ref f1) rfl m1 rfl) (aa (gZ (v:=.ref f2) rfl m2 rfl) ah)))))),?_⟩;walk_at "sf";exact⟨Hf,x,y,v1,v2,f1,f2,_,_,res,rfl,sf,hP,r1,r2,tb,Pj,NI,vt,qn,qx⟩
theorem Po(sr:cq P w K mg base (f9 P w) true 42 "added_to" ["one","other"] (λ_=>Pg K C Pt a.c2 Pm))(su:bo P w K mg base 42 "opposite" ["number"] (aM K C jY 1))(D:aU K mg "less" Fh ["one","other"]):cq P w K mg base (f9 P w) true 43 "less" ["one","other"] (λ_=>Pg K C Pt a.c2 HS):=by
 refine D.pD HI (λs vs H Q E h=>Bt h) (λf bH A outer s H vs Q E iq hr h=>?_);obtain⟨Hf,x,y,res,sf,hP,rl,tb,vt,qn,qx⟩:=h;obtain⟨v1,v2,rfl,r1,r2⟩:=rl.two;obtain⟨o,ho,vt⟩:=wY (show zo (jY [y]) (λo=>Pm x o)=some res from vt);refine⟨_,aq (aC (cj (E:=E) sr hr aR.passes (aa (pv 0) (aa (aB su hr.calm (aa (pv 1) ah)) ah)))),?_⟩;walk_at "sf";refine fH sf (.cons r2 .nil) rfl ho λv3 jB H3 s3 r3=>?_;walk_at "sf";exact⟨jB,x,o,res,s3.fh,s3.nn Pt hP tb.ne,.cons (r1.mono s3.ff) (.cons r3 .nil),tb.same s3.hh,vt,λr er v bL H' sx D6 rl=>qn r er v bL H' ((iu.of s3).trans sx) D6 rl,λe=>(qx e).mono s3.hh⟩
theorem vx(kq:cq P w K mg base (f9 P w) true 41 "result_of" ["one","other","poly_of","pair_of"] (λ_=>ML P w K mg base C Pt a.c2))(fi:bo P w K mg base 40 "products_of" ["one","other"] (aM K C iE 2))(iT:bo P w K mg base 38 "pair_of_products" ["one","other"] (aM K C ek 2))(fG:bo P w K mg base 41 "sign_of" ["number"] (aM K C cY 1))(cJ:bo P w K mg base 41 "of_ratio" ["given"] (aM K C bG 1))(D:aU K mg "multiplied_by" iI ["one","other"]):cq P w K mg base (f9 P w) true 42 "multiplied_by" ["one","other"] (λ_=>Pg K C Pt a.c2 Pn):=by
 obtain⟨f1,m1,Pj⟩:=vn (j:=40) fi (by decide);obtain⟨f2,m2,NI⟩:=vn (j:=38) iT (by decide);refine D.pD m5 (λs vs H Q E h=>Bt h) (λf bH A outer s H vs Q E iq hr h=>?_);obtain⟨Hf,x,y,res,sf,hP,rl,tb,vt,qn,qx⟩:=h;obtain⟨v1,v2,rfl,r1,r2⟩:=rl.two;refine⟨_,(ag (bj (PW.pt (oH (aG bI (aB fG hr.calm (aa (pv 0) ah)) ak (aN _)) (lh (aG bI (aB fG hr.calm (aa (pv 1) ah)) ak (aN _)))))
  (aq (aC (aB cJ hr.calm (aa (bV (aa ak (aa ak ah))) ah))))
  aO)
  (aq (aC (cj (E:=E) kq hr aR.passes (aa (pv 0) (aa (pv 1) (aa (gZ (v:=.ref f1) rfl m1 rfl) (aa (gZ (v:=.ref f2) rfl m2 rfl) ah)))))))),?_⟩;obtain⟨sa,Wt,MN⟩:=wY (show zo (cY [x]) _=some res from vt);obtain⟨i,rfl,pY⟩:=HR MN;have zero:∀(bO H1:Hp),Step Hf H bO H1->zo (bG [U3]) (λr=>some (some r))=some res->Af (pb (aM K C bG 1) [] E0 (dm (Iq (dm (tC (.int 0)) (dm (tC (.int 1)) iY))) iY)) {nx:=λ_ H'=>Q .dH H',rt:=Q} [some v1,some v2] H1:=by
  intro bO H1 s1 hz;obtain⟨r,hr1,e⟩:=wY hz;cases e;walk_at "sf";intro p0 WY;have s0:=Step.new s1.fh WY (.tup [.int 0,.int 1]);walk_at "sf";refine fH s0.fh (.cons (.tup (.inl (.inl aE)) (.cons .int (.cons .int .nil))) .nil) rfl hr1 λv3 jB H3 s3 r3=>?_;have F3:=s1.trans (s0.trans s3);exact qn _ rfl _ _ _ (iu.of F3) (tb.same F3.hh) r3
 walk_at "sf";refine fH sf (.cons r1 .nil) rfl Wt λv3 jB H3 s3 r3=>?_;cases r3;walk_at "sf";rw[qU] at pY;by_cases hi:i=0
 ·rw[decide_eq_true hi] at pY ⊢;refine mR ?_;refine mR ?_;exact zero jB H3 s3 pY
 ·rw[decide_eq_false hi] at pY ⊢;refine qD ?_;obtain⟨sb,D3,MO⟩:=wY (show zo (cY [y]) _=some res from pY);obtain⟨j,rfl,pZ⟩:=HR MO;walk_at "sf";refine fH s3.fh (.cons (r2.mono s3.ff) .nil) rfl D3 λv4 A2 H4 s4 r4=>?_;cases r4;walk_at "sf";have HU:=s3.trans s4;rw[qU] at pZ;by_cases hj:j=0
  ·rw[decide_eq_true hj] at pZ ⊢;refine mR ?_;exact zero A2 H4 HU pZ
  ·rw[decide_eq_false hj] at pZ ⊢;refine qD ?_;walk_at "sf";exact⟨A2,x,y,v1,v2,f1,f2,_,_,res,rfl,HU.fh,HU.nn Pt hP tb.ne,r1.mono HU.ff,r2.mono HU.ff,tb.same HU.hh,Pj,NI,pZ,λr er v bL H' sx D6 rl=>qn r er v bL H' ((iu.of HU).trans sx) D6 rl,λe=>(qx e).mono HU.hh⟩
end
def TK(F1 F2:Fn)(x y:AV):O:=kD (bz [x]) λa=>kD (bz [y]) λb=>eX (xC (uC a) (uC b)) none (Option.rec none (λo=>o) (FU F1 F2 x y))
theorem Pp{F1 F2:Fn}{x y r:AV}(h:TK F1 F2 x y=some r):FU F1 F2 x y=some (some r)/\∃a b,bz [x]=some a/\bz [y]=some b/\xC (uC a) (uC b)=false:=by
 obtain⟨a,ha,h1⟩:=gA h;obtain⟨b,hb,h2⟩:=gA h1;obtain⟨c,h3⟩:=tw h2;refine⟨?_,a,b,ha,hb,c⟩;cases e:FU F1 F2 x y with
 |none=>rw[e] at h3;exact nomatch h3
 |some o=>
  rw[e] at h3;exact congrArg some h3
def MP(P:Program)(w:World)(K:Frag)(mg:Str->Option Value)(base:Heap)(C:Addr):Sp:=λvs H Q _=>∃(Hf:Hp)(x y:AV)(v1 v2:V)(f1 f2:Addr)(F1 F2:Fn)(r:AV),vs=[v1,v2,.ref f1,.ref f2]/\aJ Hf H/\Rl K C Hf x v1/\Rl K C Hf y v2/\
 S7 P w K mg base kr true 40 f1 ["one","other"] (λ_=>aM K C F1 2)/\S7 P w K mg base kr true 38 f2 ["one","other"] (λ_=>aM K C F2 2)/\TK F1 F2 x y=some r/\∀v bL H',Step Hf H bL H'->Rl K C bL r v->Q v H'
def mulR(x y:AV):O:=kD (cY [x]) λa=>oQ a λi=>Bool.rec (kD (cY [y]) λb=>oQ b λj=>Bool.rec (TK iE ek x y) (bG [U3]) (Ny j)) (bG [U3]) (Ny i)
def ck:vT:=λas=>two as λx y=>Option.rec none (λr=>some (.ret r)) (mulR x y)
def sv:vT:=λ_=>none
def F4:vT:=λ_=>none
section
variable {P:Program} {w:World} {K:Frag} {mg:Str->Option Value} {base:Heap} {C fI:Addr} {fd:FuncData} {a:Ad}
theorem Bu{x:Str}{st:Stmt}{N ps:List Str}{k m:Nat}(sc:aI N ps (ax st))(D:aU K mg x st ps):cq P w K mg base (f9 P w) true (k+1) x ps (λ_=>dJ K C a.c (λ_=>none) m):=by
 refine D.pD sc (λs vs H Q E h=>?_) (λf bH A outer s H vs Q E iq hr h=>?_)
 all_goals
  obtain⟨_,_,_,_,_,_,h,_⟩:=h;exact nomatch h
theorem zp(RC:Rc K mg C fI fd)(gz:dU P w K mg base kr 39 fI fd ["self","poly","pair","weight"] (pA C))(kE:cq P w K mg base (f9 P w) true 40 "weight_of_two" ["one","other"] (λ_=>Z9 K C a.c2))(cL:bo P w K mg base 40 "as_ratio" ["number"] (aM K C bz 1))(D:aU K mg "result_of" cX ["one","other","poly_of","pair_of"]):
 cq P w K mg base (f9 P w) true 41 "result_of" ["one","other","poly_of","pair_of"] (λ_=>MP P w K mg base C):=by
 refine D.pD eM (λs vs H Q E h=>?_) (λf bH A outer s H vs Q E iq hr h=>?_)
 ·obtain⟨Hf,x,y,v1,v2,f1,f2,F1,F2,res,rfl,_⟩:=h;rfl
 obtain⟨Hf,x,y,v1,v2,f1,f2,F1,F2,r,rfl,sf,r1,r2,Pj,NI,vt,qn⟩:=h;obtain⟨vt,ra,rb,Yg,Yh,hab⟩:=Pp vt;obtain⟨p,q,i,p',q',j,rfl,rfl,Z_,HQ⟩:=HN vt;refine⟨_,(ag (aw (i:=4) eM.nd rfl (Or.inl rfl) (cj (E:=E) kE hr aR.passes (aa (pv 0) (aa (pv 1) ah))))
  (ag (aw (i:=5) eM.nd rfl (Or.inl rfl) (xX (i:=2) (E:=E0) Pj hr fA rfl (Or.inl rfl) (aa (bX (pv 0) rfl) (aa (bX (pv 1) rfl) ah))))
  (ag (bj (PW.pt (oH (aG j5 (aB cL hr.calm (aa (pv 0) ah)) gw (aN _)) (lh (aG j5 (aB cL hr.calm (aa (pv 1) ah)) gw (aN _)))))
  (aq (aC (qg (dvs:=[]) (E:=E0) RC.Rh gz hr.calm rfl RC.m RC.b .nil fA (aa (pv 5) (aa (xX (i:=3) (E:=E0) NI (hr.mono (by decide)) fA rfl (Or.inr (Or.inl rfl)) (aa (bX (pv 0) rfl) (aa (bX (pv 1) rfl) ah))) (aa (pv 4) ah))))))
  aO)
  (ag dQ (ag dQ (aq dQ)))))),?_⟩;walk_at "sf";rcases HQ with⟨_,e⟩|⟨hw,r0,e,hh⟩
 ·exact nomatch e
 cases e;refine⟨Hf,p,q,p',q',i,j,sf,.cons r1 (.cons r2 .nil),Z_,λ_ bO H1 s1=>?_,λhw'=>absurd hw' (by lia)⟩;have Ye:=r1;have Yf:=r2;obtain⟨l1,WZ,vp1,vq1,vw1,rfl,h1,U1,rq1,Z7⟩:=Rl.HP r1;obtain⟨l2,W0,vp2,vq2,vw2,rfl,h2,rp2,rq2,rw2⟩:=Rl.HP r2;obtain⟨nt,hF1,Qu⟩:=gA hh;rw[Yg] at Qu;have J8:(kD (bz [.root p' q' (.int j)]) λb=>eX (xC (uC ra) (uC b)) _ (kD (F2 [q,q']) λpr=>some (.root nt pr (.int (i*j)))))=some r:=Qu;rw[Yh] at J8;have NF:eX (xC (uC ra) (uC rb)) _ (kD (F2 [q,q']) λpr=>some (.root nt pr (.int (i*j))))=some r:=J8;rw[hab] at NF;obtain⟨pr,ND,Tx⟩:=gA (show kD (F2 [q,q']) (λpr=>some (.root nt pr (.int (i*j))))=some r from NF);cases Tx;walk_at "sf";refine⟨rfl,?_⟩;walk_at "sf";refine⟨_,rfl,l1,C,WZ,_,_,rfl,s1.hh _ _ (sf _ _ h1),RC.cl,RC.n1,rfl,?_⟩;walk_at "sf";refine⟨_,rfl,l2,C,W0,_,_,rfl,s1.hh _ _ (sf _ _ h2),RC.cl,RC.n1,rfl,?_⟩;walk_at "sf";refine fH s1.fh (.cons (U1.mono s1.ff) (.cons (rp2.mono s1.ff) .nil)) rfl hF1 λv3 jB H3 s3 r3=>?_;have J_:=s1.trans s3;walk_at "sf";refine fH s3.fh (.cons (Ye.mono J_.ff) .nil) rfl Yg λv4 A2 H4 s4 r4=>?_;have HM:=J_.trans s4;walk_at "sf";refine⟨rfl,?_⟩;rw[<-r4.uD];have ratio:∀(TC Hx:Hp),Step Hf H TC Hx->Rl K C TC nt v3->Af (B_ C (pA C) [] E0 (dm (eA 5) (dm (E2 3 f2 (aM K C F2 2) E0 (dm (yV K (eA 0) "pair") (dm (yV K (eA 1) "pair") iY))) (dm (eA 4) iY)))) {nx:=λ_ H'=>Q .dH H',rt:=Q} [some (.ref l1),some (.ref l2),some (.ref f1),some (.ref f2),some (.int (i*j)),some v3,none,none] Hx:=by
  intro TC Hx sx rx;walk_at "sf";refine⟨_,rfl,?_⟩;refine⟨rfl,?_⟩;walk_at "sf";refine⟨_,rfl,l1,C,WZ,_,_,rfl,sx.hh _ _ (sf _ _ h1),RC.cl,RC.n2,rfl,?_⟩;walk_at "sf";refine⟨_,rfl,l2,C,W0,_,_,rfl,sx.hh _ _ (sf _ _ h2),RC.cl,RC.n2,rfl,?_⟩;walk_at "sf";refine fH sx.fh (.cons (rq1.mono sx.ff) (.cons (rq2.mono sx.ff) .nil)) rfl ND λv6 NG H6 s6 r6=>?_;have Pk:=sx.trans s6;walk_at "sf";intro xa MM hxa TF jJ;refine⟨xa,MM,v3,v6,.int (i*j),rfl,aE,λH' k1 k2=>⟨rfl,?_⟩⟩;have eH:H'=upd (upd H6 MM (.own xa)) xa (.ins C MM [("poly",v3),("pair",v6),("weight",.int (i*j))]):=by
   funext c
   by_cases z:c=xa
   ·subst z;rw[aE];exact k2
   ·rw[ay z,k1 c z,ay z]
  subst eH;have sa:=Step.new s6.fh TF (.own xa);have sb:=Step.new sa.fh (show upd H6 MM (.own xa) xa=none by rw[ay jJ.symm];exact hxa) (.ins C MM [("poly",v3),("pair",v6),("weight",.int (i*j))]);have NH:=sa.trans sb;have F3:=Pk.trans NH;exact qn _ _ _ F3 (.root aE ((rx.mono s6.ff).mono NH.ff) (r6.mono NH.ff) .int)
 cases e4:uC ra with
 |false=>
  walk_at "sf";refine mR ?_;refine mR ?_;exact ratio A2 H4 HM (r3.mono s4.ff)
 |true=>
  walk_at "sf";refine qD ?_;walk_at "sf";refine fH s4.fh (.cons (Yf.mono HM.ff) .nil) rfl Yh λv5 uh H5 s5 r5=>?_;have Kc:=HM.trans s5;walk_at "sf";refine⟨rfl,?_⟩;rw[<-r5.uD];have Yi:=(r3.mono s4.ff).mono s5.ff;cases e5:uC rb with
  |false=>
   walk_at "sf";refine mR ?_;exact ratio uh H5 Kc Yi
  |true=>
   rw[e4,e5] at hab;exact nomatch hab
theorem tX(kq:cq P w K mg base (f9 P w) true 41 "result_of" ["one","other","poly_of","pair_of"] (λ_=>MP P w K mg base C))(fi:bo P w K mg base 40 "products_of" ["one","other"] (aM K C iE 2))(iT:bo P w K mg base 38 "pair_of_products" ["one","other"] (aM K C ek 2))(fG:bo P w K mg base 41 "sign_of" ["number"] (aM K C cY 1))(cJ:bo P w K mg base 41 "of_ratio" ["given"] (aM K C bG 1))(D:aU K mg "multiplied_by" iI ["one","other"]):cq P w K mg base (f9 P w) true 42 "multiplied_by" ["one","other"] (λ_=>dJ K C a.c ck 2):=by
 obtain⟨f1,m1,Pj⟩:=vn (j:=40) fi (by decide);obtain⟨f2,m2,NI⟩:=vn (j:=38) iT (by decide);refine D.pD m5 (λs vs H Q E h=>dv h) (λf bH A outer s H vs Q E iq hr h=>?_);obtain⟨Hf,as,res,sf,rl,_,hF,q,_⟩:=h;obtain⟨x,y,rfl,h2⟩:=iw hF;obtain⟨v1,v2,rfl,r1,r2⟩:=rl.two;cases e:mulR x y with
 |none=>rw[e] at h2;exact nomatch h2
 |some r=>
 rw[e] at h2;obtain rfl:ir.ret r=res:=Option.some.inj h2;have qn:∀v bL H',Step Hf H bL H'->Rl K C bL r v->Q v H':=λv bL H' s rl=>q r rfl v bL H' s.hh s.ff s.fh s.nn rl;refine⟨_,(ag (bj (PW.pt (oH (aG bI (aB fG hr.calm (aa (pv 0) ah)) ak (aN _)) (lh (aG bI (aB fG hr.calm (aa (pv 1) ah)) ak (aN _)))))
  (aq (aC (aB cJ hr.calm (aa (bV (aa ak (aa ak ah))) ah))))
  aO)
  (aq (aC (cj (E:=E) kq hr aR.passes (aa (pv 0) (aa (pv 1) (aa (gZ (v:=.ref f1) rfl m1 rfl) (aa (gZ (v:=.ref f2) rfl m2 rfl) ah)))))))),?_⟩;obtain⟨sa,Wt,MN⟩:=gA (show kD (cY [x]) _=some r from e);obtain⟨i,rfl,pY⟩:=cg MN;have zero:∀(bO H1:Hp),Step Hf H bO H1->bG [U3]=some r->Af (pb (aM K C bG 1) [] E0 (dm (Iq (dm (tC (.int 0)) (dm (tC (.int 1)) iY))) iY)) {nx:=λ_ H'=>Q .dH H',rt:=Q} [some v1,some v2] H1:=by
  intro bO H1 s1 hr1;walk_at "sf";intro p0 WY;have s0:=Step.new s1.fh WY (.tup [.int 0,.int 1]);walk_at "sf";refine fH s0.fh (.cons (.tup (.inl (.inl aE)) (.cons .int (.cons .int .nil))) .nil) rfl hr1 λv3 jB H3 s3 r3=>?_;exact qn _ _ _ (s1.trans (s0.trans s3)) r3
 walk_at "sf";refine fH sf (.cons r1 .nil) rfl Wt λv3 jB H3 s3 r3=>?_;cases r3;walk_at "sf";rw[qU] at pY;by_cases hi:i=0
 ·rw[decide_eq_true hi] at pY ⊢;refine mR ?_;refine mR ?_;exact zero jB H3 s3 pY
 ·rw[decide_eq_false hi] at pY ⊢;refine qD ?_;obtain⟨sb,D3,MO⟩:=gA (show kD (cY [y]) _=some r from pY);obtain⟨j,rfl,pZ⟩:=cg MO;walk_at "sf";refine fH s3.fh (.cons (r2.mono s3.ff) .nil) rfl D3 λv4 A2 H4 s4 r4=>?_;cases r4;walk_at "sf";have HU:=s3.trans s4;rw[qU] at pZ;by_cases hj:j=0
  ·rw[decide_eq_true hj] at pZ ⊢;refine mR ?_;exact zero A2 H4 HU pZ
  ·rw[decide_eq_false hj] at pZ ⊢;refine qD ?_;walk_at "sf";exact⟨A2,x,y,v1,v2,f1,f2,_,_,r,rfl,HU.fh,r1.mono HU.ff,r2.mono HU.ff,Pj,NI,pZ,λv bL H' sx rl=>qn v bL H' (HU.trans sx) rl⟩
end
def toA(o:Option (Option AV)):Option ir:=Option.rec none (λx=>Option.rec none (λr=>some (.ret r)) x) o
theorem MQ{o:Option (Option AV)}{r:ir}(h:toA o=some r):∃x,o=some (some x)/\r=.ret x:=by
 cases o with
 |none=>exact nomatch h
 |some x=>
  cases x with
  |none=>exact nomatch h
  |some x=>exact⟨x,rfl,(Option.some.inj h).symm⟩
def HV(l:List Nat):xx ir:=eT (kn (aj 0) (eC (.str ⟨⟨l⟩⟩)))
def MR:eE ir:=ai (cW (aj 1) (eC (.int 0))) (ai (cW (aj 1) (eC (.int 1))) az)
def MS:vT:=λas=>two as λw g=>HV [108,101,116] [.fz w,.fz g] λb σ=>eX b none (HV [114,111,111,116] σ λb σ=>eX b none (HV [115,117,109] σ λb σ=>eX b none (HV [108,101,115,115] σ λb σ=>
 eX b (MR σ λxy _=>two xy λx y=>toA (HS x y)) (HV [112,114,111,100,117,99,116] σ λb σ=>eX b (MR σ λxy _=>two xy λx y=>toA (Pn x y)) none))))
def Pq(K:Frag)(C Pt:Addr):Sp:=λvs H Q _=>∃Hf as r,aJ Hf H/\Hf Pt=none/\qH Pt jC H/\d9 K C Hf as vs/\MS as=some r/\∀x,r=.ret x->∀v bL H',iu Pt Hf H bL H'->qH Pt jC H'->Rl K C bL x v->Q v H'
def W2(p q:Sp):Sp:=λvs H Q E=>p vs H Q E\/q vs H Q E
theorem z9{D:Ends}{σ:L2.St}{H:Hp}(h:D.nx σ H):B2 D σ H:=h
theorem good2{K:Frag}{C:Addr}{Hf H:Hp}{x y:AV}{v u:V}(s:aJ Hf H)(r1:Rl K C Hf x v)(r2:Rl K C Hf y u):Good K C (jL Hf H) Hf H [.fz x,.fz y] [some v,some u]:=by
 refine⟨s,nG,rfl,λi z e=>?_,λi z e=>?_,λi _ xs _ _ e=>?_⟩
 ·match i,e with
  |0,e=>cases e;exact⟨v,rfl,r1⟩
  |1,e=>cases e;exact⟨u,rfl,r2⟩
  |i+2,e=>exact nomatch e
 ·match i,e with
  |0,e=>exact nomatch e
  |1,e=>exact nomatch e
  |i+2,e=>exact nomatch e
 ·match i,e with
  |0,e=>exact nomatch e
  |1,e=>exact nomatch e
  |i+2,e=>exact nomatch e
theorem yC{K:Frag}{C:Addr}{oN H0 Hf H:Hp}{bE:Sa}{σ:L2.St}(s0:aJ oN H0)(s1:aJ oN Hf)(g:Good K C (jL oN H0) Hf H bE σ):Step oN H0 Hf H:=
 let⟨a,b⟩:=eF s0 s1 g.sub g.fo
 ⟨a,s1,g.sub,b⟩
section
variable {P:Program} {w:World} {K:Frag} {mg:Str->Option Value} {base:Heap} {C:Addr} {a:Ad} {Pt:Addr}
theorem MT{vs:List V}{H:Hp}{Q:VK}{E:XK}(h:Pq K C Pt vs H Q E):vs.length=2:=by
 obtain⟨Hf,as,r,_,_,_,rl,hm,_⟩:=h;obtain⟨x,y,rfl,_⟩:=iw hm;exact rl.length
theorem W3(F5:cq P w K mg base (f9 P w) true 43 "less" ["one","other"] (λ_=>Pg K C Pt a.c2 HS))(cn:cq P w K mg base (f9 P w) true 42 "multiplied_by" ["one","other"] (λ_=>Pg K C Pt a.c2 Pn)){f:Addr}{bH:Value}{A:Around}{outer:List Env}{s:Shared}{H:Hp}{vs:List V}{Q:VK}{E:XK}(hr:iA true 44 (A.deeper (envOfC "made" (ax u9) s.heap.objs.size f bH)))(h:Pq K C Pt vs H Q E):
 ∃t,vJ (LR (f9 P w) true P w K mg base ["word","given"] "made" (ax u9) f bH A outer s H E) (dc u9) t/\t {nx:=λ_ H'=>Q .dH H',rt:=Q} (start ["word","given"] vs) H:=by
 obtain⟨Hf,as,r,sf,hP,tb,rl,hm,q⟩:=h;obtain⟨wd,gv,rfl,h1⟩:=iw hm;obtain⟨v1,v2,rfl,r1,r2⟩:=rl.two;refine⟨_,(ag (bj (aG bI (pv 0) a_ (aN _)) (aq dQ) aO)
  (ag (bj (aG bI (pv 0) a_ (aN _)) (aq dQ) aO)
  (ag (bj (aG bI (pv 0) a_ (aN _)) (aq dQ) aO)
  (ag (bj (aG bI (pv 0) a_ (aN _)) (aq (aC (cj (E:=E) F5 (hr.mono (by decide)) aR.passes (aa (aD aZ (pv 1) ak (λ_ _=>rfl)) (aa (aD aZ (pv 1) ak (λ_ _=>rfl)) ah))))) aO)
  (ag (bj (aG bI (pv 0) a_ (aN _)) (aq (aC (cj (E:=E) cn (hr.mono (by decide)) aR.passes (aa (aD aZ (pv 1) ak (λ_ _=>rfl)) (aa (aD aZ (pv 1) ak (λ_ _=>rfl)) ah))))) aO)
  (ag dQ (ag dQ (ag dQ (ag dQ (aq dQ)))))))))),?_⟩;have g0:=good2 sf r1 r2;have xo:Ez (λ_ _ _ _=>True) r (jL Hf H) Hf:=λ_ _ _ _=>trivial;have Rj:gm K C (λ_ _ _ _=>True) MR _:=af (bM ae av) (af (bM ae av) ao);refine fM (qI ?_);refine(aQ (fk ae (bS (PySem.W.Fast.ofString_ofList ['l','e','t']))):kK K C (λ_ _ _ _=>True) (HV [108,101,116]) _) _ _ _ h1 _ Hf H _ g0 xo _ λb bc bO H1 h1 s1 g1=>?_;cases b with
 |true=>exact nomatch h1
 |false=>
 refine qD (z9 ?_)
 dsimp only
 refine fM (qI ?_);refine(aQ (fk ae (bS (PySem.W.Fast.ofString_ofList ['r','o','o','t']))):kK K C (λ_ _ _ _=>True) (HV [114,111,111,116]) _) _ _ _ (show HV [114,111,111,116] bc _=some r from h1) _ bO H1 _ g1 (xo.up s1) _ λb bQ cM H2 h2 s2 g2=>?_;cases b with
 |true=>exact nomatch h2
 |false=>
 refine qD (z9 ?_)
 dsimp only
 refine fM (qI ?_);refine(aQ (fk ae (bS (PySem.W.Fast.ofString_ofList ['s','u','m']))):kK K C (λ_ _ _ _=>True) (HV [115,117,109]) _) _ _ _ (show HV [115,117,109] bQ _=some r from h2) _ cM H2 _ g2 ((xo.up s1).up s2) _ λb sH jB H3 h3 s3 g3=>?_;cases b with
 |true=>exact nomatch h3
 |false=>
 refine qD (z9 ?_)
 dsimp only
 have J_:=aJ.trans' s1 (aJ.trans' s2 s3);refine fM (qI ?_);refine(aQ (fk ae (bS (PySem.W.Fast.ofString_ofList ['l','e','s','s']))):kK K C (λ_ _ _ _=>True) (HV [108,101,115,115]) _) _ _ _ (show HV [108,101,115,115] sH _=some r from h3) _ jB H3 _ g3 (xo.up J_) _ λb qh A2 H4 h4 s4 g4=>?_;have HM:=aJ.trans' J_ s4;cases b with
 |true=>
  refine mR ?_;refine oM (pk ?_);refine Rj _ _ _ (show MR qh _=some r from h4) _ A2 H4 _ g4 (xo.up HM) _ λxy zK ws uh H5 h5 s5 g5 SJ=>?_;obtain⟨x,y,rfl,h6⟩:=iw h5;obtain⟨z,hz,rfl⟩:=MQ h6;have st:=yC sf (aJ.trans' HM s5) g5;exact⟨uh,x,y,some z,g5.sub,st.nn Pt hP tb.ne,by rw[List.append_nil];exact SJ,tb.same st.hh,hz,λr er v bL H' sx D6 rl=>by cases er;exact q z rfl v bL H' ((iu.of st).trans sx) D6 rl,λe=>nomatch e⟩
 |false=>
 refine qD (z9 ?_)
 dsimp only
 refine fM (qI ?_);refine(aQ (fk ae (bS (PySem.W.Fast.ofString_ofList ['p','r','o','d','u','c','t']))):kK K C (λ_ _ _ _=>True) (HV [112,114,111,100,117,99,116]) _) _ _ _ (show HV [112,114,111,100,117,99,116] qh _=some r from h4) _ A2 H4 _ g4 (xo.up HM) _ λb zK uh H5 h5 s5 g5=>?_;have Kc:=aJ.trans' HM s5;cases b with
 |false=>exact nomatch h5
 |true=>
  refine mR ?_;refine oM (pk ?_);refine Rj _ _ _ (show MR zK _=some r from h5) _ uh H5 _ g5 (xo.up Kc) _ λxy D0 ws NG H6 h6 s6 g6 rl6=>?_;obtain⟨x,y,rfl,h7⟩:=iw h6;obtain⟨z,hz,rfl⟩:=MQ h7;have st:=yC sf (aJ.trans' Kc s6) g6;exact⟨NG,x,y,some z,g6.sub,st.nn Pt hP tb.ne,by rw[List.append_nil];exact rl6,tb.same st.hh,hz,λr er v bL H' sx D6 rl=>by cases er;exact q z rfl v bL H' ((iu.of st).trans sx) D6 rl,λe=>nomatch e⟩
end
end lX
namespace lX
open CV
def my:cZ ir:=(aK (aY 2 (aF bG 1 (ai (fK (ai (eC (.int 1)) (ai (eC (.int 1)) az))) az)))
 (aK (l_ (QN (ai (eC (.int 1)) (ai (gy Int.add (aj 1) (eC (.int 1))) az))) (gN 3)
 (aK (aY 2 (da ck 2 (ai (aj 2) (ai (aj 0) az))))
 (aK (aY 4 (aF bz 1 (ai (aj 2) az)))
 (fZ (eT (xB (aj 4))) (aK (aY 5 (bu Int.fdiv uf (aj 1) (aj 3)))
 (aK (aY 6 (aF bG 1 (ai (fK (ai (aF ia 2 (ai (bh (aj 4) (eC (.int 0))) (ai (aj 5) az))) (ai (aF ia 2 (ai (bh (aj 4) (eC (.int 1))) (ai (aj 5) az))) az))) az)))
 (du .ret (da ck 2 (ai (aj 6) (ai (da (λ_=>none) 2 (ai (aj 0) (ai (gy Int.sub (aj 1) (bu Int.mul eK (aj 5) (aj 3))) az))) az))))))
 fQ))))
 (du .ret (aj 2))))
def p9:vT:=oU 5 my
def oE:cZ ir:=(aK (aY 2 (aF bG 1 (ai (fK (ai (eC (.int 1)) (ai (eC (.int 1)) az))) az)))
 (aK (l_ (QN (ai (eC (.int 1)) (ai (gy Int.add (aj 1) (eC (.int 1))) az))) (gN 3)
 (aK (aY 2 (da ck 2 (ai (aj 2) (ai (aj 0) az))))
 (aK (aY 4 (aF bz 1 (ai (aj 2) az)))
 (fZ (eT (xB (aj 4))) (aK (aY 5 (bu Int.fdiv uf (aj 1) (aj 3)))
 (aK (aY 6 (aF bG 1 (ai (fK (ai (aF ia 2 (ai (bh (aj 4) (eC (.int 0))) (ai (aj 5) az))) (ai (aF ia 2 (ai (bh (aj 4) (eC (.int 1))) (ai (aj 5) az))) az))) az)))
 (du .ret (da ck 2 (ai (aj 6) (ai (da p9 2 (ai (aj 0) (ai (gy Int.sub (aj 1) (bu Int.mul eK (aj 5) (aj 3))) az))) az))))))
 fQ))))
 (du .ret (aj 2))))
def sA:vT:=oU 5 oE
def Bv:cZ ir:=(du .ret (da ck 2 (ai (aj 0) (ai (da nc 1 (ai (aj 1) az)) az))))
def F6:vT:=oU 0 Bv
def qy:cZ ir:=(aK (aY 2 (aF cY 1 (ai (aj 0) az)))
 (aK (fZ (eT (eV ltI (aj 2) (eC (.int 0)))) (nI 1)
 fQ)
 (aK (aY 3 (bu Int.mul eK (aF fT 1 (ai (aj 0) az)) (aj 1)))
 (aK (fZ (eT (eV BV (aj 3) (eC (.int 12)))) (nI 2)
 fQ)
 (aK (fZ (eT (eV nD (aj 2) (eC (.int 0)))) (du .ret (aF bG 1 (ai (fK (ai (eC (.int 0)) (ai (eC (.int 1)) az))) az)))
 fQ)
 (aK UQ
 (aK UQ
 UQ)))))))
def vA:vT:=oU 4 qy
def Bw:cZ ir:=(aK (fZ (eT (kn (aj 0) (eC (.str ⟨⟨[108,101,116]⟩⟩)))) (du .ret (aF bG 1 (ai (cW (aj 1) (eC (.int 0))) az)))
 fQ)
 (aK (fZ (eT (kn (aj 0) (eC (.str ⟨⟨[114,111,111,116]⟩⟩)))) (du .ret (da Mv 2 (ai (cW (aj 1) (eC (.int 1))) (ai (cW (aj 1) (eC (.int 0))) az))))
 fQ)
 (aK (fZ (eT (kn (aj 0) (eC (.str ⟨⟨[115,117,109]⟩⟩)))) (du .ret (da sv 2 (ai (cW (aj 1) (eC (.int 0))) (ai (cW (aj 1) (eC (.int 1))) az))))
 fQ)
 (aK (fZ (eT (kn (aj 0) (eC (.str ⟨⟨[108,101,115,115]⟩⟩)))) (du .ret (da F4 2 (ai (cW (aj 1) (eC (.int 0))) (ai (cW (aj 1) (eC (.int 1))) az))))
 fQ)
 (aK (fZ (eT (kn (aj 0) (eC (.str ⟨⟨[112,114,111,100,117,99,116]⟩⟩)))) (du .ret (da ck 2 (ai (cW (aj 1) (eC (.int 0))) (ai (cW (aj 1) (eC (.int 1))) az))))
 fQ)
 (aK (fZ (eT (kn (aj 0) (eC (.str ⟨⟨[111,118,101,114]⟩⟩)))) (du .ret (da F6 2 (ai (cW (aj 1) (eC (.int 0))) (ai (cW (aj 1) (eC (.int 1))) az))))
 fQ)
 (aK (fZ (eT (kn (aj 0) (eC (.str ⟨⟨[111,112,112,111,115,105,116,101]⟩⟩)))) (du .ret (aF jY 1 (ai (cW (aj 1) (eC (.int 0))) az)))
 fQ)
 (aK (fZ (eT (kn (aj 0) (eC (.str ⟨⟨[105,110,118,101,114,115,101]⟩⟩)))) (du .ret (da nc 1 (ai (cW (aj 1) (eC (.int 0))) az)))
 fQ)
 (aK (fZ (eT (kn (aj 0) (eC (.str ⟨⟨[112,111,119,101,114]⟩⟩)))) (du .ret (da sA 2 (ai (cW (aj 1) (eC (.int 0))) (ai (cW (aj 1) (eC (.int 1))) az))))
 fQ)
 (du .ret (da vA 2 (ai (cW (aj 1) (eC (.int 0))) (ai (cW (aj 1) (eC (.int 1))) az)))))))))))))
def yD:vT:=oU 0 Bw
end lX
namespace lX
open PySem PyProof.Rows L2 SF CV
section
variable {P:Program} {w:World} {K:PySem.W.Frag} {mg:Str->Option Value} {base:Heap} {C fI fB:Addr} {fd uk:FuncData} {a:Ad}
theorem By(T:Nm mg)(hT:P.given.tree=none)(lU:cq P w K mg base (f9 P w) true 42 "power_of" ["number","many"] (λ_=>dJ K C a.c (λ_=>none) 2))(cn:cq P w K mg base (f9 P w) true 42 "multiplied_by" ["one","other"] (λ_=>dJ K C a.c ck 2))(jy:bo P w K mg base 42 "power" ["number","many"] (aM K C ia 2))(cJ:bo P w K mg base 42 "of_ratio" ["given"] (aM K C bG 1))(cL:bo P w K mg base 42 "as_ratio" ["number"] (aM K C bz 1))(D:aU K mg "power_of" nS ["number","many"]):cq P w K mg base (f9 P w) true 43 "power_of" ["number","many"] (λ_=>dJ K C a.c p9 2):=by
 refine D.pD cz (λs vs H Q E h=>dv h) (λf bH A outer s H vs Q E iq hr h=>?_);refine⟨_,(ag (aw (i:=2) cz.nd rfl (Or.inl rfl) (aB cJ hr.calm (aa (bV (aa ak (aa ak ah))) ah)))
  (ag (eB PassesOwn.leaving rfl (jH rfl T.j_ (aa ak (aa (aH bF (pv 1) ak) ah))) (bp (i:=3) cz.nd rfl (Or.inl rfl))
  (ag (aw (i:=2) cz.nd rfl (Or.inl rfl) (cj (E:=E) cn hr aR.passes (aa (pv 2) (aa (pv 0) ah))))
  (ag (aw (i:=4) cz.nd rfl (Or.inl rfl) (aB cL hr.calm (aa (pv 2) ah)))
  (aq (bj (aG j5 (pv 4) gw (aN _))
  (ag (aw (i:=5) cz.nd rfl (Or.inl rfl) (aH (cV ⟨hT,⟨_,_,rfl,rfl,rfl,rfl,rfl⟩,hr.calm.py⟩) (pv 1) (pv 3)))
  (ag (aw (i:=6) cz.nd rfl (Or.inl rfl) (aB cJ hr.calm (aa (bV (aa (aB jy hr.calm (aa (aD aL (pv 4) ak (λ_ _=>rfl)) (aa (pv 5) ah))) (aa (aB jy hr.calm (aa (aD aL (pv 4) ak (λ_ _=>rfl)) (aa (pv 5) ah))) ah))) ah)))
  (aq (aC (cj (E:=E) cn hr aR.passes (aa (pv 6) (aa (cj (E:=E) lU hr aR.passes (aa (pv 0) (aa (aH dI (pv 1) (aH aT (pv 5) (pv 3))) ah))) ah)))))))
  aO)))))
  (aq (aC (pv 2))))),?_⟩;exact eL (s:=my) (n:=5) (au (aA (s_call (af (de (af av (af av ao))) ao)))
  (au (eY (xK (af av (af (cC ae av) ao))) lr
  (au (aA (cu (af ae (af ae ao))))
  (au (aA (s_call (af ae ao)))
  (br (aQ (uE ae)) (au (aA (i8 ae ae))
  (au (aA (s_call (af (de (af (s_call (af (aS ae av) (af ae ao))) (af (s_call (af (aS ae av) (af ae ao))) ao))) ao)))
  (bJ (cu (af ae (af (cu (af ae (af (fP ae (bq ae ae)) ao))) ao))))))
  bt))))
  (bJ ae))) rfl h
theorem DK(T:Nm mg)(hT:P.given.tree=none)(lU:cq P w K mg base (f9 P w) true 43 "power_of" ["number","many"] (λ_=>dJ K C a.c p9 2))(cn:cq P w K mg base (f9 P w) true 43 "multiplied_by" ["one","other"] (λ_=>dJ K C a.c ck 2))(jy:bo P w K mg base 43 "power" ["number","many"] (aM K C ia 2))(cJ:bo P w K mg base 43 "of_ratio" ["given"] (aM K C bG 1))(cL:bo P w K mg base 43 "as_ratio" ["number"] (aM K C bz 1))(D:aU K mg "power_of" nS ["number","many"]):cq P w K mg base (f9 P w) true 44 "power_of" ["number","many"] (λ_=>dJ K C a.c sA 2):=by
 refine D.pD cz (λs vs H Q E h=>dv h) (λf bH A outer s H vs Q E iq hr h=>?_);refine⟨_,(ag (aw (i:=2) cz.nd rfl (Or.inl rfl) (aB cJ hr.calm (aa (bV (aa ak (aa ak ah))) ah)))
  (ag (eB PassesOwn.leaving rfl (jH rfl T.j_ (aa ak (aa (aH bF (pv 1) ak) ah))) (bp (i:=3) cz.nd rfl (Or.inl rfl))
  (ag (aw (i:=2) cz.nd rfl (Or.inl rfl) (cj (E:=E) cn hr aR.passes (aa (pv 2) (aa (pv 0) ah))))
  (ag (aw (i:=4) cz.nd rfl (Or.inl rfl) (aB cL hr.calm (aa (pv 2) ah)))
  (aq (bj (aG j5 (pv 4) gw (aN _))
  (ag (aw (i:=5) cz.nd rfl (Or.inl rfl) (aH (cV ⟨hT,⟨_,_,rfl,rfl,rfl,rfl,rfl⟩,hr.calm.py⟩) (pv 1) (pv 3)))
  (ag (aw (i:=6) cz.nd rfl (Or.inl rfl) (aB cJ hr.calm (aa (bV (aa (aB jy hr.calm (aa (aD aL (pv 4) ak (λ_ _=>rfl)) (aa (pv 5) ah))) (aa (aB jy hr.calm (aa (aD aL (pv 4) ak (λ_ _=>rfl)) (aa (pv 5) ah))) ah))) ah)))
  (aq (aC (cj (E:=E) cn hr aR.passes (aa (pv 6) (aa (cj (E:=E) lU hr aR.passes (aa (pv 0) (aa (aH dI (pv 1) (aH aT (pv 5) (pv 3))) ah))) ah)))))))
  aO)))))
  (aq (aC (pv 2))))),?_⟩;exact eL (s:=oE) (n:=5) (au (aA (s_call (af (de (af av (af av ao))) ao)))
  (au (eY (xK (af av (af (cC ae av) ao))) lr
  (au (aA (cu (af ae (af ae ao))))
  (au (aA (s_call (af ae ao)))
  (br (aQ (uE ae)) (au (aA (i8 ae ae))
  (au (aA (s_call (af (de (af (s_call (af (aS ae av) (af ae ao))) (af (s_call (af (aS ae av) (af ae ao))) ao))) ao)))
  (bJ (cu (af ae (af (cu (af ae (af (fP ae (bq ae ae)) ao))) ao))))))
  bt))))
  (bJ ae))) rfl h
theorem Pr(vB:cq P w K mg base (f9 P w) true 42 "inverse" ["number"] (λ_=>dJ K C a.c nc 1))(cn:cq P w K mg base (f9 P w) true 42 "multiplied_by" ["one","other"] (λ_=>dJ K C a.c ck 2))(D:aU K mg "over" Fi ["one","other"]):cq P w K mg base (f9 P w) true 43 "over" ["one","other"] (λ_=>dJ K C a.c F6 2):=by
 refine D.pD O2 (λs vs H Q E h=>dv h) (λf bH A outer s H vs Q E iq hr h=>?_);refine⟨_,(aq (aC (cj (E:=E) cn hr aR.passes (aa (pv 0) (aa (cj (E:=E) vB hr aR.passes (aa (pv 1) ah)) ah))))),?_⟩;exact eL (s:=Bv) (n:=0) (bJ (cu (af ae (af (cu (af ae ao)) ao)))) rfl h
theorem F7(cT:∃uG,mg "GREATEST_WEIGHT"=some uG/\RelV (.int 12) uG)(cJ:bo P w K mg base 42 "of_ratio" ["given"] (aM K C bG 1))(fV:bo P w K mg base 42 "weight_of" ["number"] (aM K C fT 1))(fG:bo P w K mg base 42 "sign_of" ["number"] (aM K C cY 1))(CL:A_ K mg a)(D:aU K mg "root_of" uZ ["number","many"]):cq P w K mg base (f9 P w) true 43 "root_of" ["number","many"] (λ_=>dJ K C a.c vA 2):=by
 refine D.pD rM (λs vs H Q E h=>dv h) (λf bH A outer s H vs Q E iq hr h=>?_);obtain⟨uG,cT⟩:=cT;refine⟨_,(ag (aw (i:=2) rM.nd rfl (Or.inl rfl) (aB fG hr.calm (aa (pv 0) ah)))
  (ag (bj (aG i5 (pv 2) ak (aN _))
  (aq (iz (E:=E) aR rfl rfl (show mg "NoNumber"=some (.ref (a.c 1)) from CL.m1) (CL.cls 1) (aa a_ ah)))
  aO)
  (ag (aw (i:=3) rM.nd rfl (Or.inl rfl) (aH aT (aB fV hr.calm (aa (pv 0) ah)) (pv 1)))
  (ag (bj (aG jE (pv 3) (gZ rfl cT.1 cT.2) (aN _))
  (aq (iz (E:=E) aR rfl rfl (show mg "TooGreat"=some (.ref (a.c 2)) from CL.m2) (CL.cls 2) (aa a_ ah)))
  aO)
  (ag (bj (aG bI (pv 2) ak (aN _))
  (aq (aC (aB cJ hr.calm (aa (bV (aa ak (aa ak ah))) ah))))
  aO)
  (ag dQ
  (ag dQ
  (aq dQ)))))))),?_⟩;exact eL (s:=qy) (n:=4) (au (aA (s_call (af ae ao)))
  (au (br (aQ (nE ae av)) (km (by decide))
  bt)
  (au (aA (bq (s_call (af ae ao)) ae))
  (au (br (aQ (qE ae av)) (km (by decide))
  bt)
  (au (br (aQ (s_eq ae av)) (bJ (s_call (af (de (af av (af av ao))) ao)))
  bt)
  (au CN
  (au CN
  CN))))))) rfl h
theorem Pu{Pt:Addr}(Pw:cq P w K mg base (f9 P w) true 43 "less" ["one","other"] (λ_=>Pg K C Pt a.c2 HS))(TM:cq P w K mg base (f9 P w) true 42 "multiplied_by" ["one","other"] (λ_=>Pg K C Pt a.c2 Pn))(JE:cq P w K mg base (f9 P w) true 44 "root_of" ["number","many"] (λ_=>dJ K C a.c vA 2))(lU:cq P w K mg base (f9 P w) true 44 "power_of" ["number","many"] (λ_=>dJ K C a.c sA 2))(vB:cq P w K mg base (f9 P w) true 44 "inverse" ["number"] (λ_=>dJ K C a.c nc 1))(su:bo P w K mg base 44 "opposite" ["number"] (aM K C jY 1))(TN:cq P w K mg base (f9 P w) true 44 "over" ["one","other"] (λ_=>dJ K C a.c F6 2))(cn:cq P w K mg base (f9 P w) true 44 "multiplied_by" ["one","other"] (λ_=>dJ K C a.c ck 2))(F5:cq P w K mg base (f9 P w) true 44 "less" ["one","other"] (λ_=>dJ K C a.c F4 2))(sr:cq P w K mg base (f9 P w) true 44 "added_to" ["one","other"] (λ_=>dJ K C a.c sv 2))(W4:cq P w K mg base (f9 P w) true 44 "nth" ["poly","k"] (λ_=>dJ K C a.c Mv 2))(cJ:bo P w K mg base 44 "of_ratio" ["given"] (aM K C bG 1))(D:aU K mg "made" u9 ["word","given"]):cq P w K mg base (f9 P w) true 45 "made" ["word","given"] (λ_=>W2 (dJ K C a.c yD 2) (Pq K C Pt)):=by
 refine D.pD O3 (λs vs H Q E h=>h.elim dv MT) (λf bH A outer s H vs Q E iq hr h=>?_);rcases h with h|h
 rotate_left
 ·exact W3 Pw TM hr h
 refine⟨_,(ag (bj (aG bI (pv 0) a_ (aN _))
  (aq (aC (aB cJ hr.calm (aa (aD aZ (pv 1) ak (λ_ _=>rfl)) ah))))
  aO)
  (ag (bj (aG bI (pv 0) a_ (aN _))
  (aq (aC (cj (E:=E) W4 hr aR.passes (aa (aD aZ (pv 1) ak (λ_ _=>rfl)) (aa (aD aZ (pv 1) ak (λ_ _=>rfl)) ah)))))
  aO)
  (ag (bj (aG bI (pv 0) a_ (aN _))
  (aq (aC (cj (E:=E) sr hr aR.passes (aa (aD aZ (pv 1) ak (λ_ _=>rfl)) (aa (aD aZ (pv 1) ak (λ_ _=>rfl)) ah)))))
  aO)
  (ag (bj (aG bI (pv 0) a_ (aN _))
  (aq (aC (cj (E:=E) F5 hr aR.passes (aa (aD aZ (pv 1) ak (λ_ _=>rfl)) (aa (aD aZ (pv 1) ak (λ_ _=>rfl)) ah)))))
  aO)
  (ag (bj (aG bI (pv 0) a_ (aN _))
  (aq (aC (cj (E:=E) cn hr aR.passes (aa (aD aZ (pv 1) ak (λ_ _=>rfl)) (aa (aD aZ (pv 1) ak (λ_ _=>rfl)) ah)))))
  aO)
  (ag (bj (aG bI (pv 0) a_ (aN _))
  (aq (aC (cj (E:=E) TN hr aR.passes (aa (aD aZ (pv 1) ak (λ_ _=>rfl)) (aa (aD aZ (pv 1) ak (λ_ _=>rfl)) ah)))))
  aO)
  (ag (bj (aG bI (pv 0) a_ (aN _))
  (aq (aC (aB su hr.calm (aa (aD aZ (pv 1) ak (λ_ _=>rfl)) ah))))
  aO)
  (ag (bj (aG bI (pv 0) a_ (aN _))
  (aq (aC (cj (E:=E) vB hr aR.passes (aa (aD aZ (pv 1) ak (λ_ _=>rfl)) ah))))
  aO)
  (ag (bj (aG bI (pv 0) a_ (aN _))
  (aq (aC (cj (E:=E) lU hr aR.passes (aa (aD aZ (pv 1) ak (λ_ _=>rfl)) (aa (aD aZ (pv 1) ak (λ_ _=>rfl)) ah)))))
  aO)
  (aq (aC (cj (E:=E) JE hr aR.passes (aa (aD aZ (pv 1) ak (λ_ _=>rfl)) (aa (aD aZ (pv 1) ak (λ_ _=>rfl)) ah)))))))))))))),?_⟩;exact eL (s:=Bw) (n:=0) (au (br (aQ (fk ae (bS (bC _)))) (bJ (s_call (af (bM ae av) ao)))
  bt)
  (au (br (aQ (fk ae (bS (bC _)))) (bJ (cu (af (bM ae av) (af (bM ae av) ao))))
  bt)
  (au (br (aQ (fk ae (bS (bC _)))) (bJ (cu (af (bM ae av) (af (bM ae av) ao))))
  bt)
  (au (br (aQ (fk ae (bS (bC _)))) (bJ (cu (af (bM ae av) (af (bM ae av) ao))))
  bt)
  (au (br (aQ (fk ae (bS (bC _)))) (bJ (cu (af (bM ae av) (af (bM ae av) ao))))
  bt)
  (au (br (aQ (fk ae (bS (bC _)))) (bJ (cu (af (bM ae av) (af (bM ae av) ao))))
  bt)
  (au (br (aQ (fk ae (bS (bC _)))) (bJ (s_call (af (bM ae av) ao)))
  bt)
  (au (br (aQ (fk ae (bS (bC _)))) (bJ (cu (af (bM ae av) ao)))
  bt)
  (au (br (aQ (fk ae (bS (bC _)))) (bJ (cu (af (bM ae av) (af (bM ae av) ao))))
  bt)
  (bJ (cu (af (bM ae av) (af (bM ae av) ao))))))))))))) rfl h
end
end lX
namespace lX
open PySem PyProof.Rows L2 SF CV PySem.W
abbrev Px:Stmt:=inClass (top 123) 0
abbrev MU:Stmt:=inClass (top 123) 1
abbrev Py:Stmt:=inClass (top 123) 2
abbrev MV:Stmt:=inClass (top 123) 3
abbrev Pz:Stmt:=inClass (top 123) 4
theorem W5:aI ["self"] ["self"] (ax Px):=⟨rfl,rfl,rfl,by decide +kernel,rfl,by decide +kernel,by decide +kernel⟩
theorem W6:aI ["self","letter"] ["self","letter"] (ax MU):=⟨rfl,rfl,rfl,by decide +kernel,rfl,by decide +kernel,by decide +kernel⟩
theorem W7:aI ["self","kind","word"] ["self","kind","word"] (ax Py):=⟨rfl,rfl,rfl,by decide +kernel,rfl,by decide +kernel,by decide +kernel⟩
theorem DL:aI ["self","row","words","word","form","values"] ["self","row"] (ax MV):=⟨rfl,rfl,rfl,by decide +kernel,rfl,by decide +kernel,by decide +kernel⟩
theorem Rk:aI ["self","row","refusal"] ["self","row"] (ax Pz):=⟨rfl,rfl,rfl,by decide +kernel,rfl,by decide +kernel,by decide +kernel⟩
structure MW(K:Frag)(mg:Str->Option Value)(D:Addr)(f:Nat->Addr)(fd:Nat->FuncData):Prop where
 m:mg "Desk"=some (.ref D)
 Rh:Mk K D (f 0)
 cl:B9 K D
 n:jI K D "numbers"
 f0:ue K "__init__" "Desk.__init__" Px (f 0) (fd 0)
 f1:ue K "number_under" "Desk.number_under" MU (f 1) (fd 1)
 f2:ue K "value_of" "Desk.value_of" Py (f 2) (fd 2)
 f3:ue K "done" "Desk.done" MV (f 3) (fd 3)
 f4:ue K "answer" "Desk.answer" Pz (f 4) (fd 4)
 b0:Binds K (fd 0) ["self"] []
 b1:Binds K (fd 1) ["self","letter"] []
 b2:Binds K (fd 2) ["self","kind","word"] []
 b3:Binds K (fd 3) ["self","row"] []
 b4:Binds K (fd 4) ["self","row"] []
 e1:Meth K D "number_under" (f 1)
 e2:Meth K D "value_of" (f 2)
 e3:Meth K D "done" (f 3)
 e4:Meth K D "answer" (f 4)
inductive yE(K:Frag)(C:Addr)(H:Hp):Tab->List (Key×V)->Prop
 |nil:yE K C H [] []
 |cons {k:Str} {x:AV} {v:V} {tb:Tab} {bw:List (Key×V)} (r:Rl K C H x v) (t:yE K C H tb bw):yE K C H ((k,x)::tb) ((.inr k,v)::bw)
section
variable {K:Frag} {C:Addr} {H H':Hp} {tb:Tab} {bw:List (Key×V)}
theorem yE.mono(h:yE K C H tb bw)(s:aJ H H'):yE K C H' tb bw:=by
 induction h with
 |nil=>exact .nil
 |cons r _ ih=>exact .cons (r.mono s) ih
theorem yE.len(h:yE K C H tb bw):bw.length=tb.length:=by
 induction h with
 |nil=>rfl
 |cons r _ ih=>rw[List.length_cons,List.length_cons,ih]
theorem MX{k z:Str}(h:(Sum.inr k:Key)=Sum.inr z):k=z:=by cases h;rfl
theorem yE.look(h:yE K C H tb bw)(z:Str):(kH tb z=none/\qX bw (.inr z:Key)=none)\/∃x v,kH tb z=some x/\qX bw (.inr z:Key)=some v/\Rl K C H x v:=by
 induction h with
 |nil=>exact .inl ⟨rfl,rfl⟩
 |@cons k x v tb bw r t ih=>
  rw[x6];by_cases e:k=z
  ·exact .inr ⟨x,v,if_pos e,sX (p:=((.inr k:Key),v)) (by rw[e]),r⟩
  ·rw[if_neg e,sY (p:=((.inr k:Key),v)) (λq=>e (MX q))];exact ih
def Bz(tb:Tab)(k:Str)(x:AV):Tab:=Option.rec (tb++[(k,x)]) (λ_=>tb.map λp=>if p.1=k then(p.1,x) else p) (kH tb k)
theorem yE.map(h:yE K C H tb bw){k:Str}{x:AV}{v:V}(r:Rl K C H x v):yE K C H (tb.map λp=>if p.1=k then(p.1,x) else p) (bw.map λkv=>if kv.1=(.inr k:Key) then(kv.1,v) else kv):=by
 induction h with
 |nil=>exact .nil
 |@cons k' x' v' tb bw r' t ih=>
  rw[List.map_cons,List.map_cons];by_cases e:k'=k
  ·rw[if_pos e,if_pos (by rw[e])];exact .cons r ih
  ·rw[if_neg e,if_neg (λq=>e (MX q))];exact .cons r' ih
theorem yE.snoc(h:yE K C H tb bw){k:Str}{x:AV}{v:V}(r:Rl K C H x v):yE K C H (tb++[(k,x)]) (bw++[(.inr k,v)]):=by
 induction h with
 |nil=>exact .cons r .nil
 |cons r' _ ih=>exact .cons r' ih
theorem yE.put(h:yE K C H tb bw){k:Str}{x:AV}{v:V}(r:Rl K C H x v):yE K C H (Bz tb k x) (putK bw (.inr k) v):=by
 rcases h.look k with⟨a,b⟩|⟨x',v',a,b,_⟩
 ·rw[Ly v b];unfold Bz;rw[a];exact h.snoc r
 ·unfold Bz putK;rw[a,sZ,b];exact h.map r
end
structure nu(K:Frag)(C D:Addr)(Hf H:Hp)(me d:Addr)(L:Tab):Prop where
 ex:∃dx bw,H me=some (.ins D dx [("numbers",.ref d)])/\H d=some (.dK bw)/\yE K C Hf L bw
 nf:Hf d=none
theorem nu.step{K:Frag}{C D:Addr}{Hf H bL H':Hp}{self d:Addr}{L:Tab}(k:nu K C D Hf H self d L)(s:Step Hf H bL H'):nu K C D bL H' self d L:=by
 obtain⟨dx,bw,a,b,c⟩:=k.ex;exact⟨⟨dx,bw,s.hh _ _ a,s.hh _ _ b,c.mono s.ff⟩,s.nn d k.nf (by rw[b];nofun)⟩
section
variable {K:Frag} {C:Addr} {Fo Hf H:Hp} {bE:Sa} {σ:L2.St}
theorem tY(s:aJ Hf H):Good K C (jL Hf H) Hf H [] []:=by
 refine⟨s,nG,rfl,λi x e=>?_,λi x e=>?_,λi _ xs _ _ e=>?_⟩<;>exact nomatch e
theorem gh(g:Good K C Fo Hf H bE σ)(o:Option V):Good K C Fo Hf H (.no::bE) (o::σ):=by
 refine⟨g.sub,g.fo,by rw[List.length_cons,List.length_cons,g.len],λi x e=>?_,λi xs e=>?_,λi j xs ys a e1 e2 e3 e4=>?_⟩
 ·cases i with
  |zero=>exact nomatch e
  |succ i=>exact g.fz i x e
 ·cases i with
  |zero=>exact nomatch e
  |succ i=>exact g.op i xs e
 ·cases i with
  |zero=>exact nomatch e1
  |succ i=>
   cases j with
   |zero=>exact nomatch e2
   |succ j=>exact congrArg (·+1) (g.inj i j xs ys a e1 e2 e3 e4)
theorem tZ{x:AV}{v:V}(g:Good K C Fo Hf H bE σ)(r:Rl K C Hf x v):Good K C Fo Hf H (.fz x::bE) (some v::σ):=by
 refine⟨g.sub,g.fo,by rw[List.length_cons,List.length_cons,g.len],λi x e=>?_,λi xs e=>?_,λi j xs ys a e1 e2 e3 e4=>?_⟩
 ·cases i with
  |zero=>cases e;exact⟨v,rfl,r⟩
  |succ i=>exact g.fz i x e
 ·cases i with
  |zero=>exact nomatch e
  |succ i=>exact g.op i xs e
 ·cases i with
  |zero=>exact nomatch e1
  |succ i=>
   cases j with
   |zero=>exact nomatch e2
   |succ j=>exact congrArg (·+1) (g.inj i j xs ys a e1 e2 e3 e4)
theorem ip{oN H0:Hp}(s0:aJ oN H0)(s1:aJ oN Hf)(g:Good K C (jL oN H0) Hf H bE σ):Step oN H0 Hf H:=
 let⟨a,b⟩:=eF s0 s1 g.sub g.fo
 ⟨a,s1,g.sub,b⟩
theorem PB{oN H0:Hp}(s0:aJ oN H0)(s1:aJ oN Hf)(g:Oe (jL oN H0) Hf H):Step oN H0 Hf H:=
 let⟨a,b⟩:=eF s0 s1 g.1 g.2
 ⟨a,s1,g.1,b⟩
theorem HW{cl:Nat->Addr}{E:XK}{r:ir}{oN H0:Hp}(s0:aJ oN H0)(q:∀c i,r=.exc c i->oS cl E H0 c i):Ez (XA cl E) r (jL oN H0) oN:=λbL H' s1 f1=>by
 cases r with
 |ret x=>exact trivial
 |exc c i=>exact(q c i rfl).mono (eF s0 s1 f1.1 f1.2).1
end
section
variable {P:Program} {w:World} {K:Frag} {mg:Str->Option Value} {base:Heap} {C D:Addr} {f:Nat->Addr} {fd:Nat->FuncData} {a:Ad}
def Rm(K:Frag)(C D:Addr)(a:Ad):Sp:=λvs H Q E=>∃Hf self d L z,vs=[.ref self,.str z]/\aJ Hf H/\nu K C D Hf H self d L/\
 (∀x,kH L z=some x->∀v,Rl K C Hf x v->Q v H)/\(kH L z=none->oS a.c E H 1 0)
theorem TQ(CL:A_ K mg a)(DC:MW K mg D f fd):dU P w K mg base (f9 P w) 44 (f 1) (fd 1) ["self","letter"] (Rm K C D a):=by
 refine D5.ok (cm:=true) (DC.f1.pD (k:=43) W6 (λs vs H Q E h=>?_) (λbH A outer s H vs Q E iq TB hr h=>?_)) (λvs H Q E h=>?_)
 any_goals
  obtain⟨Hf,self,d,L,z,rfl,_⟩:=h;rfl
 obtain⟨Hf,self,d,L,z,rfl,sf,dk,q,qx⟩:=h;obtain⟨dx,bw,h1,h2,h3⟩:=dk.ex;have hu:(A.deeper (envOfC "Desk.number_under" (ax MU) s.heap.objs.size (f 1) bH)).units+1<cLine:=by have:=hr.un;lia
 refine⟨_,(ag (bj (Ab (Ja hu (pv 1) (bX (pv 0) rfl)) rfl)
  (aq (iz (E:=E) aR rfl rfl (show mg "NoNumber"=some (.ref (a.c 1)) from CL.m1) (CL.cls 1) (aa a_ ah))) aO)
  (aq (aC (OE hu (bX (pv 0) rfl) (pv 1) (λ_ _=>rfl))))),?_⟩;walk_at "sf";unfold Hj;walk_at "sf";have W8:∀(R:VK),R (.ref d) H->yV K (eA 0) "numbers" (L2.start ["self","letter"] [V.ref self,V.str z]) H R:=λR r=>⟨_,rfl,self,D,dx,_,_,rfl,h1,DC.cl,DC.n,rfl,r⟩;refine W8 _ ⟨d,qX bw (.inr z:Key),rfl,AR.k (k:=(.inr z:Key)) h2,_,rfl,?_⟩;rcases h3.look z with⟨e1,e2⟩|⟨x,v,e1,e2,rl⟩
 ·rw[e2];refine mR ?_;refine⟨show 1<=1000 by decide,λx tp y1 y2 y3=>?_⟩;have wi:oS a.c E H 1 0:=qx e1;unfold oS at wi;rw[if_neg (by decide)] at wi;exact wi _ ((aJ.new y2 _).trans (aJ.new (by rw[ay y3];exact y1) _))
 ·rw[e2];refine qD ?_;walk_at "sf";refine W8 _ ?_;refine⟨_,rfl,d,v,rfl,?_,?_⟩
  ·rw[<-e2];exact AR.k (k:=(.inr z:Key)) h2
  ·exact q x e1 v rl
def Rn:Str:=⟨⟨[104,101,108,100]⟩⟩
def HX:cZ ir:=aK (fZ (eT (kn (aj 1) (eC (.str ⟨⟨[114,97,116,105,111]⟩⟩)))) (du .ret (da ou 1 (ai (aj 2) az))) fQ)
 (aK (fZ (eT (kn (aj 1) (eC (.str ⟨⟨[112,111,108,121]⟩⟩)))) (du .ret (da gW 1 (ai (aj 2) az))) fQ)
 (du .ret (ug (eT (S' jR (aj 1))) (L8 (ai (aj 2) az)) (aj 2))))
def TR(L:Tab)(kind word:Str):Option ir:=eT (kn (aj 1) (eC (.str Rn))) [.no,.fz (.str kind),.fz (.str word)] λb bc=>eX b (Option.rec (some (.exc 1 0)) (λx=>some (.ret x)) (kH L word)) (HX bc λ_=>some (.ret .dH))
def HY(K:Frag)(C D:Addr)(a:Ad):Sp:=λvs H Q E=>∃Hf self d L kind word r,vs=[.ref self,.str kind,.str word]/\aJ Hf H/\nu K C D Hf H self d L/\TR L kind word=some r/\
 (∀x,r=.ret x->∀v bL H',Step Hf H bL H'->Rl K C bL x v->Q v H')/\(∀c i,r=.exc c i->oS a.c E H c i)
theorem TU(T:Nm mg)(DC:MW K mg D f fd)(k_:Ta P w K mg C "COUNTS" jR)(g_num:dU P w K mg base (f9 P w) 44 (f 1) (fd 1) ["self","letter"] (Rm K C D a))(BA:cq P w K mg base (f9 P w) true 44 "read_ratio" ["text"] (λ_=>dJ K C a.c ou 1))(p_:cq P w K mg base (f9 P w) true 44 "read_unless_nought" ["text"] (λ_=>dJ K C a.c gW 1)):
 dU P w K mg base (f9 P w) 45 (f 2) (fd 2) ["self","kind","word"] (HY K C D a):=by
 refine D5.ok (cm:=true) (DC.f2.pD (k:=44) W7 (λs vs H Q E h=>?_) (λbH A outer s H vs Q E iq TB hr h=>?_)) (λvs H Q E h=>?_)
 any_goals
  obtain⟨Hf,self,d,L,kind,word,r,rfl,_⟩:=h;rfl
 obtain⟨Hf,self,d,L,kind,word,r,rfl,sf,dk,hv,q,qx⟩:=h;obtain⟨MG,JA,nj,nk,nq⟩:=k_;refine⟨_,(ag (bj (aG bI (pv 1) a_ (aN _)) (aq (aC (wH (dvs:=[]) (E:=E) (pv 0) DC.cl DC.e1 g_num hr.calm DC.b1 .nil aR.passes (aa (pv 2) ah)))) aO)
  (ag (bj (aG bI (pv 1) a_ (aN _)) (aq (aC (cj (E:=E) BA hr aR.passes (aa (pv 2) ah)))) aO)
  (ag (bj (aG bI (pv 1) a_ (aN _)) (aq (aC (cj (E:=E) p_ hr aR.passes (aa (pv 2) ah)))) aO)
  (aq (aC (bW (Ab (LB nk rfl nj (pv 1)) rfl) (fw sV rfl T.Rg boot_int (aa (pv 2) ah)) (pv 2))))))),?_⟩;have g0:Good K C (jL Hf H) Hf H [.no,.fz (.str kind),.fz (.str word)] (L2.start ["self","kind","word"] [V.ref self,V.str kind,V.str word]):=gh (tZ (tZ (tY sf) .str) .str) _;have xo:Ez (XA a.c E) r (jL Hf H) Hf:=HW sf qx;have rest:kL K C (XA a.c E) ir.ret HX _:=(au (br (aQ (fk ae (bS (PySem.W.Fast.ofString_ofList ['r','a','t','i','o'])))) (bJ (cu (af ae ao))) bt)
  (au (br (aQ (fk ae (bS (PySem.W.Fast.ofString_ofList ['p','o','l','y'])))) (bJ (cu (af ae ao))) bt)
  (bJ (jK (xE (Rb nq ae)) (Ma (af ae ao)) ae))));refine fM ?_;refine qI ?_;refine(aQ (fk ae (bS (PySem.W.Fast.ofString_ofList ['h','e','l','d']))):kK K C (XA a.c E) (eT (kn (aj 1) (eC (.str Rn)))) _) _ _ _ hv _ Hf H _ g0 xo _ λb bc bO H1 h1 s1 g1=>?_;have st:=ip sf s1 g1;cases b with
 |true=>
  have h2:(Option.rec (some (.exc 1 0)) (λx=>some (.ret x)) (kH L word):Option ir)=some r:=h1;refine mR ?_;have dk1:=dk.step st;obtain⟨dx,bw,e1,e2,e3⟩:=dk1.ex;refine⟨_,rfl,self,dx,_,rfl,e1,rfl,_,rfl,?_⟩;refine⟨bO,self,d,L,word,rfl,g1.sub,dk1,λx ex v rl=>?_,λex=>?_⟩
  ·rw[ex] at h2;exact q x (Option.some.inj h2).symm v bO H1 st rl
  ·rw[ex] at h2;exact(qx 1 0 (Option.some.inj h2).symm).mono st.hh
 |false=>
  refine qD ?_;refine rest bc _ r h1 _ bO H1 _ g1 (xo.up s1) _ (λfY cH bL H' e s2 g2=>?_) λx v bL H' ex s2 f2 rl=>?_
  ·exact q .dH (Option.some.inj e).symm _ bL H' (ip sf (aJ.trans' s1 s2) g2) .dH
  ·exact q x ex v bL H' (PB sf (aJ.trans' s1 s2) f2) rl
end
def d1:Ev ir:=da sh 1 (ai (aj 1) az)
def d2:Ev ir:=cW (aj 2) (eC (.int 0))
def d3:Ev ir:=C7 m7 (aj 3)
def d4:eE ir:=Tb (ai (aj 4) (ai (ky (QJ (aj 2) (GZ (eC (.int 1))) Nz)) az))
def d5:xx ir:=eT (L5 (bh (aj 4) (eC (.int 0))) (eC (.str ⟨⟨[110,101,119]⟩⟩)))
def d6:Ev ir:=aF Fu 2 (ai (aj 3) (ai (aj 5) az))
def d7:eE ir:=ai (aj 3) (ai (ky (QJ (aj 5) (GZ (eC (.int 1))) Nz)) az)
def d8:Ev ir:=cW (aj 5) (eC (.int 0))
def HZ(L:Tab)(xs:List AV):(List AV->Option ir)->Option ir:=List.rec (motive:=λ_=>(List AV->Option ir)->Option ir) (λk=>k []) (λx _ ih k=>OX x λys=>two ys λu v=>pF u λkd=>pF v λwd=>Option.rec none (λr=>ir.rec (λy=>ih λvs=>k (y::vs)) (λc i=>some (.exc c i)) r) (TR L kd wd)) xs
def H_(as:List AV):Option ir:=Option.rec (MS as) (λr=>some r) (yD as)
def doneF(L:Tab)(row:Str):Option ir:=
 d1 [.no,.fz (.str row),.no,.no,.no,.no] λx bc=>mT bc 2 (.fz x) λbQ=>d2 bQ λy sH=>mT sH 3 (.fz y) λqh=>d3 qh λz zK=>mT zK 4 (.fz z) λD0=>d4 D0 λxs yQ=>eX (Nat.ble (qF xs) 900) (HZ L xs λvals=>mT yQ 5 (.fz (.lst vals)) λEs=>d5 Es λb ZV=>
  eX b (d6 ZV λx _=>pF x λt=>some (.ret (.str t))) (d7 ZV λas MY=>eX (uH MY) (eX (Nat.beq (qF as) 2) (Option.rec none (λr=>ir.rec (λx=>d8 MY λk _=>pF k λt=>some (.ret (.tup [.str t,x]))) (λc i=>some (.exc c i)) r) (H_ as)) none) none)) none
theorem MZ{as:List AV}{r:ir}(h:H_ as=some r):yD as=some r\/MS as=some r:=by
 unfold H_ at h;cases e:yD as with
 |none=>rw[e] at h;exact .inr h
 |some x=>rw[e] at h;exact .inl h
structure Ro(Pt d:Addr)(Hf H bL H':Hp):Prop where
 hh:∀b o,b≠Pt->b≠d->H b=some o->H' b=some o
 ff:aJ Hf bL
 fh:aJ bL H'
 nn:∀b,Hf b=none->H b≠none->bL b=none
def M0(K:Frag)(C D Pt:Addr)(a:Ad):Sp:=λvs H Q E=>∃Hf self d L row r,vs=[.ref self,.str row]/\aJ Hf H/\Hf Pt=none/\qH Pt jC H/\nu K C D Hf H self d L/\L.length<900/\doneF L row=some r/\
 (∀t,r=.ret (.str t)->∀bL H',Step Hf H bL H'->Q (.str t) H')/\(∀k x,r=.ret (.tup [.str k,x])->∀bL H',Ro Pt d Hf H bL H'->qH Pt jC H'->nu K C D bL H' self d (Bz L k x)->Q (.str "ok") H')/\(∀c i,r=.exc c i->oS a.c E H c i)
section
variable {P:Program} {w:World} {K:Frag} {mg:Str->Option Value} {base:Heap} {C D Pt:Addr} {f:Nat->Addr} {fd:Nat->FuncData} {a:Ad}
theorem qH.put{q:Str}{H:Hp}{d:Addr}{bw:List (Key×V)}{o:HO}(t:qH Pt q H)(e:H d=some (.dK bw)):qH Pt q (upd H d o):=by
 obtain⟨ps,x,y,z⟩:=t.ex;refine⟨ps,by rw[ay (λq=>by rw[q,e] at x;cases x)];exact x,y,λpos v h=>?_⟩;obtain⟨c',oc,e1,e2,e3⟩:=z pos v h;exact⟨c',oc,e1,by rw[ay (λq=>by rw[q,e] at e2;cases e2)];exact e2,e3⟩
theorem JF{E:XK}{L:Tab}{xs:List AV}{bE:Sa}{σ:L2.St}{Fo Hf H:Hp}{J:It}{self d:Addr}{r:ir}{kk:List AV->Option ir}{Q:VK}(g1:Good K C Fo Hf H bE σ)(wk:Wk K C J Hf xs)(hl:xs.length<=900)(dk:nu K C D Hf H self d L)(DM:σ[0]?=some (some (.ref self)))(hv:HZ L xs kk=some r)(qx:∀c i,r=.exc c i->∀H',aJ H H'->oS a.c E H' c i)(q:∀vals Dl vs bL H',kk vals=some r->aJ Hf bL->Good K C Fo bL H' bE σ->K1 K C Fo bL H' bE σ Dl vals vs->Step Hf H bL H'->Q (.ref Dl) H'):
 ∀Dl,H Dl=none->∃W:Nat->Nat->L2.St->Hp->Prop,(∃m,W 0 m (i6 ["kind","given"] [0] σ) (upd H Dl (.lst [])))/\∀i m bQ H2,W i m bQ H2->
  (J.stop i H2/\Q (.ref Dl) H2)\/(J.go i H2/\∀x H3,J.Kj i H2 x H3->Ag K 2 (ma (fj 0) (ma (fj 1) B4)) x bQ H3 λqh H4=>GN D "value_of" (HY K C D a) [] E (eA 2) (dm (eA 0) (dm (eA 1) iY)) qh H4 λy H5=>∃ys,H5 Dl=some (.lst ys)/\ys.length<sizeLine/\∃m',m'<m/\W (i+1) m' qh (upd H5 Dl (.lst (ys++[y])))):=by
 intro Dl hD;obtain⟨d1,d2⟩:=g1.nil hD;have d3:=g1.sO hD;have UY:∀{b:Addr}{o:HO},H b=some o->b≠Dl:=λe=>aW e hD;refine⟨λi m bQ H2=>∃cM pre vQ o1 o2,m=xs.length-i/\i<=xs.length/\aJ Hf cM/\Good K C Fo cM H2 bE σ/\cM Dl=none/\H2 Dl=some (.lst vQ)/\d9 K C cM pre vQ/\pre.length=i/\Step Hf H cM H2/\bQ=[o1,o2,some (.ref self)]/\HZ L (xs.drop i) (λys=>kk (pre++ys))=some r,
  ⟨_,Hf,[],[],none,none,rfl,Nat.zero_le _,aJ.fO _,g1.side d1 d2 d3 _,d1,aE,.nil,rfl,⟨aJ.new hD _,aJ.fO _,λb o e=>by rw[ay (aW (g1.sub _ _ e) hD)];exact g1.sub _ _ e,λb h _=>h⟩,?_,hv⟩,?_⟩
 ·unfold i6;show[none,none,(σ[0]?).join]=_;rw[DM];rfl
 ·rintro i m bQ H2 ⟨cM,pre,vQ,o1,o2,rfl,Zo,J',g2,d4,d5,rl,pe,wG,rfl,h3⟩;obtain⟨w1,w2⟩:=wk cM H2 J' g2.sub;by_cases nz:i<xs.length
  ·obtain⟨go,yl⟩:=w1 i xs[i] (List.getElem?_eq_getElem nz);rw[List.drop_eq_getElem_cons nz] at h3;refine .inr ⟨go,λx H3 y=>?_⟩;have key:∃jB,aJ cM jB/\Good K C Fo jB H3 bE σ/\Rl K C jB xs[i] x/\jB Dl=none/\H3 Dl=some (.lst vQ)/\Step cM H2 jB H3:=by
    rcases yl x H3 y with⟨rfl,rl⟩|⟨p',ys,vs,e1,e2,e3,e4,e5⟩
    ·exact⟨cM,aJ.fO _,g2,rl,d4,d5,Step.refl g2.sub⟩
    ·subst e2 e3;rw[e4];have sm:aJ cM (upd cM p' (.tup vs)):=aJ.new (g2.nil e1).1 _;have ne:Dl≠p':=aW d5 e1;exact⟨_,sm,g2.new e1 _,.tup (.inl (.inl aE)) (e5.mono sm),by rw[ay ne];exact d4,by rw[ay ne];exact d5,Step.new g2.sub e1 _⟩
   obtain⟨jB,Ka,g3,UU,d6,d7,B6⟩:=key;obtain⟨ys,hys,h4⟩:=HG (show OX xs[i] _=some r from h3);rw[hys] at UU;obtain⟨u,v,rfl,h5⟩:=iw h4;obtain⟨kd,rfl,h6⟩:=cy h5;obtain⟨wd,rfl,h7⟩:=cy h6;obtain⟨p,vs,rfl,t1,t2⟩:=UU.Cm;obtain⟨v1,v2,rfl,t3,t4⟩:=t2.two;cases t3;cases t4;refine⟨p,_,rfl,aJ.tup g3.sub t1,rfl,_,_,rfl,_,_,rfl,rfl,?_⟩;have TV:=wG.trans B6;have dk3:=dk.step TV;obtain⟨dx,bw,e1,e2,e3⟩:=dk3.ex;refine⟨_,rfl,self,dx,_,rfl,e1,rfl,_,rfl,_,rfl,?_⟩;cases hq:TR L kd wd with
   |none=>rw[hq] at h7;exact nomatch h7
   |some r1=>
   rw[hq] at h7;refine⟨jB,self,d,L,kd,wd,r1,rfl,g3.sub,dk3,hq,λx ex vv uh H5 yP V8=>?_,λc i ex=>?_⟩
   ·subst ex;have EJ:H5 Dl=some (.lst vQ):=yP.hh _ _ d7;have hDf:uh Dl=none:=yP.nn Dl d6 (by rw[d7];nofun);have g5:Good K C Fo uh H5 bE σ:=g3.call yP.hh yP.ff yP.fh yP.nn;have PD:=TV.trans yP;have SJ:=rl.mono (aJ.trans' Ka yP.ff);refine⟨vQ,EJ,Nat.lt_of_lt_of_le (by rw[rl.length];lia:vQ.length<1000) (cR (Nat.le_refl _)),xs.length-(i+1),by lia,uh,pre++[x],_,_,_,rfl,nz,aJ.trans' J' (aJ.trans' Ka yP.ff),g5.side hDf d2 d3 _,hDf,aE,SJ.append (.cons V8 .nil),by rw[List.length_append,List.length_singleton,pe],?_,rfl,?_⟩
    ·refine⟨λb o e=>?_,PD.ff,λb o e=>?_,PD.nn⟩
     ·rw[ay (UY e)];exact PD.hh b o e
     ·rw[ay (λz=>by rw[z,hDf] at e;cases e)];exact PD.fh b o e
    ·have e:(λys=>kk (pre++[x]++ys))=λys=>kk (pre++x::ys):=by
      funext ys
      rw[List.append_assoc];rfl
     rw[e];exact h7
   ·subst ex;exact qx c i (Option.some.inj h7).symm _ TV.hh
  ·obtain rfl:i=xs.length:=by lia
   rw[List.drop_length] at h3;have NA:kk (pre++[])=some r:=h3;rw[List.append_nil] at NA;exact .inl ⟨w2,q pre Dl vQ cM H2 NA J' g2 ⟨d4,d2,d5,rl,d3⟩ wG⟩
theorem F8{E:XK}{X:ir->Hp->Hp->Hp->Prop}{ie:eE ir}{wi:TI}{L:Tab}{bE:Sa}{σ:L2.St}{oN H0 Hf H:Hp}{self d:Addr}{r:ir}{kk:List AV->Sa->Option ir}{Q:VK}(hi:uA K C X ie wi)(sf:aJ oN H0)(dk:nu K C D oN H0 self d L)(g:Good K C (jL oN H0) Hf H bE σ)(s1:aJ oN Hf)(xo:Ez X r (jL oN H0) Hf)(DM:σ[0]?=some (some (.ref self)))(h:ie bE (λxs yQ=>eX (Nat.ble (qF xs) 900) (HZ L xs λvals=>kk vals yQ) none)=some r)(qx:∀c i,r=.exc c i->oS a.c E H0 c i)(q:∀vals yQ Dl bL H',kk vals yQ=some r->aJ oN bL->Good K C (jL oN H0) bL H' yQ σ->Rl K C bL (.lst vals) (.ref Dl)->Q (.ref Dl) H'):
 vN ["kind","given"] [0] wi (Ag K 2 (ma (fj 0) (ma (fj 1) B4))) (GN D "value_of" (HY K C D a) [] E (eA 2) (dm (eA 0) (dm (eA 1) iY))) σ H Q:=by
 unfold vN;refine hi _ _ _ h _ Hf H _ g xo _ λxs yQ J Hf7 H7 h7 s7 g7 wk=>?_;have s7:=aJ.trans' s1 s7;have D2:=ip sf s7 g7;obtain⟨US,h7⟩:=cx h7;have US:=Nat.le_of_ble_eq_true US;rw[i9] at US;exact JF (a:=a) (E:=E) (r:=r) (d:=d) (self:=self) (Q:=Q) g7 wk US (dk.step D2) DM h7 (λc i e H' s'=>(qx c i e).mono (D2.hh.trans s')) λvals Dl vs Hf8 H8 h8 s8 g8 o8 st8=>
  let⟨s9,g9,r9⟩:=g8.frozen o8
  q vals yQ Dl _ H8 h8 (aJ.trans' s7 (aJ.trans' s8 s9)) g9 r9
end
section
variable {P:Program} {w:World} {K:Frag} {mg:Str->Option Value} {base:Heap} {C D Pt:Addr} {f:Nat->Addr} {fd:Nat->FuncData} {a:Ad}
theorem DN{oN H0 BB Rp bL H':Hp}{L:Tab}{self d:Addr}{JG:Sa}{σ:L2.St}{x:AV}{v:V}{r:ir}{nx:Hp->Prop}(DC:MW K mg D f fd)(sf:aJ oN H0)(dk:nu K C D oN H0 self d L)(hL:L.length<900)(t_:Step oN H0 BB Rp)(F9:qH Pt jC Rp)(NJ:Good K C (jL oN H0) BB Rp JG σ)(QR:uH JG=true)(DM:σ[0]?=some (some (.ref self)))(sx:iu Pt BB Rp bL H')(D6:qH Pt jC H')(rl:Rl K C bL x v)(W9:d8 JG (λk _=>pF k λt=>some (.ret (.tup [.str t,x])))=some r)(q:∀t,r=.ret (.tup [.str t,x])->∀cM H2,Ro Pt d oN H0 cM H2->qH Pt jC H2->nu K C D cM H2 self d (Bz L t x)->nx H2):
 yV K (eA 0) "numbers" σ H' λx H2=>lp (Ej K) (eA 5) (tC (V.int 0)) σ H2 λy H3=>∃a H4,x=.ref a/\IY H3 a y v H4/\nx H4:=by
 obtain⟨dx,bw,e1,e2,e3⟩:=(dk.step t_).ex;obtain⟨pt,TX,_⟩:=F9.ex;have n1:self≠Pt:=λz=>by rw[z,TX] at e1;cases e1
 have n2:d≠Pt:=λz=>by rw[z,TX] at e2;cases e2
 have n3:self≠d:=λz=>by rw[z,e2] at e1;cases e1
 have f1:=sx.hh _ _ n1 e1;have f2:=sx.hh _ _ n2 e2;refine⟨_,DM,self,D,dx,_,_,rfl,f1,DC.cl,DC.n,rfl,?_⟩;have g':Good K C (jL bL H') bL H' JG σ:=AJ sx.fh nG NJ.len QR λi y e=>by
  obtain⟨v,x1,x2⟩:=NJ.fz i y e;exact⟨v,x1,x2.mono sx.ff⟩
 refine(bM ae av:bR K C (λ_ _ _ _=>True) d8 _) _ _ _ W9 _ bL H' _ g' (λ_ _ _ _=>trivial) _ λy aap v12 W_ H12 Rq D4 g12 r12=>?_;obtain⟨t,rfl,h14⟩:=cy Rq;cases r12;have zq:=ip sx.fh D4 g12;have nd:W_ d=none:=zq.nn d (sx.nn d (t_.nn d dk.nf (by obtain⟨_,_,_,z,_⟩:=dk.ex;rw[z];nofun)) (by rw[e2];nofun)) (by rw[f2];nofun);have f3:=zq.hh _ _ f2;refine⟨d,_,rfl,IY.k (k:=(.inr t:Key)) f3 (Nat.lt_of_lt_of_le (by rw[e3.len];lia:bw.length<1000) (cR (Nat.le_refl _))),?_⟩;refine q t (Option.some.inj h14).symm W_ _ ⟨λb o z1 z2 e=>?_,(t_.ff.trans sx.ff).trans zq.ff,λb o e=>?_,λb y1 y2=>zq.nn b (sx.nn b (t_.nn b y1 y2) (oC t_.hh y2)) (sx.ne (oC t_.hh y2))⟩ ((D6.same zq.hh).put f3) ⟨⟨dx,_,?_,aE,?_⟩,nd⟩
 ·rw[ay z2];exact zq.hh _ _ (sx.hh _ _ z1 (t_.hh _ _ e))
 ·rw[ay (λz=>by rw[z,nd] at e;cases e)];exact zq.fh _ _ e
 ·rw[ay n3];exact zq.hh _ _ f1
 ·exact(e3.mono (sx.ff.trans zq.ff)).put (rl.mono zq.ff)
theorem PF(T:Nm mg)(DC:MW K mg D f fd)(nr:Ta P w K mg C "FORMS" m7)(W':dU P w K mg base (f9 P w) 45 (f 2) (fd 2) ["self","kind","word"] (HY K C D a))(F_:cq P w K mg base (f9 P w) true 45 "words_of" ["row"] (λ_=>dJ K C a.c sh 1))(TY:bo P w K mg base 45 "told" ["word","given"] (aM K C Fu 2))(TZ:cq P w K mg base (f9 P w) true 45 "made" ["word","given"] (λ_=>W2 (dJ K C a.c yD 2) (Pq K C Pt))):
 dU P w K mg base (f9 P w) 46 (f 3) (fd 3) ["self","row"] (M0 K C D Pt a):=by
 refine D5.ok (cm:=true) (DC.f3.pD (k:=45) DL (λs vs H Q E h=>?_) (λbH A outer s H vs Q E iq TB hr h=>?_)) (λvs H Q E h=>?_)
 any_goals
  obtain⟨Hf,self,d,L,row,r,rfl,_⟩:=h;rfl
 obtain⟨Hf,self,d,L,row,r,rfl,sf,hP,tb,dk,hL,hv,qt,qs,qx⟩:=h;obtain⟨Pc,MH,tU,tV,tW⟩:=nr;have hu:(A.deeper (envOfC "Desk.done" (ax MV) s.heap.objs.size (f 3) bH)).units+1<cLine:=by have:=hr.un;lia
 refine⟨_,(ag (aw (i:=2) DL.nd rfl (Or.inl rfl) (cj (E:=E) F_ hr aR.passes (aa (pv 1) ah)))
  (ag (aw (i:=3) DL.nd rfl (Or.inl rfl) (aD aZ (pv 2) ak (λ_ _=>rfl)))
  (ag (aw (i:=4) DL.nd rfl (Or.inl rfl) (wO tV rfl tU (pv 3) (λ_ _=>rfl)))
  (ag (LZ (E:=E) (i:=5) DL.nd rfl E5 rfl rfl rfl (iL (own:=["kind","given"]) (fr:=[0]) (fs:=["self"]) (by with_unfolding_all rfl) rfl (by decide +kernel) (by decide +kernel) (by exact⟨rfl,trivial⟩) (by with_unfolding_all rfl) (by exact⟨⟨rfl,rfl,rfl,Or.inl rfl⟩,trivial⟩)) (GR rfl T.Mr (aa (pv 4) (aa (gK nA (pv 2) (hU ak) kJ) ah)))
   (λ_ _ _ _ _=>(nC (K:=K) (n:=2) rfl rfl (bZ (bp (i:=0) (show List.Nodup (["kind","given","self"]:List Str) by decide +kernel) rfl (Or.inl rfl) (Or.inr rfl)) (bZ (bp (i:=1) (show List.Nodup (["kind","given","self"]:List Str) by decide +kernel) rfl (Or.inl rfl) (Or.inr rfl)) g_)) rfl rfl))
   (λ_ _ _ _ _ _=>(wH (dvs:=[]) (E:=E) (pv 2) DC.cl DC.e2 W' hr.calm DC.b2 .nil xT.passes (aa (pv 0) (aa (pv 1) ah)))) rfl)
  (ag (bj (aG oJ (aD aL (pv 4) ak (λ_ _=>rfl)) a_ (aN _)) (aq (aC (aB TY hr.calm (aa (pv 3) (aa (pv 5) ah))))) aO)
  (ag (OF hu (bX (pv 0) rfl) (aD aZ (pv 5) ak (λ_ _=>rfl)) (cj (E:=E) TZ hr aR.passes (aa (pv 3) (aa (gK nA (pv 5) (hU ak) kJ) ah))) rfl)
  (aq (aC a_)))))))),?_⟩;have g0:Good K C (jL Hf H) Hf H [.no,.fz (.str row),.no,.no,.no,.no] (L2.start ["self","row","words","word","form","values"] [V.ref self,V.str row]):=gh (tZ (gh (gh (gh (gh (tY sf) _) _) _) _) .str) _;have xo:Ez (XA a.c E) r (jL Hf H) Hf:=HW sf qx;refine fM (kh ?_);refine(cu (af ae ao):bR K C (XA a.c E) d1 _) _ _ _ (show d1 [.no,.fz (.str row),.no,.no,.no,.no] _=some r from hv) _ Hf H _ g0 xo _ λx bc v1 bO H1 h1 s1 g1 r1=>?_;have h1:=(show mT bc 2 (.fz x) _=some r from h1);rw[gD] at h1;have g1:=g1.vO (i:=2) r1
 dsimp only
 refine fM (kh ?_);refine(bM ae av:bR K C (XA a.c E) d2 _) _ _ _ h1 _ bO H1 _ g1 (xo.up s1) _ λy bQ v2 cM H2 h2 s2 g2 r2=>?_;have h2:=(show mT bQ 3 (.fz y) _=some r from h2);rw[gD] at h2;have g2:=g2.vO (i:=3) r2;have s2:=aJ.trans' s1 s2
 dsimp only
 refine fM (kh ?_);refine(A1 tW ae:bR K C (XA a.c E) d3 _) _ _ _ h2 _ cM H2 _ g2 (xo.up s2) _ λz sH v3 jB H3 h3 s3 g3 r3=>?_;have h3:=(show mT sH 4 (.fz z) _=some r from h3);rw[gD] at h3;have g3:=g3.vO (i:=4) r3;have s3:=aJ.trans' s2 s3
 dsimp only
 refine fM (kh ?_);refine F8 (a:=a) (E:=E) (r:=r) (d:=d) (self:=self) (Mj (af ae (af (dR (EF ae (mU av) sR)) ao)):uA K C (XA a.c E) d4 _) sf dk g3 s3 (xo.up s3) rfl h3 qx λvals yQ Dl Hf9 H8 h8 s9 g9 r9=>?_;have h8:=(show mT yQ 5 (.fz (.lst vals)) _=some r from h8);rw[gD] at h8;have g9:=g9.vO (i:=5) r9
 dsimp only
 refine fM (qI ?_);refine(aQ (HA (aS ae av) (bS (PySem.W.Fast.ofString_ofList ['n','e','w']))):kK K C (XA a.c E) d5 _) _ _ _ h8 _ Hf9 H8 _ g9 (xo.up s9) _ λb MY Xa VI QO KI g10=>?_;have KI:=aJ.trans' s9 KI;cases b with
 |true=>
  refine mR (oM ?_);refine(s_call (af ae (af ae ao)):bR K C (XA a.c E) d6 _) _ _ _ (show d6 MY _=some r from QO) _ Xa VI _ g10 (xo.up KI) _ λx JG v11 BB Rp SK Xb NJ Yj=>?_;obtain⟨t,rfl,W9⟩:=cy SK;cases Yj;exact qt t (Option.some.inj W9).symm BB Rp (ip sf (aJ.trans' KI Xb) NJ)
 |false=>
  refine qD (z9 ?_)
  dsimp only
  refine fM ?_;unfold QV;refine pk ?_;refine(af ae (af (dR (EF ae (mU av) sR)) ao):gm K C (XA a.c E) d7 _) _ _ _ (show d7 MY _=some r from QO) _ Xa VI _ g10 (xo.up KI) _ λas JG ws BB Rp SK Xb NJ Yj=>?_;have Xb:=aJ.trans' KI Xb;have t_:=ip sf Xb NJ;obtain⟨QR,W9⟩:=cx SK;obtain⟨hlen,Rq⟩:=cx W9;have hlen:=Nat.eq_of_beq_eq_true hlen;rw[i9] at hlen;rw[List.append_nil];have aaa:=dk.step t_;obtain⟨dx,bw,e1,e2,e3⟩:=aaa.ex;have F9:=tb.same t_.hh;obtain⟨pt,TX,_⟩:=F9.ex;cases hm:H_ as with
  |none=>rw[hm] at Rq;exact nomatch Rq
  |some r1=>
  rw[hm] at Rq;rcases MZ hm with hm|hm
  ·refine .inl ⟨BB,as,r1,NJ.sub,Yj,hlen,hm,λx ex v bL H' k1 k2 k3 k4 rl=>?_,λc i ex=>?_⟩
   ·subst ex;have st:Step BB Rp bL H':=⟨k1,k2,k3,k4⟩;exact DN DC sf dk hL t_ F9 NJ QR rfl (iu.of st) (F9.same st.hh) rl Rq λt er cM H2 y1 y2 y3=>qs t x er cM H2 y1 y2 y3
   ·subst ex;exact(qx c i (Option.some.inj Rq).symm).mono t_.hh
  ·refine .inr ⟨BB,as,r1,NJ.sub,t_.nn Pt hP tb.ne,F9,Yj,hm,λx ex v bL H' sx D6 rl=>?_⟩;subst ex;exact DN DC sf dk hL t_ F9 NJ QR rfl sx D6 rl Rq λt er cM H2 y1 y2 y3=>qs t x er cM H2 y1 y2 y3
end
def Xc:Str:=⟨⟨[114,101,102,117,115,101,100,58,32,66,97,100,82,111,119]⟩⟩
theorem PJ:(Str.ofString "refused: BadRow":Str)=Xc:=PySem.W.Fast.ofString_ofList ['r','e','f','u','s','e','d',':',' ','B','a','d','R','o','w']
def EY:Str:=⟨⟨[114,101,102,117,115,101,100,58,32,66,97,100,84,101,120,116,32]⟩⟩
theorem PK:(Str.ofString "refused: BadText ":Str)=EY:=PySem.W.Fast.ofString_ofList ['r','e','f','u','s','e','d',':',' ','B','a','d','T','e','x','t',' ']
def Xd:Str:=⟨⟨[114,101,102,117,115,101,100,58,32,78,111,78,117,109,98,101,114]⟩⟩
theorem PM:(Str.ofString "refused: NoNumber":Str)=Xd:=PySem.W.Fast.ofString_ofList ['r','e','f','u','s','e','d',':',' ','N','o','N','u','m','b','e','r']
def Xe:Str:=⟨⟨[114,101,102,117,115,101,100,58,32,78,111,82,97,116,105,111]⟩⟩
theorem PN:(Str.ofString "refused: NoRatio":Str)=Xe:=PySem.W.Fast.ofString_ofList ['r','e','f','u','s','e','d',':',' ','N','o','R','a','t','i','o']
def Xf:Str:=⟨⟨[114,101,102,117,115,101,100,58,32,84,111,111,71,114,101,97,116]⟩⟩
theorem PQ:(Str.ofString "refused: TooGreat":Str)=Xf:=PySem.W.Fast.ofString_ofList ['r','e','f','u','s','e','d',':',' ','T','o','o','G','r','e','a','t']
def tOk:Str:=⟨⟨[111,107]⟩⟩
theorem T1:(Str.ofString "ok":Str)=tOk:=PySem.W.Fast.ofString_ofList ['o','k']
def PR(c:Nat)(i:Int):Option Str:=Nat.rec (some Xe) (λc _=>Nat.rec (some Xd) (λc _=>Nat.rec (some Xf) (λc _=>Nat.rec (eX (Nat.ble (Nat.log2 (IT i)) 1900) (fL (Ya i) λl=>BX ⟨⟨l⟩⟩ (some (EY++⟨⟨l⟩⟩))) none) (λc _=>Nat.rec (some Xc) (λ_ _=>none) c) c) c) c) c
def wC(L:Tab)(row:Str):Option (Str×Tab):=Option.rec none (λr=>ir.rec (λx=>AV.casesOn x none (λ_=>none) (λ_=>none) (λt=>some (t,L)) (λxs=>two xs λk y=>pF k λz=>some (tOk,Bz L z y)) (λ_=>none) (λ_ _ _=>none)) (λc i=>Option.rec none (λt=>some (t,L)) (PR c i)) r) (doneF L row)
theorem Ia{L:Tab}{row:Str}{p:Str×Tab}(h:wC L row=some p):∃r,doneF L row=some r/\((∃t,r=.ret (.str t)/\p=(t,L))\/(∃k x,r=.ret (.tup [.str k,x])/\p=(tOk,Bz L k x))\/∃c i t,r=.exc c i/\PR c i=some t/\p=(t,L)):=by
 unfold wC at h;cases e:doneF L row with
 |none=>rw[e] at h;exact nomatch h
 |some r=>
  rw[e] at h;refine⟨r,rfl,?_⟩;cases r with
  |ret x=>
   cases x with
   |str t=>exact .inl ⟨t,rfl,(Option.some.inj h).symm⟩
   |tup xs=>
    obtain⟨k,y,rfl,h1⟩:=iw (show two xs _=some p from h);obtain⟨z,rfl,h2⟩:=cy h1;exact .inr (.inl ⟨z,y,rfl,(Option.some.inj h2).symm⟩)
   |dH=>exact nomatch h
   |bl _=>exact nomatch h
   |int _=>exact nomatch h
   |lst _=>exact nomatch h
   |root _ _ _=>exact nomatch h
  |exc c i=>
   have h1:(Option.rec none (λt=>some (t,L)) (PR c i):Option (Str×Tab))=some p:=h;cases e2:PR c i with
   |none=>rw[e2] at h1;exact nomatch h1
   |some t=>rw[e2] at h1;exact .inr (.inr ⟨c,i,t,rfl,e2,(Option.some.inj h1).symm⟩)
def Yk:HO->Prop
 |.lst _=>True
 |.tup _=>True
 |.vY _ _=>True
 |.ins _ _ _=>True
 |_=>False
def lV(H H':Hp):Prop:=∀b o,Yk o->H b=some o->H' b=some o
theorem lV.trans{H H1 H2:Hp}(a:lV H H1)(b:lV H1 H2):lV H H2:=λc o s h=>b c o s (a c o s h)
theorem lV.of{H H':Hp}(s:aJ H H'):lV H H':=λb o _ h=>s b o h
theorem lV.tup{K:Frag}{H H':Hp}{a:Addr}{xs:List V}(e:lV H H')(h:qB K H a xs):qB K H' a xs:=by
 rcases h with(h|⟨o,h⟩)|h
 ·exact .inl (.inl (e _ _ trivial h))
 ·exact .inl (.inr ⟨o,e _ _ trivial h⟩)
 ·exact .inr h
theorem PU{K:Frag}{C:Addr}{H H':Hp}(s:lV H H'){x:AV}{v:V}(h:Rl K C H x v):Rl K C H' x v:=
 Rl.rec (motive_1:=λx v _=>Rl K C H' x v) (motive_2:=λxs vs _=>d9 K C H' xs vs) .dH .bl .int .str (λh _ ih=>.tup (s.tup h) ih) (λh _ ih=>.lst (s _ _ trivial h) ih) (λh _ _ _ a b c=>.root (s _ _ trivial h) a b c) .nil (λ_ _ a b=>.cons a b) h
open Classical in
def vC(H:Hp):Hp:=λb=>match H b with
 |some o=>if Yk o then some o else none
 |none=>none
theorem qA(H:Hp):aJ (vC H) H:=λb o h=>by
 unfold vC at h;cases e:H b with
 |none=>rw[e] at h;cases h
 |some u=>
  rw[e] at h
  dsimp only at h
  split at h
  ·exact h
  ·cases h
theorem z_(H:Hp):lV H (vC H):=λb o s h=>by
 unfold vC;rw[h]
 dsimp only
 rw[if_pos s]
theorem yE.keep{K:Frag}{C:Addr}{H H':Hp}{tb:Tab}{bw:List (Key×V)}(h:yE K C H tb bw)(s:lV H H'):yE K C H' tb bw:=by
 induction h with
 |nil=>exact .nil
 |cons r _ ih=>exact .cons (PU s r) ih
theorem DO{H:Hp}{b:Addr}{o:HO}(h:vC H b=some o):Yk o:=by
 unfold vC at h;cases e:H b with
 |none=>rw[e] at h;cases h
 |some u=>
  rw[e] at h
  dsimp only at h
  split at h
  ·cases h;assumption
  ·cases h
def Xg(Hf:Hp):Prop:=∀b o,Hf b=some o->Yk o
theorem Rr{K:Frag}{C D:Addr}{Hf H:Hp}{me d:Addr}{L:Tab}(k:nu K C D Hf H me d L):nu K C D (vC Hf) H me d L:=by
 obtain⟨dx,bw,x,y,z⟩:=k.ex;refine⟨⟨dx,bw,x,y,z.keep (z_ Hf)⟩,?_⟩;cases e:vC Hf d with
 |none=>rfl
 |some o=>have:=qA Hf _ _ e;rw[k.nf] at this;cases this
theorem M3{Hf bL:Hp}(sl:Xg Hf)(s:aJ Hf bL):aJ Hf (vC bL):=λb o e=>z_ bL b o (sl b o e) (s b o e)
theorem Rt{bL:Hp}{b:Addr}(e:bL b=none):vC bL b=none:=by
 cases z:vC bL b with
 |none=>rfl
 |some o=>have:=qA bL _ _ z;rw[e] at this;cases this
theorem M4{Hf H H':Hp}(sl:Xg Hf)(s:aJ Hf H)(k:lV H H'):aJ Hf H':=λb o e=>k b o (sl b o e) (s b o e)
theorem BC{K:Frag}{C D:Addr}{Hf H H':Hp}{me d:Addr}{L:Tab}(k:nu K C D Hf H me d L)(s:lV H H')(hd:∀bw,H d=some (.dK bw)->H' d=some (.dK bw)):nu K C D Hf H' me d L:=by
 obtain⟨dx,bw,x,y,z⟩:=k.ex;exact⟨⟨dx,bw,s _ _ trivial x,hd _ y,z⟩,k.nf⟩
def M5(K:Frag)(C D Pt:Addr):Sp:=λvs H Q _=>∃Hf self d L row t L',vs=[.ref self,.str row]/\aJ Hf H/\Xg Hf/\nu K C D Hf H self d L/\qH Pt jC H/\L.length<900/\wC L row=some (t,L')/\
 ∀bL H',aJ Hf bL->aJ bL H'->Xg bL->(∀b,Hf b=none->H b≠none->bL b=none)->lV H H'->nu K C D bL H' self d L'->qH Pt jC H'->Q (.str t) H'
section
variable {P:Program} {w:World} {K:Frag} {mg:Str->Option Value} {base:Heap} {C D Pt:Addr} {f:Nat->Addr} {fd:Nat->FuncData} {a:Ad}
theorem PV{X:Cx}{K:Frag}(h:X.K=K){e:Expr}{te:TE}{f:Str}{pos:Pos}(he:PE X e te)(hb:attributeBase e f X.env (eval e X.env)=eval e X.env):PE X (.Attribute e f pos) (Wq K te f):=by subst h;exact S2 he hb
theorem JH(T:Nm mg)(CL:A_ K mg a)(DC:MW K mg D f fd)(hx:∀i j,i<5->j<5->exmOne K (.ref (a.c i)) (.ref (a.c j))=some (i==j))(T3:dU P w K mg base (f9 P w) 46 (f 3) (fd 3) ["self","row"] (M0 K C D Pt a)):
 dU P w K mg base kr 47 (f 4) (fd 4) ["self","row"] (M5 K C D Pt):=by
 refine D5.ok (cm:=true) (DC.f4.pD (k:=46) Rk (λs vs H Q E h=>?_) (λbH A outer s H vs Q E iq TB hr h=>?_)) (λvs H Q E h=>?_)
 any_goals
  obtain⟨Hf,self,d,L,row,t,L',rfl,_⟩:=h;rfl
 obtain⟨Hf,self,d,L,row,t,L',rfl,sf,sl,dk,tb,hL,ha,q⟩:=h;obtain⟨r,hd,hr3⟩:=Ia ha;obtain⟨dx,bw,e1,e2,e3⟩:=dk.ex;obtain⟨pt,TX,_⟩:=tb.ex;obtain⟨E1,hE1⟩:∃E1:XK,E1=λc dd H1=>∃(k:Nat)(i:Int),r=.exc k i/\c=.ref (a.c k)/\aJ H H1/\(k=3->∃dx,dd=some dx/\H1 dx=some (.xd [("at",.int i)])):=⟨_,rfl⟩;refine⟨_,aq (OT (E:=E1) rfl rfl (λpins=>aq (aC (wH (dvs:=[]) (E:=E1) (pv 0) DC.cl DC.e3 T3 hr.calm DC.b3 .nil xT.passes (aa (pv 1) ah))))
  (wU (c:=a.c 4) (λa'=>aq (aC a_)) rfl CL.m4
  (WD (i:=2) (c:=a.c 3) (λa'=>aq (aC (aH gI a_ (fw fX rfl T.yj boot_str (aa (PV (K:=K) rfl (pv 2) rfl) ah))))) rfl CL.m3 Rk.nd rfl rfl
  (wU (c:=a.c 1) (λa'=>aq (aC a_)) rfl CL.m1
  (wU (c:=a.c 0) (λa'=>aq (aC a_)) rfl CL.m0
  (wU (c:=a.c 2) (λa'=>aq (aC a_)) rfl CL.m2 S8)))))),?_⟩;refine⟨?_,λcH H' a1 C1 tt ZT dd H1 tb1 hl X_ AW h1 hE=>?_⟩
 ·refine oM ⟨_,rfl,self,dx,_,rfl,e1,rfl,_,rfl,?_⟩;have nP:Hf Pt=none:=by
   cases e:Hf Pt with
   |none=>rfl
   |some o=>
    have so:=sl _ _ e;rw[sf _ _ e] at TX;cases TX;exact so.elim
  refine⟨Hf,self,d,L,row,r,rfl,sf,nP,tb,dk,hL,hd,λt2 er bL H' st=>?_,λk x er bL H' sy D6 dk'=>?_,λc i er=>?_⟩
  ·rcases hr3 with⟨t3,vV,ep⟩|⟨k,x,vV,_⟩|⟨c,i,t3,vV,_⟩
   ·rw[er] at vV;cases vV;cases ep;exact q (vC bL) H' (M3 sl st.ff) ((qA _).trans st.fh) (λ_ _=>DO) (λb y1 y2=>Rt (st.nn b y1 y2)) (lV.of st.hh) (Rr (dk.step st)) (tb.same st.hh)
   ·rw[er] at vV;cases vV
   ·rw[er] at vV;cases vV
  ·rcases hr3 with⟨t3,vV,ep⟩|⟨k2,x2,vV,ep⟩|⟨c,i,t3,vV,_⟩
   ·rw[er] at vV;cases vV
   ·rw[er] at vV;cases vV;cases ep;rw[T1];exact q (vC bL) H' (M3 sl sy.ff) ((qA _).trans sy.fh) (λ_ _=>DO) (λb y1 y2=>Rt (sy.nn b y1 y2)) (λb o so e=>sy.hh b o (λz=>by rw[z,TX] at e;cases e;exact so) (λz=>by rw[z,e2] at e;cases e;exact so) e) (Rr dk') D6
   ·rw[er] at vV;cases vV
  ·unfold oS;split
   ·rename_i ec;subst ec;intro dx H' s1 Oy;rw[hE1];exact⟨3,i,er,rfl,s1,λ_=>⟨dx,rfl,Oy⟩⟩
   ·rename_i ec;intro H' s1;rw[hE1];exact⟨c,i,er,rfl,s1,λz=>absurd z ec⟩
 ·rw[hE1] at hE;obtain⟨k,i,er,ec,s1,hxd⟩:=hE;cases ec
  rcases hr3 with⟨t3,vV,ep⟩|⟨k2,x2,vV,ep⟩|⟨c,i2,t3,vV,et,ep⟩
  ·rw[er] at vV;cases vV
  ·rw[er] at vV;cases vV
  rw[er] at vV;cases vV;cases ep;have M6:∀b o,(∀φ,o≠.ext φ)->H b=some o->H' b=some o:=λb o n e=>AW b o (λz=>by subst z;rw[s1 _ _ e] at h1;cases h1;exact n _ rfl) (s1 _ _ e);have kp:lV H H':=λb o so e=>M6 b o (λφ z=>by subst z;exact so) e;have dk':=BC dk kp λbw e=>M6 _ _ (λφ z=>nomatch z) e;have D6:qH Pt jC H':=by
   obtain⟨ps,y1,y2,y3⟩:=tb.ex;refine⟨ps,M6 _ _ (λφ z=>nomatch z) y1,y2,λpos v e=>?_⟩;obtain⟨c',oc,z1,z2,z3⟩:=y3 pos v e;exact⟨c',oc,z1,kp _ _ trivial z2,z3⟩
  have fin:=q Hf H' (aJ.fO _) (M4 sl sf kp) sl (λ_ h _=>h) kp dk' D6;obtain⟨y0,y1,y2,rfl⟩:∃y0 y1 y2,cH=[y0,y1,y2]:=by
   match cH,hl with
   |[y0,y1,y2],_=>exact⟨y0,y1,y2,rfl⟩
  have no:∀{i j:Nat},i<5->j<5->(i==j)=false->exmOne K (.ref (a.c i)) (.ref (a.c j))=some false:=λhi hj e=>by rw[hx _ _ hi hj,e]
  match k,et,hxd with
  |4,et,_=>
   cases et;refine⟨true,hx 4 4 (by decide) (by decide),oM ?_⟩;rw[<-PJ] at fin;exact fin
  |3,et,hxd=>
   obtain⟨dx,rfl,Oy⟩:=hxd rfl;refine⟨false,no (by decide) (by decide) rfl,true,hx 3 3 (by decide) (by decide),oM ?_⟩;obtain⟨c1,et2⟩:=cx (show eX (Nat.ble (Nat.log2 (IT i)) 1900) (fL (Ya i) λl=>BX ⟨⟨l⟩⟩ (some (EY++⟨⟨l⟩⟩))) none=some t from et);rw[Hy] at et2;obtain⟨c2,et3⟩:=lx et2;cases et3;have c1:=Nat.le_of_ble_eq_true c1;rw[qV] at c1;have aab:H' dx=some (.xd [("at",.int i)]):=AW _ _ (λz=>by subst z;rw[Oy] at h1;cases h1) Oy;refine Ar ?_;refine N3 ?_;refine Se (kx ?_);refine⟨_,rfl,a1,a.c 3,tt,ZT,dx,_,_,rfl,X_,aab,(CL.all (i:=3) (by decide)).1,CL.at',rfl,?_⟩;refine ki ?_;refine⟨i,rfl,by lia,?_⟩;rw[L9,PK];have lb:EY.length=17:=rfl;exact⟨_,_,rfl,rfl,cR (by rw[lb];lia),fin⟩
  |1,et,_=>
   cases et;refine⟨false,no (by decide) (by decide) rfl,false,no (by decide) (by decide) rfl,true,hx 1 1 (by decide) (by decide),oM ?_⟩;rw[<-PM] at fin;exact fin
  |0,et,_=>
   cases et;refine⟨false,no (by decide) (by decide) rfl,false,no (by decide) (by decide) rfl,false,no (by decide) (by decide) rfl,true,hx 0 0 (by decide) (by decide),oM ?_⟩;rw[<-PN] at fin;exact fin
  |2,et,_=>
   cases et;refine⟨false,no (by decide) (by decide) rfl,false,no (by decide) (by decide) rfl,false,no (by decide) (by decide) rfl,false,no (by decide) (by decide) rfl,true,hx 2 2 (by decide) (by decide),oM ?_⟩;rw[<-PQ] at fin;exact fin
  |k+5,et,_=>exact nomatch et
end
def JI:xx (List Str×Tab):=eT (L5 (Mb (aj 0) (ai (eC (.str ⟨⟨[32]⟩⟩)) az)) (eC (.str ⟨⟨[]⟩⟩)))
def kF(rows:List Str):Tab->Option (List Str×Tab):=List.rec (motive:=λ_=>Tab->Option (List Str×Tab)) (λL=>some ([],L)) (λr _ ih L=>JI [.fz (.str r),.no] λb _=>eX b (Option.rec none (λp=>Option.rec none (λq=>some (p.1::q.1,q.2)) (ih p.2)) (wC L r)) (ih L)) rows
theorem M7(L:Tab)(k:Str)(x:AV):(Bz L k x).length<=L.length+1:=by
 unfold Bz;cases kH L k with
 |none=>
  show(L++[(k,x)]).length<=_;rw[List.length_append];exact Nat.le_refl _
 |some y=>
  show(L.map _).length<=_;rw[List.length_map];lia
theorem M8{L L':Tab}{row t:Str}(h:wC L row=some (t,L')):L'.length<=L.length+1:=by
 obtain⟨r,_,⟨t2,_,e⟩|⟨k,x,_,e⟩|⟨c,i,t2,_,_,e⟩⟩:=Ia h
 ·cases e;lia
 ·cases e;exact M7 _ _ _
 ·cases e;lia
def Ru(D:Addr):Sp:=λvs H Q _=>∃x dx,vs=[.ref x]/\H x=some (.ins D dx [])/\∀p H',H p=none->(∀c,c≠x->c≠p->H' c=H c)->H' p=some (.dK [])->H' x=some (.ins D dx [("numbers",.ref p)])->Q .dH H'
def JJ:Str:=⟨⟨[10]⟩⟩
def M9(K:Frag)(C D Pt:Addr):Sp:=λvs H Q _=>∃text PX L',vs=[.str text]/\qH Pt jC H/\text.length<=1000/\(Txt.split text JJ).length<=800/\kF (Txt.split text JJ) []=some (PX,L')/\∀p H',lV H H'->qH Pt jC H'->H' p=some (.lst (PX.map V.str))->Q (.ref p) H'
section
variable {P:Program} {w:World} {K:Frag} {mg:Str->Option Value} {base:Heap} {C D Pt:Addr} {f:Nat->Addr} {fd:Nat->FuncData} {a:Ad}
theorem T4(DC:MW K mg D f fd):dU P w K mg base kr 1 (f 0) (fd 0) ["self"] (Ru D):=by
 refine D5.ok (cm:=true) (DC.f0.pD (k:=0) W5 (λs vs H Q E h=>?_) (λbH A outer s H vs Q E iq TB hr h=>?_)) (λvs H Q E h=>?_)
 any_goals
  obtain⟨x,dx,rfl,_⟩:=h;rfl
 obtain⟨x,dx,rfl,hx,q⟩:=h;refine⟨_,vJ.J7 (aq (Ak (pv 0) LA ?s1)),?_⟩
 case s1=>rfl
 intro p hp;have ne:x≠p:=aW hx hp;refine⟨_,rfl,x,D,dx,[],rfl,by rw[ay ne];exact hx,DC.cl,DC.n,by decide,?_⟩;refine q p _ hp (λc h1 h2=>by rw[ay h1,ay h2]) (by rw[ay (Ne.symm ne),aE]) aE
theorem M_:(Str.ofString "\n":Str)=JJ:=PySem.W.Fast.ofString_ofList ['\n']
theorem JK{H:Hp}{Q:VK}{self d:Addr}{text:Str}{PX:List Str}{L':Tab}{H0:Hp}(DC:MW K mg D f fd)(h0:aJ H0 H)(tb:qH Pt jC H)(htl:text.length<=1000)(hrl:(Txt.split text JJ).length<=800)(PY:kF (Txt.split text JJ) []=some (PX,L'))(dk:nu K C D (λ_=>none) H self d [])(q:∀p H',lV H0 H'->qH Pt jC H'->H' p=some (.lst (PX.map V.str))->Q (.ref p) H'):
 Au ["row"] [1] (zy K (Iy K "str" EO (eA 0) (dm (tC (V.str (Str.ofString "\n"))) iY))) (fj 0) (B8 (lp RR (Iy K "str" EM (eA 0) (dm (tC (V.str (Str.ofString " "))) iY)) (tC (V.str (Str.ofString "")))))
  (GN D "answer" (M5 K C D Pt) [] E0 (eA 1) (dm (eA 0) iY)) [some (.str text),some (.ref self)] H Q:=by
 have hT:kK (α:=List Str×Tab) K C (λ_ _ _ _=>True) JI _:=aQ (HA (OV ae (af (bS (PySem.W.Fast.ofString_ofList [' '])) ao)) (bS (PySem.W.Fast.ofString_ofList [])));generalize Xh:Txt.split text JJ=rows at hrl PY;refine⟨_,rfl,rfl,kx (N3 (ki ?_))⟩;rw[M_];refine⟨text,JJ,rfl,rfl,rfl,htl,λp hp=>⟨p,rfl,⟨_,.inl (.inl aE)⟩,?_⟩⟩;rw[Xh];intro Dl hD;have s1:=aJ.new hp (.lst (rows.map V.str));have nDp:Dl≠p:=λz=>by rw[z,aE] at hD;cases hD
 have hDH:H Dl=none:=by rw[ay nDp] at hD;exact hD
 have s2:=aJ.new hD (.lst []);have D4:=s1.trans s2;have hpD:upd (upd H p (.lst (rows.map V.str))) Dl (.lst []) p=some (.lst (rows.map V.str)):=by rw[ay (Ne.symm nDp),aE]
 have nD0:∀{b:Addr}{o:HO},H0 b=some o->b≠Dl:=λe=>aW (h0 _ _ e) hDH;refine⟨λi m bQ H2=>∃cM L pre T5 o,m=rows.length-i/\i<=rows.length/\bQ=[o,some (.ref self)]/\H2 p=some (.lst (rows.map V.str))/\H2 Dl=some (.lst (pre.map V.str))/\pre.length<=i/\lV H0 H2/\qH Pt jC H2/\aJ cM H2/\Xg cM/\cM Dl=none/\nu K C D cM H2 self d L/\L.length<=i/\kF (rows.drop i) L=some (T5,L')/\PX=pre++T5,
  ⟨_,λ_=>none,[],[],PX,none,rfl,Nat.zero_le _,rfl,hpD,aE,Nat.le_refl _,lV.of (h0.trans D4),tb.same D4,(λ_ _ e=>nomatch e),(λ_ _ e=>nomatch e),rfl,BC dk (lV.of D4) (λ_ e=>D4 _ _ e),Nat.le_refl _,PY,rfl⟩,?_⟩;rintro i m bQ H2 ⟨cM,L,pre,T5,o,rfl,hi,rfl,QU,hd2,pe,kp,Kd,sf2,sl2,nf2,dk2,hL,Ri,PZ⟩;have e1:upd (λ_=>none) p (.lst (rows.map V.str)) p=some (.lst (rows.map V.str)):=aE;have wk:Wk K C (Vf K p) (upd (λ_=>none) p (.lst (rows.map V.str))) (rows.map AV.str):=G6 e1 (d9.strs rows);obtain⟨w1,w2⟩:=wk _ H2 (aJ.fO _) (λb o e=>by
  by_cases z:b=p
  ·subst z;rw[aE] at e;cases e;exact QU
  ·rw[ay z] at e;cases e);by_cases nz:i<rows.length
 ·obtain⟨go,yl⟩:=w1 i (.str rows[i]) (by rw[List.getElem?_map,List.getElem?_eq_getElem nz];rfl);refine .inr ⟨go,λx H3 y=>?_⟩;rcases yl x H3 y with⟨rfl,rl⟩|⟨_,_,_,_,_,_,e4,_⟩
  rotate_left
  ·cases e4
  cases rl;rw[List.drop_eq_getElem_cons nz] at Ri;have g0:Good K C (jL cM H3) cM H3 [.fz (.str rows[i]),.no] [some (.str rows[i]),some (.ref self)]:=tZ (gh (tY sf2) _) .str;refine hT _ _ _ (show JI [.fz (.str rows[i]),.no] _=some (T5,L') from Ri) _ cM H3 _ g0 (λ_ _ _ _=>trivial) _ λb cH A2 H4 h4 s4 g4=>?_;have zJ:=ip sf2 s4 g4;have dk4:nu K C D cM H4 self d L:=BC dk2 (lV.of zJ.hh) (λ_ e=>zJ.hh _ _ e);have sf4:=sf2.trans zJ.hh;cases b with
  |false=>
   exact⟨rows.length-(i+1),by lia,cM,L,pre,T5,_,rfl,nz,rfl,zJ.hh _ _ QU,zJ.hh _ _ hd2,by lia,kp.trans (lV.of zJ.hh),Kd.same zJ.hh,sf4,sl2,nf2,dk4,by lia,h4,PZ⟩
  |true=>
   have h5:(Option.rec none (λp=>Option.rec none (λq=>some (p.1::q.1,q.2)) (kF (rows.drop (i+1)) p.2)) (wC L rows[i]):Option (List Str×Tab))=some (T5,L'):=h4;cases ea:wC L rows[i] with
   |none=>rw[ea] at h5;exact nomatch h5
   |some pr=>
   obtain⟨t,L1⟩:=pr;rw[ea] at h5;have h6:(Option.rec none (λq=>some (t::q.1,q.2)) (kF (rows.drop (i+1)) L1):Option (List Str×Tab))=some (T5,L'):=h5;cases eb:kF (rows.drop (i+1)) L1 with
   |none=>rw[eb] at h6;exact nomatch h6
   |some pr2=>
   obtain⟨aac,L2⟩:=pr2;rw[eb] at h6;cases h6;obtain⟨dx,bw,f1,f2,f3⟩:=dk4.ex;refine⟨_,rfl,self,dx,_,rfl,f1,rfl,_,rfl,?_⟩;refine⟨cM,self,d,L,rows[i],t,L1,rfl,sf4,sl2,dk4,Kd.same zJ.hh,by lia,ea,λuh H5 y1 y2 y3 y4 y5 y6 y7=>?_⟩;have WQ:=zJ.hh _ _ hd2;have EJ:H5 Dl=some (.lst (pre.map V.str)):=y5 _ _ trivial WQ;have nf5:uh Dl=none:=y4 Dl nf2 (by rw[WQ];nofun);obtain⟨dx5,kv5,z1,z2,z3⟩:=y6.ex;have n1:self≠Dl:=λz=>by rw[z,EJ] at z1;cases z1
   have n2:d≠Dl:=λz=>by rw[z,EJ] at z2;cases z2
   refine⟨_,EJ,Nat.lt_of_lt_of_le (by rw[List.length_map];lia:(pre.map V.str).length<1000) (cR (Nat.le_refl _)),rows.length-(i+1),by lia,uh,L1,pre++[t],aac,_,rfl,nz,rfl,?_,?_,?_,?_,?_,?_,y3,nf5,⟨⟨dx5,kv5,?_,?_,z3⟩,y6.nf⟩,?_,eb,?_⟩
   ·rw[ay (Ne.symm nDp)];exact y5 _ _ trivial (zJ.hh _ _ QU)
   ·rw[aE,List.map_append];rfl
   ·rw[List.length_append,List.length_singleton];lia
   ·exact λb o so e=>by rw[ay (nD0 e)];exact y5 b o so (zJ.hh _ _ (kp b o so e))
   ·obtain⟨ps,x1,x2,x3⟩:=y7.ex;refine⟨ps,by rw[ay (λz=>by rw[z,EJ] at x1;cases x1)];exact x1,x2,λpos v e=>?_⟩;obtain⟨c',oc,u1,u2,u3⟩:=x3 pos v e;exact⟨c',oc,u1,by rw[ay (λz=>by rw[z,EJ] at u2;cases u2)];exact u2,u3⟩
   ·exact λb o e=>by rw[ay (λz=>by rw[z,nf5] at e;cases e)];exact y2 b o e
   ·rw[ay n1];exact z1
   ·rw[ay n2];exact z2
   ·have:=M8 ea;lia
   ·rw[PZ,List.append_assoc];rfl
 ·obtain rfl:i=rows.length:=by lia
  rw[List.drop_length] at Ri;cases Ri;rw[List.append_nil] at PZ;subst PZ;refine .inl ⟨?_,q Dl H2 kp Kd hd2⟩;rw[List.length_map] at w2;exact w2
theorem P1(T:Nm mg)(DC:MW K mg D f fd)(Xi:dU P w K mg base kr 1 (f 0) (fd 0) ["self"] (Ru D))(M':dU P w K mg base kr 47 (f 4) (fd 4) ["self","row"] (M5 K C D Pt))(DD:aU K mg "play" Fp ["text"]):cq P w K mg base kr true 48 "play" ["text"] (λ_=>M9 K C D Pt):=by
 refine DD.pD HK (λs vs H Q E h=>?_) (λf0 bH A outer s H vs Q E iq hr h=>?_)
 ·obtain⟨text,PX,L',rfl,_⟩:=h;rfl
 obtain⟨text,PX,L',rfl,tb,htl,hrl,PY,q⟩:=h;refine⟨_,(ag (aw (i:=1) HK.nd rfl (Or.inr rfl) (Ks (dvs:=[]) (E:=E0) DC.Rh Xi (fv.mono (j:=2) hr.calm (by decide)) rfl DC.m DC.b0 .nil fA))
  (aq (aC (Cv rfl (iL (own:=["row"]) (fr:=[1]) (fs:=["desk"]) (by with_unfolding_all rfl) rfl (by decide +kernel) (by decide +kernel) (by exact⟨rfl,trivial⟩) (by with_unfolding_all rfl) (by exact⟨⟨rfl,rfl,rfl,Or.inl rfl⟩,trivial⟩))
   (iZ (eJ PySem.F.plainAttrs_str PySem.F.slot_str_split PySem.F.type_str_split CW (pv 0) (aa a_ ah)))
   (λ_ _ _ _ _=>(bp (i:=0) (show List.Nodup (["row","desk"]:List Str) by decide +kernel) rfl (Or.inl rfl) (Or.inr rfl)))
   (λ_ _ _ _ _=>(aG oJ (show PE _ _ (Iy K "str" _ (eA 0) (dm (tC (.str (Str.ofString " "))) iY)) from eJ PySem.F.plainAttrs_str PySem.F.slot_str_strip PySem.F.type_str_strip Lu (pv 0) (aa a_ ah)) a_ (aN _)))
   (λ_ _ _ _ _=>(wH (dvs:=[]) (E:=E0) (pv 1) DC.cl DC.e4 M' hr.calm DC.b4 .nil fA (aa (pv 0) ah))))))),?_⟩;refine fM (kh ?_);intro x dx hx Oy jJ;refine⟨x,dx,rfl,aE,λd H1 hd hk h1 h2=>⟨rfl,?_⟩⟩;have nxd:d≠x:=λz=>by rw[z,aE] at hd;cases hd
 have ndd:d≠dx:=λz=>by rw[z,ay jJ,aE] at hd;cases hd
 have hdH:H d=none:=by rw[ay nxd,ay ndd] at hd;exact hd
 have s1:aJ H H1:=λb o e=>by
  have n1:b≠x:=aW e hx;have n2:b≠d:=aW e hdH;rw[hk b n1 n2,ay n1,ay (aW e Oy)];exact e
 dsimp only
 refine oM ?_;exact JK DC s1 (tb.same s1) htl hrl PY ⟨⟨dx,[],h2,h1,.nil⟩,rfl⟩ q
end
def n_a:AV:=(.root (.lst [(.int (-3)),(.int 2)]) (.tup [(.tup [(.int 3),(.int 2)]),(.tup [(.int 3),(.int 2)])]) (.int 1))
def n_b:AV:=(.root (.lst [(.int (-2)),(.int 0),(.int 1)]) (.tup [(.tup [(.int 23),(.int 24)]),(.tup [(.int 19),(.int 12)])]) (.int 2))
def n_c:AV:=(.root (.lst [(.int (-2)),(.int 1)]) (.tup [(.tup [(.int 2),(.int 1)]),(.tup [(.int 2),(.int 1)])]) (.int 1))
def n_d:AV:=(.root (.lst [(.int (-2)),(.int 0),(.int 1)]) (.tup [(.tup [(.int (-19)),(.int 12)]),(.tup [(.int (-23)),(.int 24)])]) (.int 2))
def n_e:AV:=(.root (.lst [(.int 0),(.int 1)]) (.tup [(.tup [(.int 0),(.int 1)]),(.tup [(.int 0),(.int 1)])]) (.int 1))
def n_f:AV:=(.root (.lst [(.int (-9)),(.int 4)]) (.tup [(.tup [(.int 9),(.int 4)]),(.tup [(.int 9),(.int 4)])]) (.int 1))
def JL:Nat->Tab
 |0=>[]
 |1=>[(⟨⟨[97]⟩⟩,n_a),(⟨⟨[98]⟩⟩,n_b)]
 |_=>[(⟨⟨[97]⟩⟩,n_a),(⟨⟨[98]⟩⟩,n_b),(⟨⟨[99]⟩⟩,n_c),(⟨⟨[100]⟩⟩,n_d),(⟨⟨[101]⟩⟩,n_e),(⟨⟨[102]⟩⟩,n_f)]
def qa:List (Str×Str):=[(⟨⟨[108,101,97,112,32,97]⟩⟩,⟨⟨[66,97,100,82,111,119]⟩⟩),(⟨⟨[108,101,116]⟩⟩,⟨⟨[66,97,100,82,111,119]⟩⟩),(⟨⟨[108,101,116,32,97]⟩⟩,⟨⟨[66,97,100,82,111,119]⟩⟩),(⟨⟨[108,101,116,32,97,32,49,32,50]⟩⟩,⟨⟨[66,97,100,82,111,119]⟩⟩),(⟨⟨[108,101,116,32,65,32,49]⟩⟩,⟨⟨[66,97,100,82,111,119]⟩⟩),(⟨⟨[108,101,116,32,97,97,32,49]⟩⟩,⟨⟨[66,97,100,82,111,119]⟩⟩),(⟨⟨[108,101,116,32,49,32,49]⟩⟩,⟨⟨[66,97,100,82,111,119]⟩⟩),(⟨⟨[108,101,116,32,97,32,50,47,52]⟩⟩,⟨⟨[66,97,100,84,101,120,116,32,50]⟩⟩),(⟨⟨[108,101,116,32,97,32,120]⟩⟩,⟨⟨[66,97,100,84,101,120,116,32,48]⟩⟩),(⟨⟨[108,101,116,32,97,32,49,47]⟩⟩,⟨⟨[66,97,100,84,101,120,116,32,50]⟩⟩),(⟨⟨[114,111,111,116,32,97]⟩⟩,⟨⟨[66,97,100,82,111,119]⟩⟩),(⟨⟨[114,111,111,116,32,97,32,48]⟩⟩,⟨⟨[66,97,100,82,111,119]⟩⟩),(⟨⟨[114,111,111,116,32,97,32,48,48,32,120]⟩⟩,⟨⟨[66,97,100,82,111,119]⟩⟩),(⟨⟨[114,111,111,116,32,97,32,49,51,32,120]⟩⟩,⟨⟨[66,97,100,82,111,119]⟩⟩),(⟨⟨[114,111,111,116,32,97,32,120,32,120]⟩⟩,⟨⟨[66,97,100,82,111,119]⟩⟩),(⟨⟨[114,111,111,116,32,65,32,48,32,120]⟩⟩,⟨⟨[66,97,100,82,111,119]⟩⟩),(⟨⟨[114,111,111,116,32,97,32,48,32,120,43,49]⟩⟩,⟨⟨[66,97,100,84,101,120,116,32,49]⟩⟩),(⟨⟨[114,111,111,116,32,97,32,48,32,48]⟩⟩,⟨⟨[78,111,78,117,109,98,101,114]⟩⟩),(⟨⟨[114,111,111,116,32,97,32,48,32,53]⟩⟩,⟨⟨[78,111,78,117,109,98,101,114]⟩⟩),(⟨⟨[114,111,111,116,32,97,32,50,32,120,94,50,32,45,32,50]⟩⟩,⟨⟨[78,111,78,117,109,98,101,114]⟩⟩),(⟨⟨[114,111,111,116,32,97,32,49,32,120,32,45,32]⟩⟩,⟨⟨[66,97,100,84,101,120,116,32,52]⟩⟩),(⟨⟨[115,117,109,32,97,32,98]⟩⟩,⟨⟨[66,97,100,82,111,119]⟩⟩),(⟨⟨[115,117,109,32,97,32,98,32,99,32,100]⟩⟩,⟨⟨[66,97,100,82,111,119]⟩⟩),(⟨⟨[115,117,109,32,97,32,98,32,67]⟩⟩,⟨⟨[66,97,100,82,111,119]⟩⟩),(⟨⟨[115,117,109,32,65,32,98,32,99]⟩⟩,⟨⟨[66,97,100,82,111,119]⟩⟩),(⟨⟨[115,117,109]⟩⟩,⟨⟨[66,97,100,82,111,119]⟩⟩),(⟨⟨[111,112,112,111,115,105,116,101,32,97]⟩⟩,⟨⟨[66,97,100,82,111,119]⟩⟩),(⟨⟨[111,112,112,111,115,105,116,101,32,97,32,98,32,99]⟩⟩,⟨⟨[66,97,100,82,111,119]⟩⟩),(⟨⟨[112,111,119,101,114,32,97,32,98]⟩⟩,⟨⟨[66,97,100,82,111,119]⟩⟩),(⟨⟨[112,111,119,101,114,32,97,32,98,32,49,51]⟩⟩,⟨⟨[66,97,100,82,111,119]⟩⟩),(⟨⟨[112,111,119,101,114,32,97,32,98,32,48,49]⟩⟩,⟨⟨[66,97,100,82,111,119]⟩⟩),(⟨⟨[112,111,119,101,114,32,97,32,98,32,120]⟩⟩,⟨⟨[66,97,100,82,111,119]⟩⟩),(⟨⟨[114,111,111,116,111,102,32,97,32,98,32,48]⟩⟩,⟨⟨[66,97,100,82,111,119]⟩⟩),(⟨⟨[114,111,111,116,111,102,32,97,32,98,32,49,51]⟩⟩,⟨⟨[66,97,100,82,111,119]⟩⟩),(⟨⟨[99,111,117,110,116]⟩⟩,⟨⟨[66,97,100,82,111,119]⟩⟩),(⟨⟨[99,111,117,110,116,32,120,43]⟩⟩,⟨⟨[66,97,100,84,101,120,116,32,49]⟩⟩),(⟨⟨[99,111,117,110,116,32,49,120]⟩⟩,⟨⟨[66,97,100,84,101,120,116,32,48]⟩⟩),(⟨⟨[99,111,117,110,116,32,48]⟩⟩,⟨⟨[78,111,78,117,109,98,101,114]⟩⟩),(⟨⟨[99,111,109,112,97,114,101,32,97]⟩⟩,⟨⟨[66,97,100,82,111,119]⟩⟩),(⟨⟨[99,111,109,112,97,114,101,32,97,32,98,32,99]⟩⟩,⟨⟨[66,97,100,82,111,119]⟩⟩),(⟨⟨[100,101,99,105,109,97,108,32,97]⟩⟩,⟨⟨[66,97,100,82,111,119]⟩⟩),(⟨⟨[100,101,99,105,109,97,108,32,97,32,51,49]⟩⟩,⟨⟨[66,97,100,82,111,119]⟩⟩),(⟨⟨[100,101,99,105,109,97,108,32,97,32,45,49]⟩⟩,⟨⟨[66,97,100,82,111,119]⟩⟩),(⟨⟨[115,105,103,110]⟩⟩,⟨⟨[66,97,100,82,111,119]⟩⟩),(⟨⟨[115,105,103,110,32,97,32,98]⟩⟩,⟨⟨[66,97,100,82,111,119]⟩⟩),(⟨⟨[102,108,111,111,114,32,97,98]⟩⟩,⟨⟨[66,97,100,82,111,119]⟩⟩),(⟨⟨[32,115,105,103,110,32,97]⟩⟩,⟨⟨[66,97,100,82,111,119]⟩⟩),(⟨⟨[115,105,103,110,32,32,97]⟩⟩,⟨⟨[66,97,100,82,111,119]⟩⟩),(⟨⟨[115,117,109,32,100,32,121,32,122]⟩⟩,⟨⟨[78,111,78,117,109,98,101,114]⟩⟩),(⟨⟨[115,105,103,110,32,121]⟩⟩,⟨⟨[78,111,78,117,109,98,101,114]⟩⟩),(⟨⟨[99,111,109,112,97,114,101,32,121,32,122]⟩⟩,⟨⟨[78,111,78,117,109,98,101,114]⟩⟩),(⟨⟨[112,111,119,101,114,32,100,32,121,32,50]⟩⟩,⟨⟨[78,111,78,117,109,98,101,114]⟩⟩),(⟨⟨[100,101,99,105,109,97,108,32,121,32,51]⟩⟩,⟨⟨[78,111,78,117,109,98,101,114]⟩⟩),(⟨⟨[105,110,118,101,114,115,101,32,100,32,121]⟩⟩,⟨⟨[78,111,78,117,109,98,101,114]⟩⟩),(⟨⟨[114,111,111,116,111,102,32,100,32,121,32,50]⟩⟩,⟨⟨[78,111,78,117,109,98,101,114]⟩⟩),(⟨⟨[76,101,116,32,97,32,49]⟩⟩,⟨⟨[66,97,100,82,111,119]⟩⟩)]
def DP:List (Str×Str):=[(⟨⟨[99,111,109,112,97,114,101,32,97,32,98]⟩⟩,⟨⟨[49]⟩⟩),(⟨⟨[99,111,109,112,97,114,101,32,98,32,97]⟩⟩,⟨⟨[45,49]⟩⟩),(⟨⟨[99,111,109,112,97,114,101,32,98,32,98]⟩⟩,⟨⟨[48]⟩⟩),(⟨⟨[115,105,103,110,32,97]⟩⟩,⟨⟨[49]⟩⟩),(⟨⟨[102,108,111,111,114,32,97]⟩⟩,⟨⟨[49]⟩⟩),(⟨⟨[100,101,99,105,109,97,108,32,98,32,53]⟩⟩,⟨⟨[49,46,52,49,52,50,49]⟩⟩),(⟨⟨[100,101,99,105,109,97,108,32,97,32,48]⟩⟩,⟨⟨[49]⟩⟩),(⟨⟨[100,101,99,105,109,97,108,32,97,32,50]⟩⟩,⟨⟨[49,46,53,48]⟩⟩),(⟨⟨[114,97,116,105,111,32,97]⟩⟩,⟨⟨[51,47,50]⟩⟩),(⟨⟨[114,97,116,105,111,32,98]⟩⟩,⟨⟨[110,111,110,101]⟩⟩),(⟨⟨[112,114,111,100,117,99,116,32,99,32,98,32,98]⟩⟩,⟨⟨[111,107]⟩⟩),(⟨⟨[114,97,116,105,111,32,99]⟩⟩,⟨⟨[50]⟩⟩),(⟨⟨[111,112,112,111,115,105,116,101,32,100,32,98]⟩⟩,⟨⟨[111,107]⟩⟩),(⟨⟨[102,108,111,111,114,32,100]⟩⟩,⟨⟨[45,50]⟩⟩),(⟨⟨[100,101,99,105,109,97,108,32,100,32,51]⟩⟩,⟨⟨[45,49,46,52,49,53]⟩⟩),(⟨⟨[99,111,117,110,116,32,120,94,50,32,45,32,50]⟩⟩,⟨⟨[50]⟩⟩),(⟨⟨[99,111,117,110,116,32,120,94,51,32,45,32,120]⟩⟩,⟨⟨[51]⟩⟩),(⟨⟨[99,111,117,110,116,32,55]⟩⟩,⟨⟨[48]⟩⟩),(⟨⟨[32,32,32]⟩⟩,⟨⟨[]⟩⟩),(⟨⟨[111,118,101,114,32,100,32,97,32,122,122]⟩⟩,⟨⟨[114,101,102,117,115,101,100,58,32,66,97,100,82,111,119]⟩⟩),(⟨⟨[108,101,115,115,32,101,32,98,32,98]⟩⟩,⟨⟨[111,107]⟩⟩),(⟨⟨[115,105,103,110,32,101]⟩⟩,⟨⟨[48]⟩⟩),(⟨⟨[105,110,118,101,114,115,101,32,102,32,101]⟩⟩,⟨⟨[114,101,102,117,115,101,100,58,32,78,111,82,97,116,105,111]⟩⟩),(⟨⟨[111,118,101,114,32,102,32,97,32,101]⟩⟩,⟨⟨[114,101,102,117,115,101,100,58,32,78,111,82,97,116,105,111]⟩⟩),(⟨⟨[114,111,111,116,111,102,32,102,32,100,32,50]⟩⟩,⟨⟨[114,101,102,117,115,101,100,58,32,78,111,78,117,109,98,101,114]⟩⟩),(⟨⟨[112,111,119,101,114,32,102,32,97,32,50]⟩⟩,⟨⟨[111,107]⟩⟩),(⟨⟨[114,97,116,105,111,32,102]⟩⟩,⟨⟨[57,47,52]⟩⟩)]
def P4:List Str:=[⟨⟨[108,101,116,32,97,32,51,47,50]⟩⟩,⟨⟨[114,111,111,116,32,98,32,49,32,120,94,50,32,45,32,50]⟩⟩]
def Rv:List Str:=[⟨⟨[111,107]⟩⟩,⟨⟨[111,107]⟩⟩]
def NK:List Str:=[⟨⟨[49]⟩⟩,⟨⟨[45,49]⟩⟩,⟨⟨[48]⟩⟩,⟨⟨[49]⟩⟩,⟨⟨[49]⟩⟩,⟨⟨[49,46,52,49,52,50,49]⟩⟩,⟨⟨[49]⟩⟩,⟨⟨[49,46,53,48]⟩⟩,⟨⟨[51,47,50]⟩⟩,⟨⟨[110,111,110,101]⟩⟩,⟨⟨[111,107]⟩⟩,⟨⟨[50]⟩⟩,⟨⟨[111,107]⟩⟩,⟨⟨[45,50]⟩⟩,⟨⟨[45,49,46,52,49,53]⟩⟩,⟨⟨[50]⟩⟩,⟨⟨[51]⟩⟩,⟨⟨[48]⟩⟩,⟨⟨[114,101,102,117,115,101,100,58,32,66,97,100,82,111,119]⟩⟩,⟨⟨[111,107]⟩⟩,⟨⟨[48]⟩⟩,⟨⟨[114,101,102,117,115,101,100,58,32,78,111,82,97,116,105,111]⟩⟩,⟨⟨[114,101,102,117,115,101,100,58,32,78,111,82,97,116,105,111]⟩⟩,⟨⟨[114,101,102,117,115,101,100,58,32,78,111,78,117,109,98,101,114]⟩⟩,⟨⟨[111,107]⟩⟩,⟨⟨[57,47,52]⟩⟩]
def Ke:Str:=⟨⟨[114,101,102,117,115,101,100,58,32]⟩⟩
theorem aad:qa.map (λp=>kF [p.1] (JL 0))=qa.map (λp=>some ([Ke++p.2],JL 0)):=by kernel_rfl
theorem aae:qa.map (λp=>kF [p.1] (JL 1))=qa.map (λp=>some ([Ke++p.2],JL 1)):=by kernel_rfl
theorem aaf:qa.map (λp=>kF [p.1] (JL 2))=qa.map (λp=>some ([Ke++p.2],JL 2)):=by kernel_rfl
theorem T6:kF P4 []=some (Rv,JL 1):=by kernel_rfl
theorem T7:kF (DP.map (·.1)) (JL 1)=some (NK,JL 2):=by kernel_rfl
theorem T8:qa.all (λp=>Nat.ble p.1.length 16&&p.1.cps.toList.all (λc=>Nat.blt 10 c))=true:=by decide +kernel
theorem Xj:DP.all (λp=>p.1.cps.toList.all (λc=>Nat.blt 10 c))=true:=by decide +kernel
theorem Xk:P4.all (λp=>p.cps.toList.all (λc=>Nat.blt 10 c))=true:=by decide +kernel
end lX
namespace lX
open PySem PyProof.Rows L2 SF CV
def iG:Fn:=bY 1 (Tf (qa.take 3) (Te [3,3,3,3,2,2,2,3,3,2,2,2,3,3,3,3,3,3,2,3] (qa.drop 3)))
theorem Na:iG []=some (.lst (qa.map λp=>.tup [.str p.1,.str p.2])):=by kernel_rfl
theorem yF{P:Program}{w:World}{K:PySem.W.Frag}{mg:Str->Option Value}{base:Heap}{C:Addr}(D:aU K mg "_law_refused" mJ []):bo P w K mg base 47 "_law_refused" [] (aM K C iG 0):=
 Rf D yi rfl rfl rfl rfl (.cons (bC _) (bC _) (.cons (bC _) (bC _) (.cons (bC _) (bC _) .nil))) (λ_ _=>rfl) λ_ _=>.add rfl (.cons (bC _) (bC _) (.cons (bC _) (bC _) (.cons (bC _) (bC _) .nil))) (.add rfl (.cons (bC _) (bC _) (.cons (bC _) (bC _) (.cons (bC _) (bC _) .nil))) (.add rfl (.cons (bC _) (bC _) (.cons (bC _) (bC _) (.cons (bC _) (bC _) .nil))) (.add rfl (.cons (bC _) (bC _) (.cons (bC _) (bC _) (.cons (bC _) (bC _) .nil))) (.add rfl (.cons (bC _) (bC _) (.cons (bC _) (bC _) .nil)) (.add rfl (.cons (bC _) (bC _) (.cons (bC _) (bC _) .nil)) (.add rfl (.cons (bC _) (bC _) (.cons (bC _) (bC _) .nil)) (.add rfl (.cons (bC _) (bC _) (.cons (bC _) (bC _) (.cons (bC _) (bC _) .nil))) (.add rfl (.cons (bC _) (bC _) (.cons (bC _) (bC _) (.cons (bC _) (bC _) .nil))) (.add rfl (.cons (bC _) (bC _) (.cons (bC _) (bC _) .nil)) (.add rfl (.cons (bC _) (bC _) (.cons (bC _) (bC _) .nil)) (.add rfl (.cons (bC _) (bC _) (.cons (bC _) (bC _) .nil)) (.add rfl (.cons (bC _) (bC _) (.cons (bC _) (bC _) (.cons (bC _) (bC _) .nil))) (.add rfl (.cons (bC _) (bC _) (.cons (bC _) (bC _) (.cons (bC _) (bC _) .nil))) (.add rfl (.cons (bC _) (bC _) (.cons (bC _) (bC _) (.cons (bC _) (bC _) .nil))) (.add rfl (.cons (bC _) (bC _) (.cons (bC _) (bC _) (.cons (bC _) (bC _) .nil))) (.add rfl (.cons (bC _) (bC _) (.cons (bC _) (bC _) (.cons (bC _) (bC _) .nil))) (.add rfl (.cons (bC _) (bC _) (.cons (bC _) (bC _) (.cons (bC _) (bC _) .nil))) (.add rfl (.cons (bC _) (bC _) (.cons (bC _) (bC _) .nil)) (.ret (.cons (bC _) (bC _) (.cons (bC _) (bC _) (.cons (bC _) (bC _) .nil))))))))))))))))))))))
def sC:Fn:=bY 1 (Tf (DP.take 3) (Te [3,3,3,3,4,3,2,3] (DP.drop 3)))
theorem Xl:sC []=some (.lst (DP.map λp=>.tup [.str p.1,.str p.2])):=by kernel_rfl
theorem DQ{P:Program}{w:World}{K:PySem.W.Frag}{mg:Str->Option Value}{base:Heap}{C:Addr}(D:aU K mg "_law_good" rR []):bo P w K mg base 47 "_law_good" [] (aM K C sC 0):=
 Rf D Dh rfl rfl rfl rfl (.cons (bC _) (bC _) (.cons (bC _) (bC _) (.cons (bC _) (bC _) .nil))) (λ_ _=>rfl) λ_ _=>.add rfl (.cons (bC _) (bC _) (.cons (bC _) (bC _) (.cons (bC _) (bC _) .nil))) (.add rfl (.cons (bC _) (bC _) (.cons (bC _) (bC _) (.cons (bC _) (bC _) .nil))) (.add rfl (.cons (bC _) (bC _) (.cons (bC _) (bC _) (.cons (bC _) (bC _) .nil))) (.add rfl (.cons (bC _) (bC _) (.cons (bC _) (bC _) (.cons (bC _) (bC _) .nil))) (.add rfl (.cons (bC _) (bC _) (.cons (bC _) (bC _) (.cons (bC _) (bC _) (.cons (bC _) (bC _) .nil)))) (.add rfl (.cons (bC _) (bC _) (.cons (bC _) (bC _) (.cons (bC _) (bC _) .nil))) (.add rfl (.cons (bC _) (bC _) (.cons (bC _) (bC _) .nil)) (.ret (.cons (bC _) (bC _) (.cons (bC _) (bC _) (.cons (bC _) (bC _) .nil))))))))))
end lX
namespace lX
open PySem PyProof.Rows L2 SF
def Nb(K:PySem.W.Frag):Sp:=λvs H Q _=>∃(a:Addr)(ns:List Int)(k:Int),vs=[.ref a,.int k]/\ft K H a (ns.map V.int)/\ns.length<=63/\0<=k/\∀(c:Int)(H':Hp),aJ H H'->Q (.int c) H'
def Ib:Sp:=λvs H Q _=>∃c k:Int,vs=[.int c,.int k]/\∀m:Int,0<=m->Bd 128 m->Q (.int m) H
section
variable {P:Program} {w:World} {K:PySem.W.Frag} {mg:Str->Option Value} {base:Heap}
theorem DS(T:Nm mg)(D:aU K mg "_law_cell" rQ ["_law_script","_law_k"]):bo P w K mg base 1 "_law_cell" ["_law_script","_law_k"] (Nb K):=by
 refine D.ok Dg (λvs H Q E h=>?_) (λf bH A outer s H vs Q E hr h=>?_)
 ·obtain⟨a,ns,k,rfl,_⟩:=h;rfl
 obtain⟨a,ns,k,rfl,hS,hl,hk,q⟩:=h;refine⟨_,(ag (bj (aG (R4 hr.Eh) (pv 0) (bN ah) (aN _))
  (aq (aC (aH aT (pv 1) ak)))
  aO)
  (aq (aC (aH bF (aD aZ (pv 0) (aH iH (pv 1) (ba bg rfl T.dF boot_len (aa (pv 0) ah))) (λ_ _=>rfl)) (aH aT (aH KC (pv 1) (ba bg rfl T.dF boot_len (aa (pv 0) ah))) ak))))),?_⟩;walk_at "sf";intro p hp;have g1:aJ H (upd H p (.lst [])):=aJ.new hp _;refine⟨a,p,ns,[],rfl,rfl,g1.seq hS,ft.of aE,?_⟩;walk_at "sf";refine NY (λc=>?_) (λc=>?_)
 ·walk_at "sf";refine Er (IntMulOk.of_right (by decide)) ?_;exact q _ _ g1
 ·have jJ:ns≠[]:=by simpa using c
  have X':0<ns.length:=List.length_pos_iff.mpr jJ;have em:(ns.map V.int).length=ns.length:=List.length_map _;have Xm:(0:Int)<((ns.map V.int).length:Nat):=by rw[em];lia
  walk_at "sf";refine⟨a,_,rfl,.inl (g1.seq hS),?_⟩;refine Er (Int.ne_of_gt Xm) ?_;rw[sL Xm];have h1:=Int.emod_nonneg k (Int.ne_of_gt Xm);have h2:=Int.emod_lt_of_pos k Xm;obtain⟨j,ej⟩:=Int.eq_ofNat_of_zero_le h1;rw[ej] at h2 ⊢;have hj:j<ns.length:=by rw[em] at h2;lia
  refine Qq (g1.seq hS) (wI (v:=V.int ns[j]) (by rw[List.getElem?_map,List.getElem?_eq_getElem hj]<;>rfl)) ?_;walk_at "sf";refine⟨a,_,rfl,.inl (g1.seq hS),?_⟩;refine Er ⟨Int.ne_of_gt Xm,(Bd.xt (n:=64) (by lia) (by rw[em];lia)).log2 (by decide)⟩ ?_;walk_at "sf";refine Er (IntMulOk.of_right (by decide)) ?_;walk_at "sf";exact q _ _ g1
theorem BD(D:aU K mg "_law_drawn" pP ["_law_cell_here","_law_k"]):bo P w K mg base 1 "_law_drawn" ["_law_cell_here","_law_k"] Ib:=by
 refine D.ok tF (λvs H Q E h=>?_) (λf bH A outer s H vs Q E hr h=>?_)
 ·obtain⟨c,k,rfl,_⟩:=h;rfl
 obtain⟨c,k,rfl,q⟩:=h;refine⟨_,(ag (aw (i:=2) tF.nd rfl (Or.inl rfl) (aH iH (aH bF (aH aT (pv 0) ak) (aH aT (aH bF (pv 1) ak) ak)) ak))
  (aq (aC (aH iH (aH aT (pv 2) (pv 2)) ak)))),?_⟩;walk_at "sf";refine Er (IntMulOk.of_right (by decide)) ?_;walk_at "sf";refine Er (IntMulOk.of_right (by decide)) ?_;walk_at "sf";refine Er (by decide) ?_;rw[sL (by decide)];generalize hm:(c*6364136223846793005+(k+1)*1442695040888963407)%340282366920938463463374607431768211507=m;have m1:0<=m:=by rw[<-hm];exact Int.emod_nonneg _ (by decide)
 have m2:m<340282366920938463463374607431768211507:=by rw[<-hm];exact Int.emod_lt_of_pos _ (by decide)
 have mz:Bd 129 m:=Bd.xt m1 (Int.lt_of_lt_of_le m2 (by decide));walk_at "sf";refine Er (WV mz mz (by decide)) ?_;walk_at "sf";refine Er (by decide) ?_;rw[sL (by decide)];exact q _ (Int.emod_nonneg _ (by decide)) (Bd.xt (Int.emod_nonneg _ (by decide)) (Int.lt_of_lt_of_le (Int.emod_lt_of_pos _ (by decide)) (by decide)))
end
end lX
namespace lX
open PySem PyProof.Rows L2 SF CV PySem.W
def Ic(K:Frag)(tabs:List (Addr×Addr)):Sp:=λvs H Q _=>∃(sa:Addr)(ns:List Int),vs=[.ref sa]/\ft K H sa (ns.map V.int)/\ns.length<=63/\(∀p∈tabs,H p.2=some (.vZ #[]))/\∀H',Q (.bl true) H'
theorem Ie{a b:TS}{D:L2.Ends}{σ:L2.St}{H:Hp}(G:L2.St->Hp->Prop)(h1:∀D':L2.Ends,(∀cH H',G cH H'->D'.nx cH H')->a D' σ H)(h2:∀cH H',G cH H'->b D cH H'):Ae a b D σ H:=h1 _ h2
theorem BE{X:Cx}{k:Nat}{x:Str}{ps:List Str}{sp:Sp}{p pos:Pos}(F:bo X.prog X.w X.K X.mg X.base k x ps sp)(hr:fv k X.A)(hg:Gl X x:=by rfl)(uw:(x==("__debug__":Str))=false:=by decide):PE X (.Call (.Name x p) [] [] pos) (pb sp [] E0 iY):=by
 obtain⟨f,fd,a,b,c,d⟩:=F.ex;intro pins s σ H Q I h;refine wpAny_Call_Name_kw (fW I hg b ?_ uw);exact callWith_K0 I.o9 c (Ei (us:=[]) a hr d .nil fA I .nil h)
theorem P5(r:Str):∃o:Option Bool,∀k,JI [.fz (.str r),.no] k=(Option.rec none (λb=>k b [.fz (.str r),.no]) o:Option (List Str×Tab)):=by
 cases e:Nat.ble (xY r) 400 with
 |false=>
  refine⟨none,λk=>?_⟩;show BX r _=none;unfold BX;rw[e];rfl
 |true=>
  refine⟨some (!Hz (Txt.stripChars r ⟨⟨[32]⟩⟩) ⟨⟨[]⟩⟩),λk=>?_⟩;show BX r (fS (Txt.stripChars r ⟨⟨[32]⟩⟩) λw=>eX (Hz w ⟨⟨[]⟩⟩) (k false [.fz (.str r),.no]) (k true [.fz (.str r),.no]))=k (!Hz (Txt.stripChars r ⟨⟨[32]⟩⟩) ⟨⟨[]⟩⟩) [.fz (.str r),.no];unfold BX;rw[e,tm];cases Hz (Txt.stripChars r ⟨⟨[32]⟩⟩) ⟨⟨[]⟩⟩<;>rfl
theorem ua:∀{ls ms:List Str}{L L1 L2:Tab}{ds es:List Str},kF ls L=some (ds,L1)->kF ms L1=some (es,L2)->kF (ls++ms) L=some (ds++es,L2)
 |[],ms,L,L1,L2,ds,es,h1,h2=>by cases h1;exact h2
 |r::ls,ms,L,L1,L2,ds,es,h1,h2=>by
  obtain⟨o,ho⟩:=P5 r;have h1:JI [.fz (.str r),.no] (λb _=>eX b (Option.rec none (λp=>Option.rec none (λq=>some (p.1::q.1,q.2)) (kF ls p.2)) (wC L r)) (kF ls L))=some (ds,L1):=h1;show JI [.fz (.str r),.no] (λb _=>eX b (Option.rec none (λp=>Option.rec none (λq=>some (p.1::q.1,q.2)) (kF (ls++ms) p.2)) (wC L r)) (kF (ls++ms) L))=some (ds++es,L2);rw[ho] at h1 ⊢;cases o with
  |none=>exact nomatch h1
  |some b=>
   cases b with
   |false=>exact ua (ls:=ls) h1 h2
   |true=>
    have h1:(Option.rec none (λp=>Option.rec none (λq=>some (p.1::q.1,q.2)) (kF ls p.2)) (wC L r):Option (List Str×Tab))=some (ds,L1):=h1;show(Option.rec none (λp=>Option.rec none (λq=>some (p.1::q.1,q.2)) (kF (ls++ms) p.2)) (wC L r):Option (List Str×Tab))=some (ds++es,L2);cases ea:wC L r with
    |none=>rw[ea] at h1;exact nomatch h1
    |some p=>
     rw[ea] at h1;have h1:(Option.rec none (λq=>some (p.1::q.1,q.2)) (kF ls p.2):Option (List Str×Tab))=some (ds,L1):=h1;show(Option.rec none (λq=>some (p.1::q.1,q.2)) (kF (ls++ms) p.2):Option (List Str×Tab))=some (ds++es,L2);cases eb:kF ls p.2 with
     |none=>rw[eb] at h1;exact nomatch h1
     |some q=>
      rw[eb] at h1;cases h1;rw[ua (ls:=ls) (ds:=q.1) (L1:=q.2) (by rw[eb]) h2];rfl
structure Pl(i ph:Nat)(ls ds:List Str):Prop where
 run:kF ls []=some (ds,JL ph)
 free:∀p∈ls,10∉p.cps.toList
 low:i<=ls.length
 len:(ls.map (·.length)).sum+ls.length<=27+284*(ph/2)+17*i
 cnt:ls.length<=2+27*(ph/2)+i
 Yl:ds.length<=2+27*(ph/2)+i
theorem BF{p:Str}(h:p.cps.toList.all (λc=>Nat.blt 10 c)=true):10∉p.cps.toList:=λz=>by
 have:=List.all_eq_true.mp h 10 z;exact nomatch this
theorem T9{p:Str×Str}(h:p∈qa):(∀ph,ph<3->kF [p.1] (JL ph)=some ([Ke++p.2],JL ph))/\p.1.length<=16/\10∉p.1.cps.toList:=by
 have h1:=List.all_eq_true.mp T8 p h;simp only[Bool.and_eq_true] at h1;refine⟨λph hp=>?_,Nat.le_of_ble_eq_true h1.1,BF h1.2⟩
 match ph,hp with
 |0,_=>exact List.map_inj_left.mp aad p h
 |1,_=>exact List.map_inj_left.mp aae p h
 |2,_=>exact List.map_inj_left.mp aaf p h
theorem Pl.one{i ph:Nat}{ls ds:List Str}{p:Str×Str}(k:Pl i ph ls ds)(hp:ph<3)(h:p∈qa):Pl (i+1) ph (ls++[p.1]) (ds++[Ke++p.2]):=by
 obtain⟨a,b,c⟩:=T9 h;refine⟨ua k.run (a ph hp),λq hq=>?_,?_,?_,?_,?_⟩
 ·rcases List.mem_append.mp hq with z|z
  ·exact k.free q z
  ·rw[List.mem_singleton] at z;subst z;exact c
 ·have:=k.low;rw[List.length_append];simp only[List.length_cons,List.length_nil];lia
 ·have:=k.len;rw[List.map_append,List.sum_append,List.length_append];simp only[List.map_cons,List.map_nil,List.sum_cons,List.sum_nil,List.length_cons,List.length_nil];lia
 ·have:=k.cnt;rw[List.length_append];simp only[List.length_cons,List.length_nil];lia
 ·have:=k.Yl;rw[List.length_append];simp only[List.length_cons,List.length_nil];lia
theorem Pl.zero:Pl 0 0 [] []:=⟨rfl,(λ_ h=>nomatch h),by decide,by decide,by decide,by decide⟩
theorem Pl.start:Pl 0 1 P4 Rv:=⟨T6,λp h=>BF (List.all_eq_true.mp Xk p h),by decide,by decide +kernel,by decide,by decide⟩
theorem Pl.good{i:Nat}{ls ds:List Str}(k:Pl i 1 ls ds):Pl i 2 (ls++DP.map (·.1)) (ds++NK):=by
 have e1:((DP.map (·.1)).map (·.length)).sum+(DP.map (·.1)).length=284:=by decide +kernel
 have e2:(DP.map (·.1)).length=27:=rfl;have e3:NK.length=26:=rfl;refine⟨ua k.run T7,λq hq=>?_,?_,?_,?_,?_⟩
 ·rcases List.mem_append.mp hq with z|z
  ·exact k.free q z
  ·obtain⟨p,hp,rfl⟩:=List.mem_map.mp z;exact BF (List.all_eq_true.mp Xj p hp)
 ·have:=k.low;rw[List.length_append];lia
 ·have:=k.len;rw[List.map_append,List.sum_append,List.length_append];lia
 ·have:=k.cnt;rw[List.length_append];lia
 ·have:=k.Yl;rw[List.length_append];lia
def gdA:AV:=.lst (DP.map λp=>.tup [.str p.1,.str p.2])
def σg:Sa:=[.no,.no,.no,.no,.fz gdA,.no,.no,.no,.no]
def Xn:eE AV:=mV 2 [] (xI (aj 4)) (IV 0 1) (aj 0)
def Xo:eE AV:=Ml 2 [] (xI (aj 4)) (IV 0 1) (eT (L5 (aj 1) (eC (.str ⟨⟨[]⟩⟩)))) (aj 1)
theorem Xp:Xn σg (λxs _=>some (.lst xs))=some (.lst ((DP.map (·.1)).map .str)):=by kernel_rfl
theorem Xq:Xo σg (λxs _=>some (.lst xs))=some (.lst (NK.map .str)):=by kernel_rfl
theorem BG{K:Frag}{C:Addr}{H:Hp}:∀{l:List Str}{vs:List V},d9 K C H (l.map .str) vs->vs=l.map V.str
 |[],_,h=>by cases h;rfl
 |_::l,_,h=>by
  cases h with
  |cons r t=>cases r;rw[BG (l:=l) t];rfl
section
variable {P:Program} {w:World} {K:Frag} {mg:Str->Option Value} {base:Heap} {C D Pt:Addr} {a:Ad}
def Nc(K:Frag)(sa pl pd:Addr)(ns:List Int)(H:Hp):Prop:=(∀H',ft K H' sa (ns.map V.int))\/(ft K H sa (ns.map V.int)/\sa≠pl/\sa≠pd/\H sa≠none)
structure F'(K:Frag)(C Pt sa:Addr)(ns:List Int)(i:Nat)(σ:L2.St)(H:Hp):Prop where
 ex:∃(ph:Nat)(ls ds:List Str)(pl pd pg:Addr)(gv:List V)(Hg:Hp)(mv:V)(v5 v6 v7 v8:Option V),σ=[some (.ref sa),some mv,some (.ref pl),some (.ref pd),some (.ref pg),v5,v6,v7,v8]/\ph<3/\Pl i ph ls ds/\H pl=some (.lst (ls.map V.str))/\H pd=some (.lst (ds.map V.str))/\pl≠pd/\
  H pg=some (.lst gv)/\pg≠pl/\pg≠pd/\aJ Hg H/\Hg pl=none/\Hg pd=none/\((ph=1/\Rl K C Hg gdA (.ref pg))\/(ph≠1/\gv=[]))/\qH Pt jC H/\Nc K sa pl pd ns H
theorem la{H H':Hp}{p:Addr}(s:aJ H H')(h:H' p=none):H p=none:=by
 cases e:H p with
 |none=>rfl
 |some o=>rw[s _ _ e] at h;cases h
theorem Rw{sa pl pd:Addr}{ns:List Int}{H H':Hp}(hS:ft K H sa (ns.map V.int))(h0:(∀H',ft K H' sa (ns.map V.int))\/H sa≠none)(s:aJ H H')(e1:H pl=none)(e2:H pd=none):Nc K sa pl pd ns H':=by
 rcases h0 with h|h
 ·exact .inl h
 ·exact .inr ⟨s.seq hS,λz=>h (by rw[z];exact e1),λz=>h (by rw[z];exact e2),oC s h⟩
theorem Rx{sa pl pd:Addr}{ns:List Int}{H:Hp}(h:Nc K sa pl pd ns H):ft K H sa (ns.map V.int):=h.elim (λf=>f H) (λf=>f.1)
theorem Nc.same{sa pl pd:Addr}{ns:List Int}{H H':Hp}(h:Nc K sa pl pd ns H)(s:aJ H H'):Nc K sa pl pd ns H':=by
 rcases h with h|⟨a,b,c,d⟩
 ·exact .inl h
 ·exact .inr ⟨s.seq a,b,c,oC s d⟩
theorem Nc.new{sa pl pd zN U4:Addr}{ns:List Int}{H H':Hp}(h:Nc K sa pl pd ns H)(s:aJ H H')(e1:H zN=none)(e2:H U4=none):Nc K sa zN U4 ns H':=by
 rcases h with h|⟨a,b,c,d⟩
 ·exact .inl h
 ·exact .inr ⟨s.seq a,λz=>d (by rw[z];exact e1),λz=>d (by rw[z];exact e2),oC s d⟩
theorem Ga{sa pl pd pg:Addr}{ns:List Int}{i:Nat}{H:Hp}{Hg:Hp}{mv:V}{v5 v6 v7 v8:Option V}{ls ds:List Str}{D:Ends}(PL:Pl i 1 ls ds)(hi:i<=30)(h1:H pl=some (.lst (ls.map V.str)))(h2:H pd=some (.lst (ds.map V.str)))(sg:aJ Hg H)(k1:Hg pl=none)(k2:Hg pd=none)(rg:Rl K C Hg gdA (.ref pg))(Kd:qH Pt jC H)(sc:Nc K sa pl pd ns H)(q:∀zN U4 pg' H',F' K C Pt sa ns i [some (.ref sa),some mv,some (.ref zN),some (.ref U4),some (.ref pg'),v5,v6,v7,v8] H'->D.nx [some (.ref sa),some mv,some (.ref zN),some (.ref U4),some (.ref pg'),v5,v6,v7,v8] H'):
 Ae (sG (lp Iz (eA 2) (vN ["_law_line","_law_found"] [] (zy K (eA 4)) (Ag K 2 (ma (fj 0) (ma (fj 1) B4))) (eA 0))) (fj 2))
  (Ae (sG (lp Iz (eA 3) (Au ["_law_line","_law_found"] [] (zy K (eA 4)) (Ag K 2 (ma (fj 0) (ma (fj 1) B4))) (B8 (lp RR (eA 1) (tC (V.str (Str.ofString ""))))) (eA 1))) (fj 3))
   (sG (Ir iY) (fj 4))) D [some (.ref sa),some mv,some (.ref pl),some (.ref pd),some (.ref pg),v5,v6,v7,v8] H:=by
 have gd:∀{Hx:Hp}{o2 o3:Option V},aJ Hg Hx->Good K C (jL Hg Hx) Hg Hx σg [some (.ref sa),some mv,o2,o3,some (.ref pg),v5,v6,v7,v8]:=λs=>gh (gh (gh (gh (tZ (gh (gh (gh (gh (tY s) _) _) _) _) rg) _) _) _) _;have bl:=PL.cnt;have bd:=PL.Yl;refine fM (kh (Ar ⟨_,rfl,?_⟩));refine(kA rfl (mD ae) pw ae:sP K C (λ_ _ _ _=>True) Xn _) _ _ _ Xp _ Hg H _ (gd sg) (λ_ _ _ _=>trivial) _ λxs cH a vs bO H1 hk s1 g1 o1=>?_;have T_:=ip sg s1 g1;have hk:AV.lst xs=.lst ((DP.map (·.1)).map .str):=Option.some.inj hk;cases hk;have ev:=BG o1.rl;subst ev;refine⟨pl,a,_,_,rfl,rfl,T_.hh _ _ h1,o1.at_,cR (by rw[List.length_map,List.length_map];have:(DP.map (·.1)).length=27:=rfl;lia),λp6 e6=>?_⟩;have s6:=aJ.new e6 (.lst (ls.map V.str++(DP.map (·.1)).map V.str));have g6:upd H1 p6 (.lst (ls.map V.str++(DP.map (·.1)).map V.str)) p6=some (.lst ((ls++DP.map (·.1)).map V.str)):=by rw[aE,List.map_append]
 generalize upd H1 p6 (.lst (ls.map V.str++(DP.map (·.1)).map V.str))=H2 at s6 g6;have t2:=T_.hh.trans s6
 dsimp only
 refine fM (kh (Ar ⟨_,rfl,?_⟩));refine(OY rfl (mD ae) pw (aQ (HA ae (bS (PySem.W.Fast.ofString_ofList [])))) ae:sP K C (λ_ _ _ _=>True) Xo _) _ _ _ Xq _ Hg H2 _ (gd (sg.trans t2)) (λ_ _ _ _=>trivial) _ λxs cH a vs jB H3 hk s3 g3 o3=>?_;have B6:=ip (sg.trans t2) s3 g3;have hk:AV.lst xs=.lst (NK.map .str):=Option.some.inj hk;cases hk;have ev:=BG o3.rl;subst ev;have t3:=t2.trans B6.hh;refine⟨pd,a,_,_,rfl,rfl,t3 _ _ h2,o3.at_,cR (by rw[List.length_map,List.length_map];have:NK.length=26:=rfl;lia),λp7 e7=>?_⟩;have s7:=aJ.new e7 (.lst (ds.map V.str++NK.map V.str));have g7:upd H3 p7 (.lst (ds.map V.str++NK.map V.str)) p7=some (.lst ((ds++NK).map V.str)):=by rw[aE,List.map_append]
 have f6:=B6.hh _ _ g6;have n67:p6≠p7:=aW f6 e7;generalize upd H3 p7 (.lst (ds.map V.str++NK.map V.str))=H4 at s7 g7
 dsimp only
 refine kh (xr (ki ⟨Nat.zero_le _,λp8 e8=>?_⟩));have s8:=aJ.new e8 (.lst []);have t4:=t3.trans s7;have t5:=t4.trans s8;have f6':=s7 _ _ f6;refine q p6 p7 p8 _ ⟨2,_,_,p6,p7,p8,[],λ_=>none,mv,v5,v6,v7,v8,rfl,by decide,PL.good,s8 _ _ f6',s8 _ _ g7,n67,aE,Ne.symm (aW f6' e8),Ne.symm (aW g7 e8),(λ_ _ e=>nomatch e),rfl,rfl,.inr ⟨by decide,rfl⟩,Kd.same t5,sc.new t5 (la T_.hh e6) (la t3 e7)⟩
theorem Ua:(Str.ofString "refused: ":Str)=Ke:=PySem.W.Fast.ofString_ofList ['r','e','f','u','s','e','d',':',' ']
theorem P6:qa.all (λp=>Nat.ble p.2.length 16)=true:=by decide +kernel
theorem JM{sa:Addr}{ns:List Int}{i:Nat}{H:Hp}{σ:L2.St}{m:Int}{D:Ends}(hi:i<30)(hL:F' K C Pt sa ns i σ H)(hm:σ[6]?=some (some (.int m)))(q:∀cH H',F' K C Pt sa ns (i+1) cH H'->D.nx cH H'):
 Ae (sG (lp (Ej K) (pb (aM K C iG 0) [] E0 iY) (lp (rI (λx j=>j≠0) λi j=>V.int (i.fmod j)) (lp (rI (λx j=>j≠0) λi j=>V.int (i.fdiv j)) (eA 6) (tC (V.int 5))) (Cb (λxs H Q=>∃p ys,xs=[.ref p]/\(ft K H p ys\/qB K H p ys)/\Q (.int ys.length) H) (dm (pb (aM K C iG 0) [] E0 iY) iY)))) (Ag K 2 (ma (fj 7) (ma (fj 8) B4))))
  (Ae (B3 (Iy K "list" wJ (eA 2) (dm (eA 7) iY))) (B3 (Iy K "list" wJ (eA 3) (dm (lp (λx y H Q=>∃i j,x=.str i/\y=.str j/\i.length+j.length<=sizeLine/\Q (.str (i++j)) H) (tC (V.str (Str.ofString "refused: "))) (eA 8)) iY)))) D σ H:=by
 obtain⟨ph,ls,ds,pl,pd,pg,gv,Hg,mv,v5,v6,v7,v8,rfl,Xr,PL,h1,h2,n1,h3,n2,n3,sg,k1,k2,hg,Kd,sc⟩:=hL.ex;have hm:v6=some (.int m):=Option.some.inj hm;subst hm;have bl:=PL.cnt;have bd:=PL.Yl;have QU:ph/2<=1:=by lia
 refine fM (Qn (Ar (pk (ki ?_))));refine fH (Hf:=λ_=>none) (λ_ _ e=>nomatch e) .nil rfl Na λv bO H1 T_ rl1=>?_;obtain⟨q1,rv1,rfl,y1,y2⟩:=rl1.oR;refine Ar (Ar ⟨_,rfl,?_⟩);refine N3 (Er (by decide) ?_);refine Se (kx (pk (ki ?_)));refine fH (Hf:=λ_=>none) (λ_ _ e=>nomatch e) .nil rfl Na λv2 cM H2 wG rl2=>?_;obtain⟨q2,rv2,rfl,z1,z2⟩:=rl2.oR;refine ki ⟨q2,rv2,rfl,.inl (.inl (.inl (wG.fh _ _ z1))),?_⟩;have lv:rv2.length=56:=z2.length;rw[lv];refine Er (by decide) ?_;obtain⟨j,hj,ej⟩:∃j:Nat,j<56/\(m.fdiv 5).fmod ((56:Nat):Int)=(j:Int):=by
  have a1:0<=(m.fdiv 5).fmod ((56:Nat):Int):=Int.fmod_nonneg_of_pos _ (by decide);have a2:(m.fdiv 5).fmod ((56:Nat):Int)<((56:Nat):Int):=Int.fmod_lt_of_pos _ (by decide);exact⟨((m.fdiv 5).fmod ((56:Nat):Int)).toNat,by lia,by lia⟩
 rw[ej];have hj':j<qa.length:=hj;obtain⟨pr,ND,hpe⟩:∃pr,pr∈qa/\qa[j]?=some pr:=⟨qa[j],List.getElem_mem _,List.getElem?_eq_getElem hj'⟩;obtain⟨ve,hve,rve⟩:=y2.get (i:=j) (x:=.tup [.str pr.1,.str pr.2]) (by rw[List.getElem?_map,hpe];rfl);obtain⟨tp,tv,rfl,t1,t2⟩:=rve.Sy;obtain⟨u1,u2,rfl,t3,t4⟩:=t2.two;cases t3;cases t4;have D4:=T_.hh.trans wG.hh;refine Qq (xs:=rv1) (.inl (.inl (wG.hh _ _ (T_.fh _ _ y1)))) (wI hve) ?_;refine R9 (aJ.tup (T_.fh.trans wG.hh) t1) rfl ?_;refine⟨_,_,rfl,_,_,rfl,rfl,?_⟩
 dsimp only
 refine fM ?_;have g1:=D4 _ _ h1;have g2:=D4 _ _ h2;have g3:=D4 _ _ h3;have szP:=List.all_eq_true.mp P6 pr ND;have szP:=Nat.le_of_ble_eq_true szP;refine⟨_,rfl,.inl ⟨rfl,_,.inl (.inl g1)⟩,kx ⟨_,rfl,ki ⟨pl,_,_,rfl,rfl,g1,Nat.lt_of_lt_of_le (by rw[List.length_map];lia:(ls.map V.str).length<1000) (cR (Nat.le_refl _)),?_⟩⟩⟩;have w1:upd H2 pl (.lst (ls.map V.str++[V.str pr.1])) pl=some (.lst ((ls++[pr.1]).map V.str)):=by rw[aE,List.map_append];rfl
 have w2:upd H2 pl (.lst (ls.map V.str++[V.str pr.1])) pd=some (.lst (ds.map V.str)):=by rw[ay (Ne.symm n1)];exact g2
 have wk:∀b o,b≠pl->H2 b=some o->upd H2 pl (.lst (ls.map V.str++[V.str pr.1])) b=some o:=λb o n e=>by rw[ay n];exact e
 generalize upd H2 pl (.lst (ls.map V.str++[V.str pr.1]))=H3 at w1 w2 wk
 dsimp only
 refine⟨_,rfl,.inl ⟨rfl,_,.inl (.inl w2)⟩,kx (Ar (N3 ⟨_,rfl,?_⟩))⟩;rw[Ua];refine⟨_,_,rfl,rfl,cR (by have:Ke.length=9:=rfl;lia),ki ⟨pd,_,_,rfl,rfl,w2,Nat.lt_of_lt_of_le (by rw[List.length_map];lia:(ds.map V.str).length<1000) (cR (Nat.le_refl _)),?_⟩⟩;have x1:upd H3 pd (.lst (ds.map V.str++[V.str (Ke++pr.2)])) pd=some (.lst ((ds++[Ke++pr.2]).map V.str)):=by rw[aE,List.map_append];rfl
 have xk:∀b o,b≠pl->b≠pd->H b=some o->upd H3 pd (.lst (ds.map V.str++[V.str (Ke++pr.2)])) b=some o:=λb o na nb e=>by rw[ay nb];exact wk b o na (D4 _ _ e)
 have x2:upd H3 pd (.lst (ds.map V.str++[V.str (Ke++pr.2)])) pl=some (.lst ((ls++[pr.1]).map V.str)):=by rw[ay n1];exact w1
 generalize upd H3 pd (.lst (ds.map V.str++[V.str (Ke++pr.2)]))=H4 at x1 x2 xk;have tb4:qH Pt jC H4:=by
  obtain⟨ps,a1,a2,a3⟩:=Kd.ex;refine⟨ps,xk _ _ (λz=>by rw[z,h1] at a1;cases a1) (λz=>by rw[z,h2] at a1;cases a1) a1,a2,λpos v e=>?_⟩;obtain⟨c',oc,b1,b2,b3⟩:=a3 pos v e;exact⟨c',oc,b1,xk _ _ (λz=>by rw[z,h1] at b2;cases b2) (λz=>by rw[z,h2] at b2;cases b2) b2,b3⟩
 have sc4:Nc K sa pl pd ns H4:=by
  rcases sc with h|⟨a1,a2,a3,a4⟩
  ·exact .inl h
  ·refine .inr ⟨?_,a2,a3,?_⟩
   ·rcases a1 with(h|⟨o,h⟩)|h
    ·exact .inl (.inl (xk _ _ a2 a3 h))
    ·exact .inl (.inr ⟨o,xk _ _ a2 a3 h⟩)
    ·exact .inr h
   ·cases e:H sa with
    |none=>exact absurd e a4
    |some o=>rw[xk _ _ a2 a3 e];nofun
 exact q _ _ ⟨ph,_,_,pl,pd,pg,gv,Hg,mv,v5,_,_,_,rfl,Xr,PL.one Xr ND,x2,x1,n1,xk _ _ n2 n3 h3,n2,n3,(λb o e=>xk b o (λz=>by rw[z,k1] at e;cases e) (λz=>by rw[z,k2] at e;cases e) (sg _ _ e)),k1,k2,hg,tb4,sc4⟩
theorem Ub:[V.str (Str.ofString "let a 3/2"),V.str (Str.ofString "root b 1 x^2 - 2")]=P4.map V.str:=by
 rw[show(Str.ofString "let a 3/2":Str)=_ from PySem.W.Fast.ofString_ofList ['l','e','t',' ','a',' ','3','/','2'],show(Str.ofString "root b 1 x^2 - 2":Str)=_ from PySem.W.Fast.ofString_ofList ['r','o','o','t',' ','b',' ','1',' ','x','^','2',' ','-',' ','2']];rfl
theorem Uc:[V.str (Str.ofString "ok"),V.str (Str.ofString "ok")]=Rv.map V.str:=by
 rw[show(Str.ofString "ok":Str)=_ from PySem.W.Fast.ofString_ofList ['o','k']];rfl
theorem Ud{fa cr:Addr}{Xs:FuncData}(hT:P.given.tree=none)(T:Nm mg)(yG:bo P w K mg base 48 "_law_cell" ["_law_script","_law_k"] (Nb K))(vW:bo P w K mg base 48 "_law_drawn" ["_law_cell_here","_law_k"] Ib)(qN:bo P w K mg base 48 "_law_refused" [] (aM K C iG 0))(Gb:bo P w K mg base 48 "_law_good" [] (aM K C sC 0))(Ue:cq P w K mg base kr true 48 "play" ["text"] (λ_=>M9 K C D Pt))(F:ue K "law" "law" tG fa Xs):D5 P w K mg base kr true 49 fa Xs ["_law_script"] (λ_=>Ic K [(cr,Pt)]):=by
 refine F.pD iP (λs vs H Q E h=>?_) (λbH A outer s H vs Q E iq TB hr0 h=>?_)
 ·obtain⟨sa,ns,rfl,_⟩:=h;rfl
 obtain⟨sa,ns,rfl,hS,hl,hP,q⟩:=h;have hr:=hr0.calm;have hu:(A.deeper (envOfC "law" (ax tG) s.heap.objs.size fa bH)).units<cLine:=by have:=hr0.un;lia
 refine⟨_,vJ.J7 (ag (aw (i:=1) iP.nd rfl (Or.inl rfl) (aB vW hr (aa (aB yG hr (aa (pv 0) (aa ak ah))) (aa ak ah))))
  (ag (aw (i:=2) iP.nd rfl (Or.inl rfl) (bN ah))
  (ag (aw (i:=3) iP.nd rfl (Or.inl rfl) (bN ah))
  (ag (aw (i:=4) iP.nd rfl (Or.inl rfl) (bN ah))
  (ag (bj (aG jE (aH iH (pv 1) ak) ak (aN _))
  (ag (aw (i:=2) iP.nd rfl (Or.inl rfl) (bN (aa a_ (aa a_ ah))))
  (ag (aw (i:=3) iP.nd rfl (Or.inl rfl) (bN (aa a_ (aa a_ ah))))
  (aq (aw (i:=4) iP.nd rfl (Or.inl rfl) (BE Gb hr)))))
  aO)
  (ag (eB PassesOwn.never rfl (zA rfl T.j_ (aa (ba (Ip rfl) rfl T.Mq boot_max (aa ak (aa (ba (qf rfl) rfl T.Di boot_min (aa ak (aa (ba bg rfl T.dF boot_len (aa (pv 0) ah)) ah))) ah))) ah)) (bp (i:=5) iP.nd rfl (Or.inl rfl))
  (ag (aw (i:=6) iP.nd rfl (Or.inl rfl) (aB vW hr (aa (aB yG hr (aa (pv 0) (aa (pv 5) ah))) (aa (aH bF (pv 5) ak) ah))))
  (ag (bj (PW.pt (mB (aG (SN hu) (pv 4) (bN ah) (aN _)) (j4 (aG bI (aH iH (pv 6) ak) ak (aN _)))))
  (ag (aw (i:=2) iP.nd rfl (Or.inl rfl) (aH xq (pv 2) (j6 rfl rfl (iL (own:=["_law_line","_law_found"]) (fr:=[]) (fs:=[]) (by with_unfolding_all rfl) rfl (by decide +kernel) (by decide +kernel) (by exact trivial) (by with_unfolding_all rfl) (by exact trivial)) (iZ (pv 4)) (λ_ _ _ _ _=>(nC (K:=K) (n:=2) rfl rfl (bZ (bp (i:=0) (show List.Nodup (["_law_line","_law_found"]:List Str) by decide +kernel) rfl (Or.inl rfl) (Or.inr rfl)) (bZ (bp (i:=1) (show List.Nodup (["_law_line","_law_found"]:List Str) by decide +kernel) rfl (Or.inl rfl) (Or.inr rfl)) g_)) rfl rfl)) (λ_ _ _ _ _=>(pv 0)))))
  (ag (aw (i:=3) iP.nd rfl (Or.inl rfl) (aH xq (pv 3) (Cv rfl (iL (own:=["_law_line","_law_found"]) (fr:=[]) (fs:=[]) (by with_unfolding_all rfl) rfl (by decide +kernel) (by decide +kernel) (by exact trivial) (by with_unfolding_all rfl) (by exact trivial)) (iZ (pv 4)) (λ_ _ _ _ _=>(nC (K:=K) (n:=2) rfl rfl (bZ (bp (i:=0) (show List.Nodup (["_law_line","_law_found"]:List Str) by decide +kernel) rfl (Or.inl rfl) (Or.inr rfl)) (bZ (bp (i:=1) (show List.Nodup (["_law_line","_law_found"]:List Str) by decide +kernel) rfl (Or.inl rfl) (Or.inr rfl)) g_)) rfl rfl)) (λ_ _ _ _ _=>(aG oJ (pv 1) a_ (aN _))) (λ_ _ _ _ _=>(pv 1)))))
  (aq (aw (i:=4) iP.nd rfl (Or.inl rfl) (bN ah)))))
  aO)
  (ag (uq (aD aZ (BE qN hr) (aH iH (aH (cV ⟨hT,⟨_,_,rfl,rfl,rfl,rfl,rfl⟩,hr.py⟩) (pv 6) ak) (ba bg rfl T.dF boot_len (aa (BE qN hr) ah))) (λ_ _=>rfl)) (qP rfl (bZ (bp (i:=7) iP.nd rfl (Or.inl rfl)) (bZ (bp (i:=8) iP.nd rfl (Or.inl rfl)) g_))))
  (ag (gC (eJ PySem.F.plainAttrs_list PySem.F.slot_list_append PySem.F.type_list_append dh (pv 2) (aa (pv 7) ah)))
  (aq (gC (eJ PySem.F.plainAttrs_list PySem.F.slot_list_append PySem.F.type_list_append dh (pv 3) (aa (aH gI a_ (pv 8)) ah)))))))))
  (aq (aC (kI (OC hu) (cj (E:=E0) Ue hr0 fA (aa (eJ PySem.F.plainAttrs_str PySem.F.slot_str_join PySem.F.type_str_join Oz a_ (aa (pv 2) ah)) ah)) (pv 3) (aN _)))))))))),?_⟩;obtain⟨ps0,hP0⟩:∃ps,H Pt=some (.vZ ps):=⟨_,hP _ (List.mem_singleton.mpr rfl)⟩;have tb:qH Pt jC H:=⟨#[],hP _ (List.mem_singleton.mpr rfl),trivial,λpos v e=>nomatch e⟩;have Xt:(∀H',ft K H' sa (ns.map V.int))\/H sa≠none:=by
  rcases hS with(h|⟨o,h⟩)|h
  ·exact .inr (by rw[h];nofun)
  ·exact .inr (by rw[h];nofun)
  ·exact .inl λH'=>.inr h
 refine fM (kh ?_);walk_at "sf";refine⟨sa,ns,0,rfl,hS,hl,by lia,λc H1 s1=>?_⟩;walk_at "sf";refine⟨c,9000,rfl,λm hm hb=>?_⟩
 dsimp only
 refine fM (kh (xr (ki ⟨Nat.zero_le _,?_⟩)));intro p1 e1
 dsimp only
 refine fM (kh (xr (ki ⟨Nat.zero_le _,?_⟩)));intro p2 e2
 dsimp only
 refine fM (kh (xr (ki ⟨Nat.zero_le _,?_⟩)));intro p3 e3
 dsimp only
 refine Ie (λcH H'=>F' K C Pt sa ns 0 cH H') (λD' U5=>?_) (λcH H' hL=>?_)
 ·refine qI ?_;walk_at "sf";have Pe:p2≠p1:=λz=>by rw[z,aE] at e2;cases e2
  have Tw:p3≠p2:=λz=>by rw[z,aE] at e3;cases e3
  have Tv:p3≠p1:=λz=>by rw[z,ay (Ne.symm Pe),aE] at e3;cases e3
  have S3:aJ H1 (upd (upd (upd H1 p1 (.lst [])) p2 (.lst [])) p3 (.lst [])):=(aJ.new e1 _).trans ((aJ.new e2 _).trans (aJ.new e3 _));have f1:upd (upd (upd H1 p1 (.lst [])) p2 (.lst [])) p3 (.lst []) p1=some (.lst []):=by rw[ay (Ne.symm Tv),ay (Ne.symm Pe),aE]
  have f2:upd (upd (upd H1 p1 (.lst [])) p2 (.lst [])) p3 (.lst []) p2=some (.lst []):=by rw[ay (Ne.symm Tw),aE]
  have f3:upd (upd (upd H1 p1 (.lst [])) p2 (.lst [])) p3 (.lst []) p3=some (.lst []):=aE;have e1':=la s1 e1;have Y2:H p2=none:=by rw[ay Pe] at e2;exact la s1 e2
  generalize upd (upd (upd H1 p1 (.lst [])) p2 (.lst [])) p3 (.lst [])=Ha at S3 f1 f2 f3;have SA:=s1.trans S3;have tbA:=tb.same SA;refine Er (by decide) ?_;walk_at "sf";refine NY (λc=>?_) (λc=>?_)
  ·refine fM (kh (xr ?_));refine kx (N3 (kx (N3 (ki ⟨cR (by decide),?_⟩))));intro p4 e4
   dsimp only
   refine fM (kh (xr ?_));refine kx (N3 (kx (N3 (ki ⟨cR (by decide),?_⟩))));intro p5 e5
   dsimp only
   refine kh (pk (ki ?_));have n45:p5≠p4:=λz=>by rw[z,aE] at e5;cases e5
   have s4:=aJ.new e4 (.lst [V.str (Str.ofString "let a 3/2"),V.str (Str.ofString "root b 1 x^2 - 2")]);have s5:=aJ.new e5 (.lst [V.str (Str.ofString "ok"),V.str (Str.ofString "ok")]);rw[Ub,Uc] at*;have g4:upd (upd Ha p4 (.lst (P4.map V.str))) p5 (.lst (Rv.map V.str)) p4=some (.lst (P4.map V.str)):=by rw[ay (Ne.symm n45),aE]
   have g5:upd (upd Ha p4 (.lst (P4.map V.str))) p5 (.lst (Rv.map V.str)) p5=some (.lst (Rv.map V.str)):=aE;have s45:=s4.trans s5;have z5:Ha p5=none:=by rw[ay n45] at e5;exact e5
   generalize upd (upd Ha p4 (.lst (P4.map V.str))) p5 (.lst (Rv.map V.str))=Hb at s45 g4 g5;refine fH (Hf:=λ_=>none) (λ_ _ e=>nomatch e) .nil rfl Xl λv bL H' st rl=>?_;obtain⟨pg,gv,rfl,y1,y2⟩:=rl.oR;have k4:bL p4=none:=st.nn p4 rfl (by rw[g4];nofun);have k5:bL p5=none:=st.nn p5 rfl (by rw[g5];nofun);have SB:=SA.trans (s45.trans st.hh);refine U5 _ _ ⟨1,P4,Rv,p4,p5,pg,gv,bL,_,_,_,_,_,rfl,by decide,Pl.start,st.hh _ _ g4,st.hh _ _ g5,Ne.symm n45,st.fh _ _ y1,(λz=>by rw[z,k4] at y1;cases y1),(λz=>by rw[z,k5] at y1;cases y1),st.fh,k4,k5,.inl ⟨rfl,.lst y1 y2⟩,tb.same SB,Rw hS Xt SB (la SA e4) (la SA z5)⟩
  ·refine z9 ?_;exact U5 _ _ ⟨0,[],[],p1,p2,p3,[],λ_=>none,_,_,_,_,_,rfl,by decide,Pl.zero,f1,f2,Ne.symm Pe,f3,Tv,Tw,(λ_ _ e=>nomatch e),rfl,rfl,.inr ⟨by decide,rfl⟩,tbA,Rw hS Xt SA e1' Y2⟩
 ·refine fM ?_;have hL0:=hL;obtain⟨ph0,ls0,ds0,pl0,pd0,pg0,gv0,Hg0,mv0,w5,w6,w7,w8,rfl,_,_,_,_,_,_,_,_,_,_,_,_,_,sc0⟩:=hL.ex;have sq0:=Rx sc0;walk_at "sf";refine⟨sa,_,rfl,.inl sq0,?_⟩;walk_at "sf";refine⟨30,_,rfl,?_⟩;walk_at "sf";refine⟨1,_,rfl,?_⟩;walk_at "sf";rw[List.length_map];generalize hn:(if(if((ns.length:Nat):Int)<30 then((ns.length:Nat):Int) else 30)>1 then(if((ns.length:Nat):Int)<30 then((ns.length:Nat):Int) else 30) else 1)=nn;have hnn:1<=nn/\nn<=30:=by rw[<-hn];split<;>split<;>lia
  refine⟨nn,rfl,by lia,by lia,?_⟩;refine Io (λi σ H=>F' K C Pt sa ns i σ H) hL0 (λi bQ H2 hi hI=>?_) (λbQ H2 hI=>?_)
  ·have aag:i<30:=by lia
   obtain⟨ph,ls,ds,pl,pd,pg,gv,Hg,mv,v5,v6,v7,v8,rfl,Xr,PL,h1,h2,n1,h3,n2,n3,sg,k1,k2,hg,Kd,sc⟩:=hI.ex;refine GQ ?_;refine fM (kh ?_);walk_at "sf";refine⟨sa,ns,_,rfl,Rx sc,hl,by lia,λc H3 s3=>?_⟩;walk_at "sf";refine⟨c,_,rfl,λm hm hb=>?_⟩
   dsimp only
   refine Ie (λcH H'=>F' K C Pt sa ns i cH H'/\cH[6]?=some (some (.int m))) (λD' U5=>?_) (λcH H' hG=>JM aag hG.1 hG.2 λqh H4 h4=>h4);refine qI ?_;walk_at "sf";intro p0 e0;have s4:=s3.trans (aJ.new e0 (.lst []));refine⟨pg,p0,gv,rfl,rfl,.inl (.inl (s4 _ _ h3)),.inl (.inl aE),_,rfl,?_⟩;generalize upd H3 p0 (.lst [])=H4 at s4;have nv:F' K C Pt sa ns i [some (.ref sa),some mv,some (.ref pl),some (.ref pd),some (.ref pg),some (.int (0+(i:Int))),some (.int m),v7,v8] H4:=
    ⟨ph,ls,ds,pl,pd,pg,gv,Hg,mv,_,_,_,_,rfl,Xr,PL,s4 _ _ h1,s4 _ _ h2,n1,s4 _ _ h3,n2,n3,sg.trans s4,k1,k2,hg,Kd.same s4,sc.same s4⟩
   rcases hg with⟨rfl,rg⟩|⟨_,rfl⟩
   ·have jJ:gv.isEmpty=false:=by
     obtain⟨p',gv',ep,y1,y2⟩:=rg.oR;cases ep;have:=(sg _ _ y1).symm.trans h3;cases this
     have:=y2.length;cases gv with
     |nil=>cases this
     |cons _ _=>rfl
    rw[jJ];refine mR ?_;walk_at "sf";refine Er (by decide) ?_;walk_at "sf";refine NY (λc=>?_) (λc=>?_)
    ·exact Ga PL (by lia) (s4 _ _ h1) (s4 _ _ h2) (sg.trans s4) k1 k2 rg (Kd.same s4) (sc.same s4) λzN U4 pg' H' hL=>U5 _ _ ⟨hL,rfl⟩
    ·exact U5 _ _ ⟨nv,rfl⟩
   ·exact U5 _ _ ⟨nv,rfl⟩
  ·obtain⟨ph,ls,ds,pl,pd,pg,gv,Hg,mv,v5,v6,v7,v8,rfl,Xr,PL,h1,h2,n1,h3,n2,n3,sg,k1,k2,hg,Kd,sc⟩:=hI.ex
   dsimp only
   refine oM (Ar (pk (kx ?_)));refine⟨rfl,kx ⟨_,rfl,ki ?_⟩⟩;rw[M_];have hl1:=PL.len;have R0:=PL.cnt;have hd:ph/2<=1:=by lia
   refine⟨JJ,pl,ls,rfl,rfl,.inl (.inl h1),by rw[show JJ.length=1 from rfl];lia,ki ?_⟩;have ej:Txt.join JJ ls=Str.join ⟨#[10]⟩ ls:=beq_iff_eq.mp (join_closes rfl);have GO:Txt.split (Txt.join JJ ls) JJ=ls:=by rw[ej];exact EN 10 (λz=>by have:=PL.low;rw[z] at this;simp at this;lia) PL.free
   refine⟨Txt.join JJ ls,ds,JL ph,rfl,Kd,?_,by rw[GO];lia,by rw[GO];exact PL.run,λp H' kp D6 hp=>?_⟩
   ·have:=CT 10 ls;rw[ej];exact Nat.le_trans this (by lia)
   ·exact⟨_,rfl,p,pd,ds,rfl,rfl,.inl (.inl hp),.inl (.inl (kp _ _ trivial h2)),q H'⟩
end
theorem bT{P:Program}{w:World}{K:Frag}{mg:Str->Option Value}{base:Heap}{CX:vL}{cm:Bool}{j k:Nat}{x:Str}{ps:List Str}{sp:Shared->Sp}(F:cq P w K mg base CX cm j x ps sp)(h:j<=k:=by decide):cq P w K mg base CX cm k x ps sp:=
 let⟨f,fd,a,b,c,d⟩:=F.ex
 ⟨f,fd,⟨a.len,λA outer s H args us vs Q E hr=>a.run A outer s H args us vs Q E (hr.mono h)⟩,b,c,d⟩
theorem yH{P:Program}{w:World}{K:Frag}{mg:Str->Option Value}{base:Heap}{x:Str}{st:Stmt}{N ps:List Str}{k:Nat}{sp:Sp}(D:aU K mg x st ps)(S:aI N ps (ax st))(h:∀vs H Q E,¬sp vs H Q E):bo P w K mg base (k+1) x ps sp:=
 D.ok S (λvs H Q E z=>(h vs H Q E z).elim) λf bH A outer s H vs Q E hr z=>(h vs H Q E z).elim
theorem never{K:Frag}{C:Addr}{m:Nat}:∀vs H Q E,¬aM K C (λ_=>none) m vs H Q E:=λvs H Q E⟨_,_,_,_,_,_,z,_⟩=>nomatch z
theorem aah{K:Frag}{mg:Str->Option Value}{x:Str}{st:Stmt}{ps:List Str}{c:Addr}(D:Ph K mg x st ps c):aU K mg x st ps:=
 let⟨f,fd,a,b,e,_⟩:=D.ex
 ⟨f,fd,a,b,e⟩
theorem P7{P:Program}{w:World}{K:Frag}{mg:Str->Option Value}{base:Heap}{a:Ad}{fa cr Pt C D fI fB:Addr}{f:Nat->Addr}{fd:Nat->FuncData}{Xs fdI uk:FuncData}(T:Nm mg)(hT:P.given.tree=none)(dB:∃uG,mg "GREATEST_DEGREE"=some uG/\RelV (.int 12) uG)(bx:∃uG,mg "GREATEST_POWER"=some uG/\RelV (.int 12) uG)(cT:∃uG,mg "GREATEST_WEIGHT"=some uG/\RelV (.int 12) uG)(eG:∃uG,mg "MOST_FIGURES"=some uG/\RelV (.int 12) uG)(nr:Ta P w K mg C "FORMS" m7)(k_:Ta P w K mg C "COUNTS" jR)(RC:Rc K mg C fI fdI)(CL:A_ K mg a)(IN:Z3 K a fB uk)(hx:∀i j,i<5->j<5->exmOne K (.ref (a.c i)) (.ref (a.c j))=some (i==j))(DC:MW K mg D f fd)(F:ue K "law" "law" tG fa Xs)(vX:Ph K mg "result_of" cX ["one","other","poly_of","pair_of"] cr)(vD:aU K mg "common_divisor" hX ["one","other"])(Ug:aU K mg "sign" E_ ["number"])(P8:aU K mg "power" A4 ["number","many"])(P9:aU K mg "ratio" A5 ["top","under"])(Uh:aU K mg "plus" Fb ["one","other"])(P_:aU K mg "times" A6 ["one","other"])(Nd:aU K mg "middle" x9 ["one","other"])(Gd:aU K mg "order_of" q_ ["one","other"])(JN:aU K mg "trimmed" uO ["row"])(Nf:aU K mg "degree" x_ ["poly"])(P':aU K mg "added" A7 ["one","other"])(BH:aU K mg "multiplied" nJ ["one","other"])(Ng:aU K mg "scaled" ya ["poly","factor"])(BJ:aU K mg "derivative" nK ["poly"])(JO:aU K mg "content" uP ["poly"])(DT:aU K mg "primitive" pG ["poly"])(Ge:aU K mg "value_at" rj ["poly","point"])(Nh:aU K mg "spread" yb ["value","point"])(JP:aU K mg "divided" uQ ["poly","divisor"])(JQ:aU K mg "largest" uR ["poly"])(BK:aU K mg "divisor_of" nM ["one","other"])(Gf:aU K mg "quotient" rk ["one","other"])(zr:aU K mg "square_free" mF ["poly"])(Gg:aU K mg "composed" rm ["poly","top","under"])(DU:aU K mg "height_at" pH ["poly","top","under"])(JR:aU K mg "sign_at" uS ["poly","given"])(BL:aU K mg "changes_in" nN ["row"])(DV:aU K mg "remainder" pI ["one","other"])(Gh:aU K mg "chain_of" rn ["free"])(BN:aU K mg "changes_at" nO ["chain","given"])(DW:aU K mg "is_within" pJ ["free","reach"])(Gi:aU K mg "bound_of" rp ["free"])(ub:aU K mg "pair_around_all" i' ["free"])(Ni:aU K mg "marked" yd ["chain","given"])(Gj:aU K mg "isolated" rq ["poly"])(BO:aU K mg "stretch_of" nQ ["pair"])(yI:aU K mg "parts_needed" lB ["stretch","width"])(yJ:aU K mg "part_between" lC ["free","stretch","parts","near","far"])(JS:aU K mg "guessed" uT ["free","stretch","parts"])(Nj:aU K mg "halved" ye ["free","stretch"])(Gk:aU K mg "narrowed" rA ["free","pair","width"])(Gm:aU K mg "is_alone" rB ["free","pair"])(Gn:aU K mg "of_ratio" rC ["given"])(DX:aU K mg "number_in" pM ["free","pair","weight"])(Xu:aU K mg "nth" Mp ["poly","k"])(Gp:aU K mg "as_ratio" rD ["number"])(DY:aU K mg "weight_of" pN ["number"])(JT:aU K mg "against" uV ["number","given"])(Gq:aU K mg "are_same" rF ["one","other"])(Nk:aU K mg "parted" yf ["one","other"])(Gr:aU K mg "compared" rG ["one","other"])(JU:aU K mg "sign_of" uW ["number"])(zt:aU K mg "floor_times" mH ["number","scale"])(Gs:aU K mg "floor_of" rH ["number"])(JV:aU K mg "falling" uX ["poly","scale"])(BP:aU K mg "power_sums" nR ["row","many"])(uc:aU K mg "falling_of_sums" ja ["sums"])(ud:aU K mg "with_power_sums" jb ["sums","scale"])(vE:aU K mg "sums_by_powers" jO ["one","other"])(qb:aU K mg "products_by_powers" gL ["one","other"])(vF:aU K mg "sums_of" qj ["one","other"])(mM:aU K mg "products_of" j9 ["one","other"])(yK:aU K mg "opposites_of" lG ["poly"])(zu:aU K mg "inverses_of" mI ["poly"])(Ui:aU K mg "near" Fg ["number","width"])(JW:aU K mg "located" kX ["free","pair_by"])(wD:aU K mg "weight_of_two" kB ["one","other"])(yL:aU K mg "pair_of_sums" lI ["one","other"])(sD:aU K mg "pair_of_products" iO ["one","other"])(yM:aU K mg "added_to" rK ["one","other"])(Gu:aU K mg "opposite" rL ["number"])(Nl:aU K mg "less" Fh ["one","other"])(oP:aU K mg "multiplied_by" iI ["one","other"])(qc:aU K mg "pair_beside_nought" gM ["number"])(JX:aU K mg "inverse" uY ["number"])(Uj:aU K mg "over" Fi ["one","other"])(sE:aU K mg "power_of" nS ["number","many"])(JY:aU K mg "root_of" uZ ["number","many"])(oF:aU K mg "figures_of" kN ["number"])(BQ:aU K mg "whole_text" nT ["number"])(BR:aU K mg "ratio_text" nU ["given"])(JZ:aU K mg "decimal" u5 ["number","digits"])(vG:aU K mg "end_of_figures" jP ["text","start"])(vH:aU K mg "number_between" jQ ["text","start","end"])(yN:aU K mg "size_between" lL ["text","start","end"])(Gv:aU K mg "power_at" rN ["text","start"])(J0:aU K mg "part_at" u6 ["text","start","above"])(J4:aU K mg "turn_at" u7 ["text","start"])(Uk:aU K mg "read" Fj ["text"])(Gw:aU K mg "under_at" rO ["text","start","top"])(BS:aU K mg "read_ratio" nW ["text"])(Ul:aU K mg "fits" Fl ["kind","word"])(Gx:aU K mg "words_of" rP ["row"])(Um:aU K mg "made" u9 ["word","given"])(Uo:aU K mg "told" Fm ["word","given"])(qd:aU K mg "read_unless_nought" gO ["text"])(Up:aU K mg "play" Fp ["text"])(Gy:aU K mg "_law_cell" rQ ["_law_script","_law_k"])(DZ:aU K mg "_law_drawn" pP ["_law_cell_here","_law_k"])(zv:aU K mg "_law_refused" mJ [])(Gz:aU K mg "_law_good" rR [])(hcr:CodeHd base cr Pt)(B:SF.BMain base mg):D5 P w K mg base kr true 49 fa Xs ["_law_script"] (λ_=>Ic K [(cr,Pt)]):=by
 have BI:Bx K mg (a.c 3) fB uk:=⟨IN.cls,IN.fn,(CL.all (i:=3) (by decide)).2.1,CL.m3,IN.b2⟩;have oG:=Mt (P:=P) (w:=w) (base:=base) CL IN;have j0:=O5 (P:=P) (w:=w) (base:=base) RC;have fJ:=tH (P:=P) (w:=w) (base:=base) (C:=C) T vD;have nY:=O7 (P:=P) (w:=w) (base:=base) (C:=C) Ug;have nZ:=Mw (P:=P) (w:=w) (base:=base) (C:=C) hT P8;have iJ:=Mx hT (fJ.mono) P9;have Ba:=O8 (iJ.mono) Uh;have qk:=My (iJ.mono) P_;have tI:=Jp (iJ.mono) Nd;have jS:=Dj (nY.mono) Gd;have kY:=Fv (P:=P) (w:=w) (base:=base) (C:=C) T JN;have gQ:=Jq (P:=P) (w:=w) (base:=base) (C:=C) T Nf;have wX:=Mz T (kY.mono) P';have je:=za (P:=P) (w:=w) (base:=base) (C:=C) T BH;have tJ:=Jr (P:=P) (w:=w) (base:=base) (C:=C) Ng;have jf:=zb (P:=P) (w:=w) (base:=base) (C:=C) T BJ;have ql:=Fw (fJ.mono) JO;have di:=Bh hT (ql.mono) DT;have n0:=Dk (P:=P) (w:=w) (base:=base) (C:=C) T Ge;have tK:=Jt (P:=P) (w:=w) (base:=base) (C:=C) hT Nh;have m8:=Fx (P:=P) (w:=w) (base:=base) (C:=C) T hT JP;have qm:=Fy (P:=P) (w:=w) (base:=base) (C:=C) T JQ;have jh:=zc T (m8.mono) (tK.mono) (di.mono) (n0.mono) (fJ.mono) (qm.mono) BK;have n5:=Dm (di.mono) (m8.mono) Gf;have gu:=yt (jf.mono) (jh.mono) (n5.mono) zr;have fb:=Dn T (je.mono) (tJ.mono) (wX.mono) Gg;have iW:=Bi (P:=P) (w:=w) (base:=base) (C:=C) T DU;have jU:=FA (iW.mono) (nY.mono) JR;have jj:=zd (nY.mono) BL;have mw:=Bj T (kY.mono) (nY.mono) DV;have n8:=Dp T hT (nZ.mono) (mw.mono) (jf.mono) Gh;have kP:=ze (jU.mono) (jj.mono) BN;have mx:=Bk (P:=P) (w:=w) (base:=base) (C:=C) T DW;have n_:=Dr (mx.mono) Gi;have gF:=si (iJ.mono) (n_.mono) ub;have tL:=Ju (kP.mono) Ni;have lM:=Dt dB (tI.mono) (tL.mono) (gF.mono) (n8.mono) (gu.mono) (gQ.mono) Gj;have ic:=zf (P:=P) (w:=w) (base:=base) (C:=C) BO;have jm:=wu (P:=P) (w:=w) (base:=base) (C:=C) hT yI;have gR:=wx (iW.mono) (nY.mono) yJ;have qp:=FE T hT (gR.mono) (iW.mono) JS;have tM:=Jv (gR.mono) Nj;have iR:=Du T (iJ.mono) (jm.mono) (tM.mono) (qp.mono) (ic.mono) Gk;have oa:=Dw T (jj.mono) (fb.mono) (ic.mono) Gm;have fg:=Dx (P:=P) (w:=w) (base:=base) (C:=C) RC (j0.mono (by decide)) Gn;have ko:=Bm hT RC (j0.mono (by decide)) (jU.mono) (jS.mono) (fg.mono) (iJ.mono) (iR.mono) DX;have HL:=Tj (a:=a) T (gQ.mono) (ko.mono) (gu.mono) (lM.mono) CL Xu;have gc:=Dy (P:=P) (w:=w) (base:=base) (C:=C) RC Gp;have gT:=Bo (P:=P) (w:=w) (base:=base) (C:=C) RC DY;have jW:=FF RC (jU.mono) (jS.mono) JT;have og:=Dz RC (jU.mono) (jh.mono) (jS.mono) Gq;have tN:=Jx RC (qk.mono) (iR.mono) (jW.mono) Nk;have oh:=DA (og.mono) (tN.mono) (gc.mono) (jW.mono) Gr;have iX:=FH (jW.mono) JU;have iB:=yv hT RC (iJ.mono) (jW.mono) (iR.mono) zt;have oi:=DB (iB.mono) Gs;have m9:=FI (P:=P) (w:=w) (base:=base) (C:=C) T hT JV;have jo:=zg (P:=P) (w:=w) (base:=base) (C:=C) T BP;have gG:=sk (P:=P) (w:=w) (base:=base) (C:=C) T hT uc;have eQ:=sq T (di.mono) (gG.mono) ud;have fE:=tR T hT (eQ.mono) (je.mono) (m9.mono) (jo.mono) (fJ.mono) (gQ.mono) vE;have dN:=oV T (eQ.mono) (m9.mono) (jo.mono) (gQ.mono) qb;have oj:=DE (gQ.mono) ((yH (k:=0) vF rJ never).mono) (fE.mono) (fb.mono) (di.mono) vF;have qq:=FJ (gQ.mono) (oj.mono) (fE.mono) (fb.mono) (di.mono) vF;have jr:=wy (gQ.mono) ((yH (k:=0) mM lF never).mono) (dN.mono) (fb.mono) (di.mono) mM;have iD:=yw (gQ.mono) (jr.mono) (dN.mono) (fb.mono) (di.mono) mM;have js:=wz (fb.mono) (di.mono) yK;have kb:=yx (fb.mono) (di.mono) zu;have yq:=O_ RC (iR.mono) Ui;have jt:=wA (Ba.mono) yL;have eg:=qG T (iJ.mono) (ic.mono) sD;have lR:=DF RC (j0.mono (by decide)) (gT.mono) (js.mono) Gu;have eS:=oW RC (nY.mono) (qk.mono) (yq.mono) qc;have m_:=FK (a:=a) RC (j0.mono (by decide)) (gT.mono) (kb.mono) (iJ.mono) (eS.mono) (iX.mono) CL JX;have kc:=yz (P:=P) (w:=w) (base:=base) (C:=C) T hT ((yH (k:=0) oF cN never).mono) oF;have ig:=zi (P:=P) (w:=w) (base:=base) (C:=C) T hT (kc.mono) oF;have ju:=zj T (ig.mono) BQ;have kQ:=zk (ig.mono) (ju.mono) BR;have qr:=FL T (ig.mono) (nZ.mono) (iB.mono) JZ;have dz:=tS (P:=P) (w:=w) (base:=base) (C:=C) T vG;have dA:=tT (P:=P) (w:=w) (base:=base) (C:=C) (a:=a) T eG (j0.mono (by decide)) BI oG vH;have jw:=wB (a:=a) (j0.mono (by decide)) (bT dA) BI oG yN;have oo:=DG (a:=a) bx (j0.mono (by decide)) (bT dA) (dz.mono) BI oG Gv;have qu:=FN (a:=a) (j0.mono (by decide)) (bT oo) (bT jw) (dz.mono) BI oG J0;have qv:=FP (P:=P) (w:=w) (base:=base) (C:=C) (a:=a) (j0.mono (by decide)) BI oG J4;have Be:=Pa (a:=a) T bx (bT qv) (kY.mono) (bT qu) Uk;have oq:=DH (a:=a) (j0.mono (by decide)) (fJ.mono) (bT dA) (dz.mono) BI oG Gw;have kR:=zl (a:=a) T (j0.mono (by decide)) (bT oq) (bT dA) (dz.mono) BI oG BS;have Bf:=Pb (P:=P) (w:=w) (base:=base) (C:=C) T k_ Ul;have ow:=DI (a:=a) T nr (Bf.mono) CL Gx;have Bg:=Pd T (kQ.mono) (gc.mono) (qr.mono) (oi.mono) (ju.mono) (iX.mono) (oh.mono) (lM.mono) Uo;have eU:=oX (a:=a) (bT Be) CL qd;have J5:=FY yq.mono oa.mono qk.mono JW;have Xv:=vo (P:=P) (w:=w) (base:=base) CL cT gT.mono wD;have Ry:=Bs (P:=P) (w:=w) (base:=base) RC (j0.mono (by decide)) Xv gc.mono gu.mono ko.mono J5 vX hcr B;have Uq:=zp (P:=P) (w:=w) (base:=base) RC (j0.mono (by decide)) Xv gc.mono (aah vX);have Xw:=DJ Ry qq.mono jt.mono yM;have Ur:=Po Xw lR.mono Nl;have Xx:=vx Ry iD.mono eg.mono iX.mono fg.mono oP;have iK:=tX (a:=a) Uq iD.mono eg.mono iX.mono fg.mono oP;have GA:cq P w K mg base (f9 P w) true 1 "added_to" ["one","other"] (λ_=>dJ K C a.c sv 2):=Bu (k:=0) vU yM;have Us:cq P w K mg base (f9 P w) true 1 "less" ["one","other"] (λ_=>dJ K C a.c F4 2):=Bu (k:=0) HI Nl;have Ut:cq P w K mg base (f9 P w) true 1 "power_of" ["number","many"] (λ_=>dJ K C a.c (λ_=>none) 2):=Bu (k:=0) cz sE;have my:=By (P:=P) (w:=w) (base:=base) (C:=C) (a:=a) T hT (bT Ut) (bT iK) (nZ.mono) (fg.mono) (gc.mono) sE;have oE:=DK (P:=P) (w:=w) (base:=base) (C:=C) (a:=a) T hT (bT my) (bT iK) (nZ.mono) (fg.mono) (gc.mono) sE;have Bv:=Pr (P:=P) (w:=w) (base:=base) (C:=C) (a:=a) (bT m_) (bT iK) Uj;have qy:=F7 (P:=P) (w:=w) (base:=base) (C:=C) (a:=a) cT (fg.mono) (gT.mono) (iX.mono) CL JY;have Bw:=Pu (P:=P) (w:=w) (base:=base) (C:=C) (a:=a) (Pt:=Pt) Ur Xx (bT qy) (bT oE) (bT m_) (lR.mono) (bT Bv) (bT iK) (bT Us) (bT GA) (bT HL) (fg.mono) Um;have zw:=yF (P:=P) (w:=w) (base:=base) (C:=C) zv;have GB:=DQ (P:=P) (w:=w) (base:=base) (C:=C) Gz;have Xy:=TQ (P:=P) (w:=w) (base:=base) (C:=C) CL DC;have Xz:=TU T DC k_ Xy (bT kR) (bT eU);have Uu:=PF (Pt:=Pt) T DC nr Xz (bT ow) (Bg.mono) (bT Bw);have XB:=JH T CL DC hx Uu;have XC:=T4 (P:=P) (w:=w) (base:=base) DC;have Uv:=P1 T DC XC XB Up;have Uw:=DS (P:=P) (w:=w) (base:=base) T Gy;have Qa:=BD (P:=P) (w:=w) (base:=base) DZ;exact Ud hT T (Uw.mono) (Qa.mono) (zw.mono) (GB.mono) Uv F
theorem XD{K:PySem.W.Frag}{h:Heap}{mg:Str->Option Value}{C fI:Addr}{od an:Option Addr}{vM:Array (Option Value)}{kV doc pm bH ct:Value}(X:K.In h)(G:h.Ns mainGlobals mg)(e:PySem.W.nsIn K mainGlobals "Root"=some (some (.ref C)))(o2:PySem.W.findIn K (.ref C) "__init__"=some (some (.ref fI)))(lk:K.lookup fI=some ⟨.type "function",od,.func (PySem.W.fnOf "__init__" "Root.__init__" (fu rS) (dc rS) (ax rS) .none kV doc pm an bH ct),vM⟩)(iq:PySem.W.codeIn K bH "Root.__init__"=true)(o1:PySem.W.makesIn K C=true)(o3:PySem.W.isFn K (.ref fI)=true)(o4:PySem.W.keepIn K (.ref C)=true)(cl:B9 K C)(n1:PySem.W.findIn K (.ref C) "poly"=some none)(n2:PySem.W.findIn K (.ref C) "pair"=some none)(n3:PySem.W.findIn K (.ref C) "weight"=some none):∃fI fd,Rc K mg C fI fd:=by
 refine⟨fI,_,⟨PySem.W.mg_of X G e,⟨o1,o2,o3,o4⟩,cl,n1,n2,n3,⟨.type "function",od,.none,kV,doc,pm,an,bH,ct,vM,rfl,lk,iq⟩,λs us X hl=>?_⟩⟩;have h2:us.length=4:=by simpa using hl
 match us,h2 with
 |[u1,u2,u3,u4],_=>exact BindsTo.of_eq rfl
theorem Ux{K:Frag}{h:Heap}{mg:Str->Option Value}{cf c0 c1 c2 c3 c4:Addr}(X:K.In h)(G:h.Ns mainGlobals mg)(ef:nsIn K mainGlobals "FootError"=some (some (.ref cf)))(e0:nsIn K mainGlobals "NoRatio"=some (some (.ref c0)))(e1:nsIn K mainGlobals "NoNumber"=some (some (.ref c1)))(e2:nsIn K mainGlobals "TooGreat"=some (some (.ref c2)))(e3:nsIn K mainGlobals "BadText"=some (some (.ref c3)))(e4:nsIn K mainGlobals "BadRow"=some (some (.ref c4)))(ok:Yd K ⟨cf,c0,c1,c2,c3,c4⟩=true):A_ K mg ⟨cf,c0,c1,c2,c3,c4⟩:=
 ⟨mg_of X G ef,mg_of X G e0,mg_of X G e1,mg_of X G e2,mg_of X G e3,mg_of X G e4,ok⟩
theorem Uy{K:Frag}{cf c0 c1 c2 c3 c4 fI Td:Addr}{od an:Option Addr}{vM:Array (Option Value)}{kV doc pm bH ct:Value}{ot:Obj}{t:Tok}{n:Nat}{mg:Str->Option Value}(_C:A_ K mg ⟨cf,c0,c1,c2,c3,c4⟩)(_e:findIn K (.ref c3) "__init__"=some (some (.ref fI)))(lk:K.lookup fI=some ⟨.type "function",od,.func (fnOf "__init__" "BadText.__init__" (fu nX) (dc nX) (ax nX) (.ref Td) kV doc pm an bH ct),vM⟩)(iq:codeIn K bH "BadText.__init__"=true)(ht:K.lookup Td=some ot)(hs:ot.data=.seq #[.int 0 t] n)(o1:EX K c3 UW "ValueError.__new__" fI=true)(o2:wQ K c3=true)(o3:findIn K (.ref c3) "__setattr__"=some (some (.builtin "object.__setattr__")))(o4:mroIn K c3 (.type "object")=some true)(o5:specialIn K (.ref cf) "__getattribute__"=some (some (.builtin "type.__getattribute__")))(o6:readsIn K cf (.type "type")=true)(o7:findCls K (.ref cf) (.type "type") "__init__"=some (.val (.builtin "ValueError.__init__"))):
 ∃fI' fd,Z3 K ⟨cf,c0,c1,c2,c3,c4⟩ fI' fd:=by
 refine⟨fI,_,⟨.type "function",od,.ref Td,kV,doc,pm,an,bH,ct,vM,rfl,lk,iq⟩,⟨t,λs us X hl=>?_⟩,λs us X hl=>?_,by show(K.lookup fI).map _=_;rw[lk];rfl,o1,o2,o3,o4,o5,o6,o7⟩
 ·have h2:us.length=2:=by simpa using hl
  match us,h2 with
  |[u1,u2],_=>exact binds_K X rfl ht hs rfl rfl
 ·have h2:us.length=3:=by simpa using hl
  match us,h2 with
  |[u1,u2,u3],_=>first|exact binds_K X rfl ht hs rfl rfl|exact BindsTo.of_eq rfl
theorem Uz{K:Frag}{h:Heap}{x:Str}{f c P0:Addr}{od an:Option Addr}{sl:Array (Option Value)}{oc kV doc pm ct:Value}{st:Stmt}{o1:Value}{o2:Option Addr}{vs:Array Value}{o3:Array (Option Value)}(_X:K.In h)(a:nsIn K mainGlobals x=some (some (.ref f)))(l:K.lookup f=some ⟨oc,od,.func (fnOf x x (fu st) (dc st) (ax st) .none kV doc pm an (.ref c) ct),sl⟩)(lc:K.lookup c=some ⟨o1,o2,.fields vs,o3⟩)(v:vs[11]?=some (.ref P0)):tabIn K x=some (c,P0):=by
 unfold tabIn;rw[a]
 dsimp only
 rw[l]
 dsimp only[fnOf]
 rw[lc]
 dsimp only
 rw[v]
theorem Qb{K:Frag}{h:Heap}{mg:Str->Option Value}{x:Str}{st:Stmt}{ps:List Str}{f c:Addr}{od an:Option Addr}{sl:Array (Option Value)}{oc kV doc pm ct:Value}(X:K.In h)(G:h.Ns mainGlobals mg)(a:nsIn K mainGlobals x=some (some (.ref f)))(l:K.lookup f=some ⟨oc,od,.func (fnOf x x (fu st) (dc st) (ax st) .none kV doc pm an (.ref c) ct),sl⟩)(cc:codeIn K (.ref c) x=true)(k:keepIn K (.ref f)=true)(b:∀(kV doc pm:Value)(an:Option Addr)(bH ct:Value)(us:List Value),us.length=ps.length->bindArgs (fnOf x x (fu st) (dc st) (ax st) .none kV doc pm an bH ct) ⟨us,[]⟩=pure (ps.zip us)):Ph K mg x st ps c:=
 have F:=Aq (st:=st) l cc k
 ⟨_,_,F,mg_of X G a,F.binds b,rfl⟩
theorem UA{K:Frag}{h:Heap}{mg:Str->Option Value}{fa f c:Addr}{od an:Option Addr}{sl:Array (Option Value)}{oc kV doc pm ct:Value}(X:K.In h)(G:h.Ns mainGlobals mg)(hfa:mg "law"=some (.ref fa))(a:nsIn K mainGlobals "law"=some (some (.ref f)))(l:K.lookup f=some ⟨oc,od,.func (fnOf "law" "law" (fu tG) (dc tG) (ax tG) .none kV doc pm an (.ref c) ct),sl⟩)(cc:codeIn K (.ref c) "law"=true)(k:keepIn K (.ref f)=true):∃fd:FuncData,(∃oc od sl,K.lookup fa=some ⟨oc,od,.func fd,sl⟩)/\(∀(s:Shared)(v:Value),BindsTo s fd ⟨[v],[]⟩ [("_law_script",v)])/\ue K "law" "law" tG fa fd/\fd.code=.ref c:=by
 have e:=hfa.symm.trans (mg_of X G a);cases e;exact⟨_,⟨_,_,_,l⟩,λs v=>.of_eq rfl,Aq (st:=tG) l cc k,rfl⟩
theorem Qc{q:Program}{K:Frag}{cr P2:Addr}(r2:((recsOf q).find? (λr=>r.name==("result_of":Str))).isSome=true)(t2:tabIn K "result_of"=some (cr,P2)):
 ∀p∈[(cr,P2)],∃y e,(recsOf q).find? (λr=>r.name==y)=some e/\tabIn K y=some p:=by
 obtain⟨e2,h2⟩:=Option.isSome_iff_exists.mp r2;intro p hp;rcases List.mem_cons.mp hp with rfl|hp
 ·exact⟨_,_,h2,t2⟩
 ·cases hp
theorem walk{l:OpenLaw}{q:Program}{loose:List Str}{XP:(Str->Option Value)->Heap->Prop}{YP:World->Heap->Prop}{d:DefRec}{K:Params->Frag}(hn:l.most=some 63)(Vv:d.params.defaults=[])(hY:∀(w:World)(h:Heap),YP w h->(K w.params).In h)(Wx:∀w:World,noTabs (K w.params)=true)(F:∀(w:World)(mg:Str->Option Value)(fa:Addr)(h:Heap),(K w.params).In h->h.Ns mainGlobals mg->mg d.name=some (.ref fa)->
 ∃fd:FuncData,(∃oc od sl,(K w.params).lookup fa=some ⟨oc,od,.func fd,sl⟩)/\(∀(s:Shared)(u:Value),BindsTo s fd ⟨[u],[]⟩ [("_law_script",u)])/\
  ∃tabs:List (Addr×Addr),(∀p∈tabs,∃y e,(recsOf q).find? (λr=>r.name==y)=some e/\tabIn (K w.params) y=some p)/\
  ∀base:Heap,(K w.params).In base->base.Ns mainGlobals mg->SF.BMain base mg->(∀p∈tabs,CodeHd base p.1 p.2)->D5 l.prog w (K w.params) mg base kr true 49 fa fd ["_law_script"] λ_=>Ic (K w.params) tabs)(hi:importsNone q=true):
 WalkO q loose XP YP l.row.toRowW d [] (λf vs=>PySem.call f vs):=
 SF.WA (n:=63) (k:=49) (x:="_law_script") (sp:=Ic) hn (by decide) Vv ⟨rfl,by decide,by decide⟩ hY Wx F (λ_ _ _ a ns hl hS hP=>⟨a,ns,rfl,hS,hl,hP,λ_=>rfl⟩) hi
def exB(K:Frag)(a:Ad):Bool:=(List.range 5).all λi=>(List.range 5).all λj=>exmOne K (.ref (a.c i)) (.ref (a.c j))==some (i==j)
theorem Qd{K:Frag}{mg:Str->Option Value}{a:Ad}(_C:A_ K mg a)(h:exB K a=true):∀i j,i<5->j<5->exmOne K (.ref (a.c i)) (.ref (a.c j))=some (i==j):=λi j hi hj=>
 beq_iff_eq.mp (List.all_eq_true.mp (List.all_eq_true.mp h i (List.mem_range.mpr hi)) j (List.mem_range.mpr hj))
def UB:AV->Value->Bool
 |.str s,.str s' _=>s==s'
 |.int i,.int j _=>i==j
 |_,_=>false
def Ym:List AV->List Value->Bool
 |[],[]=>true
 |x::xs,u::us=>UB x u&&Ym xs us
 |_,_=>false
def UC(K:Frag)(x:AV)(u:Value):Bool:=match x,u with
 |.tup xs,.ref a=>(match K.lookup a with
  |some o=>(match o.data with
   |.seq bB _=>(o.cls==.type "tuple")&&decide (bB.size<=100)&&Ym xs bB.toList
   |_=>false)
  |none=>false)
 |_,_=>false
def Yn(K:Frag):Tab->List (Str×Tok×Value)->Bool
 |[],[]=>true
 |p::tb,q::l=>(p.1==q.1)&&UC K p.2 q.2.2&&Yn K tb l
 |_,_=>false
theorem UD{K:Frag}{C:Addr}{x:AV}{u:Value}(h:UB x u=true):∃v,RelV v u/\∀H,Rl K C H x v:=by
 unfold UB at h;split at h
 ·obtain rfl:=beq_iff_eq.mp h;exact⟨.str _,⟨_,rfl⟩,λH=>.str⟩
 ·obtain rfl:=beq_iff_eq.mp h;exact⟨.int _,⟨_,rfl⟩,λH=>.int⟩
 ·cases h
theorem RA{K:Frag}{C:Addr}:∀{xs:List AV}{us:List Value},Ym xs us=true->∃vs,Vals vs us/\∀H,d9 K C H xs vs
 |[],[],_=>⟨[],.nil,λ_=>.nil⟩
 |x::xs,u::us,h=>by
  simp only[Ym,Bool.and_eq_true] at h;obtain⟨v,a,b⟩:=UD (K:=K) (C:=C) h.1;obtain⟨vs,c,d⟩:=RA (xs:=xs) h.2;exact⟨v::vs,.cons a c,λH=>.cons (b H) (d H)⟩
theorem UE{K:Frag}{C:Addr}{x:AV}{u:Value}(h:UC K x u=true):∃v,RelV v u/\∀H,Rl K C H x v:=by
 unfold UC at h;split at h
 ·rename_i xs a;split at h
  ·rename_i o lk;split at h
   ·rename_i bB n hd;simp only[Bool.and_eq_true,beq_iff_eq,decide_eq_true_eq] at h;obtain⟨⟨h1,h2⟩,h3⟩:=h;obtain⟨vs,c,d⟩:=RA (K:=K) (C:=C) h3;exact⟨.ref a,rfl,λH=>.tup (.inr ⟨o,bB,n,lk,h1,hd,cR (by lia),c⟩) (d H)⟩
   ·cases h
  ·cases h
 ·cases h
theorem vS{K:Frag}{C:Addr}:∀{tb:Tab}{l:List (Str×Tok×Value)},Yn K tb l=true->qL K C tb (l.map λp=>(p.1,p.2.2))
 |[],[],_=>.nil
 |(k,x)::tb,q::l,h=>by
  simp only[Yn,Bool.and_eq_true,beq_iff_eq] at h;obtain⟨⟨h1,h2⟩,h3⟩:=h;obtain⟨v,a,b⟩:=UE (K:=K) (C:=C) h2;rw[List.map_cons];subst h1;exact .cons a b (vS h3)
theorem Nn{P:Program}{w:World}{K:Frag}{C:Addr}{h:Heap}{mg:Str->Option Value}{x:Str}{tb:Tab}{a:Addr}{es:Array DictEntry}{n:Nat}(X:K.In h)(G:h.Ns mainGlobals mg)(e:nsIn K mainGlobals x=some (some (.ref a)))(l:List (Str×Tok×Value))(lk:K.lookup a=some {cls:=.type "dict",data:=.dict es n})(he:es.toList=l.map λp=>{hash:=PyData.keyHash w.params p.1,key:=.str p.1 p.2.1,val:=p.2.2})(hs:(a==sysModules)=false)(nd:(l.map (·.1)).Nodup)(ht:Yn K tb l=true):Ta P w K mg C x tb:=
 ⟨a,_,mg_of X G e,SX l lk hs he nd,vS ht⟩
theorem UG{K:Frag}{h:Heap}{mg:Str->Option Value}{D:Addr}{f:Nat->Addr}{fd:Nat->FuncData}(X:K.In h)(G:h.Ns mainGlobals mg)(e:nsIn K mainGlobals "Desk"=some (some (.ref D)))(o0:findIn K (.ref D) "__init__"=some (some (.ref (f 0))))(o1:findIn K (.ref D) "number_under"=some (some (.ref (f 1))))(o2:findIn K (.ref D) "value_of"=some (some (.ref (f 2))))(o3:findIn K (.ref D) "done"=some (some (.ref (f 3))))(o4:findIn K (.ref D) "answer"=some (some (.ref (f 4))))(f0:ue K "__init__" "Desk.__init__" Px (f 0) (fd 0))(f1:ue K "number_under" "Desk.number_under" MU (f 1) (fd 1))(f2:ue K "value_of" "Desk.value_of" Py (f 2) (fd 2))(f3:ue K "done" "Desk.done" MV (f 3) (fd 3))(f4:ue K "answer" "Desk.answer" Pz (f 4) (fd 4))(b0:Binds K (fd 0) ["self"] [])(b1:Binds K (fd 1) ["self","letter"] [])(b2:Binds K (fd 2) ["self","kind","word"] [])(b3:Binds K (fd 3) ["self","row"] [])(b4:Binds K (fd 4) ["self","row"] [])(mk:makesIn K D=true)(kp:keepIn K (.ref D)=true)(cl:B9 K D)(n:findIn K (.ref D) "numbers"=some none)(fn:∀i,i<5->isFn K (.ref (f i))=true):MW K mg D f fd:=
 ⟨mg_of X G e,⟨mk,o0,fn 0 (by decide),kp⟩,cl,n,f0,f1,f2,f3,f4,b0,b1,b2,b3,b4,⟨o1,fn 1 (by decide),f1.kp⟩,⟨o2,fn 2 (by decide),f2.kp⟩,⟨o3,fn 3 (by decide),f3.kp⟩,⟨o4,fn 4 (by decide),f4.kp⟩⟩
theorem yO{K:Frag}{D f:Addr}{x qual:Str}{st:Stmt}{ps:List Str}{oc:Value}{od an:Option Addr}{vM:Array (Option Value)}{kV doc pm bH ct:Value}(e:findIn K (.ref D) x=some (some (.ref f)))(l:K.lookup f=some ⟨oc,od,.func (fnOf x qual (fu st) (dc st) (ax st) .none kV doc pm an bH ct),vM⟩)(c:codeIn K bH qual=true)(k:keepIn K (.ref f)=true)(i:isFn K (.ref f)=true)(b:∀(kV doc pm:Value)(an:Option Addr)(bH ct:Value)(us:List Value),us.length=ps.length->bindArgs (fnOf x qual (fu st) (dc st) (ax st) .none kV doc pm an bH ct) ⟨us,[]⟩=pure (ps.zip us)):∃f fd,findIn K (.ref D) x=some (some (.ref f))/\ue K x qual st f fd/\Binds K fd ps []/\isFn K (.ref f)=true:=
 have F:=Aq (st:=st) l c k
 ⟨f,_,e,F,F.binds b,i⟩
theorem Qe{K:Frag}{h:Heap}{mg:Str->Option Value}{D:Addr}(X:K.In h)(G:h.Ns mainGlobals mg)(e:nsIn K mainGlobals "Desk"=some (some (.ref D)))(m0:∃f fd,findIn K (.ref D) "__init__"=some (some (.ref f))/\ue K "__init__" "Desk.__init__" Px f fd/\Binds K fd ["self"] []/\isFn K (.ref f)=true)(m1:∃f fd,findIn K (.ref D) "number_under"=some (some (.ref f))/\ue K "number_under" "Desk.number_under" MU f fd/\Binds K fd ["self","letter"] []/\isFn K (.ref f)=true)(m2:∃f fd,findIn K (.ref D) "value_of"=some (some (.ref f))/\ue K "value_of" "Desk.value_of" Py f fd/\Binds K fd ["self","kind","word"] []/\isFn K (.ref f)=true)(m3:∃f fd,findIn K (.ref D) "done"=some (some (.ref f))/\ue K "done" "Desk.done" MV f fd/\Binds K fd ["self","row"] []/\isFn K (.ref f)=true)(m4:∃f fd,findIn K (.ref D) "answer"=some (some (.ref f))/\ue K "answer" "Desk.answer" Pz f fd/\Binds K fd ["self","row"] []/\isFn K (.ref f)=true)(mk:makesIn K D=true)(kp:keepIn K (.ref D)=true)(cl:B9 K D)(n:findIn K (.ref D) "numbers"=some none):∃f fd,MW K mg D f fd:=by
 obtain⟨a0,b0,c0,d0,e0,g0⟩:=m0;obtain⟨a1,b1,c1,d1,e1,g1⟩:=m1;obtain⟨a2,b2,c2,d2,e2,g2⟩:=m2;obtain⟨a3,b3,c3,d3,e3,g3⟩:=m3;obtain⟨a4,b4,c4,d4,e4,g4⟩:=m4;refine⟨λi=>[a0,a1,a2,a3,a4].getD i 0,λi=>[b0,b1,b2,b3,b4].getD i b0,UG X G e c0 c1 c2 c3 c4 d0 d1 d2 d3 d4 e0 e1 e2 e3 e4 mk kp cl n λi hi=>?_⟩
 match i,hi with
 |0,_=>exact g0
 |1,_=>exact g1
 |2,_=>exact g2
 |3,_=>exact g3
 |4,_=>exact g4
end lX
end
namespace PySem.W.Fast
def tw17259230322090765422:=()
def tw10036291191163085154:=()
def tw4027850103279590544:=()
def tw4544696569191150204:=()
def tw432330748782450631:=()
def tw3311258509927541259:=()
def tw13201409070033215776:=()
def tw1622956266860294471:=()
def tw12902921638046679921:=()
def tw16768562082640299078:=()
def tw10738278088685814765:=()
def tw12282091269963843620:=()
def tw17855430775606768926:=()
def tw14801134998889558696:=()
def tw4547547012815063192:=()
def tw3173069233670878970:=()
def tw10465783756590250890:=()
def tw7465049381631083072:=()
def tw6894544118011076439:=()
def tw17330011617900816514:=()
def tw15261848078684278720:=()
def tw8233230623107306847:=()
def tw17022016459094903268:=()
def tw17147228132450577181:=()
def tw14705845274059530585:=()
def tw15377414645156722193:=()
def tw11585090508361363910:=()
def tw5750101425344246417:=()
def tw9220978508959856434:=()
def tw14131807834628718891:=()
def tw1360437967160271463:=()
def tw12497074996463120450:=()
def tw4531507566149833895:=()
def tw7799262444669107919:=()
def tw7335789893020522232:=()
def tw14830492170455587658:=()
def tw67739358886519632:=()
def tw14151726858752115729:=()
def tw14929066826654836619:=()
def tw6162403517373953707:=()
def tw7056036012935960749:=()
def tw1463515493226279422:=()
def tw4910642451982277484:=()
def tw13484465237574009350:=()
def tw4848505161778807316:=()
def tw6123430738187238178:=()
def tw1249850057638435467:=()
def tw8897364002756466635:=()
def tw2627589520403706106:=()
def tw3461394586260800948:=()
def tw7947779433260721805:=()
def tw4892569619733848237:=()
def tw11170204989815850240:=()
def tw7726566012392540119:=()
def tw7466530581834386069:=()
def tw299535057788915973:=()
def tw6015227540654460214:=()
def tw8970824474280849498:=()
def tw9997226941740351838:=()
def tw4961414688981773405:=()
def tw16180377349899853964:=()
def tw16603290721862716394:=()
def tw14526186761059506146:=()
def tw7690512310220580349:=()
def tw15583575846968480993:=()
def tw11637552687172455652:=()
def tw17722047128489594214:=()
def tw1863938476518636866:=()
def tw12465455148070816640:=()
def tw14659725754342290112:=()
def tw1761390058091948880:=()
def tw14754878260087219863:=()
def tw4858249708830009419:=()
def tw1489105937357712786:=()
def tw16093987234897851747:=()
def tw13857986690436503799:=()
def tw7542546680557629230:=()
def tw13333256037661680736:=()
def tw6289711946742463608:=()
def tw16959399677503331300:=()
def tw7254578379149148711:=()
def tw16835145905652099071:=()
def tw1389767839769554073:=()
def tw2509663947313266559:=()
def tw4318183988924744206:=()
def tw12210480011260738255:=()
def tw285391241176376866:=()
def tw2805009827355332661:=()
def tw2586155259240330479:=()
def tw413471588073107745:=()
def tw15378444888239751435:=()
def tw15421222019983546256:=()
def tw11432571539827572898:=()
def tw15486982099655850666:=()
def tw15945143007257743536:=()
def tw14005808466450152297:=()
def tw6483287008367873002:=()
def tw12195580340400455522:=()
def tw16250750208850211596:=()
def tw10678428061432919537:=()
def tw7614772285729390529:=()
def tw9051998484354482254:=()
def tw14100627745226980756:=()
def tw1444598850994065806:=()
def tw14343783092928841236:=()
def tw5116811979460800311:=()
def tw14232992877420137820:=()
def tw14772917155355793207:=()
def tw2659555982449074450:=()
def tw5287979499500317076:=()
def tw6557467894464786297:=()
def tw2053751992064343281:=()
def tw12535407760544823956:=()
def tw5142653086719541734:=()
def tw2163534152860215437:=()
def tw468264720719749977:=()
def tw11339824755976353485:=()
def tw15663708460944925053:=()
def tw14985595576345698085:=()
def tw7021755439453162611:=()
def tw15080798042561303799:=()
def tw7839526679887676386:=()
def tw7845883910084869386:=()
def tw11843402695502675250:=()
def tw9295088491573710407:=()
def tw7809324040664843234:=()
def tw8829378594769444736:=()
def tw11924100077116634950:=()
def tw11157120064063134133:=()
def tw1381670788209292400:=()
def tw15691954245311877647:=()
def tw14438640731655885010:=()
def tw5089041580270084115:=()
def tw6535542494136035631:=()
def tw8801179426866055324:=()
def tw2810084291472181126:=()
def tw7074850013378949809:=()
def tw2130222600372253798:=()
def tw17820264740515760380:=()
def tw6552838384203928088:=()
def tw4623275551259439759:=()
def tw5628541519609126744:=()
def tw330686358883859682:=()
def tw7055841658559840725:=()
def tw16576458339562561237:=()
def tw14479435363851914702:=()
def tw8796853954783219565:=()
def tw140174131161208311:=()
def tw17662963911348941363:=()
def tw13484126716779297093:=()
def tw6947196292415432203:=()
def tw4383775765289717170:=()
def tw11898226864394196545:=()
def tw14236329489568634089:=()
def tw1394232436411418274:=()
def tw17051758154943592623:=()
def tw11414800554882264360:=()
def tw9883006026834108095:=()
def tw10394735899763967168:=()
def tw1982060236040079311:=()
def tw12067520873587512680:=()
def tw6240011014394823773:=()
def tw3144345747779912381:=()
def tw14520533468824323816:=()
def tw5929382833678008799:=()
def tw4528927518685432596:=()
def tw7916326995241939279:=()
def tw385747649740632581:=()
def tw1116236661722528673:=()
def tw1518229957039302381:=()
def tw8154532660006573762:=()
def tw4370256612030995857:=()
def tw15604245946542583097:=()
def tw184039531066318837:=()
def tw3376249819782779815:=()
def tw11787837509471258150:=()
def tw3937670348104243087:=()
def tw12564860743458684755:=()
def tw17095979819335187750:=()
def tw11559655778750764452:=()
def tw1550481759132658217:=()
def tw12793586803868150027:=()
def tw9203046215044187876:=()
def tw9977053576833624207:=()
def tw2384513556617482453:=()
def tw6939640631635242257:=()
def tw10949212368193887463:=()
def tw14706379576693695389:=()
def tw7302503249065959318:=()
def tw5791129352739244855:=()
def tw7229862886937121557:=()
def tw2865151295167085126:=()
def tw10806355616287699077:=()
def tw1379000377837088090:=()
def tw10346765094666360785:=()
def tw7682894324796768230:=()
def tw17408910320435574070:=()
def tw2452506492085083343:=()
def tw6783047716193931287:=()
def tw5903084036862180552:=()
def tw18233357682207539592:=()
def tw5455071625473461268:=()
def tw2681742537640162631:=()
def tw14977465467008189329:=()
def tw13396032131594660747:=()
def tw17903993811999025659:=()
def tw3230978617043033568:=()
def tw12760038492660548551:=()
def tw18069261198425639408:=()
def tw16537386389876057041:=()
def tw10856206641874613777:=()
def tw12055000080741598868:=()
def tw15110127331972416200:=()
def tw7462563053095838609:=()
def tw972440654371030930:=()
def tw14419621928048622250:=()
def tw5308971440365613058:=()
def tw1008717468872571213:=()
def tw15915404755217937309:=()
def tw16260376302727971050:=()
end PySem.W.Fast
open PySem PySem.W PyProof.Rows
set_option maxRecDepth 100000 in
set_option maxHeartbeats 0 in
theorem PySem.Challenge.cw_surefoot_k27_desk_refusals_holds : PySem.Challenge.rw_surefoot_k27_desk_refusals.Holds := by
 w_on;o_law;k_head;(case hw=>w_witness2)
 k_fill
 refine lX.walk (l:=PySem.Challenge.rw_surefoot_k27_desk_refusals) rfl rfl (λw h Y=>PySem.W.km_in_of Y) ?ntx ?F ?I
 case ntx=>intro w;kernel_rfl
 case I=>decide +kernel
 case F=>
  intro w mg fa h KX G Vw;have T:lX.Nm mg:=by
   refine'⟨PySem.W.mg_none_of KX G ?t1,PySem.W.mg_none_of KX G ?t2,PySem.W.mg_none_of KX G ?t3,PySem.W.mg_none_of KX G ?t4,PySem.W.mg_none_of KX G ?t5,PySem.W.mg_none_of KX G ?t6,PySem.W.mg_none_of KX G ?t7,PySem.W.mg_none_of KX G ?t8,PySem.W.mg_none_of KX G ?t9,PySem.W.mg_none_of KX G ?t10,PySem.W.mg_none_of KX G ?t11,PySem.W.mg_none_of KX G ?t12,PySem.W.mg_none_of KX G ?t13,PySem.W.mg_none_of KX G ?t14⟩
   all_goals k_is
  have L:=by
   refine' lX.UA KX G Vw ?a ?l ?c ?k
   (case a=>k_is);(case l=>k_is);(case c=>k_is);(case k=>k_is)
  obtain⟨fd,lk,hb,F,hfd⟩:=L;have T2:=by
   refine' lX.Uz (x:="result_of") (st:=lX.cX) KX ?a ?l ?lc ?v
   (case a=>k_is);(case l=>k_is);(case lc=>k_is);(case v=>rfl)
  have DR:=by
   refine' lX.Qb (x:="result_of") (st:=lX.cX) (ps:=["one","other","poly_of","pair_of"]) KX G ?a ?l ?c ?k ?b
   (case a=>k_is);(case l=>k_is);(case c=>k_is);(case k=>k_is);(case b=>exact λ_ _ _ _ _ _ us hl=>match us,hl with|[_,_,_,_],_=>rfl)
  have C:=by
   refine' lX.Ux KX G ?ef ?e0 ?e1 ?e2 ?e3 ?e4 ?ok
   (case ef=>k_is);(case e0=>k_is);(case e1=>k_is);(case e2=>k_is);(case e3=>k_is);(case e4=>k_is)
   (case ok=>kernel_rfl)
  have I:=by
   refine' lX.Uy C ?e ?lk ?cd ?td ?hs ?io1 ?io2 ?io3 ?io4 ?io5 ?io6 ?io7
   (case e=>k_is);(case lk=>k_is);(case cd=>k_is);(case td=>k_is);(case hs=>rfl)
   all_goals kernel_rfl
  obtain⟨fB,uk,I⟩:=I;have X:=by
   refine' lX.Qd C ?x
   (case x=>kernel_rfl)
  have R:=by
   refine' lX.XD KX G ?e ?o2 ?lk ?cd ?o1 ?o3 ?o4 ⟨?pg,?hd,?po,?sa⟩ ?n1 ?n2 ?n3
   (case e=>k_is);(case o2=>k_is);(case lk=>k_is);(case cd=>k_is)
   all_goals kernel_rfl
  obtain⟨fI,fdI,RC⟩:=R;have DD:=by
   refine' lX.Qe KX G ?e (lX.yO ?e0 ?l0 ?c0 ?k0 ?i0 ?b0) (lX.yO ?e1 ?l1 ?c1 ?k1 ?i1 ?b1) (lX.yO ?e2 ?l2 ?c2 ?k2 ?i2 ?b2) (lX.yO ?e3 ?l3 ?c3 ?k3 ?i3 ?b3) (lX.yO ?e4 ?l4 ?c4 ?k4 ?i4 ?b4) ?dmk ?dkp ⟨?dpg,?dhd,?dpo,?dsa⟩ ?dn
   (case e=>k_is)
   (case e0=>k_is);(case l0=>k_is);(case c0=>k_is);(case k0=>k_is);(case i0=>kernel_rfl);(case b0=>exact λ_ _ _ _ _ _ us hl=>match us,hl with|[_],_=>rfl)
   (case e1=>k_is);(case l1=>k_is);(case c1=>k_is);(case k1=>k_is);(case i1=>kernel_rfl);(case b1=>exact λ_ _ _ _ _ _ us hl=>match us,hl with|[_,_],_=>rfl)
   (case e2=>k_is);(case l2=>k_is);(case c2=>k_is);(case k2=>k_is);(case i2=>kernel_rfl);(case b2=>exact λ_ _ _ _ _ _ us hl=>match us,hl with|[_,_,_],_=>rfl)
   (case e3=>k_is);(case l3=>k_is);(case c3=>k_is);(case k3=>k_is);(case i3=>kernel_rfl);(case b3=>exact λ_ _ _ _ _ _ us hl=>match us,hl with|[_,_],_=>rfl)
   (case e4=>k_is);(case l4=>k_is);(case c4=>k_is);(case k4=>k_is);(case i4=>kernel_rfl);(case b4=>exact λ_ _ _ _ _ _ us hl=>match us,hl with|[_,_],_=>rfl)
   all_goals kernel_rfl
  obtain⟨fm,fdm,DC⟩:=DD;refine⟨fd,lk,hb,_,lX.Qc ?r2 T2,λbase _ _ B hc=>?_⟩
  case r2=>kernel_rfl
  refine' lX.P7 T (by rfl) ⟨_,PySem.W.mg_of KX G ?g1,?h1⟩ ⟨_,PySem.W.mg_of KX G ?g2,?h2⟩ ⟨_,PySem.W.mg_of KX G ?g3,?h3⟩ ⟨_,PySem.W.mg_of KX G ?g4,?h4⟩ (lX.Nn KX G ?fe [(_,_,_),(_,_,_),(_,_,_),(_,_,_),(_,_,_),(_,_,_),(_,_,_),(_,_,_),(_,_,_),(_,_,_),(_,_,_),(_,_,_),(_,_,_),(_,_,_),(_,_,_),(_,_,_)] ?flk ?fhe ?fhs ?fnd ?fht) (lX.Nn KX G ?qe [(_,_,_),(_,_,_),(_,_,_),(_,_,_)] ?qlk ?qhe ?qhs ?qnd ?qht) RC C I X DC F DR (L2.aX KX G ?a1 ?l1 ?c1 ?k1 ?b1) (L2.aX KX G ?a2 ?l2 ?c2 ?k2 ?b2) (L2.aX KX G ?a3 ?l3 ?c3 ?k3 ?b3) (L2.aX KX G ?a4 ?l4 ?c4 ?k4 ?b4) (L2.aX KX G ?a5 ?l5 ?c5 ?k5 ?b5) (L2.aX KX G ?a6 ?l6 ?c6 ?k6 ?b6) (L2.aX KX G ?a7 ?l7 ?c7 ?k7 ?b7) (L2.aX KX G ?a8 ?l8 ?c8 ?k8 ?b8) (L2.aX KX G ?a9 ?l9 ?c9 ?k9 ?b9) (L2.aX KX G ?a10 ?l10 ?c10 ?k10 ?b10) (L2.aX KX G ?a11 ?l11 ?c11 ?k11 ?b11) (L2.aX KX G ?a12 ?l12 ?c12 ?k12 ?b12) (L2.aX KX G ?a13 ?l13 ?c13 ?k13 ?b13) (L2.aX KX G ?a14 ?l14 ?c14 ?k14 ?b14) (L2.aX KX G ?a15 ?l15 ?c15 ?k15 ?b15) (L2.aX KX G ?a16 ?l16 ?c16 ?k16 ?b16) (L2.aX KX G ?a17 ?l17 ?c17 ?k17 ?b17) (L2.aX KX G ?a18 ?l18 ?c18 ?k18 ?b18) (L2.aX KX G ?a19 ?l19 ?c19 ?k19 ?b19) (L2.aX KX G ?a20 ?l20 ?c20 ?k20 ?b20) (L2.aX KX G ?a21 ?l21 ?c21 ?k21 ?b21) (L2.aX KX G ?a22 ?l22 ?c22 ?k22 ?b22) (L2.aX KX G ?a23 ?l23 ?c23 ?k23 ?b23) (L2.aX KX G ?a24 ?l24 ?c24 ?k24 ?b24) (L2.aX KX G ?a25 ?l25 ?c25 ?k25 ?b25) (L2.aX KX G ?a26 ?l26 ?c26 ?k26 ?b26) (L2.aX KX G ?a27 ?l27 ?c27 ?k27 ?b27) (L2.aX KX G ?a28 ?l28 ?c28 ?k28 ?b28) (L2.aX KX G ?a29 ?l29 ?c29 ?k29 ?b29) (L2.aX KX G ?a30 ?l30 ?c30 ?k30 ?b30) (L2.aX KX G ?a31 ?l31 ?c31 ?k31 ?b31) (L2.aX KX G ?a32 ?l32 ?c32 ?k32 ?b32) (L2.aX KX G ?a33 ?l33 ?c33 ?k33 ?b33) (L2.aX KX G ?a34 ?l34 ?c34 ?k34 ?b34) (L2.aX KX G ?a35 ?l35 ?c35 ?k35 ?b35) (L2.aX KX G ?a36 ?l36 ?c36 ?k36 ?b36) (L2.aX KX G ?a37 ?l37 ?c37 ?k37 ?b37) (L2.aX KX G ?a38 ?l38 ?c38 ?k38 ?b38) (L2.aX KX G ?a39 ?l39 ?c39 ?k39 ?b39) (L2.aX KX G ?a40 ?l40 ?c40 ?k40 ?b40) (L2.aX KX G ?a41 ?l41 ?c41 ?k41 ?b41) (L2.aX KX G ?a42 ?l42 ?c42 ?k42 ?b42) (L2.aX KX G ?a43 ?l43 ?c43 ?k43 ?b43) (L2.aX KX G ?a44 ?l44 ?c44 ?k44 ?b44) (L2.aX KX G ?a45 ?l45 ?c45 ?k45 ?b45) (L2.aX KX G ?a46 ?l46 ?c46 ?k46 ?b46) (L2.aX KX G ?a47 ?l47 ?c47 ?k47 ?b47) (L2.aX KX G ?a48 ?l48 ?c48 ?k48 ?b48) (L2.aX KX G ?a49 ?l49 ?c49 ?k49 ?b49) (L2.aX KX G ?a50 ?l50 ?c50 ?k50 ?b50) (L2.aX KX G ?a51 ?l51 ?c51 ?k51 ?b51) (L2.aX KX G ?a52 ?l52 ?c52 ?k52 ?b52) (L2.aX KX G ?a53 ?l53 ?c53 ?k53 ?b53) (L2.aX KX G ?a54 ?l54 ?c54 ?k54 ?b54) (L2.aX KX G ?a55 ?l55 ?c55 ?k55 ?b55) (L2.aX KX G ?a56 ?l56 ?c56 ?k56 ?b56) (L2.aX KX G ?a57 ?l57 ?c57 ?k57 ?b57) (L2.aX KX G ?a58 ?l58 ?c58 ?k58 ?b58) (L2.aX KX G ?a59 ?l59 ?c59 ?k59 ?b59) (L2.aX KX G ?a60 ?l60 ?c60 ?k60 ?b60) (L2.aX KX G ?a61 ?l61 ?c61 ?k61 ?b61) (L2.aX KX G ?a62 ?l62 ?c62 ?k62 ?b62) (L2.aX KX G ?a63 ?l63 ?c63 ?k63 ?b63) (L2.aX KX G ?a64 ?l64 ?c64 ?k64 ?b64) (L2.aX KX G ?a65 ?l65 ?c65 ?k65 ?b65) (L2.aX KX G ?a66 ?l66 ?c66 ?k66 ?b66) (L2.aX KX G ?a67 ?l67 ?c67 ?k67 ?b67) (L2.aX KX G ?a68 ?l68 ?c68 ?k68 ?b68) (L2.aX KX G ?a69 ?l69 ?c69 ?k69 ?b69) (L2.aX KX G ?a70 ?l70 ?c70 ?k70 ?b70) (L2.aX KX G ?a71 ?l71 ?c71 ?k71 ?b71) (L2.aX KX G ?a72 ?l72 ?c72 ?k72 ?b72) (L2.aX KX G ?a73 ?l73 ?c73 ?k73 ?b73) (L2.aX KX G ?a74 ?l74 ?c74 ?k74 ?b74) (L2.aX KX G ?a75 ?l75 ?c75 ?k75 ?b75) (L2.aX KX G ?a76 ?l76 ?c76 ?k76 ?b76) (L2.aX KX G ?a77 ?l77 ?c77 ?k77 ?b77) (L2.aX KX G ?a78 ?l78 ?c78 ?k78 ?b78) (L2.aX KX G ?a79 ?l79 ?c79 ?k79 ?b79) (L2.aX KX G ?a80 ?l80 ?c80 ?k80 ?b80) (L2.aX KX G ?a81 ?l81 ?c81 ?k81 ?b81) (L2.aX KX G ?a82 ?l82 ?c82 ?k82 ?b82) (L2.aX KX G ?a83 ?l83 ?c83 ?k83 ?b83) (L2.aX KX G ?a84 ?l84 ?c84 ?k84 ?b84) (L2.aX KX G ?a85 ?l85 ?c85 ?k85 ?b85) (L2.aX KX G ?a86 ?l86 ?c86 ?k86 ?b86) (L2.aX KX G ?a87 ?l87 ?c87 ?k87 ?b87) (L2.aX KX G ?a88 ?l88 ?c88 ?k88 ?b88) (L2.aX KX G ?a89 ?l89 ?c89 ?k89 ?b89) (L2.aX KX G ?a90 ?l90 ?c90 ?k90 ?b90) (L2.aX KX G ?a91 ?l91 ?c91 ?k91 ?b91) (L2.aX KX G ?a92 ?l92 ?c92 ?k92 ?b92) (L2.aX KX G ?a93 ?l93 ?c93 ?k93 ?b93) (L2.aX KX G ?a94 ?l94 ?c94 ?k94 ?b94) (L2.aX KX G ?a95 ?l95 ?c95 ?k95 ?b95) (L2.aX KX G ?a96 ?l96 ?c96 ?k96 ?b96) (L2.aX KX G ?a97 ?l97 ?c97 ?k97 ?b97) (L2.aX KX G ?a98 ?l98 ?c98 ?k98 ?b98) (L2.aX KX G ?a99 ?l99 ?c99 ?k99 ?b99) (L2.aX KX G ?a100 ?l100 ?c100 ?k100 ?b100) (L2.aX KX G ?a101 ?l101 ?c101 ?k101 ?b101) (hc _ List.mem_cons_self) B
  (case fe=>k_is);(case flk=>k_is);(case fhe=>rfl);(case fhs=>rfl);(case fnd=>decide +kernel);(case fht=>kernel_rfl)
  (case qe=>k_is);(case qlk=>k_is);(case qhe=>rfl);(case qhs=>rfl);(case qnd=>decide +kernel);(case qht=>kernel_rfl)
  (case a1|l1|c1|k1|a2|l2|c2|k2|a3|l3|c3|k3|a4|l4|c4|k4|a5|l5|c5|k5|a6|l6|c6|k6|a7|l7|c7|k7|a8|l8|c8|k8|a9|l9|c9|k9|a10|l10|c10|k10|a11|l11|c11|k11|a12|l12|c12|k12|a13|l13|c13|k13|a14|l14|c14|k14|a15|l15|c15|k15|a16|l16|c16|k16|a17|l17|c17|k17|a18|l18|c18|k18|a19|l19|c19|k19|a20|l20|c20|k20|a21|l21|c21|k21|a22|l22|c22|k22|a23|l23|c23|k23|a24|l24|c24|k24|a25|l25|c25|k25|a26|l26|c26|k26|a27|l27|c27|k27|a28|l28|c28|k28|a29|l29|c29|k29|a30|l30|c30|k30|a31|l31|c31|k31|a32|l32|c32|k32|a33|l33|c33|k33|a34|l34|c34|k34|a35|l35|c35|k35|a36|l36|c36|k36|a37|l37|c37|k37|a38|l38|c38|k38|a39|l39|c39|k39|a40|l40|c40|k40|a41|l41|c41|k41|a42|l42|c42|k42|a43|l43|c43|k43|a44|l44|c44|k44|a45|l45|c45|k45|a46|l46|c46|k46|a47|l47|c47|k47|a48|l48|c48|k48|a49|l49|c49|k49|a50|l50|c50|k50|a51|l51|c51|k51|a52|l52|c52|k52|a53|l53|c53|k53|a54|l54|c54|k54|a55|l55|c55|k55|a56|l56|c56|k56|a57|l57|c57|k57|a58|l58|c58|k58|a59|l59|c59|k59|a60|l60|c60|k60|a61|l61|c61|k61|a62|l62|c62|k62|a63|l63|c63|k63|a64|l64|c64|k64|a65|l65|c65|k65|a66|l66|c66|k66|a67|l67|c67|k67|a68|l68|c68|k68|a69|l69|c69|k69|a70|l70|c70|k70|a71|l71|c71|k71|a72|l72|c72|k72|a73|l73|c73|k73|a74|l74|c74|k74|a75|l75|c75|k75|a76|l76|c76|k76|a77|l77|c77|k77|a78|l78|c78|k78|a79|l79|c79|k79|a80|l80|c80|k80|a81|l81|c81|k81|a82|l82|c82|k82|a83|l83|c83|k83|a84|l84|c84|k84|a85|l85|c85|k85|a86|l86|c86|k86|a87|l87|c87|k87|a88|l88|c88|k88|a89|l89|c89|k89|a90|l90|c90|k90|a91|l91|c91|k91|a92|l92|c92|k92|a93|l93|c93|k93|a94|l94|c94|k94|a95|l95|c95|k95|a96|l96|c96|k96|a97|l97|c97|k97|a98|l98|c98|k98|a99|l99|c99|k99|a100|l100|c100|k100|a101|l101|c101|k101=>k_is)
  (case b100|b101=>exact λ_ _ _ _ _ _ us hl=>match us,hl with|[],_=>rfl)
  (case b2|b9|b10|b14|b15|b16|b20|b23|b27|b29|b32|b33|b35|b36|b43|b46|b47|b52|b54|b57|b63|b64|b71|b74|b75|b79|b80|b81|b89|b91|b93|b96|b97=>exact λ_ _ _ _ _ _ us hl=>match us,hl with|[_],_=>rfl)
  (case b1|b3|b4|b5|b6|b7|b8|b11|b12|b13|b17|b18|b19|b21|b22|b26|b28|b30|b31|b34|b37|b40|b42|b45|b48|b49|b50|b51|b53|b55|b56|b58|b59|b60|b61|b62|b65|b66|b67|b68|b69|b70|b72|b73|b76|b77|b78|b82|b83|b86|b88|b92|b94|b95|b98|b99=>exact λ_ _ _ _ _ _ us hl=>match us,hl with|[_,_],_=>rfl)
  (case b24|b25|b39|b41|b44|b84|b85|b87|b90=>exact λ_ _ _ _ _ _ us hl=>match us,hl with|[_,_,_],_=>rfl)
  (case b38=>exact λ_ _ _ _ _ _ us hl=>match us,hl with|[_,_,_,_,_],_=>rfl)
  (case g1|g2|g3|g4=>k_is)
  (case h1|h2|h3|h4=>exact⟨_,rfl⟩)
#print axioms PySem.Challenge.cw_surefoot_k27_desk_refusals_holds
