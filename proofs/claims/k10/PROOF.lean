import PyProof.Rows.All
import Wide.All
import OpenK.AllK
import Wide.FinOn
import Lean
import PyProof.EqAt
import PyProof.EqKinds
import PyProof.TupleCall
import KE.KIntText
import KE.KTryMore
import KE.KLam
import PySem.Challenge.RW_surefoot_k10_refusals_apart
set_option Elab.async false
set_option linter.all false
set_option maxRecDepth 100000
namespace L2
open PySem PySem.Spec PyProof.Rows
noncomputable abbrev Key := Sum Int Str
noncomputable def keyIs : Key → Value → Bool
  | .inl k, v => Value.isInt k v
  | .inr x, v => Value.isStrOf x v
noncomputable def keyH (w : World) : Key → Int
  | .inl k => hashInt k
  | .inr x => hashStr w x
theorem keyIs_shape : ∀ {k : Key} {v : Value}, keyIs k v = true → (∃ i t, k = Sum.inl i ∧ v = Value.int i t) ∨ (∃ x t, k = Sum.inr x ∧ v = Value.str x t)
  | .inl i, v, h => by
    obtain ⟨t, e⟩ := Value.isInt_shape (k := i) (v := v) h
    exact .inl ⟨i, t, rfl, e⟩
  | .inr x, v, h => by
    obtain ⟨t, e⟩ := Value.isStrOf_shape (x := x) (v := v) h
    exact .inr ⟨x, t, rfl, e⟩
theorem key_ll (a b : Int) : decide ((Sum.inl a : Key) = Sum.inl b) = (a == b) := by
  by_cases e : a = b
  · subst e; simp
  · have h : ¬ (Sum.inl a : Key) = Sum.inl b := fun q => e (Sum.inl.inj q)
    rw [decide_eq_false h]
    exact (beq_eq_false_iff_ne.mpr e).symm
theorem key_rr (a b : Str) : decide ((Sum.inr a : Key) = Sum.inr b) = decide (a = b) := by
  by_cases e : a = b
  · subst e; simp
  · have h : ¬ (Sum.inr a : Key) = Sum.inr b := fun q => e (Sum.inr.inj q)
    rw [decide_eq_false h, decide_eq_false e]
theorem key_lr (a : Int) (b : Str) : decide ((Sum.inl a : Key) = Sum.inr b) = false := decide_eq_false (fun q => nomatch q)
theorem key_rl (a : Str) (b : Int) : decide ((Sum.inr a : Key) = Sum.inl b) = false := decide_eq_false (fun q => nomatch q)
noncomputable def mixKind (prog : Program) (w : World) : PySem.KeyKind prog w Key where
  is := keyIs
  hash := keyH w
  inj := fun v a b ha hb => by
    rcases keyIs_shape ha with ⟨i, t, rfl, rfl⟩ | ⟨x, t, rfl, rfl⟩
    · rcases keyIs_shape hb with ⟨j, u, rfl, e⟩ | ⟨y, u, rfl, e⟩
      · injection e with e1 _; rw [e1]
      · exact nomatch e
    · rcases keyIs_shape hb with ⟨j, u, rfl, e⟩ | ⟨y, u, rfl, e⟩
      · exact nomatch e
      · injection e with e1 _; rw [e1]
  byValue := fun k v h => by
    rcases keyIs_shape h with ⟨i, t, rfl, rfl⟩ | ⟨x, t, rfl, rfl⟩ <;> rfl
  pyHash := fun hv h => by
    rcases keyIs_shape hv with ⟨i, t, rfl, rfl⟩ | ⟨x, t, rfl, rfl⟩
    · exact wpAny_pyHash_int h
    · exact wpAny_pyHash_str h
  eqBool := fun hu hv h => by
    rcases keyIs_shape hu with ⟨i, t, rfl, rfl⟩ | ⟨x, t, rfl, rfl⟩
    · rcases keyIs_shape hv with ⟨j, u, rfl, rfl⟩ | ⟨y, u, rfl, rfl⟩
      · rw [key_ll] at h; exact wpAny_eqBool_int h
      · rw [key_lr] at h; exact SeqAt.EqAt.int_str i t y u _ _ _ _ h
    · rcases keyIs_shape hv with ⟨j, u, rfl, rfl⟩ | ⟨y, u, rfl, rfl⟩
      · rw [key_rl] at h; exact SeqAt.EqAt.str_int x t j u _ _ _ _ h
      · rw [key_rr] at h; exact wpAny_eqBool_str h
  «strs» := fun k x t v h => by
    rcases keyIs_shape h with ⟨i, u, rfl, e⟩ | ⟨y, u, rfl, e⟩
    · exact nomatch e
    · injection e with e1 _
      subst e1
      cases v <;> rfl
end L2
namespace L2
open PySem PySem.Spec PyProof.Rows
inductive V where
  | non | bl (b : Bool) | int (i : Int) | str (x : Str) | byt (b : Array UInt8) | flt (b : UInt64) | ref (a : Addr) | ty (n : String)
  deriving DecidableEq
noncomputable def RelV : V → Value → Prop
  | .non, u => u = Value.none
  | .bl b, u => u = Value.bool b
  | .int i, u => ∃ t, u = Value.int i t
  | .str x, u => ∃ t, u = Value.str x t
  | .byt b, u => ∃ t, u = Value.bytes b t
  | .flt b, u => ∃ t, u = Value.float b t
  | .ref a, u => u = Value.ref a
  | .ty n, u => u = Value.type n
noncomputable abbrev Vals : List V → List Value → Prop := Paired RelV
theorem Vals.length {xs : List V} {us : List Value} (r : Vals xs us) : xs.length = us.length := Paired.length r
theorem Vals.get : ∀ {xs : List V} {us : List Value} {i : Nat} {x : V}, Vals xs us → xs[i]? = some x → ∃ u, us[i]? = some u ∧ RelV x u
  | _, _, _, _, .nil, e => by simp at e
  | _, _, 0, _, .cons r _, e => by simp at e; subst e; exact ⟨_, rfl, r⟩
  | _, _, i + 1, x, .cons _ t, e => by
    obtain ⟨u, h1, h2⟩ := Vals.get (i := i) (x := x) t (by simpa using e)
    exact ⟨u, by simpa using h1, h2⟩
theorem Vals.append : ∀ {xs ys : List V} {us ws : List Value}, Vals xs us → Vals ys ws → Vals (xs ++ ys) (us ++ ws)
  | _, _, _, _, .nil, s => s
  | _, _, _, _, .cons r t, s => .cons r (Vals.append t s)
noncomputable def RelO : Option V → Option Value → Prop
  | some v, some u => RelV v u
  | none, none => True
  | _, _ => False
noncomputable def KV {κ : Type} : List (κ × V) → List (κ × Value) → Prop := Paired fun (p : κ × V) (q : κ × Value) => p.1 = q.1 ∧ RelV p.2 q.2
noncomputable def kV : Key → V
  | .inl i => .int i
  | .inr x => .str x
inductive HO where
    | lst (xs : List V)
    | tup (xs : List V)
    | dK (kvs : List (Key × V)) | dT (kvs : List (List Key × V))
    | set (S : Int → Bool) (n : Nat)
    | ins (C dx : Addr) (fs : List (Str × V))
    | own (x : Addr)
    | xd (fs : List (Str × V))
    | met (f x : Addr)
    | rng (lo hi : Int)
    | frz (o : Obj) (u : HO)
    | tbl (ps : Array Value)
    | ext (φ : Heap → Prop)
noncomputable abbrev Hp := Addr → Option HO
noncomputable def upd (H : Hp) (a : Addr) (o : HO) : Hp := fun b => if b = a then some o else H b
theorem upd_same {H : Hp} {a : Addr} {o : HO} : upd H a o a = some o := by unfold upd; rw [if_pos rfl]
theorem upd_ne {H : Hp} {a b : Addr} {o : HO} (h : b ≠ a) : upd H a o b = H b := by unfold upd; rw [if_neg h]
theorem upd_upd {H : Hp} {a : Addr} {o u : HO} : upd (upd H a o) a u = upd H a u := by
  funext b; unfold upd; split <;> rfl
theorem ne_of_none {H : Hp} {a b : Addr} {o : HO} (h : H a = some o) (h' : H b = none) : a ≠ b := by
  intro e; subst e; rw [h] at h'; cases h'
section
variable (P : Program) (w : World)
noncomputable def ObjOk (H : Hp) (h : Heap) (a : Addr) : HO → Prop
  | .lst xs => xs.length ≤ sizeLine ∧ ∃ (its : List Value) (n : Nat), Vals xs its ∧ h.get? a = some { cls := .type "list", data := .seq its.toArray n }
  | .tup xs => xs.length ≤ sizeLine ∧ ∃ its : List Value, Vals xs its ∧ IsTup h a its.toArray
  | .dK kvs => kvs.length ≤ sizeLine ∧ (a == sysModules) = false ∧ ∃ vs, KV kvs vs ∧ h.DictOf (mixKind P w) a vs
  | .dT kvs => kvs.length ≤ sizeLine ∧ (a == sysModules) = false ∧ ∃ xs : List (List Key × Addr × Value),
      Paired (fun (p : List Key × V) (q : List Key × Addr × Value) => p.1 = q.1 ∧ H q.2.1 = some (.tup (p.1.map kV)) ∧ RelV p.2 q.2.2) kvs xs ∧
      ∃ o es ep, h.get? a = some o ∧ o.ExactDict ∧ o.data = .dict es ep ∧ es.toList = xs.map (entryOfKey (tupleKind (mixKind P w))) ∧ (xs.map (·.1)).Nodup
  | .set S n => h.SetOf (intKind P w) a S n
  | .ins C dx fs => H dx = some (.own a) ∧ fs.length ≤ 1000 ∧ dx ≠ a ∧ h.get? a = some (PySem.W.instObj C dx) ∧
      ∃ mA, h.Ns1 dx mA ∧ (∀ f, RelO (fs.lookup f) (mA f)) ∧ PySem.Within mA (fs.map (·.1))
  | .own _ => ∃ o, h.get? a = some o
  | .xd fs => ∃ mA, h.Ns1 a mA ∧ ∀ f, RelO (fs.lookup f) (mA f)
  | .rng lo hi => ∃ t u v, h.get? a = some { cls := .type "range", data := .fields #[.int lo t, .int hi u, .int 1 v] }
  | .frz o u => h.get? a = some o ∧ ObjOk H h a u
  | .tbl ps => h.get? a = some { cls := .none, data := .fields ps }
  | .met f x => h.get? a = some (PySem.W.methodObj (.ref f) (.ref x))
  | .ext φ => φ h ∧ (∃ o, h.get? a = some o) ∧ ∀ h1 h2 : Heap, φ h1 → (∀ o, h1.get? a = some o → h2.get? a = some o) → φ h2
noncomputable def HOk (H : Hp) (h : Heap) : Prop := ∀ a o, H a = some o → ObjOk P w H h a o
end
section
variable {P : Program} {w : World} {H H' : Hp} {h h' : Heap} {a : Addr} {o : HO}
theorem ObjOk.lt (x : ObjOk P w H h a o) : a < h.objs.size := by
  cases o with
  | lst xs => obtain ⟨_, _, _, _, e⟩ := x; exact Heap.lt_size e
  | tup xs => obtain ⟨_, _, _, p⟩ := x; exact p.lt
  | dK kvs => obtain ⟨_, _, _, _, o, _, _, e, _⟩ := x; exact Heap.lt_size e
  | dT kvs => obtain ⟨_, _, _, _, o, _, _, e, _⟩ := x; exact Heap.lt_size e
  | set S n => obtain ⟨o, _, _, _, e, _⟩ := x; exact Heap.lt_size e
  | ins C dx fs => obtain ⟨_, _, _, e, _⟩ := x; exact Heap.lt_size e
  | own y => obtain ⟨_, e⟩ := x; exact Heap.lt_size e
  | xd fs => obtain ⟨_, ⟨_, _, _, e, _⟩, _⟩ := x; exact Heap.lt_size e
  | rng lo hi => obtain ⟨_, _, _, e⟩ := x; exact Heap.lt_size e
  | frz ob u => obtain ⟨e, _⟩ := x; exact Heap.lt_size e
  | tbl ps => exact Heap.lt_size (show h.get? a = some _ from x)
  | met f y => exact Heap.lt_size (show h.get? a = some _ from x)
  | ext φ => obtain ⟨_, ⟨_, e⟩, _⟩ := x; exact Heap.lt_size e
theorem Paired.mapP {α β : Type} {F G : α → β → Prop} : ∀ {l₁ : List α} {l₂ : List β}, Paired F l₁ l₂ → (∀ a b, F a b → G a b) → Paired G l₁ l₂
  | _, _, .nil, _ => .nil
  | _, _, .cons r t, f => .cons (f _ _ r) (Paired.mapP t f)
theorem ObjOk.stay (x : ObjOk P w H h a o) (k : ∀ b u, (b = a ∨ H b = some (.own a)) → h.get? b = some u → h'.get? b = some u)
    (ho : ∀ b, H b = some (.own a) → H' b = some (.own a)) (ht : ∀ b xs, H b = some (.tup xs) → H' b = some (.tup xs)) : ObjOk P w H' h' a o := by
  induction o with
  | lst xs => obtain ⟨z, its, n, r, e⟩ := x; exact ⟨z, its, n, r, k _ _ (.inl rfl) e⟩
  | tup xs => obtain ⟨z, its, r, ob, e, c⟩ := x; exact ⟨z, its, r, ob, k _ _ (.inl rfl) e, c⟩
  | dK kvs => obtain ⟨z, y, vs, r, ob, es, ep, e, c⟩ := x; exact ⟨z, y, vs, r, ob, es, ep, k _ _ (.inl rfl) e, c⟩
  | dT kvs =>
    obtain ⟨z, y, xs, r, ob, es, ep, e, c⟩ := x
    exact ⟨z, y, xs, Paired.mapP r fun p q z => ⟨z.1, ht _ _ z.2.1, z.2.2⟩, ob, es, ep, k _ _ (.inl rfl) e, c⟩
  | set S n => obtain ⟨ob, es, ep, t, e, c⟩ := x; exact ⟨ob, es, ep, t, k _ _ (.inl rfl) e, c⟩
  | ins C dx fs =>
    obtain ⟨d, z, ne, e, mA, ⟨od, es, ep, e2, c⟩, r⟩ := x
    exact ⟨ho _ d, z, ne, k _ _ (.inl rfl) e, mA, ⟨od, es, ep, k _ _ (.inr d) e2, c⟩, r⟩
  | own y => obtain ⟨ob, e⟩ := x; exact ⟨ob, k _ _ (.inl rfl) e⟩
  | xd fs => obtain ⟨mA, ⟨od, es, ep, e, c⟩, r⟩ := x; exact ⟨mA, ⟨od, es, ep, k _ _ (.inl rfl) e, c⟩, r⟩
  | rng lo hi => obtain ⟨t, u, v, e⟩ := x; exact ⟨t, u, v, k _ _ (.inl rfl) e⟩
  | frz ob u ih => obtain ⟨e, q⟩ := x; exact ⟨k _ _ (.inl rfl) e, ih q⟩
  | tbl ps =>
    have e : h.get? a = some { cls := .none, data := .fields ps } := x
    show h'.get? a = some { cls := .none, data := .fields ps }
    exact k a _ (.inl rfl) e
  | met f y =>
    have e : h.get? a = some (PySem.W.methodObj (.ref f) (.ref y)) := x
    show h'.get? a = some (PySem.W.methodObj (.ref f) (.ref y))
    exact k a _ (.inl rfl) e
  | ext φ => obtain ⟨p, ⟨o, e⟩, st⟩ := x; exact ⟨st _ _ p fun o q => k _ _ (.inl rfl) q, ⟨o, k _ _ (.inl rfl) e⟩, st⟩
theorem HOk.lt (x : HOk P w H h) (e : H a = some o) : a < h.objs.size := (x a o e).lt
theorem HOk.fresh (x : HOk P w H h) (e : h.objs.size ≤ a) : H a = none := by
  cases q : H a with
  | none => rfl
  | some u => exact absurd (Nat.lt_of_lt_of_le (x.lt q) e) (Nat.lt_irrefl _)
theorem HOk.kept (x : HOk P w H h) (k : ∀ b u, h.get? b = some u → h'.get? b = some u) : HOk P w H h' := fun a o e =>
  (x a o e).stay (fun b u _ q => k b u q) (fun _ q => q) fun _ _ q => q
theorem HOk.laid (x : HOk P w H h) (k : ∀ b u, h.get? b = some u → h'.get? b = some u) (hp : h.objs.size ≤ a) (new : ObjOk P w (upd H a o) h' a o) : HOk P w (upd H a o) h' := fun b u e => by
  have hn := x.fresh hp
  by_cases hb : b = a
  · subst hb; rw [upd_same] at e; cases e; exact new
  · rw [upd_ne hb] at e
    exact (x b u e).stay (fun c v _ q => k c v q) (fun c q => by rw [upd_ne (ne_of_none q hn)]; exact q) fun c xs q => by rw [upd_ne (ne_of_none q hn)]; exact q
end
noncomputable def Rd (H : Hp) (a : Addr) (u : HO) : Prop := H a = some u ∨ ∃ o, H a = some (.frz o u)
theorem Rd.ok {P : Program} {w : World} {H : Hp} {h : Heap} {a : Addr} {u : HO} (r : Rd H a u) (x : HOk P w H h) : ObjOk P w H h a u := by
  rcases r with r | ⟨o, r⟩
  · exact x a u r
  · obtain ⟨_, q⟩ := x a _ r
    exact q
noncomputable def Mut : Option HO → Prop
  | some (.lst _) => True
  | some (.dK _) => True
  | some (.dT _) => True
  | some (.set _ _) => True
  | some (.ins _ _ _) => True
  | some (.ext _) => True
  | _ => False
section
variable {P : Program} {w : World} {H : Hp} {h h' : Heap} {x e : Addr} {o' : HO}
theorem HOk.write (ok : HOk P w H h) (mu : Mut (H x)) (he : e = x ∨ H e = some (.own x)) (k : ∀ b u, b ≠ e → h.get? b = some u → h'.get? b = some u) (heo : ∃ u, h'.get? e = some u)
    (new : ObjOk P w (upd H x o') h' x o') : HOk P w (upd H x o') h' := fun b u q => by
  have nown : ∀ c y, H c = some (.own y) → c ≠ x := fun c y r z => by subst z; rw [r] at mu; exact mu
  have ntup : ∀ c xs, H c = some (.tup xs) → c ≠ x := fun c xs r z => by subst z; rw [r] at mu; exact mu
  by_cases hb : b = x
  · subst hb; rw [upd_same] at q; cases q; exact new
  · rw [upd_ne hb] at q
    by_cases hbe : b = e
    · have q' : H b = some (.own x) := by
        rcases he with z | z
        · exact absurd (hbe.trans z) hb
        · rw [hbe]; exact z
      rw [q] at q'; cases q'
      obtain ⟨v, hv⟩ := heo
      exact ⟨v, by rw [hbe]; exact hv⟩
    · refine (ok b u q).stay (fun c v hc r => k c v ?_ r) (fun c r => by rw [upd_ne (nown c b r)]; exact r) fun c xs r => by rw [upd_ne (ntup c xs r)]; exact r
      rcases hc with rfl | hc
      · exact hbe
      · rintro rfl
        rcases he with z | z
        · exact nown c b hc z
        · rw [hc] at z; cases z; exact hb rfl
end
structure Un (fs ex : List Addr) (H H' : Hp) (h h' : Heap) : Prop where
  keep : ∀ b o, h.get? b = some o → H b = none → b ∉ fs → b ∉ ex → h'.get? b = some o
  slot : ∀ b o, h.get? b = some o → H b = none → b ∈ fs → b ∉ ex → ∃ sl, h'.get? b = some { o with slots := sl }
  free : ∀ b o, h.get? b = some o → H b = none → b ∉ ex → H' b = none
  there : ∀ b o, h.get? b = some o → b ∉ ex → ∃ o', h'.get? b = some o'
  tups : ∀ b xs, H b = some (.tup xs) → H' b = some (.tup xs)
  frzs : ∀ b o u, H b = some (.frz o u) → H' b = some (.frz o u)
  tbls : ∀ b ps, H b = some (.tbl ps) → ∃ more, H' b = some (.tbl (ps ++ more))
section
variable {fs fs' ex ex' : List Addr} {H H1 H2 : Hp} {h h1 h2 h' : Heap} {a x e : Addr} {o : HO}
theorem Un.any (u : Un fs ex H H1 h h1) {b : Addr} {ob : Obj} (q : h.get? b = some ob) (n : H b = none) (hx : b ∉ ex) : ∃ sl, h1.get? b = some { ob with slots := sl } := by
  by_cases hb : b ∈ fs
  · exact u.slot b ob q n hb hx
  · exact ⟨ob.slots, u.keep b ob q n hb hx⟩
theorem Un.kept (k : ∀ b u, h.get? b = some u → h'.get? b = some u) : Un fs ex H H h h' :=
  ⟨fun b ob q _ _ _ => k b ob q, fun b ob q _ _ _ => ⟨ob.slots, k b ob q⟩, fun _ _ _ n _ => n, fun b ob q _ => ⟨ob, k b ob q⟩, fun _ _ q => q, fun _ _ _ q => q, fun _ ps q => ⟨#[], by rw [q]; simp⟩⟩
theorem Un.refl : Un fs ex H H h h := Un.kept fun _ _ q => q
theorem Un.laid (k : ∀ b u, h.get? b = some u → h'.get? b = some u) (hp : h.objs.size ≤ a) (hn : H a = none) : Un fs ex H (upd H a o) h h' where
  keep := fun b u q _ _ _ => k b u q
  slot := fun b u q _ _ _ => ⟨u.slots, k b u q⟩
  free := fun b u q n _ => by rw [upd_ne (Nat.ne_of_lt (Nat.lt_of_lt_of_le (Heap.lt_size q) hp))]; exact n
  there := fun b u q _ => ⟨u, k b u q⟩
  tups := fun b xs q => by rw [upd_ne (ne_of_none q hn)]; exact q
  frzs := fun b u xs q => by rw [upd_ne (ne_of_none q hn)]; exact q
  tbls := fun b ps q => ⟨#[], by rw [upd_ne (ne_of_none q hn), q]; simp⟩
theorem Un.write (mu : Mut (H x)) (he : e = x ∨ H e = some (.own x)) (k : ∀ b u, b ≠ e → h.get? b = some u → h'.get? b = some u) (heo : ∃ u, h'.get? e = some u) : Un fs ex H (upd H x o) h h' := by
  have hx : ∀ b, H b = none → b ≠ x := fun b n z => by subst z; rw [n] at mu; exact mu
  have hb : ∀ b, H b = none → b ≠ e := fun b n z => by
    subst z
    rcases he with r | r
    · exact hx b n r
    · rw [n] at r; cases r
  have hm : ∀ b u, H b = some u → ¬ Mut (some u) → b ≠ x := fun b u q nm z => by subst z; rw [q] at mu; exact nm mu
  refine ⟨fun b u q n _ _ => k b u (hb b n) q, fun b u q n _ _ => ⟨u.slots, k b u (hb b n) q⟩, fun b u q n _ => by rw [upd_ne (hx b n)]; exact n, fun b u q _ => ?_,
    fun b xs q => by rw [upd_ne (hm b _ q fun z => z)]; exact q, fun b u xs q => by rw [upd_ne (hm b _ q fun z => z)]; exact q, fun b ps q => ⟨#[], by rw [upd_ne (hm b _ q fun z => z), q]; simp⟩⟩
  by_cases hbe : b = e
  · subst hbe; exact heo
  · exact ⟨u, k b u hbe q⟩
end
noncomputable def trk (h : Heap) (H : Hp) : List Addr := (List.range h.objs.size).filter fun a => (H a).isSome
noncomputable def hidT (h : Heap) (H : Hp) : Heap := PySem.W.hideAll h (trk h H)
theorem hidT_size (h : Heap) (H : Hp) : (hidT h H).objs.size = h.objs.size := PySem.W.hideAll_size _ _
theorem hidT_get {h : Heap} {H : Hp} {b : Addr} {o : Obj} (e : h.get? b = some o) (n : H b = none) : (hidT h H).get? b = some o :=
  PySem.W.hideAll_get _ e fun hm => by
    have q : (H b).isSome = true := (List.mem_filter.mp hm).2
    rw [n] at q; simp at q
theorem of_hidT {h : Heap} {H : Hp} {b : Addr} {o : Obj} (e : (hidT h H).get? b = some o) : h.get? b = some o ∧ H b = none := by
  have e' : h.get? b = some o := PySem.W.of_hideAll (trk h H) e
  refine ⟨e', ?_⟩
  cases q : H b with
  | none => rfl
  | some x =>
    have hm : b ∈ trk h H := List.mem_filter.mpr ⟨List.mem_range.mpr (Heap.lt_size e'), by simp [q]⟩
    have z : (hidT h H).get? b = none := PySem.W.hideAll_none (trk h H) hm
    rw [z] at e; cases e
noncomputable def allNews (g h : Heap) (L : Addr) : List (Addr × Obj) := (List.range h.objs.size).filterMap fun a => if a = L ∨ (g.get? a).isSome = true then none else (h.get? a).map fun o => (a, o)
noncomputable def rest (g h : Heap) (L d : Addr) : List (Addr × Obj) := (allNews g h L).filter fun p => decide (p.1 ≠ d)
end L2
namespace L2
open PySem PySem.Spec PyProof.Rows
structure Mod (K : PySem.W.Frag) (mg : Str → Option Value) (base : Heap) : Prop where
  kin : K.In base
  glob : base.Ns mainGlobals mg
  blt : ∃ mb, base.Ns builtinsNs mb ∧ ∀ x : Str, x ≠ "__name__" → mb x = bootBuiltins x
  nolimit : base.NoLimit
  seer : base.NoSeer
structure Cx where
  prog : Program
  w : World
  K : PySem.W.Frag
  mg : Str → Option Value
  base : Heap
  A : Around
  N : List Str
  s₀ : Shared
  H₀ : Hp
  env : Env
  outer : List Env
  stack : List Env
  ex : List Addr
  fn : Str → Bool
  calm : Bool
  pn : List (Addr × Obj)
  xe : Value → Shared → Prop
noncomputable def frs (l : List Env) : List Addr := l.filterMap (·.frame)
noncomputable abbrev Cx.fs (X : Cx) : List Addr := frs X.outer
noncomputable def Vis (sc : Scope) (x : Str) : Prop := sc.names.lookup x = some .local ∨ sc.names.lookup x = some .cell ∨ sc.names.lookup x = some .free
noncomputable def Loc (sc : Scope) (x : Str) : Prop := sc.names.lookup x = some .local ∨ sc.names.lookup x = some .cell
noncomputable def Look (env : Env) (h : Heap) (m : Str → Option Value) (x : Str) (u : Value) : Prop :=
  (env.kindOf x = some .local ∧ m x = some u) ∨ ((env.kindOf x = some .cell ∨ env.kindOf x = some .free) ∧ ∃ c, env.cells.lookup x = some c ∧ h.IsCell c (some u))
structure Cx.Ok (X : Cx) : Prop where
  mod : Mod X.K X.mg X.base
  kind : X.env.scope.kind = .function
  glob : X.env.globals = mainGlobals
  blt : X.env.builtins = builtinsNs
  above : X.s₀.heap.objs.size ≤ X.env.locals
  inj : ∀ x y c, X.env.cells.lookup x = some c → X.env.cells.lookup y = some c → x = y
  has : ∀ x, (X.env.kindOf x = some .cell ∨ X.env.kindOf x = some .free) → ∃ c, X.env.cells.lookup x = some c
  cab : ∀ x c, X.fn x = true → X.env.cells.lookup x = some c → X.s₀.heap.objs.size ≤ c
  hd : X.calm = true → X.A.handled = none
  frames : X.A.frames = some X.stack
  stk : X.stack = X.outer ∨ (X.stack = X.env :: X.outer ∧ X.env.frame = some X.env.locals)
  exf : ∀ b ∈ X.ex, b ≠ X.env.locals ∧ ∀ x c, X.env.cells.lookup x = some c → c ≠ b
  bs : ∀ b o, X.base.get? b = some o → X.s₀.heap.get? b = some o ∧ X.H₀ b = none
  bsz : X.base.objs.size ≤ X.s₀.heap.objs.size
  noex : ∀ b o, X.base.get? b = some o → b ∉ X.ex
  exfs : ∀ b ∈ X.ex, b ∉ X.fs
  funs : X.s₀.heap.FunFrames X.base X.outer
  frf : ∀ b ∈ X.fs, X.H₀ b = none
structure Inv (X : Cx) (pins : List (Addr × Obj)) (σ : List (Option V)) (H : Hp) (s : Shared) : Prop where
  ok : X.Ok
  os : s.os = X.s₀.os
  bare : AllBare s.gens
  base : Un X.fs X.ex X.H₀ H X.s₀.heap s.heap
  loc : ∃ m, s.heap.Ns X.env.locals m ∧ ∀ (i : Nat) (x : Str) (v : V), X.N[i]? = some x → σ[i]? = some (some v) → Vis X.env.scope x → ∃ u, RelV v u ∧ Look X.env s.heap m x u
  cell : ∀ x c, X.env.cells.lookup x = some c → ∃ v, s.heap.IsCell c v
  free : H X.env.locals = none
  freeC : ∀ x c, X.env.cells.lookup x = some c → H c = none
  pin : ∀ p ∈ X.pn ++ pins, s.heap.get? p.1 = some p.2 ∧ H p.1 = none ∧ p.1 ≠ X.env.locals ∧ p.1 ∉ X.fs ∧ ∀ v, p.2.data ≠ .cell v
  hok : HOk X.prog X.w H s.heap
  len : σ.length = X.N.length
section
variable {X : Cx} {pins : List (Addr × Obj)} {σ : List (Option V)} {H H' : Hp} {s : Shared} {h' : Heap}
theorem Cx.Ok.nofr (ok : X.Ok) {b : Addr} {o : Obj} (e : X.base.get? b = some o) : b ∉ X.fs := fun hb => by
  have := (ok.funs.mem hb).1
  rw [e] at this; cases this
theorem Inv.bs (I : Inv X pins σ H s) : ∀ b o, X.base.get? b = some o → s.heap.get? b = some o ∧ H b = none := fun b o e =>
  ⟨I.base.keep b o (I.ok.bs b o e).1 (I.ok.bs b o e).2 (I.ok.nofr e) (I.ok.noex b o e), I.base.free b o (I.ok.bs b o e).1 (I.ok.bs b o e).2 (I.ok.noex b o e)⟩
theorem Inv.bk (I : Inv X pins σ H s) : ∀ b o, X.base.get? b = some o → s.heap.get? b = some o := fun b o e => (I.bs b o e).1
theorem Inv.mod (I : Inv X pins σ H s) : Mod X.K X.mg X.base := I.ok.mod
theorem Inv.kIn (I : Inv X pins σ H s) : X.K.In s.heap := I.ok.mod.kin.keeps I.bk
theorem Inv.lt (I : Inv X pins σ H s) : X.env.locals < s.heap.objs.size := let ⟨_, hn, _⟩ := I.loc; hn.lt
theorem Inv.sz (I : Inv X pins σ H s) : X.s₀.heap.objs.size ≤ s.heap.objs.size := Nat.le_trans I.ok.above (Nat.le_of_lt I.lt)
theorem Inv.nofs (I : Inv X pins σ H s) {a : Addr} (h : s.heap.objs.size ≤ a) : a ∉ X.fs := fun hb => by
  obtain ⟨_, o, ho, _⟩ := I.ok.funs.mem hb
  exact absurd (Nat.lt_of_lt_of_le (Heap.lt_size ho) (Nat.le_trans I.sz h)) (Nat.lt_irrefl _)
theorem Inv.cne (I : Inv X pins σ H s) : ∀ x c, X.env.cells.lookup x = some c → c ≠ X.env.locals := fun x c e z => by
  obtain ⟨v, o, ho, hd⟩ := I.cell x c e
  obtain ⟨m, ⟨o', es, ep, ho', hd', _⟩, _⟩ := I.loc
  rw [z, ho'] at ho; cases ho; rw [hd'] at hd; cases hd
theorem Inv.funs (I : Inv X pins σ H s) : s.heap.FunFrames X.base X.outer := by
  have all : ∀ (l : List Env), (∀ b ∈ frs l, b ∈ X.fs) → X.s₀.heap.FunFrames X.base l → s.heap.FunFrames X.base l := by
    intro l
    induction l with
    | nil => intro _ _; trivial
    | cons env r ih =>
      intro hs hl
      obtain ⟨hk, ⟨L, o, hf, hn, ho, hd⟩, hr⟩ := hl
      have hL : L ∈ X.fs := hs L (by unfold frs; rw [List.filterMap_cons, hf]; exact List.mem_cons_self)
      obtain ⟨sl, e⟩ := I.base.slot L o ho (I.ok.frf L hL) hL fun z => I.ok.exfs L z hL
      exact ⟨hk, ⟨L, _, hf, hn, e, hd⟩, ih (fun b hb => hs b (by unfold frs; rw [List.filterMap_cons, hf]; exact List.mem_cons_of_mem _ hb)) hr⟩
  exact all X.outer (fun _ hb => hb) I.ok.funs
theorem Inv.stack (I : Inv X pins σ H s) : s.heap.FunFrames X.base X.stack := by
  rcases I.ok.stk with e | ⟨e, hf⟩
  · rw [e]; exact I.funs
  · rw [e]
    obtain ⟨m, hn, _⟩ := I.loc
    refine .cons (by rw [I.ok.kind]; decide) hf hn ?_ I.funs
    exact Heap.get?_none_of_le (Nat.le_trans I.ok.bsz I.ok.above)
theorem Inv.stkSub (I : Inv X pins σ H s) : ∀ b ∈ frs X.stack, b ∈ X.env.locals :: X.fs := fun b hb => by
  rcases I.ok.stk with e | ⟨e, hf⟩
  · rw [e] at hb; exact List.mem_cons_of_mem _ hb
  · rw [e] at hb
    unfold frs at hb
    rw [List.filterMap_cons, hf] at hb
    exact hb
theorem Inv.stkFree (I : Inv X pins σ H s) : ∀ b ∈ frs X.stack, H b = none := fun b hb => by
  rcases List.mem_cons.mp (I.stkSub b hb) with e | hb
  · rw [e]; exact I.free
  · obtain ⟨_, o, ho, _⟩ := I.ok.funs.mem hb
    exact I.base.free b o ho (I.ok.frf b hb) fun z => I.ok.exfs b z hb
theorem Inv.step {g' : Array GenState} {t' : Nat} {d' : Drawn} {ch : List Addr} (I : Inv X pins σ H s)
    (hch : ∀ b ∈ ch, (b ∈ X.ex ∨ X.s₀.heap.objs.size ≤ b) ∧ b ≠ X.env.locals ∧ (∀ x c, X.env.cells.lookup x = some c → c ≠ b) ∧ ∀ p ∈ X.pn ++ pins, p.1 ≠ b)
    (keep : ∀ b o, b ≠ X.env.locals → b ∉ X.fs → b ∉ ch → s.heap.get? b = some o → H b = none → h'.get? b = some o)
    (slot : ∀ b o, b ≠ X.env.locals → b ∈ X.fs → b ∉ ch → s.heap.get? b = some o → H b = none → ∃ sl, h'.get? b = some { o with slots := sl }) (free : ∀ b o, b ∉ ch → s.heap.get? b = some o → H b = none → H' b = none)
    (there : ∀ b o, b ∉ ch → s.heap.get? b = some o → ∃ o', h'.get? b = some o')
    (tups : ∀ b xs, H b = some (.tup xs) → H' b = some (.tup xs)) (frzs : ∀ b o u, H b = some (.frz o u) → H' b = some (.frz o u)) (tbls : ∀ b ps, H b = some (.tbl ps) → ∃ more, H' b = some (.tbl (ps ++ more)))
    (ns : ∀ m, s.heap.Ns X.env.locals m → h'.Ns X.env.locals m) (hok : HOk X.prog X.w H' h') (hg : AllBare g') :
    Inv X pins σ H' { s with heap := h', gens := g', drawn := d', toks := t' } := by
  have neL : ∀ b o, X.s₀.heap.get? b = some o → b ≠ X.env.locals := fun b o e => Nat.ne_of_lt (Nat.lt_of_lt_of_le (Heap.lt_size e) I.ok.above)
  have neC : ∀ b o, X.s₀.heap.get? b = some o → b ∉ X.ex → b ∉ ch := fun b o e hx hb => by
    rcases (hch b hb).1 with z | z
    · exact hx z
    · exact absurd (Nat.lt_of_lt_of_le (Heap.lt_size e) z) (Nat.lt_irrefl _)
  have cellK : ∀ x c, X.env.cells.lookup x = some c → ∀ v, s.heap.IsCell c v → h'.IsCell c v := fun x c e v ⟨o, ho, hd⟩ => by
    have nch : c ∉ ch := fun z => (hch c z).2.2.1 x c e rfl
    by_cases hc : c ∈ X.fs
    · obtain ⟨sl, q⟩ := slot c o (I.cne x c e) hc nch ho (I.freeC x c e)
      exact ⟨_, q, hd⟩
    · exact ⟨o, keep c o (I.cne x c e) hc nch ho (I.freeC x c e), hd⟩
  refine ⟨I.ok, I.os, hg, ⟨fun b o e n hb hx => ?_, fun b o e n hb hx => ?_, fun b o e n hx => ?_, fun b o e hx => ?_, fun b xs e => tups b xs (I.base.tups b xs e), fun b o xs e => frzs b o xs (I.base.frzs b o xs e), fun b ps e => ?_⟩, ?_, fun x c e => ?_, ?_, fun x c e => ?_, fun p hp => ?_, hok, I.len⟩
  · exact keep b o (neL b o e) hb (neC b o e hx) (I.base.keep b o e n hb hx) (I.base.free b o e n hx)
  · obtain ⟨sl, e1⟩ := I.base.slot b o e n hb hx
    obtain ⟨sl', e2⟩ := slot b _ (neL b o e) hb (neC b o e hx) e1 (I.base.free b o e n hx)
    exact ⟨sl', e2⟩
  · obtain ⟨o', e1⟩ := I.base.there b o e hx
    exact free b o' (neC b o e hx) e1 (I.base.free b o e n hx)
  · obtain ⟨o', e1⟩ := I.base.there b o e hx
    exact there b o' (neC b o e hx) e1
  · obtain ⟨m1, e1⟩ := I.base.tbls b ps e
    obtain ⟨m2, e2⟩ := tbls b _ e1
    exact ⟨m1 ++ m2, by rw [e2, Array.append_assoc]⟩
  · obtain ⟨m, hn, hl⟩ := I.loc
    refine ⟨m, ns m hn, fun i x v e1 e2 e3 => ?_⟩
    obtain ⟨u, r, l⟩ := hl i x v e1 e2 e3
    refine ⟨u, r, ?_⟩
    rcases l with l | ⟨k, c, e, z⟩
    · exact .inl l
    · exact .inr ⟨k, c, e, cellK x c e _ z⟩
  · obtain ⟨v, z⟩ := I.cell x c e
    exact ⟨v, cellK x c e v z⟩
  · obtain ⟨m, ⟨o, _, _, ho, _⟩, _⟩ := I.loc
    exact free _ o (fun z => (hch _ z).2.1 rfl) ho I.free
  · obtain ⟨v, o, ho, hd⟩ := I.cell x c e
    exact free c o (fun z => (hch c z).2.2.1 x c e rfl) ho (I.freeC x c e)
  · obtain ⟨e, n, ne, nf, d⟩ := I.pin p hp
    have nch : p.1 ∉ ch := fun z => (hch p.1 z).2.2.2 p hp rfl
    exact ⟨keep p.1 p.2 ne nf nch e n, free p.1 p.2 nch e n, ne, nf, d⟩
theorem Inv.un {t' : Nat} (I : Inv X pins σ H s) (u : Un X.fs [] H H' s.heap h') (hok : HOk X.prog X.w H' h') : Inv X pins σ H' { s with heap := h', toks := t' } := by
  obtain ⟨m, ⟨o, es, ep, ho, r⟩, _⟩ := id I.loc
  obtain ⟨sl, hL⟩ := u.any ho I.free (by simp)
  exact I.step (g' := s.gens) (d' := s.drawn) (ch := []) (fun _ z => nomatch z) (fun b o _ hb _ e n => u.keep b o e n hb (by simp)) (fun b o _ hb _ e n => u.slot b o e n hb (by simp)) (fun b o _ e n => u.free b o e n (by simp)) (fun b o _ e => u.there b o e (by simp)) u.tups u.frzs u.tbls (fun m' hm => by
    obtain ⟨o', es', ep', ho', r'⟩ := hm
    rw [ho] at ho'; cases ho'
    exact ⟨_, es', ep', hL, r'⟩) hok I.bare
theorem Inv.call {g' : Array GenState} {t' : Nat} {d' : Drawn} {ch : List Addr} (I : Inv X pins σ H s) (u : Un (frs X.stack) ch H H' s.heap h') (hok : HOk X.prog X.w H' h') (hg : AllBare g')
    (hch : ∀ b ∈ ch, (b ∈ X.ex ∨ X.s₀.heap.objs.size ≤ b) ∧ b ≠ X.env.locals ∧ (∀ x c, X.env.cells.lookup x = some c → c ≠ b) ∧ ∀ p ∈ X.pn ++ pins, p.1 ≠ b) :
    Inv X pins σ H' { s with heap := h', gens := g', drawn := d', toks := t' } := by
  obtain ⟨m, ⟨o, es, ep, ho, r⟩, _⟩ := id I.loc
  obtain ⟨sl, hL⟩ := u.any ho I.free fun z => (hch _ z).2.1 rfl
  exact I.step (ch := ch) hch (fun b o hL hb hc e n => u.keep b o e n (fun z => (List.mem_cons.mp (I.stkSub b z)).elim hL hb) hc) (fun b o _ _ hc e n => u.any e n hc) (fun b o hc e n => u.free b o e n hc) (fun b o hc e => u.there b o e hc) u.tups u.frzs u.tbls (fun m' hm => by
    obtain ⟨o', es', ep', ho', r'⟩ := hm
    rw [ho] at ho'; cases ho'
    exact ⟨_, es', ep', hL, r'⟩) hok hg
theorem Inv.turned {t' : Nat} {it : Addr} (I : Inv X pins σ H s) (k : ∀ b o, b ≠ it → s.heap.get? b = some o → h'.get? b = some o) (hn : H it = none) (hL : it ≠ X.env.locals)
    (h1 : it ∈ X.ex ∨ X.s₀.heap.objs.size ≤ it) (h2 : ∀ x c, X.env.cells.lookup x = some c → c ≠ it) (h3 : ∀ p ∈ X.pn ++ pins, p.1 ≠ it) : Inv X pins σ H { s with heap := h', toks := t' } := by
  have nit : ∀ b u, H b = some u → b ≠ it := fun b u e z => by rw [z, hn] at e; cases e
  refine I.step (g' := s.gens) (d' := s.drawn) (ch := [it]) (fun b hb => ?_) (fun b o _ _ hc e _ => k b o (fun z => hc (by simp [z])) e) (fun b o _ _ hc e _ => ⟨o.slots, k b o (fun z => hc (by simp [z])) e⟩) (fun _ _ _ _ n => n)
    (fun b o hc e => ⟨o, k b o (fun z => hc (by simp [z])) e⟩) (fun _ _ e => e) (fun _ _ _ e => e) (fun b ps e => ⟨#[], by rw [e]; simp⟩) (fun m hm => ?_) (fun b u e => ?_) I.bare
  · have e : b = it := by simpa using hb
    subst e
    exact ⟨h1, hL, h2, h3⟩
  · obtain ⟨o, es, ep, ho, r⟩ := hm
    exact ⟨o, es, ep, k _ o (Ne.symm hL) ho, r⟩
  · refine (I.hok b u e).stay (fun c v hc q => k c v ?_ q) (fun _ q => q) fun _ _ q => q
    rcases hc with z | z
    · rw [z]; exact nit b u e
    · exact nit c _ z
theorem Inv.tok (I : Inv X pins σ H s) (t : Nat) : Inv X pins σ H { s with toks := t } := I.un (h' := s.heap) (t' := t) Un.refl I.hok
theorem Inv.kept {t' : Nat} (I : Inv X pins σ H s) (k : ∀ b u, s.heap.get? b = some u → h'.get? b = some u) : Inv X pins σ H { s with heap := h', toks := t' } := I.un (Un.kept k) (I.hok.kept k)
theorem Inv.laid {a : Addr} {o : HO} {t' : Nat} (I : Inv X pins σ H s) (k : ∀ b u, s.heap.get? b = some u → h'.get? b = some u) (hp : s.heap.objs.size ≤ a) (new : ObjOk X.prog X.w (upd H a o) h' a o) :
    Inv X pins σ (upd H a o) { s with heap := h', toks := t' } := I.un (Un.laid k hp (I.hok.fresh hp)) (I.hok.laid k hp new)
theorem Inv.write {x e : Addr} {o : HO} {t' : Nat} (I : Inv X pins σ H s) (mu : Mut (H x)) (he : e = x ∨ H e = some (.own x)) (k : ∀ b u, b ≠ e → s.heap.get? b = some u → h'.get? b = some u) (heo : ∃ u, h'.get? e = some u)
    (new : ObjOk X.prog X.w (upd H x o) h' x o) : Inv X pins σ (upd H x o) { s with heap := h', toks := t' } := I.un (Un.write mu he k heo) (I.hok.write mu he k heo new)
theorem Inv.pins_of {pins' : List (Addr × Obj)} (I : Inv X pins σ H s) (h : ∀ p ∈ pins', s.heap.get? p.1 = some p.2 ∧ H p.1 = none ∧ p.1 ≠ X.env.locals ∧ p.1 ∉ X.fs ∧ ∀ v, p.2.data ≠ .cell v) : Inv X pins' σ H s :=
  ⟨I.ok, I.os, I.bare, I.base, I.loc, I.cell, I.free, I.freeC, fun p hp => (List.mem_append.mp hp).elim (fun z => I.pin p (List.mem_append_left _ z)) (h p), I.hok, I.len⟩
theorem nodup_ix {N : List Str} (hN : N.Nodup) {i j : Nat} {x : Str} (a : N[i]? = some x) (b : N[j]? = some x) : i = j := by
  obtain ⟨h1, e1⟩ := List.getElem?_eq_some_iff.mp a
  obtain ⟨h2, e2⟩ := List.getElem?_eq_some_iff.mp b
  exact (List.getElem_inj hN).mp (e1.trans e2.symm)
theorem store_ok2 {M : Model} {A : Around} {E : Value → Shared → Prop} {i : Nat} {x : Str} {v : V} {u : Value} {Q : Unit → Shared → Prop} (I : Inv X pins σ H s) (hN : X.N.Nodup) (hi : X.N[i]? = some x) (hx : Loc X.env.scope x) (r : RelV v u)
    (h : ∀ s', Inv X pins (σ.set i (some v)) H s' → (∃ a, Heap.SameBut a s.heap s'.heap ∧ (a = X.env.locals ∨ X.env.cells.lookup x = some a)) → Q () s') (hf : X.fn x = true ∨ X.env.scope.names.lookup x = some .local := by first | exact .inl rfl | exact .inr rfl | assumption) : wpAny M A (storeName X.env x u) Q E s := by
  obtain ⟨m, hn, hl⟩ := id I.loc
  have hcls : (X.env.scope.kind == .class || (X.env.scope.kind == .module && X.env.locals != X.env.globals)) = false := by rw [I.ok.kind]; rfl
  have hiσ : i < σ.length := by rw [I.len]; exact (List.getElem?_eq_some_iff.mp hi).1
  have cne := I.cne
  have tracked : ∀ {a : Addr} {h' : Heap}, (∃ o, s.heap.get? a = some o ∧ H a = none) → Heap.SameBut a s.heap h' → HOk X.prog X.w H h' := fun {a h'} ha hs b ob e => by
    obtain ⟨_, _, hfree⟩ := ha
    refine (I.hok b ob e).stay (fun c w' hc q => (hs.2 c ?_).trans q) (fun _ q => q) fun _ _ q => q
    rintro rfl
    rcases hc with rfl | hc
    · rw [hfree] at e; cases e
    · rw [hfree] at hc; cases hc
  rcases hx with hk | hk
  · refine wpAny_storeName_local hk hn (fun h' hn' hs => ?_) hcls
    obtain ⟨oL, _, _, hoL, _⟩ := id hn
    refine h _ ⟨I.ok, I.os, I.bare, ⟨fun b o e n hb hx => ?_, fun b o e n hb hx => ?_, I.base.free, fun b o e hx => ?_, I.base.tups, I.base.frzs, I.base.tbls⟩, ⟨_, hn', fun j y v' e1 e2 e3 => ?_⟩, fun y c e => ?_, I.free, I.freeC, fun p hp => ?_, tracked ⟨oL, hoL, I.free⟩ hs, by simpa using I.len⟩ ⟨_, hs, .inl rfl⟩
    · exact (hs.2 b (Nat.ne_of_lt (Nat.lt_of_lt_of_le (Heap.lt_size e) I.ok.above))).trans (I.base.keep b o e n hb hx)
    · obtain ⟨sl, e1⟩ := I.base.slot b o e n hb hx
      exact ⟨sl, (hs.2 b (Nat.ne_of_lt (Nat.lt_of_lt_of_le (Heap.lt_size e) I.ok.above))).trans e1⟩
    · obtain ⟨o', e1⟩ := I.base.there b o e hx
      exact ⟨o', (hs.2 b (Nat.ne_of_lt (Nat.lt_of_lt_of_le (Heap.lt_size e) I.ok.above))).trans e1⟩
    · by_cases hj : j = i
      · subst hj
        rw [hi] at e1; cases e1
        rw [List.getElem?_set_self hiσ] at e2
        cases e2
        exact ⟨u, r, .inl ⟨hk, by simp⟩⟩
      · rw [List.getElem?_set_ne (Ne.symm hj)] at e2
        obtain ⟨u', r', q⟩ := hl j y v' e1 e2 e3
        refine ⟨u', r', ?_⟩
        rcases q with ⟨k, e⟩ | ⟨k, c, e, z⟩
        · refine .inl ⟨k, ?_⟩
          have : y ≠ x := fun e => hj (nodup_ix hN e1 (e ▸ hi))
          simp [this, e]
        · exact .inr ⟨k, c, e, z.sameBut hs (cne y c e)⟩
    · obtain ⟨w', z⟩ := I.cell y c e
      exact ⟨w', z.sameBut hs (cne y c e)⟩
    · obtain ⟨e, n, ne, nf, d⟩ := I.pin p hp
      exact ⟨(hs.2 p.1 ne).trans e, n, ne, nf, d⟩
  · have hfn : X.fn x = true := by
      rcases hf with z | z
      · exact z
      · rw [z] at hk; cases hk
    obtain ⟨c, hc⟩ := I.ok.has x (.inl hk)
    obtain ⟨w', z⟩ := I.cell x c hc
    refine wpAny_storeName_cell I.ok.kind hk hc z (fun h' hc' hs => ?_)
    obtain ⟨oc, hoc, hocd⟩ := id z
    refine h { s with heap := h' } ⟨I.ok, I.os, I.bare, ⟨fun b o e n hb hx => ?_, fun b o e n hb hx => ?_, I.base.free, fun b o e hx => ?_, I.base.tups, I.base.frzs, I.base.tbls⟩, ⟨m, hn.sameBut hs (Ne.symm (cne x c hc)), fun j y v' e1 e2 e3 => ?_⟩, fun y c' e => ?_, I.free, I.freeC, fun p hp => ?_, tracked ⟨oc, hoc, I.freeC x c hc⟩ hs, by simpa using I.len⟩ ⟨c, hs, .inr hc⟩
    · exact (hs.2 b (Nat.ne_of_lt (Nat.lt_of_lt_of_le (Heap.lt_size e) (I.ok.cab x c hfn hc)))).trans (I.base.keep b o e n hb hx)
    · obtain ⟨sl, e1⟩ := I.base.slot b o e n hb hx
      exact ⟨sl, (hs.2 b (Nat.ne_of_lt (Nat.lt_of_lt_of_le (Heap.lt_size e) (I.ok.cab x c hfn hc)))).trans e1⟩
    · obtain ⟨o', e1⟩ := I.base.there b o e hx
      exact ⟨o', (hs.2 b (Nat.ne_of_lt (Nat.lt_of_lt_of_le (Heap.lt_size e) (I.ok.cab x c hfn hc)))).trans e1⟩
    · by_cases hj : j = i
      · subst hj
        rw [hi] at e1; cases e1
        rw [List.getElem?_set_self hiσ] at e2
        cases e2
        exact ⟨u, r, .inr ⟨.inl hk, c, hc, hc'⟩⟩
      · rw [List.getElem?_set_ne (Ne.symm hj)] at e2
        obtain ⟨u', r', q⟩ := hl j y v' e1 e2 e3
        refine ⟨u', r', ?_⟩
        rcases q with q | ⟨k, c', e, z'⟩
        · exact .inl q
        · refine .inr ⟨k, c', e, z'.sameBut hs ?_⟩
          rintro rfl
          exact hj (nodup_ix hN e1 (I.ok.inj _ _ _ e hc ▸ hi))
    · by_cases hcc : c' = c
      · subst hcc; exact ⟨_, hc'⟩
      · obtain ⟨w2, z2⟩ := I.cell y c' e
        exact ⟨w2, z2.sameBut hs hcc⟩
    · obtain ⟨e, n, ne, nf, d⟩ := I.pin p hp
      refine ⟨(hs.2 p.1 ?_).trans e, n, ne, nf, d⟩
      intro q
      rw [q, hoc] at e
      have q' : oc = p.2 := Option.some.inj e
      exact d w' (by rw [← q']; exact hocd)
theorem store_ok {M : Model} {A : Around} {E : Value → Shared → Prop} {i : Nat} {x : Str} {v : V} {u : Value} {Q : Unit → Shared → Prop} (I : Inv X pins σ H s) (hN : X.N.Nodup) (hi : X.N[i]? = some x) (hx : Loc X.env.scope x) (r : RelV v u)
    (h : ∀ s', Inv X pins (σ.set i (some v)) H s' → Q () s') (hf : X.fn x = true ∨ X.env.scope.names.lookup x = some .local := by first | exact .inl rfl | exact .inr rfl | assumption) : wpAny M A (storeName X.env x u) Q E s :=
  store_ok2 I hN hi hx r (fun s' I' _ => h s' I') hf
theorem Inv.call' {s' : Shared} {ch : List Addr} (I : Inv X pins σ H s) (ho : s'.os = s.os) (u : Un (frs X.stack) ch H H' s.heap s'.heap) (hok : HOk X.prog X.w H' s'.heap) (hg : AllBare s'.gens)
    (hch : ∀ b ∈ ch, (b ∈ X.ex ∨ X.s₀.heap.objs.size ≤ b) ∧ b ≠ X.env.locals ∧ (∀ x c, X.env.cells.lookup x = some c → c ≠ b) ∧ ∀ p ∈ X.pn ++ pins, p.1 ≠ b) : Inv X pins σ H' s' := by
  obtain ⟨h', g', d', t', o'⟩ := s'
  have e : o' = s.os := ho
  subst e
  exact I.call (g' := g') (t' := t') (d' := d') u hok hg hch
end
noncomputable abbrev XK := Value → Option Addr → Hp → Prop
noncomputable abbrev St := List (Option V)
noncomputable abbrev VK := V → Hp → Prop
noncomputable abbrev TE := St → Hp → VK → Prop
noncomputable abbrev TT := St → Hp → (Bool → Hp → Prop) → Prop
noncomputable abbrev TA := St → Hp → (List V → Hp → Prop) → Prop
structure Ends where
  nx : St → Hp → Prop
  rt : VK
  bk : St → Hp → Prop := fun _ _ => False
  ct : St → Hp → Prop := fun _ _ => False
noncomputable abbrev TS := Ends → St → Hp → Prop
noncomputable def EP (X : Cx) (pins : List (Addr × Obj)) (σ : St) (Q : VK) (u : Value) (s' : Shared) : Prop := ∃ v H', Inv X pins σ H' s' ∧ RelV v u ∧ Q v H'
noncomputable def TP (X : Cx) (pins : List (Addr × Obj)) (σ : St) (Q : Bool → Hp → Prop) (b : Bool) (s' : Shared) : Prop := ∃ H', Inv X pins σ H' s' ∧ Q b H'
noncomputable def AP (X : Cx) (pins : List (Addr × Obj)) (σ : St) (Q : List V → Hp → Prop) (us : List Value) (s' : Shared) : Prop := ∃ vs H', Inv X pins σ H' s' ∧ Vals vs us ∧ Q vs H'
noncomputable def SP (X : Cx) (pins : List (Addr × Obj)) (D : Ends) (f : Flow) (s' : Shared) : Prop :=
  match f with
  | .next => ∃ σ' H', Inv X pins σ' H' s' ∧ D.nx σ' H'
  | .brk => ∃ σ' H', Inv X pins σ' H' s' ∧ D.bk σ' H'
  | .cont => ∃ σ' H', Inv X pins σ' H' s' ∧ D.ct σ' H'
  | .ret u => ∃ v σ' H', Inv X pins σ' H' s' ∧ RelV v u ∧ D.rt v H'
noncomputable def PE (X : Cx) (e : Expr) (t : TE) : Prop :=
  ∀ (pins : List (Addr × Obj)) (s : Shared) (σ : St) (H : Hp) (Q : VK), Inv X pins σ H s → t σ H Q → wpAny (model X.prog X.w) X.A (eval e X.env) (EP X pins σ Q) X.xe s
noncomputable def PT (X : Cx) (e : Expr) (t : TT) : Prop :=
  ∀ (pins : List (Addr × Obj)) (s : Shared) (σ : St) (H : Hp) (Q : Bool → Hp → Prop), Inv X pins σ H s → t σ H Q → wpAny (model X.prog X.w) X.A (isTrue e X.env (eval e X.env)) (TP X pins σ Q) X.xe s
noncomputable def PW (X : Cx) (e : Expr) (t : TT) : Prop :=
  ∀ (whole : Sem Value) (pins : List (Addr × Obj)) (s : Shared) (σ : St) (H : Hp) (Q : Bool → Hp → Prop), Inv X pins σ H s → t σ H Q → wpAny (model X.prog X.w) X.A (isTrue e X.env whole) (TP X pins σ Q) X.xe s
theorem PW.pt {X : Cx} {e : Expr} {t : TT} (h : PW X e t) : PT X e t := h _
noncomputable def PA (X : Cx) (es : List Expr) (t : TA) : Prop :=
  ∀ (pos : Pos) (pins : List (Addr × Obj)) (s : Shared) (σ : St) (H : Hp) (Q : List V → Hp → Prop), Inv X pins σ H s → t σ H Q → wpAny (model X.prog X.w) X.A (spliced (backTo pos (starEach es X.env))) (AP X pins σ Q) X.xe s
noncomputable def PS (X : Cx) (st : Stmt) (t : TS) : Prop :=
  ∀ (pins : List (Addr × Obj)) (s : Shared) (σ : St) (H : Hp) (D : Ends), Inv X pins σ H s → t D σ H → wpAny (model X.prog X.w) X.A (exec st X.env) (SP X pins D) X.xe s
noncomputable def PSs (X : Cx) (st : List Stmt) (t : TS) : Prop :=
  ∀ (pins : List (Addr × Obj)) (s : Shared) (σ : St) (H : Hp) (D : Ends), Inv X pins σ H s → t D σ H → wpAny (model X.prog X.w) X.A (execs st X.env) (SP X pins D) X.xe s
theorem thn {α : Type} {t : Sem α} {Q Q' : α → Shared → Prop} {M : Model} {A : Around} {E : Value → Shared → Prop} {s : Shared} (h : wpAny M A t Q E s) (hQ : ∀ a s, Q a s → Q' a s) : wpAny M A t Q' E s := wpAny_mono h hQ fun _ _ x => x
end L2
namespace L2
open PySem PySem.Spec PyProof.Rows
section
variable {X : Cx}
noncomputable def tVar (i : Nat) : TE := fun σ H Q => ∃ v, σ[i]? = some (some v) ∧ Q v H
noncomputable def tC (v : V) : TE := fun _ H Q => Q v H
theorem pe_var {i : Nat} {x : Str} {pos : Pos} (hN : X.N[i]? = some x) (hv : Vis X.env.scope x) (hd : (x == ("__debug__" : Str)) = false := by decide) (hcd : (x == ("__classdict__" : Str)) = false := by decide) : PE X (.Name x pos) (tVar i) := by
  intro pins s σ H Q I h
  obtain ⟨v, e, h⟩ := h
  obtain ⟨m, hn, hl⟩ := I.loc
  obtain ⟨u, r, l⟩ := hl i x v hN e hv
  have fin : EP X pins σ Q u s := ⟨v, H, I, r, h⟩
  rcases l with ⟨hk, hm⟩ | ⟨hk, c, hc, hcell⟩
  · exact wpAny_Name (wpAny_loadName_local I.ok.kind hk hn hm fin) hd
  · rcases hk with hk | hk
    · exact wpAny_Name (wpAny_loadName_cell I.ok.kind hk hc hcell fin) hd
    · exact wpAny_Name (wpAny_loadName_free I.ok.kind hk hc hcell fin hcd) hd
theorem pe_int {i j pos} : PE X (.Constant (.int i) j pos) (tC (.int i)) := fun _ _ _ H _ I h => wpAny_Constant_int ⟨.int i, H, I.tok _, ⟨_, rfl⟩, h⟩
theorem pe_bl {b j pos} : PE X (.Constant (.bool b) j pos) (tC (.bl b)) := fun _ _ _ H _ I h => Constant_bool ⟨.bl b, H, I, rfl, h⟩
theorem pe_str {x j pos} : PE X (.Constant (.str x) j pos) (tC (.str x)) := fun _ _ _ H _ I h => Calls.Constant_str ⟨.str x, H, I.tok _, ⟨_, rfl⟩, h⟩
noncomputable def Gl (X : Cx) (x : Str) : Prop := X.env.kindOf x = some .globalImplicit
theorem ld_glob {E : Value → Shared → Prop} {pins : List (Addr × Obj)} {s : Shared} {σ : St} {H : Hp} {x : Str} {u : Value} {pos : Pos} {Q : Value → Shared → Prop} (I : Inv X pins σ H s) (hg : Gl X x) (hm : X.mg x = some u) (h : Q u s)
    (hd : (x == ("__debug__" : Str)) = false := by decide) : wpAny (model X.prog X.w) X.A (eval (.Name x pos) X.env) Q E s :=
  Calls.Name_function_global I.ok.kind hg (Calls.loadGlobal_global (by rw [I.ok.glob]; exact I.mod.glob.keeps I.bk) hm h) hd
theorem ld_blt {E : Value → Shared → Prop} {pins : List (Addr × Obj)} {s : Shared} {σ : St} {H : Hp} {x : Str} {u : Value} {pos : Pos} {Q : Value → Shared → Prop} (I : Inv X pins σ H s) (hg : Gl X x) (hm : X.mg x = none) (hv : bootBuiltins x = some u) (h : Q u s)
    (hn : x ≠ "__name__" := by decide) (hd : (x == ("__debug__" : Str)) = false := by decide) : wpAny (model X.prog X.w) X.A (eval (.Name x pos) X.env) Q E s := by
  obtain ⟨mb, h1, h2⟩ := I.mod.blt
  exact Calls.Name_function_global I.ok.kind hg (Calls.loadGlobal_builtin (by rw [I.ok.glob]; exact I.mod.glob.keeps I.bk) hm (by rw [I.ok.blt]; exact h1.keeps I.bk) ((h2 x hn).trans hv) h) hd
theorem pe_glob {x : Str} {v : V} {u : Value} {pos : Pos} (hg : Gl X x) (hm : X.mg x = some u) (r : RelV v u) (hd : (x == ("__debug__" : Str)) = false := by decide) : PE X (.Name x pos) (tC v) :=
  fun _ _ _ H _ I h => ld_glob I hg hm ⟨v, H, I, r, h⟩ hd
theorem pe_bltn {x : Str} {v : V} {u : Value} {pos : Pos} (hg : Gl X x) (hm : X.mg x = none) (hv : bootBuiltins x = some u) (r : RelV v u) (hn : x ≠ "__name__" := by decide) (hd : (x == ("__debug__" : Str)) = false := by decide) : PE X (.Name x pos) (tC v) :=
  fun _ _ _ H _ I h => ld_blt I hg hm hv ⟨v, H, I, r, h⟩ hn hd
variable {a b : Expr} {ta tb : TE} {pos : Pos}
noncomputable def tB (t : TE) : TT := fun σ H Q => t σ H fun x H1 => ∃ c, x = .bl c ∧ Q c H1
theorem pt_val {e : Expr} {t : TE} (h : PE X e t) (he : ∀ whole, isTrue e X.env whole = (do let v ← whole; standAt e.pos; holding [v] (truthy v)) := by intro _; rfl) : PT X e (tB t) := by
  intro pins s σ H Q I hw
  refine isTrue_plain (thn (h pins s σ H _ I hw) fun v s1 ⟨x, H1, I1, r1, q1⟩ => ?_) (he _)
  obtain ⟨d, rfl, q⟩ := q1
  cases r1
  exact wpAny_truthy_bool ⟨H1, I1, q⟩
variable {tA tB' : TT} {rest : List Expr}
noncomputable def tAnd (t u : TT) : TT := fun σ H Q => t σ H fun c H1 => if c = true then u σ H1 Q else Q false H1
noncomputable def tOr (t u : TT) : TT := fun σ H Q => t σ H fun c H1 => if c = true then Q true H1 else u σ H1 Q
noncomputable def tNot (t : TT) : TT := fun σ H Q => t σ H fun c H1 => Q (!c) H1
theorem pw_or1 (ha : PT X a tA) : PW X (.BoolOp .Or [a] pos) tA := by
  intro wh pins s σ H Q I h
  refine isTrue_or (thn (ha pins s σ H Q I h) fun c s1 e => ?_)
  cases c with
  | false => exact isTrue_or_nil e
  | true => exact e
theorem pw_or (ha : PT X a tA) (hb : PW X (.BoolOp .Or (b :: rest) pos) tB') : PW X (.BoolOp .Or (a :: b :: rest) pos) (tOr tA tB') := by
  intro wh pins s σ H Q I h
  refine isTrue_or (thn (ha pins s σ H _ I h) fun c s1 ⟨H1, I1, q1⟩ => ?_)
  cases c with
  | true => exact ⟨H1, I1, q1⟩
  | false => exact hb wh pins s1 σ H1 Q I1 q1
theorem pt_not (ha : PT X a tA) : PT X (.UnaryOp .Not a pos) (tNot tA) := by
  intro pins s σ H Q I h
  exact isTrue_not (ha pins s σ H (fun c H1 => Q (!c) H1) I h)
noncomputable def tAndV (ta tb : TE) : TE := fun σ H Q => ta σ H fun x H1 => ∃ c, x = .bl c ∧ if c = true then tb σ H1 Q else Q (.bl false) H1
noncomputable def tOrV (ta tb : TE) : TE := fun σ H Q => ta σ H fun x H1 => ∃ c, x = .bl c ∧ if c = true then Q (.bl true) H1 else tb σ H1 Q
noncomputable def tNotV (ta : TE) : TE := fun σ H Q => ta σ H fun x H1 => ∃ c, x = .bl c ∧ Q (.bl (!c)) H1
noncomputable def tIf (t : TT) (ta tb : TE) : TE := fun σ H Q => t σ H fun c H1 => if c = true then ta σ H1 Q else tb σ H1 Q
end
end L2
namespace L2
open PySem PySem.Spec PyProof.Rows
noncomputable def SqL (K : PySem.W.Frag) (H : Hp) (a : Addr) (xs : List V) : Prop :=
  Rd H a (.lst xs) ∨
    ∃ (o : Obj) (its : Array Value) (n : Nat), K.lookup a = some o ∧ o.cls = .type "list" ∧ o.dict = none ∧ o.data = .seq its n ∧ its.size ≤ sizeLine ∧ Vals xs its.toList
noncomputable def SqT (K : PySem.W.Frag) (H : Hp) (a : Addr) (xs : List V) : Prop :=
  Rd H a (.tup xs) ∨
    ∃ (o : Obj) (its : Array Value) (n : Nat), K.lookup a = some o ∧ o.cls = .type "tuple" ∧ o.data = .seq its n ∧ its.size ≤ sizeLine ∧ Vals xs its.toList
section
variable {X : Cx} {pins : List (Addr × Obj)} {σ : St} {H : Hp} {s : Shared} {a : Addr} {xs ys : List V}
theorem SqL.of {K : PySem.W.Frag} (h : H a = some (.lst xs)) : SqL K H a xs := .inl (.inl h)
theorem Inv.list (I : Inv X pins σ H s) (h : SqL X.K H a xs) : ∃ its : List Value, Vals xs its ∧ PlainL s.heap a its.toArray ∧ xs.length ≤ sizeLine := by
  rcases h with h | ⟨o, its, n, hk, hc, hd, hs, hz, r⟩
  · obtain ⟨z, its, n, r, e⟩ := h.ok I.hok
    exact ⟨its, r, ⟨_, n, e, rfl, rfl, rfl⟩, z⟩
  · refine ⟨its.toList, r, ⟨o, n, I.kIn a o hk, hc, hd, by simpa using hs⟩, ?_⟩
    have e := r.length
    simp only [Array.length_toList] at e
    lia
theorem Inv.tuple (I : Inv X pins σ H s) (h : SqT X.K H a xs) : ∃ its : List Value, Vals xs its ∧ IsTup s.heap a its.toArray ∧ xs.length ≤ sizeLine := by
  rcases h with h | ⟨o, its, n, hk, hc, hs, hz, r⟩
  · obtain ⟨z, its, r, p⟩ := h.ok I.hok
    exact ⟨its, r, p, z⟩
  · refine ⟨its.toList, r, ⟨o, I.kIn a o hk, hc, n, by simpa using hs⟩, ?_⟩
    have e := r.length
    simp only [Array.length_toList] at e
    lia
end
noncomputable abbrev Cx.wish (X : Cx) (E : Value → Shared → Prop) : Cx := { X with xe := E }
noncomputable abbrev Cx.nox (X : Cx) : Cx := X.wish fun _ _ => False
theorem Cx.Ok.wish {X : Cx} (ok : X.Ok) (E : Value → Shared → Prop) : (X.wish E).Ok :=
  ⟨ok.mod, ok.kind, ok.glob, ok.blt, ok.above, ok.inj, ok.has, ok.cab, ok.hd, ok.frames, ok.stk, ok.exf, ok.bs, ok.bsz, ok.noex, ok.exfs, ok.funs, ok.frf⟩
theorem Cx.Ok.unwish {X : Cx} {E : Value → Shared → Prop} (ok : (X.wish E).Ok) : X.Ok :=
  ⟨ok.mod, ok.kind, ok.glob, ok.blt, ok.above, ok.inj, ok.has, ok.cab, ok.hd, ok.frames, ok.stk, ok.exf, ok.bs, ok.bsz, ok.noex, ok.exfs, ok.funs, ok.frf⟩
section
variable {X : Cx} {pins : List (Addr × Obj)} {σ : St} {H : Hp} {s : Shared} {E : Value → Shared → Prop}
theorem Inv.wish (I : Inv X pins σ H s) (E : Value → Shared → Prop) : Inv (X.wish E) pins σ H s := ⟨I.ok.wish E, I.os, I.bare, I.base, I.loc, I.cell, I.free, I.freeC, I.pin, I.hok, I.len⟩
theorem Inv.unwish (I : Inv (X.wish E) pins σ H s) : Inv X pins σ H s := ⟨I.ok.unwish, I.os, I.bare, I.base, I.loc, I.cell, I.free, I.freeC, I.pin, I.hok, I.len⟩
theorem SP.unwish {D : Ends} {f : Flow} {s' : Shared} (h : SP (X.wish E) pins D f s') : SP X pins D f s' := by
  cases f with
  | next => obtain ⟨σ', H', I, q⟩ := h; exact ⟨σ', H', I.unwish, q⟩
  | brk => obtain ⟨σ', H', I, q⟩ := h; exact ⟨σ', H', I.unwish, q⟩
  | cont => obtain ⟨σ', H', I, q⟩ := h; exact ⟨σ', H', I.unwish, q⟩
  | ret u => obtain ⟨v, σ', H', I, r, q⟩ := h; exact ⟨v, σ', H', I.unwish, r, q⟩
theorem PSs.nox {st : List Stmt} {t : TS} (h : PSs X.nox st t) : PSs X st t := fun pins s σ H D I hw =>
  wpAny_mono (h pins s σ H D (I.wish _) hw) (fun _ _ q => q.unwish) fun _ _ z => False.elim z
end
section
variable {X : Cx} {st : Stmt} {rest : List Stmt} {t u : TS} {e : Expr} {te : TE} {pos : Pos}
noncomputable def tNext : TS := fun D σ H => D.nx σ H
noncomputable def tSeq (t u : TS) : TS := fun D σ H => t { D with nx := u D } σ H
theorem pss_nil : PSs X [] tNext := fun _ _ σ H _ I h => wpAny_execs_nil ⟨σ, H, I, h⟩
theorem pss_cons (h1 : PS X st t) (h2 : PSs X rest u) : PSs X (st :: rest) (tSeq t u) := by
  intro pins s σ H D I h
  refine wpAny_execs_cons (thn (h1 pins s σ H { D with nx := u D } I h) fun f s1 q => ?_)
  cases f with
  | next =>
    obtain ⟨σ', H', I', q⟩ := q
    exact h2 pins s1 σ' H' D I' q
  | ret v => exact q
  | brk => exact q
  | cont => exact q
theorem pss_one (h1 : PS X st t) : PSs X [st] t := by
  intro pins s σ H D I h
  refine wpAny_execs_cons (thn (h1 pins s σ H D I h) fun f s1 q => ?_)
  cases f with
  | next => exact wpAny_execs_nil q
  | ret v => exact q
  | brk => exact q
  | cont => exact q
theorem Inv.quiet {pins : List (Addr × Obj)} {σ : St} {H : Hp} {s : Shared} (I : Inv X pins σ H s) : interactive X.env = false := by simp [interactive, I.ok.kind]
noncomputable def tDrop (te : TE) : TS := fun D σ H => te σ H fun _ H1 => D.nx σ H1
theorem ps_expr (he : PE X e te) (hs : swapsWith e none pos.line X.env = pure false := by rfl) : PS X (.Expr e pos) (tDrop te) := by
  intro pins s σ H D I h
  exact wpAny_Expr_any (thn (he pins s σ H _ I h) fun v s1 ⟨x, H1, I1, r1, q1⟩ => ⟨σ, H1, I1, q1⟩) I.quiet hs
noncomputable def tRet (te : TE) : TS := fun D σ H => te σ H D.rt
theorem ps_ret (he : PE X e te) : PS X (.Return (some e) pos) (tRet te) := by
  intro pins s σ H D I h
  exact wpAny_Return_some (thn (he pins s σ H _ I h) fun v s1 ⟨x, H1, I1, r1, q1⟩ => ⟨x, σ, H1, I1, r1, q1⟩)
noncomputable def tIfS (c : TT) (t u : TS) : TS := fun D σ H => c σ H fun b H1 => if b = true then t D σ H1 else u D σ H1
theorem ps_if {c : Expr} {a b : List Stmt} {tc : TT} (hc : PT X c tc) (ha : PSs X a t) (hb : PSs X b u) : PS X (.If c a b pos) (tIfS tc t u) := by
  intro pins s σ H D I h
  refine wpAny_If (thn (hc pins s σ H _ I h) fun d s1 ⟨H1, I1, q1⟩ => ?_)
  cases d with
  | true => exact ha pins s1 σ H1 D I1 q1
  | false => exact hb pins s1 σ H1 D I1 q1
noncomputable def tNever : TS := fun _ _ _ => False
theorem pss_never {sts : List Stmt} : PSs X sts tNever := fun _ _ _ _ _ _ h => h.elim
end
noncomputable abbrev TG := V → St → Hp → (St → Hp → Prop) → Prop
noncomputable abbrev TGs := List V → St → Hp → (St → Hp → Prop) → Prop
noncomputable def PG (X : Cx) (target : Expr) (t : TG) : Prop :=
  ∀ (pins : List (Addr × Obj)) (s : Shared) (σ : St) (H : Hp) (v : V) (u : Value) (Q : St → Hp → Prop), Inv X pins σ H s → RelV v u → t v σ H Q →
    wpAny (model X.prog X.w) X.A (assign target X.env u) (fun _ s' => ∃ σ' H', Inv X pins σ' H' s' ∧ Q σ' H') X.xe s
noncomputable abbrev TSet := V → V → V → Hp → (Hp → Prop) → Prop
section
variable {X : Cx} {pos : Pos}
noncomputable def gName (i : Nat) : TG := fun v σ H Q => Q (σ.set i (some v)) H
theorem pg_name {i : Nat} {x : Str} (hN : X.N.Nodup) (hi : X.N[i]? = some x) (hx : Loc X.env.scope x) (hf : X.fn x = true ∨ X.env.scope.names.lookup x = some .local := by first | exact .inl rfl | exact .inr rfl | assumption) : PG X (.Name x pos) (gName i) := by
  intro pins s σ H v u Q I r h
  exact wpAny_assign_Name (store_ok I hN hi hx r (fun s' I' => ⟨_, H, I', h⟩) hf)
noncomputable def gNil : TGs := fun vs σ H Q => vs = [] ∧ Q σ H
noncomputable def gCons (t : TG) (u : TGs) : TGs := fun vs σ H Q => ∃ v r, vs = v :: r ∧ t v σ H fun σ' H' => u r σ' H' Q
noncomputable def gSub (to ti : TE) (t : TSet) : TG := fun v σ H Q => to σ H fun o H1 => ti σ H1 fun i H2 => t o i v H2 fun H3 => Q σ H3
noncomputable def tAsg (te : TE) (g : TG) : TS := fun D σ H => te σ H fun x H1 => g x σ H1 D.nx
theorem ps_set {i : Nat} {x : Str} {e : Expr} {te : TE} {pos' : Pos} (hN : X.N.Nodup) (hi : X.N[i]? = some x) (hx : Loc X.env.scope x) (he : PE X e te) (hs : swapsWith e (some (.Name x pos')) pos.line X.env = pure false := by rfl) (hf : X.fn x = true ∨ X.env.scope.names.lookup x = some .local := by first | exact .inl rfl | exact .inr rfl | assumption) :
    PS X (.Assign [.Name x pos'] e pos) (tAsg te (gName i)) := by
  intro pins s σ H D I h
  refine wpAny_Assign_Name (thn (he pins s σ H _ I h) fun v s1 ⟨y, H1, I1, r1, q1⟩ => ?_) hs
  exact store_ok I1 hN hi hx r1 (fun s2 I2 => ⟨_, H1, I2, q1⟩) hf
end
section
variable {X : Cx} {pos : Pos}
end
structure It where
  go : Nat → Hp → Prop
  yld : Nat → Hp → V → Hp → Prop
  stop : Nat → Hp → Prop
noncomputable def FpOk (X : Cx) (pins : List (Addr × Obj)) (H : Hp) (b : Addr) : Prop :=
  H b = none ∧ b ≠ X.env.locals ∧ b ∉ X.fs ∧ (b ∈ X.ex ∨ X.s₀.heap.objs.size ≤ b) ∧ (∀ x c, X.env.cells.lookup x = some c → c ≠ b) ∧ ∀ p ∈ X.pn ++ pins, p.1 ≠ b
theorem Inv.fpOk {X : Cx} {pins : List (Addr × Obj)} {σ : St} {H H' : Hp} {s : Shared} {b : Addr} (I : Inv X pins σ H s) (hb : s.heap.objs.size ≤ b) (hn : H' b = none) : FpOk X pins H' b := by
  refine ⟨hn, Nat.ne_of_gt (Nat.lt_of_lt_of_le I.lt hb), I.nofs hb, .inr (Nat.le_trans I.sz hb), fun x c e z => ?_, fun p hp z => ?_⟩
  · obtain ⟨v, q⟩ := I.cell x c e
    exact absurd (Nat.lt_of_lt_of_le q.lt (by rw [z]; exact hb)) (Nat.lt_irrefl _)
  · exact absurd (Nat.lt_of_lt_of_le (Heap.lt_size (I.pin p hp).1) (by rw [z]; exact hb)) (Nat.lt_irrefl _)
structure Turn (P : Program) (w : World) (K : PySem.W.Frag) (tg : Expr) (J : It) (fp : List Addr) (it : Addr) (tn : Nat → Heap → Prop) : Prop where
  mem : it ∈ fp
  obj : ∀ i h, tn i h → ∀ b ∈ fp, ∃ o, h.get? b = some o ∧ ∀ v, o.data ≠ .cell v
  keep : ∀ i h h', tn i h → (∀ b ∈ fp, ∀ o, h.get? b = some o → h'.get? b = some o) → tn i h'
  item : ∀ (X : Cx), X.prog = P → X.w = w → X.K = K → X.calm = true → ∀ (i : Nat) (pins : List (Addr × Obj)) (s : Shared) (σ : St) (H : Hp) (E : Value → Shared → Prop), Inv X pins σ H s → (∀ b ∈ fp, FpOk X pins H b) → tn i s.heap → J.go i H →
    wpAny (model P w) X.A (pyNext (.ref it)) (fun r s1 => ∃ u, r = some u ∧
      wpAny (model P w) X.A (letOwnedTupleGo tg (.ref it) u) (fun _ s2 => ∃ x H', Inv X pins σ H' s2 ∧ RelV x u ∧ J.yld i H x H' ∧ tn (i + 1) s2.heap ∧ ∀ b ∈ fp, H' b = none) E s1) E s
  done : ∀ (X : Cx), X.prog = P → X.w = w → X.K = K → X.calm = true → ∀ (i : Nat) (pins : List (Addr × Obj)) (s : Shared) (σ : St) (H : Hp) (E : Value → Shared → Prop), Inv X pins σ H s → (∀ b ∈ fp, FpOk X pins H b) → tn i s.heap → J.stop i H →
    wpAny (model P w) X.A (pyNext (.ref it)) (fun r s1 => r = none ∧ Inv X pins σ H s1) E s
  self : ∀ (A : Around) (i : Nat) (s : Shared) (Q : Value → Shared → Prop) (E : Value → Shared → Prop), tn i s.heap → Q (.ref it) s → wpAny (model P w) A (pyIter (.ref it)) Q E s
noncomputable abbrev TI := St → Hp → (It → Hp → Prop) → Prop
noncomputable def PIE (X : Cx) (pins : List (Addr × Obj)) (σ : St) (tg : Expr) (R : It → Hp → Prop) (itv : Value) (s2 : Shared) : Prop :=
  ∃ (it : Addr) (fp : List Addr) (tn : Nat → Heap → Prop) (J : It) (H' : Hp), itv = .ref it ∧ Inv X pins σ H' s2 ∧ Turn X.prog X.w X.K tg J fp it tn ∧ tn 0 s2.heap ∧ (∀ b ∈ fp, FpOk X pins H' b) ∧ R J H'
noncomputable def PI (X : Cx) (tg iter : Expr) (wi : TI) : Prop :=
  ∀ (pins : List (Addr × Obj)) (s : Shared) (σ : St) (H : Hp) (R : It → Hp → Prop), Inv X pins σ H s → wi σ H R →
    wpAny (model X.prog X.w) X.A (eval iter X.env) (fun v s1 => wpAny (model X.prog X.w) X.A (pyIter v) (PIE X pins σ tg R) X.xe s1) X.xe s
theorem go_of {M : Model} {A : Around} {E : Value → Shared → Prop} {s : Shared} {tg : Expr} {it : Addr} {u : Value} {o : Obj} {n : String} {vs : Array Value} {Q : Unit → Shared → Prop} (ho : s.heap.get? it = some o) (hc : o.cls = .type n) (hd : o.data = .fields vs)
    (hn : ["enumerate", "zip", "dict_itemiterator", "dict_reverseitemiterator", "odict_iterator", "itertools.zip_longest", "itertools.pairwise"].contains n = false) (hQ : Q () s) : wpAny M A (letOwnedTupleGo tg (.ref it) u) Q E s := by
  unfold letOwnedTupleGo
  cases tg <;> first
    | exact wpAny_pure hQ
    | (cases u <;> first
        | exact wpAny_pure hQ
        | (refine wpAny_bind (wpAny_load ho ?_)
           rw [hc, hd]
           show wpAny M A (if (["enumerate", "zip", "dict_itemiterator", "dict_reverseitemiterator", "odict_iterator", "itertools.zip_longest", "itertools.pairwise"].contains n && vs[0]? == some (rawInt _)) = true then _ else _) Q E s
           rw [if_neg (by intro h; rw [hn, Bool.false_and] at h; cases h)]
           exact wpAny_pure hQ))
noncomputable def Itl (K : PySem.W.Frag) (a : Addr) : It :=
  ⟨fun i H => ∃ xs x, SqL K H a xs ∧ xs[i]? = some x, fun i H x H' => H' = H ∧ ∀ xs, SqL K H a xs → xs[i]? = some x, fun i H => ∃ xs, SqL K H a xs ∧ xs.length ≤ i⟩
noncomputable def Itr (lo : Int) (n : Nat) : It := ⟨fun i _ => i < n, fun i H x H' => H' = H ∧ x = .int (lo + i), fun i _ => n ≤ i⟩
theorem turn_range {P : Program} {w : World} {K : PySem.W.Frag} {tg : Expr} (it : Addr) (lo : Int) (n : Nat) : Turn P w K tg (Itr lo n) [it] it (fun i h => IsRangeIter h it (lo + (i : Nat) * 1) ((n : Int) - (i : Nat)) 1) where
  mem := by simp
  obj := fun i h st b hb => by
    have e : b = it := by simpa using hb
    subst e
    exact ⟨_, st, fun v z => by
      have z' : Data.fields _ = Data.cell v := z
      cases z'⟩
  keep := fun i h h' st k => k it (by simp) _ st
  item := by
    intro X hP hw hK hc i pins s σ H E I hf st hg
    subst hP hw hK
    obtain ⟨f0, f1, f2, f3, f4, f5⟩ := hf it (by simp)
    have W := Walks.range (prog := X.prog) (w := X.w) (I.ok.hd hc) it lo 1 n
    refine W.item i s _ _ hg st fun v h' tk hv st' kk => ?_
    obtain ⟨t, rfl⟩ := hv
    have I1 : Inv X pins σ H { s with heap := h', toks := tk } := I.turned (fun b o hb e => kk b o (by simpa using hb) e) f0 f1 f3 f4 f5
    refine ⟨_, rfl, go_of (s := { s with heap := h', toks := tk }) (n := "range_iterator") st' rfl rfl (by decide) ⟨.int (lo + i), H, I1, ⟨t, ?_⟩, ⟨rfl, rfl⟩, st', fun b hb => (hf b hb).1⟩⟩
    rw [Int.mul_one]
  done := by
    intro X hP hw hK hc i pins s σ H E I hf st hg
    subst hP hw hK
    obtain ⟨f0, f1, f2, f3, f4, f5⟩ := hf it (by simp)
    exact wpAny_pyNext_range_end (I.ok.hd hc) st (by have : n ≤ i := hg; lia) fun h' eb => ⟨rfl, I.turned (t' := s.toks) (fun b o hb e => eb b o hb e) f0 f1 f3 f4 f5⟩
  self := fun _ _ _ _ _ st h => wpAny_pyIter_rangeiter st h
end L2
namespace L2
open PySem PySem.Spec PyProof.Rows
section
variable {X : Cx} {tg : Expr}
noncomputable def iList (K : PySem.W.Frag) (tl : TE) : TI := fun σ H R => tl σ H fun x H1 => ∃ a, x = .ref a ∧ (∃ xs, SqL K H1 a xs) ∧ R (Itl K a) H1
theorem range_it {pins : List (Addr × Obj)} {σ : St} {H : Hp} {s : Shared} {R : It → Hp → Prop} {E : Value → Shared → Prop} {lo hi : Int} {t u v : Tok} {tk : Nat} (I : Inv X pins σ H s) (h1 : -(2 ^ 62) ≤ lo) (h2 : lo < 2 ^ 62) (h3 : -(2 ^ 62) ≤ hi) (h4 : hi < 2 ^ 62)
    (q : R (Itr lo (hi - lo).toNat) H) : wpAny (model X.prog X.w) X.A (pyIter (.ref s.heap.objs.size)) (PIE X pins σ tg R) E { s with heap := s.heap.push { cls := .type "range", data := .fields #[.int lo t, .int hi u, .int 1 v] }, toks := tk } := by
  refine wpAny_pyIter_range (IsRange.new ..) (small_one h1 h2 h3 h4) ?_
  have I1 : Inv X pins σ H { s with heap := s.heap.push { cls := .type "range", data := .fields #[.int lo t, .int hi u, .int 1 v] }, toks := tk } := I.kept fun b o e => Heap.get?_push_of_some _ e
  refine ⟨(s.heap.push { cls := .type "range", data := .fields #[.int lo t, .int hi u, .int 1 v] }).objs.size, [(s.heap.push { cls := .type "range", data := .fields #[.int lo t, .int hi u, .int 1 v] }).objs.size], _, _, H, rfl,
    I1.kept (t' := tk) fun b o e => Heap.get?_push_of_some _ e, turn_range _ lo (hi - lo).toNat, ?_, fun b hb => ?_, q⟩
  · have e1 : lo + ((0 : Nat) : Int) * 1 = lo := by simp
    have e2 : (((hi - lo).toNat : Nat) : Int) - ((0 : Nat) : Int) = Builtin.Range.rangeSize lo hi 1 := by rw [rangeSize_one]; split <;> lia
    show IsRangeIter _ _ (lo + ((0 : Nat) : Int) * 1) ((((hi - lo).toNat : Nat) : Int) - ((0 : Nat) : Int)) 1
    rw [e1, e2]
    exact Heap.get?_push_size _ rfl
  · have e : b = (s.heap.push { cls := .type "range", data := .fields #[.int lo t, .int hi u, .int 1 v] }).objs.size := by simpa using hb
    subst e
    exact I1.fpOk (Nat.le_refl _) (I1.hok.fresh (Nat.le_refl _))
noncomputable def iRng1 (ta : TA) : TI := fun σ H R => ta σ H fun vs H1 => ∃ j : Int, vs = [.int j] ∧ -(2 ^ 62) ≤ j ∧ j < 2 ^ 62 ∧ R (Itr 0 j.toNat) H1
noncomputable def iRng2 (ta : TA) : TI := fun σ H R => ta σ H fun vs H1 => ∃ i j : Int, vs = [.int i, .int j] ∧ (-(2 ^ 62) ≤ i ∧ i < 2 ^ 62 ∧ -(2 ^ 62) ≤ j ∧ j < 2 ^ 62) ∧ R (Itr i (j - i).toNat) H1
theorem pi_range1 {a : Expr} {ta : TA} {p pos : Pos} (hg : Gl X "range") (hm : X.mg "range" = none) (ha : PA X [a] ta) (hs : starEach [a] X.env = [(false, eval a X.env)] := by rfl) : PI X tg (.Call (.Name "range" p) [a] [] pos) (iRng1 ta) := by
  intro pins s σ H R I h
  refine Call_ (ld_blt I hg hm boot_range (PyProof.Rows.callWith_type1 (thn (ha pos pins s σ H _ I h) fun us s1 ⟨vs, H1, I1, r1, q1⟩ => ?_) hs rfl))
  obtain ⟨j, e, q1, q2, q⟩ := q1
  subst e
  cases r1 with
  | cons r rr =>
    cases rr
    obtain ⟨t, rfl⟩ := r
    exact call_range_1 (range_it I1 (by lia) (by lia) q1 q2 (by simpa using q))
noncomputable def tFor (wi : TI) (g : TG) (tb : TS) : TS := fun D σ H => wi σ H fun J H1 => ∃ W : Nat → Nat → St → Hp → Prop, (∃ m, W 0 m σ H1) ∧ ∀ i m σ H, W i m σ H →
  (J.stop i H ∧ D.nx σ H) ∨ (J.go i H ∧ ∃ N : St → Hp → Prop, (∀ σ' H', N σ' H' → ∃ m', m' < m ∧ W (i + 1) m' σ' H') ∧ ∀ x H', J.yld i H x H' → g x σ H' fun σ2 H2 => tb { D with nx := N, ct := N, bk := D.nx } σ2 H2)
noncomputable def pinsAt (fp : List Addr) (h : Heap) : List (Addr × Obj) := fp.filterMap fun b => (h.get? b).map fun o => (b, o)
theorem mem_pinsAt {fp : List Addr} {h : Heap} {b : Addr} {o : Obj} (hb : b ∈ fp) (e : h.get? b = some o) : (b, o) ∈ pinsAt fp h := List.mem_filterMap.mpr ⟨b, hb, by rw [e]; rfl⟩
theorem of_pinsAt {fp : List Addr} {h : Heap} {p : Addr × Obj} (hp : p ∈ pinsAt fp h) : p.1 ∈ fp ∧ h.get? p.1 = some p.2 := by
  obtain ⟨b, hb, e⟩ := List.mem_filterMap.mp hp
  cases q : h.get? b with
  | none => rw [q] at e; cases e
  | some o =>
    rw [q] at e
    have e' : (b, o) = p := Option.some.inj e
    subst e'
    exact ⟨hb, q⟩
theorem Inv.pinned {pins : List (Addr × Obj)} {σ : St} {H : Hp} {s : Shared} {fp : List Addr} (I : Inv X pins σ H s) (hf : ∀ b ∈ fp, FpOk X pins H b) (ho : ∀ b ∈ fp, ∃ o, s.heap.get? b = some o ∧ ∀ v, o.data ≠ .cell v) : Inv X (pins ++ pinsAt fp s.heap) σ H s :=
  I.pins_of fun p hp => (List.mem_append.mp hp).elim (fun z => I.pin p (List.mem_append_right _ z)) fun z => by
    obtain ⟨hb, e⟩ := of_pinsAt z
    obtain ⟨f0, f1, f2, _⟩ := hf p.1 hb
    obtain ⟨o, e', d⟩ := ho p.1 hb
    rw [e] at e'; cases e'
    exact ⟨e, f0, f1, f2, d⟩
theorem Inv.unpinned {pins pl : List (Addr × Obj)} {σ : St} {H : Hp} {s : Shared} (I : Inv X (pins ++ pl) σ H s) : Inv X pins σ H s := I.pins_of fun p hp => I.pin p (List.mem_append_right _ (List.mem_append_left _ hp))
theorem ps_for {iter : Expr} {body : List Stmt} {wi : TI} {g : TG} {tb : TS} {pos : Pos} (hp : PassesOwn (model X.prog X.w) X.A X.env X.xe) (hc : X.calm = true) (hi : PI X tg iter wi) (hg : PG X tg g) (hb : PSs X body tb)
    (hs : ∀ x, foldedSetIterable iter X.env x = pure x := by intro _; rfl) : PS X (.For tg iter body [] pos) (tFor wi g tb) := by
  intro pins s σ H D I h
  refine wpAny_For (thn (hi pins s σ H _ I h) fun v s1 h1 => thn h1 fun itv s2 h2 => ?_) hs
  obtain ⟨it, fp, tn, J, H2, e, I2, T, st2, f2, W, ⟨m0, w0⟩, turn⟩ := h2
  subst e
  have stat : ∀ {H' : Hp}, (∀ b ∈ fp, H' b = none) → ∀ b ∈ fp, FpOk X pins H' b := fun hn b hb => ⟨hn b hb, (f2 b hb).2⟩
  refine codeAny_forLoop_any (fun n s' => ∃ i σ' H', Inv X pins σ' H' s' ∧ tn i s'.heap ∧ (∀ b ∈ fp, H' b = none) ∧ W i n σ' H') ?_ m0 ⟨0, σ, H2, I2, st2, fun b hb => (f2 b hb).1, w0⟩
  rintro n s3 ⟨i, σ3, H3, I3, st3, fr3, w3⟩
  rcases turn i n σ3 H3 w3 with ⟨stop, qn⟩ | ⟨go, N, hN, step⟩
  · refine wpAny_passesOwn hp (thn (T.done X rfl rfl rfl hc i pins s3 σ3 H3 X.xe I3 (stat fr3) st3 stop) fun r s4 ⟨hr, I4⟩ => ?_)
    subst hr
    exact wpAny_execs_nil ⟨σ3, H3, I4, qn⟩
  · refine wpAny_passesOwn hp (thn (T.item X rfl rfl rfl hc i pins s3 σ3 H3 X.xe I3 (stat fr3) st3 go) fun r s4 ⟨u, hr, h4⟩ => ?_)
    subst hr
    refine wpAny_passesOwn hp (thn h4 fun _ s5 ⟨x, H5, I5, r5, y5, st5, fr5⟩ => ?_)
    have I5' := I5.pinned (stat fr5) (T.obj _ _ st5)
    refine wpAny_passesOwn hp (thn (hg _ s5 σ3 H5 x u _ I5' r5 (step x H5 y5)) fun _ s6 ⟨σ6, H6, I6, q6⟩ => ?_)
    refine wpAny_passesOwn hp (thn (hb _ s6 σ6 H6 _ I6 q6) fun f s7 q7 => ?_)
    have again : ∀ {σ7 : St} {H7 : Hp}, Inv X (pins ++ pinsAt fp s5.heap) σ7 H7 s7 → N σ7 H7 → ∃ m, m < n ∧ ∃ i σ' H', Inv X pins σ' H' s7 ∧ tn i s7.heap ∧ (∀ b ∈ fp, H' b = none) ∧ W i m σ' H' := fun {σ7 H7} I7 n7 => by
      obtain ⟨m', hm, w7⟩ := hN σ7 H7 n7
      refine ⟨m', hm, i + 1, σ7, H7, I7.unpinned, T.keep _ _ _ st5 fun b hb o e => (I7.pin (b, o) (List.mem_append_right _ (List.mem_append_right _ (mem_pinsAt hb e)))).1, fun b hb => ?_, w7⟩
      obtain ⟨o, e, d⟩ := T.obj _ _ st5 b hb
      exact (I7.pin (b, o) (List.mem_append_right _ (List.mem_append_right _ (mem_pinsAt hb e)))).2.1
    cases f with
    | next => obtain ⟨σ7, H7, I7, n7⟩ := q7; exact again I7 n7
    | cont => obtain ⟨σ7, H7, I7, n7⟩ := q7; exact again I7 n7
    | brk => obtain ⟨σ7, H7, I7, q7⟩ := q7; exact ⟨σ7, H7, I7.unpinned, q7⟩
    | ret v => obtain ⟨x7, σ7, H7, I7, r7, q7⟩ := q7; exact ⟨x7, σ7, H7, I7.unpinned, r7, q7⟩
end
theorem for_range {lo : Int} {n : Nat} {g : TG} {tb : TS} {D : Ends} {σ : St} {H : Hp} (Pv : Nat → St → Hp → Prop) (h0 : Pv 0 σ H)
    (hs : ∀ i σ H, i < n → Pv i σ H → g (.int (lo + i)) σ H fun σ2 H2 => tb { D with nx := Pv (i + 1), ct := Pv (i + 1), bk := D.nx } σ2 H2) (hd : ∀ σ H, Pv n σ H → D.nx σ H) :
    ∃ W : Nat → Nat → St → Hp → Prop, (∃ m, W 0 m σ H) ∧ ∀ i m σ H, W i m σ H →
      ((Itr lo n).stop i H ∧ D.nx σ H) ∨ ((Itr lo n).go i H ∧ ∃ N : St → Hp → Prop, (∀ σ' H', N σ' H' → ∃ m', m' < m ∧ W (i + 1) m' σ' H') ∧ ∀ x H', (Itr lo n).yld i H x H' → g x σ H' fun σ2 H2 => tb { D with nx := N, ct := N, bk := D.nx } σ2 H2) := by
  refine ⟨fun i m σ H => m = n - i ∧ i ≤ n ∧ Pv i σ H, ⟨n, by simp, Nat.zero_le _, h0⟩, ?_⟩
  rintro i m σ H ⟨rfl, hi, p⟩
  by_cases hlt : i < n
  · refine .inr ⟨hlt, Pv (i + 1), fun σ' H' p' => ⟨n - (i + 1), by lia, rfl, hlt, p'⟩, fun x H' y => ?_⟩
    obtain ⟨e, y⟩ := y
    subst e y
    exact hs i σ _ hlt p
  · have e : i = n := by lia
    subst e
    exact .inl ⟨Nat.le_refl _, hd σ H p⟩
end L2
namespace L2
open PySem PySem.Spec PyProof.Rows
noncomputable abbrev R2 := V → V → Hp → VK → Prop
noncomputable def OpR (X : Cx) (f : Value → Value → Sem Value) (r : R2) : Prop :=
  ∀ (pins : List (Addr × Obj)) (s : Shared) (σ : St) (H : Hp) (x y : V) (v u : Value) (Q : VK), Inv X pins σ H s → RelV x v → RelV y u → r x y H Q →
    wpAny (model X.prog X.w) X.A (f v u) (EP X pins σ Q) X.xe s
noncomputable def CallR (X : Cx) (f : Value) (r : List V → Hp → VK → Prop) : Prop :=
  ∀ (pins : List (Addr × Obj)) (s : Shared) (σ : St) (H : Hp) (xs : List V) (us : List Value) (Q : VK), Inv X pins σ H s → Vals xs us → r xs H Q →
    wpAny (model X.prog X.w) X.A (call f us) (EP X pins σ Q) X.xe s
noncomputable def tOp (r : R2) (ta tb : TE) : TE := fun σ H Q => ta σ H fun x H1 => tb σ H1 fun y H2 => r x y H2 Q
noncomputable def tUn (r : V → Hp → VK → Prop) (ta : TE) : TE := fun σ H Q => ta σ H fun x H1 => r x H1 Q
noncomputable def rI (C : Int → Int → Prop) (g : Int → Int → V) : R2 := fun x y H Q => ∃ i j, x = .int i ∧ y = .int j ∧ C i j ∧ Q (g i j) H
noncomputable def rI0 (g : Int → Int → V) : R2 := fun x y H Q => ∃ i j, x = .int i ∧ y = .int j ∧ Q (g i j) H
noncomputable def rU (g : Int → V) : V → Hp → VK → Prop := fun x H Q => ∃ i, x = .int i ∧ Q (g i) H
section
variable {X : Cx} {a b c : Expr} {ta tb tc : TE} {pos : Pos}
theorem binT (ha : PE X a ta) (hb : PE X b tb) {pins : List (Addr × Obj)} {s : Shared} {σ : St} {H : Hp} {R : V → V → Hp → Prop} (I : Inv X pins σ H s)
    (h : ta σ H fun x H1 => tb σ H1 fun y H2 => R x y H2) {Q : Value → Shared → Prop} {f : Value → Value → Sem Value}
    (hf : ∀ v u s2 x y H2, Inv X pins σ H2 s2 → RelV x v → RelV y u → R x y H2 → wpAny (model X.prog X.w) X.A (f v u) Q X.xe s2) :
    wpAny (model X.prog X.w) X.A (eval a X.env) (fun v s₁ => wpAny (model X.prog X.w) X.A (eval b X.env) (fun u s₂ => wpAny (model X.prog X.w) X.A (f v u) Q X.xe s₂) X.xe s₁) X.xe s := by
  refine thn (ha pins s σ H _ I h) fun v s1 ⟨x, H1, I1, r1, q1⟩ => ?_
  refine thn (hb pins s1 σ H1 _ I1 q1) fun u s2 ⟨y, H2, I2, r2, q2⟩ => ?_
  exact hf v u s2 x y H2 I2 r1 r2 q2
theorem pe_op {op : Operator} {r : R2} (ho : OpR X (binaryOp op) r) (ha : PE X a ta) (hb : PE X b tb) : PE X (.BinOp a op b pos) (tOp r ta tb) := by
  intro pins s σ H Q I h
  exact wpAny_BinOp (binT ha hb I h fun v u s2 x y H2 I2 rx ry q => ho pins s2 σ H2 x y v u Q I2 rx ry q)
theorem opI {f : Value → Value → Sem Value} {C : Int → Int → Prop} {g : Int → Int → Int}
    (rule : ∀ (i j : Int) (t u : Tok) (s : Shared) (Q : Value → Shared → Prop) (E : Value → Shared → Prop), C i j → Q (.int (g i j) s.toks) { s with toks := s.toks + 1 } → wpAny (model X.prog X.w) X.A (f (.int i t) (.int j u)) Q E s) :
    OpR X f (rI C fun i j => .int (g i j)) := by
  intro pins s σ H x y v u Q I rx ry h
  obtain ⟨i, j, rfl, rfl, hc, q⟩ := h
  obtain ⟨t, rfl⟩ := rx
  obtain ⟨t', rfl⟩ := ry
  exact rule i j t t' s _ _ hc ⟨.int (g i j), H, I.tok _, ⟨_, rfl⟩, q⟩
theorem opI0 {f : Value → Value → Sem Value} {g : Int → Int → Int}
    (rule : ∀ (i j : Int) (t u : Tok) (s : Shared) (Q : Value → Shared → Prop) (E : Value → Shared → Prop), Q (.int (g i j) s.toks) { s with toks := s.toks + 1 } → wpAny (model X.prog X.w) X.A (f (.int i t) (.int j u)) Q E s) :
    OpR X f (rI0 fun i j => .int (g i j)) := by
  intro pins s σ H x y v u Q I rx ry h
  obtain ⟨i, j, rfl, rfl, q⟩ := h
  obtain ⟨t, rfl⟩ := rx
  obtain ⟨t', rfl⟩ := ry
  exact rule i j t t' s _ _ ⟨.int (g i j), H, I.tok _, ⟨_, rfl⟩, q⟩
theorem op_add : OpR X (binaryOp .Add) (rI0 fun i j => .int (i + j)) := opI0 fun _ _ _ _ _ _ _ q => add_int q
theorem op_sub : OpR X (binaryOp .Sub) (rI0 fun i j => .int (i - j)) := opI0 fun _ _ _ _ _ _ _ q => sub_int q
theorem op_modN : OpR X (binaryOp .Mod) (rI (fun _ j => j ≠ 0) fun i j => .int (i.fmod j)) := opI fun _ _ _ _ _ _ _ hc q => mod_int' hc q
end
noncomputable def scal : V → V → Bool
  | .non, .non => true | .non, .int _ => true | .int _, .non => true | .non, .bl _ => true | .bl _, .non => true | .non, .str _ => true | .str _, .non => true
  | .int _, .int _ => true | .bl _, .bl _ => true | .str _, .str _ => true | .byt _, .byt _ => true
  | .int _, .str _ => true | .str _, .int _ => true | .bl _, .str _ => true | .str _, .bl _ => true
  | _, _ => false
noncomputable def rEq : R2 := fun x y H Q => scal x y = true ∧ Q (.bl (decide (x = y))) H
noncomputable def rNe : R2 := fun x y H Q => scal x y = true ∧ Q (.bl (!decide (x = y))) H
theorem dec_int {i j : Int} : decide (V.int i = V.int j) = (i == j) := by
  rw [Bool.eq_iff_iff]
  simp
theorem dec_bl {i j : Bool} : decide (V.bl i = V.bl j) = (i == j) := by
  rw [Bool.eq_iff_iff]
  simp
theorem dec_str {i j : Str} : decide (V.str i = V.str j) = (i == j) := by
  rw [Bool.eq_iff_iff]
  simp
theorem dec_byt {i j : Array UInt8} : decide (V.byt i = V.byt j) = (i.toList == j.toList) := by
  rw [Bool.eq_iff_iff]
  cases i
  cases j
  simp
section
variable {X : Cx} {a b c : Expr} {ta tb tc : TE} {pos : Pos}
theorem fin_bl {pins : List (Addr × Obj)} {σ : St} {H : Hp} {s : Shared} {Q : VK} {k k' : Bool} (I : Inv X pins σ H s) (q : Q (.bl k) H) (e : k = k') : EP X pins σ Q (.bool k') s := by
  subst e
  exact ⟨.bl k, H, I, rfl, q⟩
theorem op_eq : OpR X (compareOp .Eq) rEq := by
  intro pins s σ H x y v u Q I rx ry h
  obtain ⟨hs, q⟩ := h
  cases x with
  | non =>
    cases rx
    cases y with
    | non => cases ry; exact PySem.EqNone.eq_none_none (fin_bl I q (by simp))
    | bl j => cases ry; exact PySem.EqNone.eq_none_bool (fin_bl I q (by simp))
    | int j => obtain ⟨t', rfl⟩ := ry; exact PySem.EqNone.eq_none_int (fin_bl I q (by simp))
    | str j => obtain ⟨t', rfl⟩ := ry; exact PySem.EqNone.eq_none_str (fin_bl I q (by simp))
    | _ => exact absurd (show false = true from hs) Bool.false_ne_true
  | bl i =>
    cases rx
    cases y with
    | non => cases ry; exact PySem.EqNone.eq_bool_none (fin_bl I q (by simp))
    | bl j => cases ry; exact eq_bool (fin_bl I q dec_bl)
    | str j => obtain ⟨t', rfl⟩ := ry; exact PySem.EqMixed.eq_bool_str (fin_bl I q (by simp))
    | _ => exact absurd (show false = true from hs) Bool.false_ne_true
  | int i =>
    obtain ⟨t, rfl⟩ := rx
    cases y with
    | non => cases ry; exact PySem.EqNone.eq_int_none (fin_bl I q (by simp))
    | int j => obtain ⟨t', rfl⟩ := ry; exact eq_int (fin_bl I q dec_int)
    | str j => obtain ⟨t', rfl⟩ := ry; exact PySem.EqMixed.eq_int_str (fin_bl I q (by simp))
    | _ => exact absurd (show false = true from hs) Bool.false_ne_true
  | str i =>
    obtain ⟨t, rfl⟩ := rx
    cases y with
    | non => cases ry; exact PySem.EqNone.eq_str_none (fin_bl I q (by simp))
    | bl j => cases ry; exact PySem.EqMixed.eq_str_bool (fin_bl I q (by simp))
    | int j => obtain ⟨t', rfl⟩ := ry; exact PySem.EqMixed.eq_str_int (fin_bl I q (by simp))
    | str j => obtain ⟨t', rfl⟩ := ry; exact eq_str (fin_bl I q dec_str)
    | _ => exact absurd (show false = true from hs) Bool.false_ne_true
  | byt i =>
    obtain ⟨t, rfl⟩ := rx
    cases y with
    | byt j => obtain ⟨t', rfl⟩ := ry; exact PySem.W.eq_bytes (fin_bl I q dec_byt)
    | _ => exact absurd (show false = true from hs) Bool.false_ne_true
  | _ => cases y <;> exact absurd (show false = true from hs) Bool.false_ne_true
theorem op_ne : OpR X (compareOp .NotEq) rNe := by
  intro pins s σ H x y v u Q I rx ry h
  obtain ⟨hs, q⟩ := h
  cases x with
  | non =>
    cases rx
    cases y with
    | non => cases ry; exact PySem.EqNone.ne_none_none (fin_bl I q (by simp))
    | bl j => cases ry; exact PySem.EqNone.ne_none_bool (fin_bl I q (by simp))
    | int j => obtain ⟨t', rfl⟩ := ry; exact PySem.EqNone.ne_none_int (fin_bl I q (by simp))
    | str j => obtain ⟨t', rfl⟩ := ry; exact PySem.EqNone.ne_none_str (fin_bl I q (by simp))
    | _ => exact absurd (show false = true from hs) Bool.false_ne_true
  | bl i =>
    cases rx
    cases y with
    | non => cases ry; exact PySem.EqNone.ne_bool_none (fin_bl I q (by simp))
    | bl j => cases ry; exact ne_bool (fin_bl I q (congrArg not dec_bl))
    | str j => obtain ⟨t', rfl⟩ := ry; exact PySem.EqMixed.ne_bool_str (fin_bl I q (by simp))
    | _ => exact absurd (show false = true from hs) Bool.false_ne_true
  | int i =>
    obtain ⟨t, rfl⟩ := rx
    cases y with
    | non => cases ry; exact PySem.EqNone.ne_int_none (fin_bl I q (by simp))
    | int j => obtain ⟨t', rfl⟩ := ry; exact ne_int (fin_bl I q (congrArg not dec_int))
    | str j => obtain ⟨t', rfl⟩ := ry; exact PySem.EqMixed.ne_int_str (fin_bl I q (by simp))
    | _ => exact absurd (show false = true from hs) Bool.false_ne_true
  | str i =>
    obtain ⟨t, rfl⟩ := rx
    cases y with
    | non => cases ry; exact PySem.EqNone.ne_str_none (fin_bl I q (by simp))
    | bl j => cases ry; exact PySem.EqMixed.ne_str_bool (fin_bl I q (by simp))
    | int j => obtain ⟨t', rfl⟩ := ry; exact PySem.EqMixed.ne_str_int (fin_bl I q (by simp))
    | str j => obtain ⟨t', rfl⟩ := ry; exact ne_str (fin_bl I q (congrArg not dec_str))
    | _ => exact absurd (show false = true from hs) Bool.false_ne_true
  | byt i =>
    obtain ⟨t, rfl⟩ := rx
    cases y with
    | byt j => obtain ⟨t', rfl⟩ := ry; exact PySem.W.ne_bytes (fin_bl I q (congrArg not dec_byt))
    | _ => exact absurd (show false = true from hs) Bool.false_ne_true
  | _ => cases y <;> exact absurd (show false = true from hs) Bool.false_ne_true
theorem nomark (b : Expr) {op : CmpOp} (h : op ≠ .In := by decide) (h2 : op ≠ .NotIn := by decide) : behindInMarks op b = false := by
  have e1 : (op == CmpOp.In) = false := by cases op <;> first | rfl | exact absurd rfl h
  have e2 : (op == CmpOp.NotIn) = false := by cases op <;> first | rfl | exact absurd rfl h2
  cases b <;> simp [behindInMarks, e1, e2]
theorem pe_cmpR {op : CmpOp} {r : R2} (ho : OpR X (compareOp op) r) (ha : PE X a ta) (hb : PE X b tb) (hm : behindInMarks op b = false) : PE X (.Compare a [op] [b] pos) (tOp r ta tb) := by
  intro pins s σ H Q I h
  exact wpAny_Compare1 (binT ha hb I h fun v u s2 x y H2 I2 rx ry q => ho pins s2 σ H2 x y v u Q I2 rx ry q) hm
noncomputable def tTest (t : TE) : TT := fun σ H Q => t σ H fun x H' => ∃ k, x = .bl k ∧ Q k H'
theorem pt_cmpR {op : CmpOp} {r : R2} (ho : OpR X (compareOp op) r) (ha : PE X a ta) (hb : PE X b tb) (hm : behindInMarks op b = false) : PT X (.Compare a [op] [b] pos) (tTest (tOp r ta tb)) := by
  intro pins s σ H Q I h
  refine wpAny_isTrue_Compare1 (thn (ha pins s σ H _ I h) fun v s1 ⟨x, H1, I1, r1, q1⟩ => thn (hb pins s1 σ H1 _ I1 q1) fun u s2 ⟨y, H2, I2, r2, q2⟩ =>
    thn (ho pins s2 σ H2 x y v u _ I2 r1 r2 q2) fun c s3 ⟨z, H3, I3, r3, k, e, q3⟩ => ?_) hm
  subst e
  cases r3
  exact wpAny_truthy_bool ⟨H3, I3, q3⟩
noncomputable def TruV (K : PySem.W.Frag) (x : V) (H : Hp) (k : Bool) : Prop :=
  match x with
  | .non => k = false
  | .bl b => k = b
  | .int i => k = (i != 0)
  | .str y => y.length ≤ sizeLine ∧ k = ((y.length : Int) != 0)
  | .byt y => y.size ≤ sizeLine ∧ k = ((y.size : Int) != 0)
  | .ref p => (∃ xs, SqL K H p xs ∧ k = !xs.isEmpty) ∨ (∃ xs, SqT K H p xs ∧ k = !xs.isEmpty) ∨ ∃ kvs, H p = some (.dK kvs) ∧ k = !kvs.isEmpty
  | _ => False
theorem line63 : (sizeLine : Nat) < 2 ^ 63 := by rw [sizeLine_eq]; decide
theorem vals1 {x : V} {us : List Value} (r : Vals [x] us) : ∃ u, us = [u] ∧ RelV x u := by
  cases r with
  | cons r1 r2 => cases r2; exact ⟨_, rfl, r1⟩
end
end L2
namespace L2
open PySem PySem.Spec PyProof.Rows
structure ObjM (h : Heap) (x dx C : Addr) (mA : Str → Option Value) : Prop where
  obj : h.get? x = some (PySem.W.instObj C dx)
  ns : h.Ns1 dx mA
  ne : dx ≠ x
theorem lookIn_ns {h : Heap} {dx : Addr} {mA : Str → Option Value} (n : h.Ns1 dx mA) : ∃ od, h.get? dx = some od ∧ ∀ name, PySem.W.lookIn name od = some (mA name) := by
  obtain ⟨o, es, ep, ho, hd, hk, _, hm⟩ := n
  refine ⟨o, ho, fun name => ?_⟩
  have e := hm name
  unfold nsFind findBy at e
  rw [← Array.find?_toList] at e
  unfold PySem.W.lookIn
  rw [hd]
  dsimp only
  split
  · rename_i y q
    rw [q] at e
    exact congrArg some e
  · rename_i q
    rw [q] at e
    have a : es.toList.any (·.refKey) = false := by
      rw [List.any_eq_false]
      intro y hy
      obtain ⟨z, t, hkey⟩ := hk y (Array.mem_toList_iff.mp hy)
      simp [DictEntry.refKey, hkey]
    have a' : ¬ es.toList.any (·.refKey) = true := by rw [a]; exact Bool.false_ne_true
    rw [if_neg a']
    exact congrArg some e
section
variable {prog : Program} {w : World} {A : Around} {E : Value → Shared → Prop} {s : Shared} {K : PySem.W.Frag} {x dx C f : Addr} {mA : Str → Option Value} {name : Str} {v : Value}
end
theorem RelO.some_of {v : V} {o : Option Value} (r : RelO (some v) o) : ∃ u, o = some u ∧ RelV v u := by
  cases o with
  | none => exact (show False from r).elim
  | some u => exact ⟨u, rfl, r⟩
theorem handed_of {v : V} {u : Value} (r : RelV v u) : PySem.W.handedIn u = true := by
  cases v with
  | non => cases (show u = Value.none from r); rfl
  | bl b => cases (show u = Value.bool b from r); rfl
  | int i => obtain ⟨t, e⟩ := (show ∃ t, u = Value.int i t from r); cases e; rfl
  | str x => obtain ⟨t, e⟩ := (show ∃ t, u = Value.str x t from r); cases e; rfl
  | byt b => obtain ⟨t, e⟩ := (show ∃ t, u = Value.bytes b t from r); cases e; rfl
  | flt b => obtain ⟨t, e⟩ := (show ∃ t, u = Value.float b t from r); cases e; rfl
  | ref a => cases (show u = Value.ref a from r); rfl
  | ty n => cases (show u = Value.type n from r); rfl
section
variable {P : Program} {w : World} {H H' : Hp} {h h' : Heap} {a C dx : Addr} {fs fs' : List (Str × V)}
end
structure Cls (K : PySem.W.Frag) (C : Addr) : Prop where
  pg : PySem.W.plainGet K C Str.empty = true
  hd : PySem.W.hasDictIn K C = true
  po : PySem.W.plainOver K C = true
  sa : PySem.W.findIn K (.ref C) "__setattr__" = some (some (.builtin "object.__setattr__"))
structure Con (K : PySem.W.Frag) (C : Addr) (f : Str) (v : V) (u : Value) : Prop where
  at_ : PySem.W.findIn K (.ref C) f = some (some u)
  rel : RelV v u
  get : PySem.W.specialIn K u "__get__" = some none
  cp : PySem.W.copiedNames.contains f = false
structure Meth (K : PySem.W.Frag) (C : Addr) (m : Str) (f : Addr) : Prop where
  at_ : PySem.W.findIn K (.ref C) m = some (some (.ref f))
  fn : PySem.W.isFn K (.ref f) = true
  kp : PySem.W.keepIn K (.ref f) = true
section
variable {X : Cx} {pins : List (Addr × Obj)} {σ : St} {H : Hp} {s : Shared} {a C dx : Addr} {fs : List (Str × V)} {f : Str} {v : V} {A : Around} {E : Value → Shared → Prop}
theorem attr_of {prog : Program} {w : World} {env : Env} {e : Expr} {f : Str} {pos : Pos} {s : Shared} {Q : Value → Shared → Prop} (hb : attributeBase e f env (eval e env) = eval e env)
    (h : wpAny (model prog w) A (eval e env) (fun o s₁ => wpAny (model prog w) A (getAttr o f true) Q E s₁) E s) : wpAny (model prog w) A (eval (.Attribute e f pos) env) Q E s :=
  Attribute_any_ h (by rw [arm_eval_Attribute, hb])
end
section
variable {X : Cx} {o e value : Expr} {f : Str} {pos pos' tpos : Pos} {ta tv : TE}
end
section
variable {X : Cx} {pins : List (Addr × Obj)} {σ : St} {H : Hp} {s : Shared} {A : Around} {E : Value → Shared → Prop} {Q : Value → Shared → Prop} {c : Value} {b : Bool}
inductive TyOf (K : PySem.W.Frag) (H : Hp) : V → Value → Prop where
  | non : TyOf K H .non (.type "NoneType")
  | bl (x : Bool) : TyOf K H (.bl x) (.type "bool")
  | int (i : Int) : TyOf K H (.int i) (.type "int")
  | str (x : Str) : TyOf K H (.str x) (.type "str")
  | flt (x : UInt64) : TyOf K H (.flt x) (.type "float")
  | lst {a : Addr} {xs : List V} (e : H a = some (.lst xs)) : TyOf K H (.ref a) (.type "list")
  | frz {a : Addr} {o : Obj} {xs : List V} (e : H a = some (.frz o (.lst xs))) : TyOf K H (.ref a) (.type "list")
  | tup {a : Addr} {xs : List V} (e : H a = some (.tup xs)) : TyOf K H (.ref a) (.type "tuple")
  | dK {a : Addr} {kvs : List (Key × V)} (e : H a = some (.dK kvs)) : TyOf K H (.ref a) (.type "dict")
  | dT {a : Addr} {kvs : List (List Key × V)} (e : H a = some (.dT kvs)) : TyOf K H (.ref a) (.type "dict")
  | ins {a C dx : Addr} {fs : List (Str × V)} (e : H a = some (.ins C dx fs)) (cl : Cls K C) (ha : PySem.W.findIn K (.ref C) "__class__" = some (some (.builtin "object.__class__")))
      (hn : PySem.W.specialIn K (.builtin "object.__class__") "__get__" = some (some (.builtin "getset_descriptor.__get__"))) (htk : PySem.W.takesIn K (.builtin "object.__class__") = some true)
      (hm : PySem.W.mroIn K C (.type "object") = some true) : TyOf K H (.ref a) (.ref C)
end
end L2
namespace L2
open PySem PySem.Spec PyProof.Rows
structure Room (k : Nat) (A : Around) : Prop where
  hd : A.handled = none
  dp : A.depth + 3 * k + 5 < recursionLimit
  un : A.units + 16 * k + 200 < cLine
theorem Room.mono {j k : Nat} {A : Around} (r : Room k A) (h : j ≤ k) : Room j A := ⟨r.hd, by have := r.dp; lia, by have := r.un; lia⟩
theorem Room.deeper {k : Nat} {A : Around} (r : Room (k + 1) A) (env : Env) : Room k (A.deeper env) :=
  ⟨r.hd, by have := r.dp; show A.depth + 1 + 3 * k + 5 < _; lia, by have := r.un; show A.units + 3 + 16 * k + 200 < _; lia⟩
theorem make_depth {A : Around} {C : Addr} {us : List Value} {kw : List (Str × Value)} : (A.under (.builtin "type.__call__" ⟨.ref C :: us, kw⟩)).depth = A.depth + 1 := by
  first | rfl | simp [Around.under, Code.weight, Code.isCreation, Code.isGuard, Code.isCaller, Code.frames, Code.isFrame, guardIds]
theorem make_units {A : Around} {C : Addr} {us : List Value} {kw : List (Str × Value)} : (A.under (.builtin "type.__call__" ⟨.ref C :: us, kw⟩)).units = A.units + 1 := by
  first | rfl | simp [Around.under, Code.cUnits, Code.frames, Code.isFrame]
theorem Room.make {k : Nat} {A : Around} (r : Room (k + 1) A) (C : Addr) (us : List Value) (kw : List (Str × Value)) : Room k (A.under (.builtin "type.__call__" ⟨.ref C :: us, kw⟩)) :=
  ⟨r.hd, by have := r.dp; rw [make_depth]; lia, by have := r.un; rw [make_units]; lia⟩
theorem Room.depth {k : Nat} {A : Around} (r : Room k A) : A.depth < recursionLimit := by have := r.dp; lia
theorem Room.units0 {k : Nat} {A : Around} (r : Room k A) : A.units < cLine := by have := r.un; lia
noncomputable def tNil : TA := fun _ H Q => Q [] H
noncomputable def tCons (ta : TE) (tr : TA) : TA := fun σ H Q => ta σ H fun x H1 => tr σ H1 fun xs H2 => Q (x :: xs) H2
section
variable {X : Cx} {e : Expr} {es : List Expr} {te : TE} {t : TA} {pos : Pos}
theorem pa_nil : PA X [] tNil := fun _ _ _ _ H Q I h => Calls.spliced_nil ⟨[], H, I, .nil, h⟩
theorem pa_cons (ha : PE X e te) (hr : PA X es t) (hs : starEach (e :: es) X.env = (false, eval e X.env) :: starEach es X.env := by rfl) : PA X (e :: es) (tCons te t) := by
  intro pos pins s σ H Q I h
  rw [hs]
  show wpAny _ _ (spliced ((false, eval e X.env) :: backTo pos (starEach es X.env))) _ _ s
  refine Calls.spliced_cons (thn (ha pins s σ H _ I h) fun u s1 ⟨x, H1, I1, r1, q1⟩ => ?_)
  exact thn (hr pos pins s1 σ H1 _ I1 q1) fun us s2 ⟨xs, H2, I2, r2, q2⟩ => ⟨x :: xs, H2, I2, .cons r1 r2, q2⟩
noncomputable def tTup (t : TA) : TE := fun σ H Q => t σ H fun xs H1 => xs.length ≤ sizeLine ∧ ∀ p, H1 p = none → Q (.ref p) (upd H1 p (.tup xs))
noncomputable def tLst (t : TA) : TE := fun σ H Q => t σ H fun xs H1 => xs.length ≤ sizeLine ∧ ∀ p, H1 p = none → Q (.ref p) (upd H1 p (.lst xs))
theorem pe_lst (h : PA X es t) : PE X (.List es pos) (tLst t) := by
  intro pins s σ H Q I hq
  refine wpAny_List_spliced (thn (h pos pins s σ H _ I hq) fun us s1 ⟨xs, H1, I1, r, z, q⟩ => ⟨by rw [← r.length]; exact z, ?_⟩)
  have hf : H1 s1.heap.objs.size = none := I1.hok.fresh (Nat.le_refl _)
  refine ⟨.ref s1.heap.objs.size, upd H1 s1.heap.objs.size (.lst xs), I1.laid (t' := s1.toks) (fun b u e => Heap.get?_push_of_some _ e) (Nat.le_refl _) ?_, rfl, q _ hf⟩
  exact ⟨z, us, 0, r, Heap.get?_push_size _ rfl⟩
end
noncomputable abbrev Sp := List V → Hp → VK → XK → Prop
noncomputable abbrev CXT := List Env → Hp → Shared → XK → Value → Shared → Prop
structure Env0 (P : Program) (w : World) (K : PySem.W.Frag) (mg : Str → Option Value) (base : Heap) (A : Around) (outer : List Env) (s : Shared) (H : Hp) : Prop where
  frames : A.frames = some outer
  mod : Mod K mg base
  bs : ∀ b o, base.get? b = some o → s.heap.get? b = some o ∧ H b = none
  bsz : base.objs.size ≤ s.heap.objs.size
  funs : s.heap.FunFrames base outer
  frf : ∀ b ∈ frs outer, H b = none
  hok : HOk P w H s.heap
  bare : AllBare s.gens
noncomputable def CE (outer : List Env) (P : Program) (w : World) (H : Hp) (s : Shared) (Q : VK) (u : Value) (s' : Shared) : Prop :=
  ∃ v H', s'.os = s.os ∧ AllBare s'.gens ∧ Un (frs outer) [] H H' s.heap s'.heap ∧ HOk P w H' s'.heap ∧ RelV v u ∧ Q v H'
noncomputable def CR (CX : CXT) (outer : List Env) (P : Program) (w : World) (H : Hp) (s : Shared) (Q : VK) (E : XK) (r : Result) (s' : Shared) : Prop :=
  match r with
  | .ok (.ret u) => CE outer P w H s Q u s'
  | .ok _ => False
  | .error e => CX outer H s E e s'
structure FnOk (P : Program) (w : World) (K : PySem.W.Frag) (mg : Str → Option Value) (base : Heap) (CX : CXT) (k : Nat) (f : Addr) (fd : FuncData) (ps : List Str) (sp : Sp) : Prop where
  len : ∀ vs H Q E, sp vs H Q E → vs.length = ps.length
  run : ∀ (A : Around) (outer : List Env) (s : Shared) (H : Hp) (args : Args) (us : List Value) (vs : List V) (Q : VK) (E : XK), Room k A → Env0 P w K mg base A outer s H → BindsTo s fd args (ps.zip us) → Vals vs us → sp vs H Q E →
    codeAny (model P w) A (.call (.ref f) args) (CR CX outer P w H s Q E) s
theorem FnOk.mono {P : Program} {w : World} {K : PySem.W.Frag} {mg : Str → Option Value} {base : Heap} {CX : CXT} {j k : Nat} {f : Addr} {fd : FuncData} {ps : List Str} {sp : Sp} (F : FnOk P w K mg base CX j f fd ps sp) (h : j ≤ k) :
    FnOk P w K mg base CX k f fd ps sp := ⟨F.len, fun A outer s H args us vs Q E hr => F.run A outer s H args us vs Q E (hr.mono h)⟩
theorem Env0.make {P : Program} {w : World} {K : PySem.W.Frag} {mg : Str → Option Value} {base : Heap} {A : Around} {outer : List Env} {s : Shared} {H : Hp} (e : Env0 P w K mg base A outer s H) (C : Addr) (us : List Value) (kw : List (Str × Value)) :
    Env0 P w K mg base (A.under (.builtin "type.__call__" ⟨.ref C :: us, kw⟩)) outer s H := ⟨by first | exact e.frames | (simpa [Around.under, Code.envs, Code.isFrame, pushEnvs] using e.frames), e.mod, e.bs, e.bsz, e.funs, e.frf, e.hok, e.bare⟩
section
variable {X : Cx} {pins : List (Addr × Obj)} {σ : St} {H : Hp} {s s' : Shared}
theorem Inv.env0 (I : Inv X pins σ H s) : Env0 X.prog X.w X.K X.mg X.base X.A X.stack s H :=
  ⟨I.ok.frames, I.ok.mod, I.bs, Nat.le_trans I.ok.bsz I.sz, I.stack, I.stkFree, I.hok, I.bare⟩
theorem Inv.after {Q : VK} {u : Value} (I : Inv X pins σ H s) (h : CE X.stack X.prog X.w H s Q u s') : EP X pins σ Q u s' := by
  obtain ⟨v, H', os, bare, un, hok, r, q⟩ := h
  obtain ⟨hh, g, d, t, os'⟩ := s'
  obtain rfl : os' = s.os := os
  exact ⟨v, H', I.call (h' := hh) (g' := g) (d' := d) (t' := t) (ch := []) un hok bare (fun b z => absurd z (by simp)), r, q⟩
end
noncomputable def tCall (sp : Sp) (dvs : List V) (E : XK) (t : TA) : TE := fun σ H Q => t σ H fun vs H1 => sp (vs ++ dvs) H1 Q E
noncomputable def Binds (K : PySem.W.Frag) (fd : FuncData) (ps : List Str) (ds : List Value) : Prop :=
  ∀ (s : Shared) (us : List Value), K.In s.heap → (us ++ ds).length = ps.length → BindsTo s fd ⟨us, []⟩ (ps.zip (us ++ ds))
theorem Binds.all {K : PySem.W.Frag} {fd : FuncData} {ps : List Str} (h : ∀ us : List Value, us.length = ps.length → bindArgs fd ⟨us, []⟩ = pure (ps.zip us)) : Binds K fd ps [] := fun s us _ hl => by
  rw [List.append_nil] at hl ⊢
  exact .of_eq (h us hl)
noncomputable def Passes (CX : CXT) (X : Cx) (E : XK) : Prop := ∀ (pins : List (Addr × Obj)) (σ : St) (H : Hp) (s : Shared) (e : Value) (s' : Shared), Inv X pins σ H s → CX X.stack H s E e s' → X.xe e s'
section
variable {X : Cx} {CX : CXT} {k : Nat} {f C : Addr} {fd : FuncData} {ps : List Str} {sp : Sp} {dvs : List V} {ds : List Value} {E : XK} {x m : Str} {p pos apos : Pos} {e o : Expr} {es : List Expr} {ta : TE} {t : TA}
theorem run_fn {pins : List (Addr × Obj)} {σ : St} {H : Hp} {s : Shared} {Q : VK} {us : List Value} {vs : List V} (F : FnOk X.prog X.w X.K X.mg X.base CX k f fd ps sp) (hr : Room k X.A) (hb : Binds X.K fd ps ds) (hd : Vals dvs ds) (hx : Passes CX X E)
    (I : Inv X pins σ H s) (r : Vals vs us) (h : sp (vs ++ dvs) H Q E) : wpAny (model X.prog X.w) X.A (call (.ref f) us) (EP X pins σ Q) X.xe s := by
  have r2 : Vals (vs ++ dvs) (us ++ ds) := r.append hd
  have hl : (us ++ ds).length = ps.length := by rw [← r2.length]; exact F.len _ _ _ _ h
  refine wpAny_call (codeAny_mono (F.run X.A X.stack s H ⟨us, []⟩ (us ++ ds) (vs ++ dvs) Q E hr I.env0 (hb s us I.kIn hl) r2 h) fun r s' hq => ?_)
  cases r with
  | error e => exact hx pins σ H s e s' I hq
  | ok fl =>
    cases fl with
    | ret u => exact I.after hq
    | next => exact False.elim hq
    | brk => exact False.elim hq
    | cont => exact False.elim hq
theorem pe_call (F : FnOk X.prog X.w X.K X.mg X.base CX k f fd ps sp) (hr : Room k X.A) (hg : Gl X x) (hm : X.mg x = some (.ref f)) (hk : PySem.W.keepIn X.K (.ref f) = true) (hb : Binds X.K fd ps ds) (hd : Vals dvs ds) (hx : Passes CX X E)
    (ha : PA X (e :: es) t) (hdb : (x == ("__debug__" : Str)) = false := by decide) (he : starEach (e :: es) X.env = (false, eval e X.env) :: starEach es X.env := by rfl) (hpl : (backTo pos (starEach es X.env)).any (·.1) = false := by rfl) :
    PE X (.Call (.Name x p) (e :: es) [] pos) (tCall sp dvs E t) := by
  intro pins s σ H Q I h
  refine wpAny_Call_Name_kw (ld_glob I hg hm ?_ hdb)
  refine PySem.W.callWith_K (h₀ := X.base) I.ok.mod.kin hk (thn (ha pos pins s σ H _ I h) fun us s1 ⟨vs, H1, I1, r, q⟩ => ⟨I1.kIn, ?_⟩) he hpl
  exact run_fn F hr hb hd hx I1 r q
structure Mk (K : PySem.W.Frag) (C f : Addr) : Prop where
  makes : PySem.W.makesIn K C = true
  init : PySem.W.findIn K (.ref C) "__init__" = some (some (.ref f))
  fn : PySem.W.isFn K (.ref f) = true
  kp : PySem.W.keepIn K (.ref C) = true
end
section
variable {X : Cx} {CX : CXT} {k : Nat} {f C : Addr} {fd : FuncData} {ps ks : List Str} {sp : Sp} {E : XK} {x m : Str} {p pos apos kpos : Pos} {e o : Expr} {es : List Expr} {kws : List Keyword} {te ta : TE} {t tk : TA} {nm : Option Str}
structure KBinds (K : PySem.W.Frag) (fd : FuncData) (ps ks : List Str) (g : List Value → List Value → List Value) (gV : List V → List V → List V) : Prop where
  to : ∀ (s : Shared) (us ws : List Value), K.In s.heap → (g us ws).length = ps.length → BindsTo s fd ⟨us, ks.zip ws⟩ (ps.zip (g us ws))
  rel : ∀ {vs : List V} {us : List Value} {zs : List V} {ws : List Value}, Vals vs us → Vals zs ws → Vals (gV vs zs) (g us ws)
variable {g : List Value → List Value → List Value} {gV : List V → List V → List V}
end
structure FnScope (N P : List Str) (sc : Scope) : Prop where
  kind : sc.kind = .function
  co : sc.isCoroutine = false
  gen : sc.isGenerator = false
  nd : N.Nodup
  pre : N.take P.length = P
  par : ∀ x ∈ P, sc.names.lookup x = some .local ∨ sc.names.lookup x = some .cell
  nofree : ∀ y ∈ sc.names, y.2 ≠ .free
theorem bindL_out {kindOf : Str → Option NameKind} {x : Str} : ∀ {binds : List (Str × Value)} {m : Str → Option Value}, (∀ v, (x, v) ∉ binds) → bindL kindOf binds m x = m x
  | [], _, _ => rfl
  | (n, v) :: r, m, h => by
    unfold bindL
    rw [bindL_out fun w hw => h w (List.mem_cons_of_mem _ hw)]
    split
    · have : x ≠ n := by rintro rfl; exact h v List.mem_cons_self
      simp [this]
    · rfl
theorem bindC_out {kindOf : Str → Option NameKind} {x : Str} : ∀ {binds : List (Str × Value)} {m : Str → Option Value}, (∀ v, (x, v) ∉ binds) → bindC kindOf binds m x = m x
  | [], _, _ => rfl
  | (n, v) :: r, m, h => by
    unfold bindC
    rw [bindC_out fun w hw => h w (List.mem_cons_of_mem _ hw)]
    split
    · rfl
    · have : x ≠ n := by rintro rfl; exact h v List.mem_cons_self
      simp [this]
theorem bindL_get {kindOf : Str → Option NameKind} {x : Str} {v : Value} : ∀ {P : List Str} {vs : List Value} {i : Nat} {m : Str → Option Value}, P.Nodup → P[i]? = some x → vs[i]? = some v → kindOf x = some .local →
    bindL kindOf (P.zip vs) m x = some v
  | [], _, _, _, _, h, _, _ => by simp at h
  | _ :: _, [], _, _, _, _, h, _ => by simp at h
  | p :: P, w :: vs, 0, m, nd, h1, h2, hk => by
    simp at h1 h2; subst h1; subst h2
    show bindL kindOf ((p, w) :: P.zip vs) m p = _
    unfold bindL
    rw [bindL_out fun v hv => (List.nodup_cons.mp nd).1 (List.of_mem_zip hv).1, if_pos hk]
    simp
  | p :: P, w :: vs, i + 1, m, nd, h1, h2, hk => by
    show bindL kindOf ((p, w) :: P.zip vs) m x = _
    unfold bindL
    exact bindL_get (i := i) (List.nodup_cons.mp nd).2 (by simpa using h1) (by simpa using h2) hk
theorem bindC_get {kindOf : Str → Option NameKind} {x : Str} {v : Value} : ∀ {P : List Str} {vs : List Value} {i : Nat} {m : Str → Option Value}, P.Nodup → P[i]? = some x → vs[i]? = some v → kindOf x ≠ some .local →
    bindC kindOf (P.zip vs) m x = some v
  | [], _, _, _, _, h, _, _ => by simp at h
  | _ :: _, [], _, _, _, _, h, _ => by simp at h
  | p :: P, w :: vs, 0, m, nd, h1, h2, hk => by
    simp at h1 h2; subst h1; subst h2
    show bindC kindOf ((p, w) :: P.zip vs) m p = _
    unfold bindC
    rw [bindC_out fun v hv => (List.nodup_cons.mp nd).1 (List.of_mem_zip hv).1, if_neg hk]
    simp
  | p :: P, w :: vs, i + 1, m, nd, h1, h2, hk => by
    show bindC kindOf ((p, w) :: P.zip vs) m x = _
    unfold bindC
    exact bindC_get (i := i) (List.nodup_cons.mp nd).2 (by simpa using h1) (by simpa using h2) hk
noncomputable def start (N : List Str) (vs : List V) : St := vs.map some ++ List.replicate (N.length - vs.length) none
noncomputable def cxOf (CX : CXT) (P : Program) (w : World) (K : PySem.W.Frag) (mg : Str → Option Value) (base : Heap) (N : List Str) (qual : Str) (scope : Scope) (f : Addr) (cd : Value) (A : Around) (outer : List Env) (s : Shared) (H : Hp) (E : XK) : Cx where
  prog := P
  w := w
  K := K
  mg := mg
  base := base
  A := A.deeper (envOfC qual scope s.heap.objs.size f cd)
  N := N
  s₀ := s
  H₀ := H
  env := envOfC qual scope s.heap.objs.size f cd
  outer := outer
  stack := envOfC qual scope s.heap.objs.size f cd :: outer
  ex := []
  calm := true
  fn := fun _ => true
  pn := []
  xe := fun e s' => wpAny (model P w) (A.deeper (envOfC qual scope s.heap.objs.size f cd)) (leaving (envOfC qual scope s.heap.objs.size f cd) e) (fun _ s'' => CX outer H s E e s'') (fun e' s'' => CX outer H s E e' s'') s'
theorem cell_has {sc : Scope} {n : Nat} {x : Str} (h : sc.names.lookup x = some .cell) : ∃ c, (cellsFrom n sc.names []).lookup x = some c := by
  have q := PySem.W.cellsFrom_some sc.names n [] (.inl h)
  exact Option.isSome_iff_exists.mp q
theorem inv_start {CX : CXT} {P : Program} {w : World} {K : PySem.W.Frag} {mg : Str → Option Value} {base : Heap} {N ps : List Str} {qual : Str} {scope : Scope} {f : Addr} {cd : Value} {A : Around} {outer : List Env} {s s1 : Shared} {H : Hp} {E : XK} {us : List Value} {vs : List V}
    (S : FnScope N ps scope) (hd : A.handled = none) (e0 : Env0 P w K mg base A outer s H) (hl : vs.length = ps.length) (r : Vals vs us)
    (x : InCallC s s.heap.objs.size (bindL (envOfC qual scope s.heap.objs.size f cd).kindOf (ps.zip us) fun _ => none) (cellsFrom (s.heap.objs.size + 1) scope.names []) (bindC (envOfC qual scope s.heap.objs.size f cd).kindOf (ps.zip us) fun _ => none) s1) :
    Inv (cxOf CX P w K mg base N qual scope f cd A outer s H E) [] (start N vs) H s1 := by
  have hpl : ps.length ≤ N.length := by have := congrArg List.length S.pre; rw [List.length_take] at this; lia
  obtain ⟨h1, tk, rfl, hk⟩ := x.done
  have noA : ∀ b : Addr, b ∉ (cxOf CX P w K mg base N qual scope f cd A outer s H E).ex := fun b z => absurd (show b ∈ ([] : List Addr) from z) (by simp)
  refine ⟨⟨e0.mod, S.kind, rfl, rfl, Nat.le_refl _, fun y z c h1 h2 => ?_, fun y hy => ?_, fun y c _ h => ?_, fun _ => hd, Around.frames_deeper e0.frames, .inr ⟨rfl, rfl⟩, fun b z => absurd z (noA b), e0.bs, e0.bsz, fun b _ _ => noA b, fun b z => absurd z (noA b), e0.funs, e0.frf⟩,
    rfl, e0.bare, Un.kept hk, ⟨_, x.toInCall.ns, fun i y v h1 h2 h3 => ?_⟩, fun y c h => ⟨_, x.cell y c h⟩, e0.hok.fresh (Nat.le_refl _), fun y c h => ?_, fun p hp => absurd (show p ∈ ([] : List (Addr × Obj)) from hp) (by simp), e0.hok.kept hk, ?_⟩
  · exact name_of_addr x.apart (PySem.mem_of_lookup h1) (PySem.mem_of_lookup h2)
  · have hy : scope.names.lookup y = some .cell ∨ scope.names.lookup y = some .free := hy
    rcases hy with hy | hy
    · exact cell_has hy
    · exact absurd rfl (S.nofree _ (PySem.mem_of_lookup hy))
  · exact Nat.le_of_lt (x.above y c (PySem.mem_of_lookup h))
  · have hi : i < vs.length := by
      unfold start at h2
      by_cases hi : i < vs.length
      · exact hi
      · rw [List.getElem?_append_right (by simpa using hi)] at h2
        rw [List.getElem?_replicate] at h2
        split at h2 <;> cases h2
    have ha : vs[i]? = some v := by
      unfold start at h2
      rw [List.getElem?_append_left (by simpa using hi), List.getElem?_map] at h2
      cases e : vs[i]? with
      | none => rw [e] at h2; cases h2
      | some a => rw [e] at h2; cases h2; rfl
    obtain ⟨u, hu, rv⟩ := r.get ha
    have hp : ps[i]? = some y := by
      rw [← S.pre, List.getElem?_take_of_lt (by lia)]; exact h1
    have ndP : ps.Nodup := by rw [← S.pre]; exact S.nd.sublist (List.take_sublist _ _)
    refine ⟨u, rv, ?_⟩
    rcases S.par y (List.mem_of_getElem? hp) with k | k
    · exact .inl ⟨k, bindL_get ndP hp hu k⟩
    · obtain ⟨c, e⟩ := cell_has (n := s.heap.objs.size + 1) k
      refine .inr ⟨.inl k, c, e, ?_⟩
      have q := x.cell y c e
      rw [bindC_get ndP hp hu (by show scope.names.lookup y ≠ _; rw [k]; decide)] at q
      exact q
  · exact e0.hok.fresh (Nat.le_of_lt (x.above y c (PySem.mem_of_lookup h)))
  · unfold start
    show _ = N.length
    rw [List.length_append, List.length_map, List.length_replicate]
    lia
theorem fn_of {CX : CXT} {P : Program} {w : World} {K : PySem.W.Frag} {mg : Str → Option Value} {base : Heap} {k : Nat} {f : Addr} {name qual : Str} {params : Arguments} {body : List Stmt} {scope : Scope} {dV kV doc pm cdv ct oc : Value} {an od : Option Addr}
    {osl : Array (Option Value)} {N ps : List Str} {sp : Sp} (lk : K.lookup f = some ⟨oc, od, .func (PySem.W.fnOf name qual params body scope dV kV doc pm an cdv ct), osl⟩) (hcd : PySem.W.codeIn K cdv qual = true) (S : FnScope N ps scope)
    (len : ∀ vs H Q E, sp vs H Q E → vs.length = ps.length)
    (hbody : ∀ (A : Around) (outer : List Env) (s : Shared) (H : Hp) (vs : List V) (Q : VK) (E : XK), Room k (A.deeper (envOfC qual scope s.heap.objs.size f cdv)) → sp vs H Q E →
      ∃ t, PSs (cxOf CX P w K mg base N qual scope f cdv A outer s H E) body t ∧ t { nx := fun _ H' => Q .non H', rt := Q } (start N vs) H) :
    FnOk P w K mg base CX (k + 1) f (PySem.W.fnOf name qual params body scope dV kV doc pm an cdv ct) ps sp := by
  refine ⟨len, fun A outer s H args us vs Q E hr e0 hb r hsp => ?_⟩
  have hl := len _ _ _ _ hsp
  have KX : K.In s.heap := e0.mod.kin.keeps fun b o e => (e0.bs b o e).1
  have lim : s.heap.NoLimit := e0.mod.nolimit.keeps fun b o e => (e0.bs b o e).1
  have hkind : ∀ y ∈ ps.zip us, scope.names.lookup y.1 = some .local ∨ (scope.names.lookup y.1 = some .cell ∧ ((cellsFrom (s.heap.objs.size + 1) scope.names []).lookup y.1).isSome = true) := fun ⟨n, v⟩ hy => by
    rcases S.par n (List.of_mem_zip hy).1 with q | q
    · exact .inl q
    · exact .inr ⟨q, PySem.W.cellsFrom_some _ _ _ (.inl q)⟩
  refine codeAny_call_function hr.depth (KX _ _ lk) rfl S.co S.gen rfl (PySem.W.codeRec_of KX hcd) (hb _ _ _ _ ?_)
  refine wpAny_newFunctionEnv_cells S.kind hkind fun env he s1 x => ?_
  subst he
  refine ⟨lim.keeps x.toInCall.keep, codeAny_func ?_⟩
  obtain ⟨t, ht, hq⟩ := hbody A outer s H vs Q E (hr.deeper _) hsp
  have I : Inv (cxOf CX P w K mg base N qual scope f cdv A outer s H E) [] (start N vs) H s1 := inv_start S hr.hd e0 hl r x
  refine wpAny_mono (ht [] s1 (start N vs) H _ I hq) (fun fl s' hs => ?_) fun e s' hs => hs
  have fin : ∀ {σ' : St} {H' : Hp} {v : V} {u : Value}, Inv (cxOf CX P w K mg base N qual scope f cdv A outer s H E) [] σ' H' s' → RelV v u → Q v H' → CE outer P w H s Q u s' :=
    fun {σ' H' v u} J rv q => ⟨v, H', J.os, J.bare, J.base, J.hok, rv, q⟩
  cases fl with
  | ret u =>
    obtain ⟨v, σ', H', J, rv, q⟩ := hs
    exact fin J rv q
  | next =>
    obtain ⟨σ', H', J, q⟩ := hs
    exact fin (v := V.non) (u := Value.none) J rfl q
  | brk =>
    obtain ⟨_, _, _, q⟩ := hs
    exact False.elim q
  | cont =>
    obtain ⟨_, _, _, q⟩ := hs
    exact False.elim q
end L2
namespace L2
open PySem PySem.Spec PyProof.Rows
section
variable {X : Cx} {x : Str} {p pos : Pos} {e : Expr} {es : List Expr} {t : TA} {id T : String} {r : List V → Hp → VK → Prop}
noncomputable def tCB (r : List V → Hp → VK → Prop) (t : TA) : TE := fun σ H Q => t σ H fun vs H1 => r vs H1 Q
theorem pe_callB (hc : CallR X (.builtin id) r) (hg : Gl X x) (hm : X.mg x = none) (hv : bootBuiltins x = some (.builtin id)) (ha : PA X (e :: es) t) (hn : x ≠ "__name__" := by decide) (hdb : (x == ("__debug__" : Str)) = false := by decide)
    (he : starEach (e :: es) X.env = (false, eval e X.env) :: starEach es X.env := by rfl) (hpl : (backTo pos (starEach es X.env)).any (·.1) = false := by rfl) : PE X (.Call (.Name x p) (e :: es) [] pos) (tCB r t) := by
  intro pins s σ H Q I h
  refine wpAny_Call_Name_kw (ld_blt I hg hm hv ?_ hn hdb)
  exact PyProof.Rows.callWith_builtin1 (thn (ha pos pins s σ H _ I h) fun us s1 ⟨vs, H1, I1, r1, q1⟩ => hc pins s1 σ H1 vs us Q I1 r1 q1) he hpl
theorem pe_callTy (hc : CallR X (.type T) r) (hg : Gl X x) (hm : X.mg x = none) (hv : bootBuiltins x = some (.type T)) (ha : PA X (e :: es) t) (hn : x ≠ "__name__" := by decide) (hdb : (x == ("__debug__" : Str)) = false := by decide)
    (he : starEach (e :: es) X.env = (false, eval e X.env) :: starEach es X.env := by rfl) (hpl : (backTo pos (starEach es X.env)).any (·.1) = false := by rfl) : PE X (.Call (.Name x p) (e :: es) [] pos) (tCB r t) := by
  intro pins s σ H Q I h
  refine wpAny_Call_Name_kw (ld_blt I hg hm hv ?_ hn hdb)
  exact PyProof.Rows.callWith_type1 (thn (ha pos pins s σ H _ I h) fun us s1 ⟨vs, H1, I1, r1, q1⟩ => hc pins s1 σ H1 vs us Q I1 r1 q1) he hpl
end
end L2
namespace HT
open PySem PyProof.Rows
section
open PySem.SeqAt
open PySem.AutoSeq1 (wpAny_loadPart')
open PySem.MeetsSeq PySem.MeetsSeq2 PySem.MeetsSeq3
end
section
variable {prog : Program} {w : World} {A : Around} {E : Value → Shared → Prop} {s : Shared}
end
end HT
namespace L2
open PySem PySem.Spec PyProof.Rows
noncomputable abbrev TO := St → Hp → (Option Int → Hp → Prop) → Prop
noncomputable def tNoPart : TO := fun _ H Q => Q none H
noncomputable def tPart (t : TE) : TO := fun σ H Q => t σ H fun x H1 => ∃ i, x = .int i ∧ Q (some i) H1
section
variable {X : Cx} {e : Expr} {te : TE} {lo hi : Option Expr} {tl th : TO} {pos p2 : Pos}
noncomputable def tSl (r : V → Option Int → Option Int → Hp → VK → Prop) (te : TE) (tl th : TO) : TE := fun σ H Q => te σ H fun x H1 => tl σ H1 fun l H2 => th σ H2 fun u H3 => r x l u H3 Q
end
end L2
namespace L2
open PySem PySem.Spec PyProof.Rows
noncomputable def ixN (n : Nat) (i : Int) : Option Nat := if 0 ≤ i then (if i < n then some i.toNat else none) else if -(n : Int) ≤ i then some (i + n).toNat else none
noncomputable def atI {α : Type} (xs : List α) (i : Int) : Option α := (ixN xs.length i).bind fun j => xs[j]?
theorem ixN_seq {n : Nat} {i : Int} {j : Nat} (h : ixN n i = some j) : seqIndex? i n = some j ∧ j < n ∧ -(n : Int) ≤ i ∧ i < n := by
  unfold ixN at h
  by_cases h0 : 0 ≤ i
  · rw [if_pos h0] at h
    by_cases h1 : i < n
    · rw [if_pos h1] at h
      have e : i.toNat = j := Option.some.inj h
      exact ⟨by rw [seqIndex_of h0 h1, e], by lia, by lia, h1⟩
    · rw [if_neg h1] at h; cases h
  · rw [if_neg h0] at h
    by_cases h1 : -(n : Int) ≤ i
    · rw [if_pos h1] at h
      have e : (i + n).toNat = j := Option.some.inj h
      exact ⟨by rw [seqIndex_neg (by lia) h1, e], by lia, h1, by lia⟩
    · rw [if_neg h1] at h; cases h
theorem atI_get {α : Type} {xs : List α} {i : Int} {v : α} (h : atI xs i = some v) : ∃ j, seqIndex? i xs.length = some j ∧ xs[j]? = some v ∧ j < xs.length ∧ -(xs.length : Int) ≤ i ∧ i < xs.length := by
  unfold atI at h
  cases e : ixN xs.length i with
  | none => rw [e] at h; cases h
  | some j =>
    rw [e] at h
    obtain ⟨h1, h2, h3, h4⟩ := ixN_seq e
    exact ⟨j, h1, h, h2, h3, h4⟩
theorem atI_nat {α : Type} {xs : List α} {j : Nat} {v : α} (h : xs[j]? = some v) : atI xs (j : Int) = some v := by
  have hj : j < xs.length := (List.getElem?_eq_some_iff.mp h).1
  have e : ixN xs.length (j : Int) = some j := by
    unfold ixN
    rw [if_pos (by lia), if_pos (by lia)]; simp
  unfold atI; rw [e]; exact h
noncomputable def PlainIx (b : Expr) : Prop := ∀ o i, subscripted b false o i = operate [o, i] (getItem o i)
noncomputable def IxR (X : Cx) (r : R2) : Prop :=
  ∀ (value slice : Expr) (pins : List (Addr × Obj)) (s : Shared) (σ : St) (H : Hp) (x y : V) (v u : Value) (Q : VK), Inv X pins σ H s → RelV x v → RelV y u → r x y H Q →
    subscripted slice false v u = operate [v, u] (getItem v u) → wpAny (model X.prog X.w) X.A (subscriptTail value slice v u) (EP X pins σ Q) X.xe s
noncomputable def MtR (X : Cx) (id : String) (r : V → List V → Hp → VK → Prop) : Prop :=
  ∀ (pins : List (Addr × Obj)) (s : Shared) (σ : St) (H : Hp) (x : V) (xs : List V) (v : Value) (us : List Value) (Q : VK), Inv X pins σ H s → RelV x v → Vals xs us → r x xs H Q →
    wpAny (model X.prog X.w) X.A (call (.builtin id) (v :: us)) (EP X pins σ Q) X.xe s
section
variable {X : Cx} {a b : Expr} {ta tb : TE} {pos : Pos}
theorem pe_ix {r : R2} (hr : IxR X r) (ha : PE X a ta) (hb : PE X b tb) (hs : PlainIx b) : PE X (.Subscript a b pos) (tOp r ta tb) := by
  intro pins s σ H Q I h
  exact Subscript_ (binT ha hb I h fun v u s2 x y H2 I2 rx ry q => hr a b pins s2 σ H2 x y v u Q I2 rx ry q (hs _ _))
noncomputable def rIxL (K : PySem.W.Frag) : R2 := fun x y H Q => ∃ p xs i v, x = .ref p ∧ y = .int i ∧ SqL K H p xs ∧ atI xs i = some v ∧ Q v H
noncomputable def rIxS : R2 := fun x y H Q => ∃ z i c, x = .str z ∧ y = .int i ∧ z.length ≤ sizeLine ∧ atI z.cps.toList i = some c ∧ Q (.str ⟨#[c]⟩) H
theorem ix_list : IxR X (rIxL X.K) := by
  intro value slice pins s σ H x y v u Q I rx ry h hs
  obtain ⟨p, xs, i, z, rfl, rfl, hq, he, q⟩ := h
  cases rx
  obtain ⟨t, rfl⟩ := ry
  obtain ⟨its, r, pl, hz⟩ := I.list hq
  obtain ⟨j, h1, h2, h3, h4, h5⟩ := atI_get he
  obtain ⟨w, ew, rw'⟩ := r.get h2
  have hl := r.length
  have hn := line63
  have fin : EP X pins σ Q w s := ⟨z, H, I, rw', q⟩
  by_cases h0 : 0 ≤ i
  · have hj : i.toNat = j := by
      rw [seqIndex_of h0 h5] at h1
      exact Option.some.inj h1
    exact item_listR pl.isList h0 (by lia) (by rw [hj]; simpa using ew) fin hs
  · have hj : (i + (its.toArray.size : Int)).toNat = j := by
      rw [seqIndex_neg (by lia) h4] at h1
      rw [List.size_toArray, ← hl]
      exact Option.some.inj h1
    exact subscriptTail_builtinR (x := w) pl.isList.typeIs slot_list_getitem.lookup
      (wpAny_getItem_list_neg (Q := fun r s' => r = w ∧ EP X pins σ Q r s') pl.isList (by lia) (by rw [List.size_toArray] <;> lia) (by lia) (by rw [hj]; simpa using ew) ⟨rfl, fin⟩) hs
theorem ix_str : IxR X rIxS := by
  intro value slice pins s σ H x y v u Q I rx ry h hs
  obtain ⟨z, i, c, rfl, rfl, hz, he, q⟩ := h
  obtain ⟨t, rfl⟩ := rx
  obtain ⟨t', rfl⟩ := ry
  obtain ⟨j, h1, h2, h3, h4, h5⟩ := atI_get he
  have hl : z.cps.toList.length = z.length := by simp [Str.length]
  rw [hl] at h1 h4 h5
  have hn := line63
  exact tail_any (typeIs_str s z t) slot_str_getitem.lookup (getItem_str (c := c) (by
    have e1 : decide (i < -(2 ^ 63 : Int)) = false := decide_eq_false (by lia)
    have e2 : decide (i ≥ 2 ^ 63) = false := decide_eq_false (by lia)
    rw [e1, e2, Bool.or_false]) (by rw [h1]; simpa using h2) ⟨.str ⟨#[c]⟩, H, I.tok _, ⟨_, rfl⟩, q⟩) hs
theorem call_len_seq : CallR X (.builtin "len") (fun xs H Q => ∃ p ys, xs = [.ref p] ∧ (SqL X.K H p ys ∨ SqT X.K H p ys) ∧ Q (.int ys.length) H) := by
  intro pins s σ H xs us Q I r h
  obtain ⟨p, ys, rfl, hq, q⟩ := h
  obtain ⟨u, rfl, rx⟩ := vals1 r
  cases rx
  have hn := line63
  rcases hq with hq | hq
  · obtain ⟨its, r', pl, hz⟩ := I.list hq
    have hlen := r'.length
    exact Calls.call_len_list pl.isList (by simp only [List.size_toArray] <;> lia) ⟨.int ys.length, H, I.tok _, ⟨s.toks + 1, by rw [List.size_toArray, hlen]⟩, q⟩
  · obtain ⟨its, r', pl, hz⟩ := I.tuple hq
    have hlen := r'.length
    exact len_tuple pl (by simp only [List.size_toArray] <;> lia) ⟨.int ys.length, H, I.tok _, ⟨s.toks + 1, by rw [List.size_toArray, hlen]⟩, q⟩
noncomputable def tyV (K : PySem.W.Frag) (T : String) (x : V) (H : Hp) : Prop := match x with
  | .str _ => T = "str"
  | .int _ => T = "int"
  | .ref p => (T = "list" ∧ ∃ xs, SqL K H p xs) ∨ (T = "tuple" ∧ ∃ o, K.lookup p = some o ∧ o.cls = .type "tuple" ∧ o.dict = none) ∨
      (T = "dict" ∧ ((∃ kvs, H p = some (.dK kvs)) ∨ ∃ kvs, H p = some (.dT kvs))) ∨ (T = "set" ∧ ∃ S n, H p = some (.set S n))
  | _ => False
theorem tyV_is {pins : List (Addr × Obj)} {σ : St} {H : Hp} {s : Shared} {T : String} {x : V} {v : Value} (I : Inv X pins σ H s) (r : RelV x v) (ty : tyV X.K T x H) :
    s.TypeIs v T ∧ ∀ a, v = .ref a → ∃ ob, s.heap.get? a = some ob ∧ ob.dict = none := by
  cases x with
  | str z =>
    obtain ⟨t, rfl⟩ := r
    cases (show T = "str" from ty)
    exact ⟨typeIs_str s z t, fun _ e => nomatch e⟩
  | int i =>
    obtain ⟨t, rfl⟩ := r
    cases (show T = "int" from ty)
    exact ⟨typeIs_int s i t, fun _ e => nomatch e⟩
  | ref p =>
    cases r
    rcases ty with ⟨rfl, xs, hq⟩ | ⟨rfl, o, hk, hc, hd⟩ | ⟨rfl, hk⟩ | ⟨rfl, S, n, hk⟩
    · obtain ⟨its, _, pl, _⟩ := I.list hq
      refine ⟨pl.isList.typeIs, fun a e => ?_⟩
      cases e
      obtain ⟨o, n, e, c, hd, _⟩ := pl
      exact ⟨o, e, hd⟩
    · refine ⟨⟨o, I.kIn p o hk, hc⟩, fun a e => ?_⟩
      cases e
      exact ⟨o, I.kIn _ o hk, hd⟩
    · have z : ∃ o, s.heap.get? p = some o ∧ o.ExactDict := by
        rcases hk with ⟨kvs, hk⟩ | ⟨kvs, hk⟩
        · obtain ⟨_, _, _, _, o, _, _, e, ex, _⟩ := I.hok p _ hk
          exact ⟨o, e, ex⟩
        · obtain ⟨_, _, _, _, o, _, _, e, ex, _⟩ := I.hok p _ hk
          exact ⟨o, e, ex⟩
      obtain ⟨o, e, ex⟩ := z
      refine ⟨⟨o, e, ex.1⟩, fun a e2 => ?_⟩
      cases e2
      exact ⟨o, e, ex.2.1⟩
    · obtain ⟨o, _, _, _, e, ex, _⟩ := I.hok p _ hk
      refine ⟨⟨o, e, ex.1⟩, fun a e2 => ?_⟩
      cases e2
      exact ⟨o, e, ex.2.1⟩
  | _ => exact False.elim ty
noncomputable def tBM (K : PySem.W.Frag) (T : String) (r : V → List V → Hp → VK → Prop) (to : TE) (t : TA) : TE := fun σ H Q => to σ H fun x H1 => tyV K T x H1 ∧ t σ H1 fun xs H2 => r x xs H2 Q
variable {o e : Expr} {es : List Expr} {to : TE} {t : TA} {name : Str} {apos cpos : Pos} {T id : String} {r : V → List V → Hp → VK → Prop}
theorem pe_bm (pa : PlainAttrs T) (slot : Slot T name id) (hty : typeOf (.builtin id) = pure (.type "method_descriptor")) (hm : MtR X id r) (ho : PE X o to) (ha : PA X (e :: es) t)
    (hbase : attributeBase o name X.env (eval o X.env) = eval o X.env := by rfl)
    (hfew : ((backTo cpos (starEach (e :: es) X.env)).all (fun x => !x.1) && (backToKw cpos (keywordEach [] X.env)).all (fun x => x.1.isSome)
      && decide ((e :: es).length + ([] : List Keyword).length + (if ([] : List Keyword).isEmpty then 0 else 1) < 30)) = true := by rfl)
    (hline : (apos.endLine == cpos.line) = true := by rfl) (hs : starEach (e :: es) X.env = (false, eval e X.env) :: starEach es X.env := by rfl) (hplain : (backTo cpos (starEach es X.env)).any (·.1) = false := by rfl) :
    PE X (.Call (.Attribute o name apos) (e :: es) [] cpos) (tBM X.K T r to t) := by
  intro pins s σ H Q I h
  refine wpAny_Call_method_late hbase hfew hline rfl (thn (ho pins s σ H _ I h) fun v s1 ⟨x, H1, I1, r1, ty, q1⟩ => ?_)
  obtain ⟨h1, h2⟩ := tyV_is I1 r1 ty
  refine ⟨T, id, pa, slot, hty, h1, h2, ?_⟩
  have hA := ha cpos pins s1 σ H1 _ I1 q1
  rw [hs] at hA ⊢
  refine Calls.callWith_builtin (by show (false || (backTo cpos (starEach es X.env)).any (·.1)) = false; rw [hplain] <;> rfl) (Calls.evalArgs_plain ?_)
  exact thn hA fun us s2 ⟨vs, H2, I2, r2, q2⟩ => hm pins s2 σ H2 x vs v us Q I2 r1 r2 q2
/- xs.append(e), list.index on a module's tuple .. are MtR facts of 06m -/
end
end L2
namespace L2
open PySem PySem.Spec PyProof.Rows
noncomputable def MtM (X : Cx) (id : String) (r : V → List V → Hp → VK → Prop) : Prop :=
  ∀ (pins : List (Addr × Obj)) (s : Shared) (σ : St) (H : Hp) (x : V) (xs : List V) (v : Value) (us : List Value) (Q : VK), Inv X pins σ H s → RelV x v → Vals xs us → r x xs H Q →
    wpAny (model X.prog X.w) X.A (call (.builtin id) (v :: us)) (EP X pins σ Q) X.xe s
theorem Vals.one : ∀ {x : V} {us : List Value}, Vals [x] us → ∃ u, us = [u] ∧ RelV x u
  | _, _, .cons r .nil => ⟨_, rfl, r⟩
theorem Vals.two : ∀ {x y : V} {us : List Value}, Vals [x, y] us → ∃ u v, us = [u, v] ∧ RelV x u ∧ RelV y v
  | _, _, _, .cons r (.cons q .nil) => ⟨_, _, rfl, r, q⟩
section
variable {X : Cx} {pins : List (Addr × Obj)} {σ : St} {H : Hp} {s : Shared} {l b : Addr} {xs ys zs : List V}
theorem Inv.lset {its its' : List Value} {n : Nat} {f : Array Value → Array Value} {t' : Nat} (I : Inv X pins σ H s) (hH : H l = some (.lst xs))
    (e : s.heap.get? l = some { cls := .type "list", data := .seq its.toArray n }) (hf : f its.toArray = its'.toArray) (hv : Vals ys its') (hz : ys.length ≤ sizeLine) :
    Inv X pins σ (upd H l (.lst ys)) { s with heap := s.heap.update l (Obj.mapSeq f), toks := t' } := by
  have q := PySem.IsL.update e f
  rw [hf] at q
  refine I.write (x := l) (e := l) (by rw [hH]; exact trivial) (.inl rfl) (fun b' u hb hu => (Heap.get?_update_other s.heap (Obj.mapSeq f) (Ne.symm hb)).trans hu) ⟨_, q⟩ ?_
  exact ⟨hz, its', _, hv, q⟩
theorem Inv.lnew {its : List Value} {t' : Nat} (I : Inv X pins σ H s) (hv : Vals ys its) (hz : ys.length ≤ sizeLine) :
    Inv X pins σ (upd H s.heap.objs.size (.lst ys)) { s with heap := s.heap.push { cls := .type "list", data := .seq its.toArray }, toks := t' } :=
  I.laid (fun _ _ q => Heap.get?_push_of_some _ q) (Nat.le_refl _) ⟨hz, its, 0, hv, Heap.get?_push_size _ rfl⟩
theorem Inv.fresh (I : Inv X pins σ H s) : H s.heap.objs.size = none := I.hok.fresh (Nat.le_refl _)
theorem Inv.lstM (I : Inv X pins σ H s) (hH : H l = some (.lst xs)) : xs.length ≤ sizeLine ∧ ∃ (its : List Value) (n : Nat), Vals xs its ∧ xs.length = its.length ∧ s.heap.get? l = some { cls := .type "list", data := .seq its.toArray n } := by
  obtain ⟨z, its, n, r, e⟩ := I.hok l _ hH
  exact ⟨z, its, n, r, r.length, e⟩
end
section
variable {X : Cx}
noncomputable def rAppend : V → List V → Hp → VK → Prop := fun x vs H Q => ∃ l xs y, x = .ref l ∧ vs = [y] ∧ H l = some (.lst xs) ∧ xs.length < sizeLine ∧ Q .non (upd H l (.lst (xs ++ [y])))
theorem mt_append : MtM X "list.append" rAppend := by
  intro pins s σ H x vs v us Q I rx rv h
  obtain ⟨l, xs, y, rfl, rfl, hH, hz, q⟩ := h
  cases rx
  obtain ⟨u, rfl, ru⟩ := rv.one
  obtain ⟨z, its, n, r, hl, e⟩ := I.lstM hH
  refine call_meets F.slot_list_append ⟨_, e, rfl⟩ F.entry_list_append (F.args_list_append_2 _ _) (PySem.list_append l its.toArray n u (by rw [List.size_toArray]; lia)) ⟨e, ?_⟩
  refine ⟨.non, _, I.lset (its' := its ++ [u]) hH e (by simp) (r.append (.cons ru .nil)) ?_, rfl, q⟩
  rw [List.length_append, List.length_singleton]
  lia
noncomputable def rCat : R2 := fun x y H Q => ∃ l b xs zs, x = .ref l ∧ y = .ref b ∧ H l = some (.lst xs) ∧ H b = some (.lst zs) ∧ xs.length + zs.length ≤ sizeLine ∧ ∀ p, H p = none → Q (.ref p) (upd H p (.lst (xs ++ zs)))
theorem op_cat : OpR X (binaryOp .Add) rCat := by
  intro pins s σ H x y v u Q I rx ry h
  obtain ⟨l, b, xs, zs, rfl, rfl, hH, hB, hz, q⟩ := h
  cases rx
  cases ry
  obtain ⟨z, its, n, r, hl, e⟩ := I.lstM hH
  obtain ⟨z2, its2, n2, r2, hl2, e2⟩ := I.lstM hB
  refine PySem.P.add_list e e2 ?_ (by rw [List.size_toArray, List.size_toArray]; lia)
  have ea : its.toArray ++ its2.toArray = (its ++ its2).toArray := by simp
  rw [ea]
  exact ⟨.ref _, _, I.lnew (t' := s.toks) (r.append r2) (by rw [List.length_append]; lia), rfl, q _ I.fresh⟩
end
section
variable {prog : Program} {w : World} {A : Around} {E : Value → Shared → Prop} {s : Shared}
end
section
variable {X : Cx}
end
end L2
namespace Att
open PySem PySem.W PySem.Calls PyProof.Rows
theorem ints_of_wellAll {P : Params} {h : Heap} : ∀ (ns : List Int) (vs : List Value), WellAll P h vs (ns.map WData.int) → IntsAre vs ns := by
  intro ns
  induction ns with
  | nil =>
    intro vs w
    rw [List.map_nil] at w
    cases w
    exact .nil
  | cons n ns ih =>
    intro vs w
    rw [List.map_cons] at w
    cases w with
    | cons a b =>
      cases a
      exact .cons _ _ (ih _ b)
theorem script_of {l : OpenLaw} {n : Nat} (hn : l.most = some n) {P : Params} {h : Heap} {args : List WData} {vals : List Value}
    (hpre : l.row.toRowW.claim.pre args = true) (hwl : WellAll P h vals args) :
    ∃ a vs ns, vals = [Value.ref a] ∧ args = [WData.list (ns.map WData.int)] ∧ h.get? a = some { cls := .type "list", data := .seq vs.toArray } ∧ IntsAre vs ns ∧ ns.length ≤ n := by
  have hsh : WShape.hasAll [] args [.list .int] = true := (pre_splitW hpre).1
  have hc : l.pre.holds [] { args := args } = true := (pre_splitW hpre).2
  obtain ⟨d, r, rfl, h1, h2⟩ := hasAllW_cons hsh
  obtain rfl := hasAllW_nil h2
  obtain ⟨xs, rfl, h3⟩ := hasW_list h1
  obtain ⟨ns, rfl⟩ := items_int h3
  have hlen : ns.length ≤ n := by
    unfold OpenLaw.pre at hc
    have h4 : (WTm.not (.lt (.lit (.int (n : Int))) (.len (.arg 0)))).holds [] { args := [.list (ns.map .int)] } = true := by
      have h4 := (holds_andW hc).1
      rw [hn] at h4
      exact h4
    have h5 := condW_of h4 (w_not (w_lt w_lit (w_len_list (w_arg rfl))))
    rw [List.length_map] at h5
    refine Nat.le_of_not_lt fun q => ?_
    have q' : (n : Int) < ((ns.length : Nat) : Int) := by lia
    first
      | (rw [decide_eq_true q'] at h5; exact absurd h5 (by decide))
      | (simp at h5; lia)
  cases hwl with
  | cons w1 w2 =>
    cases w2
    cases w1 with
    | list ho hall => exact ⟨_, _, ns, rfl, rfl, ho, ints_of_wellAll ns _ hall, hlen⟩
theorem post_true (l : OpenLaw) (args : List WData) : l.row.toRowW.claim.post args (.bool true) args = true :=
  postW_of (r := l.row.toRowW) (X := (true == true))
    (show WShape.has [] (.bool true) .bool = true by first | rfl | decide | simp [WShape.has, WShape.arms, WShape.armsAll])
    (show (WTm.eq .res (.lit (.bool true))).value [] { args := args, res := some (.bool true), after := args } = some (.bool (true == true)) from w_eq_bool (w_res rfl) w_lit) rfl
theorem attach_call {l : OpenLaw} {n : Nat} {q : Program} {loose : List Str} {XP : (Str → Option Value) → Heap → Prop} {YP : World → Heap → Prop} {d : DefRec}
    (hn : l.most = some n) (hdf : d.params.defaults = [])
    (call : ∀ (w : World) (s₀ s₁ : Shared) (mg mb : Str → Option Value) (fa : Addr) (o : Obj) (pm cd doc : Value) (a : Addr) (vs : List Value) (ns : List Int),
      Ground q loose [] XP w s₀ mg mb s₁.heap → YP w s₁.heap →
      s₁.heap.get? fa = some o → o.data = .func (docDef d.name d.params d.body d.scope pm cd doc) → s₁.heap.CodeRec cd d.name → mg d.name = some (.ref fa) →
      s₁.heap.get? a = some { cls := .type "list", data := .seq vs.toArray } → IntsAre vs ns → ns.length ≤ n → s₁.gens = #[] →
      codeAny (model l.prog w) callerA (.call (.ref fa) ⟨[.ref a], []⟩) (fun r s' => r = .ok (.ret (.bool true)) ∧ OldK s₁.heap s'.heap ∧ s'.os = s₁.os ∧ AllBare s'.gens) s₁) :
    WalkO q loose XP YP l.row.toRowW d [] (fun f vs => PySem.call f vs) := by
  intro w s₀ s₁ mg mb G Y fa o pm cd doc dV kV ho hd hcd hD hmg hg args vals as hpre hlay hrd hwl hlo
  obtain rfl : dV = .none := Dflts.none hD hdf
  obtain rfl : kV = .none := Dflts.noKw hD
  obtain ⟨a, vs, ns, rfl, rfl, hobj, hints, hlen⟩ := script_of hn hpre hwl
  refine enter_call (codeAny_mono (call w s₀ s₁ mg mb fa o pm cd doc a vs ns G Y ho (fd_plain hd) hcd hmg hobj hints hlen hg) fun r s' hq => ?_)
  obtain ⟨rfl, h2, h3, h4⟩ := hq
  exact ⟨.inl ⟨.bool true, .bool true, [], rfl, fun _ => rfl, .bool true, post_true l _, fun _ => ⟨List.Pairwise.nil, fun _ hm => (nomatch hm)⟩⟩, h2, h3, h4⟩
section
variable {prog : Program} {w : World} {A : Around} {E : Value → Shared → Prop} {s : Shared} {K : Frag}
end
end Att
namespace L2
open PySem PySem.Spec PyProof.Rows
theorem vals_ints : ∀ {vs : List Value} {ns : List Int}, IntsAre vs ns → Vals (ns.map V.int) vs
  | _, _, .nil => .nil
  | _, _, .cons n t h => .cons ⟨t, rfl⟩ (vals_ints h)
end L2
namespace L2
open PySem PySem.Spec PyProof.Rows
noncomputable abbrev KOf {K : PySem.W.Frag} {h : Heap} (_ : K.In h) : PySem.W.Frag := K
end L2
/- THE LAST THEOREM (shape; LID, My.* are yours):
   My.Adr: a structure of the addresses that your layer names (classes, functions); My.Txt K t: a structure (Prop) of the equations over K;
   My.txt_mk : {K} {implicit addresses ..} (e1 : nsIn K mainGlobals "law" = some (some (.ref f))) (e2 : K.lookup f = some ⟨oc, od, .func (fnOf "law" "law" params body scope dV kV doc pm an cdv ct), sl⟩) (e3 : codeIn K cdv "law" = true) .. : ∃ t, My.Txt K t
set_option maxRecDepth 100000 in
set_option maxHeartbeats 0 in
theorem PySem.Challenge.cw_LID_holds : PySem.Challenge.rw_LID.Holds := by
  w_on; o_law; k_head; (case hw => w_witness2)
  k_fill
  refine L2.walk_of (l := PySem.Challenge.rw_LID) (n := 63) (k := 40) (x := "script") (CX := fun w => ..) (sp := fun _ => My.sp_law) rfl (by decide) rfl ⟨rfl, by decide, by decide⟩ (fun w h Y => PySem.W.kIn_of Y) ?F ?S ?C
  case F =>
    intro w mg fa h KX G hmg
    have T : ∃ t, My.Txt (L2.KOf KX) t := by
      dsimp only [L2.KOf]                          -- K must stand as «<heap const> w.params» for k_is
      refine' My.txt_mk ?e1 ?e2 ?e3 ..
      (case e1 => PySem.W.k_is)                    -- in the order: a name -> its address -> its object -> its parts
      (case e2 => PySem.W.k_is)
      ..
    obtain ⟨t, T⟩ := T
    have e0 := hmg.symm.trans (PySem.W.mg_of KX G T.law)
    cases e0                                       -- fa is the law's own address
    exact ⟨_, fun s u => .of_eq rfl, fun base kb nb => My.law_fn T kb nb⟩     -- if «.of_eq rfl» comes too early: refine' ⟨_, ?b, fun base kb nb => My.law_fn T kb nb⟩; exact fun s u => .of_eq rfl
  case S => exact fun w H a ns hl hO hS => ..
  case C => exact ..
(the tactic k_is has no namespace: write k_is) -/
namespace L2
open PySem PySem.Spec PyProof.Rows
noncomputable def inClass (s : Stmt) (j : Nat) : Stmt := match s with
  | .ClassDef _ _ _ body _ _ _ _ _ _ _ => body.getD j (.Pass ⟨0, 0, 0, 0⟩)
  | _ => .Pass ⟨0, 0, 0, 0⟩
noncomputable def defArgs (s : Stmt) : Arguments := match s with
  | .FunctionDef _ a _ _ _ _ _ _ _ _ => a
  | _ => { posonlyargs := [], args := [], vararg := none, kwonlyargs := [], kw_defaults := [], kwarg := none, defaults := [] }
noncomputable def defBody (s : Stmt) : List Stmt := match s with
  | .FunctionDef _ _ b _ _ _ _ _ _ _ => b
  | _ => []
noncomputable def defScope (s : Stmt) : Scope := match s with
  | .FunctionDef _ _ _ _ _ _ sc _ _ _ => sc
  | _ => { kind := .function, names := [], isGenerator := false, isCoroutine := false }
noncomputable abbrev CX0 : CXT := fun _ _ _ _ _ _ => False
noncomputable abbrev E0 : XK := fun _ _ _ => False
theorem pass0 {X : Cx} : Passes CX0 X E0 := fun _ _ _ _ _ _ _ h => h.elim
structure Fun (K : PySem.W.Frag) (x qual : Str) (st : Stmt) (f : Addr) (fd : FuncData) : Prop where
  ex : ∃ (oc : Value) (od : Option Addr) (kV doc pm : Value) (an : Option Addr) (cdv ct : Value) (osl : Array (Option Value)),
    fd = PySem.W.fnOf x qual (defArgs st) (defBody st) (defScope st) .none kV doc pm an cdv ct ∧ K.lookup f = some ⟨oc, od, .func fd, osl⟩ ∧ PySem.W.codeIn K cdv qual = true
  kp : PySem.W.keepIn K (.ref f) = true
section
variable {P : Program} {w : World} {K : PySem.W.Frag} {mg : Str → Option Value} {base : Heap}
theorem Fun.ok {x qual : Str} {st : Stmt} {f : Addr} {fd : FuncData} {N ps : List Str} {k : Nat} {sp : Sp} (F : Fun K x qual st f fd) (S : FnScope N ps (defScope st)) (len : ∀ vs H Q E, sp vs H Q E → vs.length = ps.length)
    (hbody : ∀ (cdv : Value) (A : Around) (outer : List Env) (s : Shared) (H : Hp) (vs : List V) (Q : VK) (E : XK), Room k (A.deeper (envOfC qual (defScope st) s.heap.objs.size f cdv)) → sp vs H Q E →
      ∃ t, PSs (cxOf CX0 P w K mg base N qual (defScope st) f cdv A outer s H E).nox (defBody st) t ∧ t { nx := fun _ H' => Q .non H', rt := Q } (start N vs) H) : FnOk P w K mg base CX0 (k + 1) f fd ps sp := by
  obtain ⟨oc, od, kV, doc, pm, an, cdv, ct, osl, rfl, lk, hcd⟩ := F.ex
  refine fn_of lk hcd S len fun A outer s H vs Q E hr hsp => ?_
  obtain ⟨t, h, q⟩ := hbody cdv A outer s H vs Q E hr hsp
  exact ⟨t, h.nox, q⟩
theorem Fun.binds {x qual : Str} {st : Stmt} {f : Addr} {fd : FuncData} {ps : List Str} (F : Fun K x qual st f fd)
    (h : ∀ (kV doc pm : Value) (an : Option Addr) (cdv ct : Value) (us : List Value), us.length = ps.length → bindArgs (PySem.W.fnOf x qual (defArgs st) (defBody st) (defScope st) .none kV doc pm an cdv ct) ⟨us, []⟩ = pure (ps.zip us)) : Binds K fd ps [] := by
  obtain ⟨oc, od, kV, doc, pm, an, cdv, ct, osl, rfl, lk, hcd⟩ := F.ex
  exact .all (h kV doc pm an cdv ct)
theorem fun_mk {x qual : Str} {st : Stmt} {f : Addr} {oc : Value} {od an : Option Addr} {osl : Array (Option Value)} {kV doc pm cdv ct : Value} (l : K.lookup f = some ⟨oc, od, .func (PySem.W.fnOf x qual (defArgs st) (defBody st) (defScope st) .none kV doc pm an cdv ct), osl⟩)
    (c : PySem.W.codeIn K cdv qual = true) (k : PySem.W.keepIn K (.ref f) = true) : Fun K x qual st f (PySem.W.fnOf x qual (defArgs st) (defBody st) (defScope st) .none kV doc pm an cdv ct) := ⟨⟨oc, od, kV, doc, pm, an, cdv, ct, osl, rfl, l, c⟩, k⟩
end
theorem small1000 {n : Nat} (h : n ≤ 1000) : n < sizeLine := Nat.lt_of_le_of_lt h (by decide)
section
variable {X : Cx}
theorem pv (i : Nat) {x : Str} {pos : Pos} (hN : X.N[i]? = some x := by rfl) (hv : Vis X.env.scope x := by first | exact Or.inl rfl | exact Or.inr (Or.inl rfl) | exact Or.inr (Or.inr rfl)) (hd : (x == ("__debug__" : Str)) = false := by decide)
    (hcd : (x == ("__classdict__" : Str)) = false := by decide) : PE X (.Name x pos) (tVar i) := pe_var hN hv hd hcd
end
theorem iteF {A B : Prop} (h : B) : if false = true then A else B := by
  rw [if_neg Bool.false_ne_true]
  exact h
theorem iteT {A B : Prop} (h : A) : if true = true then A else B := by
  rw [if_pos rfl]
  exact h
theorem ite2 {c A B : Prop} [Decidable c] (h1 : c → A) (h2 : ¬ c → B) : if c then A else B := by
  by_cases h : c
  · rw [if_pos h]
    exact h1 h
  · rw [if_neg h]
    exact h2 h
theorem iteNS {c A B : Prop} [Decidable c] (hc : c) (h : B) : if (!decide c) = true then A else B := by
  rw [decide_eq_true hc]
  exact iteF h
noncomputable def Same (H H' : Hp) : Prop := ∀ b o, H b = some o → H' b = some o
theorem Same.refl (H : Hp) : Same H H := fun _ _ h => h
theorem Same.trans {H H1 H2 : Hp} (a : Same H H1) (b : Same H1 H2) : Same H H2 := fun c o h => b c o (a c o h)
theorem Same.seq {K : PySem.W.Frag} {H H' : Hp} {a : Addr} {xs : List V} (e : Same H H') (h : SqL K H a xs) : SqL K H' a xs := by
  rcases h with (h | ⟨o, h⟩) | h
  · exact .inl (.inl (e _ _ h))
  · exact .inl (.inr ⟨o, e _ _ h⟩)
  · exact .inr h
end L2
set_option maxHeartbeats 4000000
namespace L2
open PySem PySem.Spec PyProof.Rows
section
variable {X : Cx} {a b c : Expr} {ta tb tc : TE} {pos : Pos}
theorem op_mulL : OpR X (binaryOp .Mult) (rI (fun i j => IntMulOk i j) fun i j => .int (i * j)) :=
  opI fun _ _ _ _ _ _ _ hc q => mul_int q hc
theorem op_fdivL : OpR X (binaryOp .FloorDiv) (rI (fun _ j => j ≠ 0 ∧ j.natAbs.log2 < 9000) fun i j => .int (i.fdiv j)) :=
  opI fun _ _ _ _ _ _ _ hc q => floordiv_int hc.1 q (.inl (PyProof.noPylong_of_log2 hc.2))
theorem pe_ty {x : Str} {T : String} {pos : Pos} (hg : Gl X x) (hm : X.mg x = none) (hv : bootBuiltins x = some (.type T)) (hn : x ≠ "__name__" := by decide) (hd : (x == ("__debug__" : Str)) = false := by decide) : PE X (.Name x pos) (tC (.ty T)) :=
  pe_bltn (v := V.ty T) hg hm hv rfl hn hd
noncomputable def rEqI (K : PySem.W.Frag) : R2 := fun x y H Q => ∃ (p q : Addr) (xs ys : List Int), x = .ref p ∧ y = .ref q ∧ SqL K H p (xs.map V.int) ∧ SqL K H q (ys.map V.int) ∧ Q (.bl (decide (xs = ys))) H
theorem int_at {xs : List Int} {its : List Value} (r : Vals (xs.map V.int) its) {j : Nat} (h : j < xs.length) (h' : j < its.length) : ∃ t, its[j] = Value.int xs[j] t := by
  have e : (xs.map V.int)[j]? = some (V.int xs[j]) := by rw [List.getElem?_map, List.getElem?_eq_getElem h] <;> rfl
  obtain ⟨u, hu, t, rfl⟩ := r.get e
  rw [List.getElem?_eq_getElem h'] at hu
  exact ⟨t, Option.some.inj hu⟩
theorem all_at (xs ys : List Int) (hl : xs.length = ys.length) : ((List.range xs.length).all fun j => xs.getD j 0 == ys.getD j 0) = decide (xs = ys) := by
  rw [Bool.eq_iff_iff, List.all_eq_true, decide_eq_true_eq]
  constructor
  · intro h
    refine List.ext_getElem hl fun j h1 h2 => ?_
    have := h j (List.mem_range.mpr h1)
    rw [beq_iff_eq, List.getD_eq_getElem?_getD, List.getD_eq_getElem?_getD, List.getElem?_eq_getElem h1, List.getElem?_eq_getElem h2] at this
    exact this
  · rintro rfl j _
    exact beq_self_eq_true _
theorem op_eqI (hu : X.A.units < cLine) : OpR X (compareOp .Eq) (rEqI X.K) := by
  intro pins s σ H x y v u Q I rx ry h
  obtain ⟨p, q, xs, ys, rfl, rfl, hp, hq, h⟩ := h
  cases rx
  cases ry
  obtain ⟨its, r, pl, hz⟩ := I.list hp
  obtain ⟨its2, r2, pl2, hz2⟩ := I.list hq
  have l1 := r.length
  have l2 := r2.length
  rw [List.length_map] at l1 l2
  by_cases hl : xs.length = ys.length
  · refine SeqAt.eq_listAt (e := fun j => xs.getD j 0 == ys.getD j 0) pl.isList pl2.isList (by simp only [List.size_toArray]; lia) hu (fun j h1 h2 => ?_) ?_
    · simp only [List.size_toArray] at h1 h2
      obtain ⟨t, e⟩ := int_at r (j := j) (by lia) h1
      obtain ⟨t', e'⟩ := int_at r2 (j := j) (by lia) h2
      have z : SeqAt.EqAt X.A.in1 s its[j] its2[j] (xs[j] == ys[j]) := by
        rw [e, e']; exact SeqAt.EqAt.int_int _ _ _ _
      rw [List.getD_eq_getElem?_getD, List.getD_eq_getElem?_getD, List.getElem?_eq_getElem (show j < xs.length by lia), List.getElem?_eq_getElem (show j < ys.length by lia)]
      simpa using z
    · have e : (List.range its.toArray.size).all (fun j => xs.getD j 0 == ys.getD j 0) = decide (xs = ys) := by
        rw [← all_at xs ys hl, l1, List.size_toArray]
      rw [e]
      exact ⟨.bl _, H, I, rfl, h⟩
  · have e : decide (xs = ys) = false := decide_eq_false fun z => hl (by rw [z])
    rw [e] at h
    exact SeqAt.eq_list_lengthsAt pl.isList pl2.isList (by simp only [List.size_toArray, bne_iff_ne, ne_eq]; lia) hu ⟨.bl false, H, I, rfl, h⟩
end
noncomputable def Itr3 (lo st : Int) (n : Nat) : It := ⟨fun i _ => i < n, fun i H x H' => H' = H ∧ x = .int (lo + i * st), fun i _ => n ≤ i⟩
noncomputable def iRng3 (ta : TA) : TI := fun σ H R => ta σ H fun vs H1 => ∃ (i j k : Int) (n : Nat), vs = [.int i, .int j, .int k] ∧ k ≠ 0 ∧ k.natAbs < 1073741824 ∧ Builtin.Range.small i j k = true ∧ Builtin.Range.rangeSize i j k = n ∧ R (Itr3 i k n) H1
structure FnB (P : Program) (w : World) (K : PySem.W.Frag) (mg : Str → Option Value) (base : Heap) (k : Nat) (x : Str) (ps : List Str) (sp : Sp) : Prop where
  ex : ∃ f fd, FnOk P w K mg base CX0 k f fd ps sp ∧ mg x = some (.ref f) ∧ PySem.W.keepIn K (.ref f) = true ∧ Binds K fd ps []
structure DefB (K : PySem.W.Frag) (mg : Str → Option Value) (x : Str) (st : Stmt) (ps : List Str) : Prop where
  ex : ∃ f fd, Fun K x x st f fd ∧ mg x = some (.ref f) ∧ Binds K fd ps []
section
variable {P : Program} {w : World} {K : PySem.W.Frag} {mg : Str → Option Value} {base : Heap} {x : Str} {st : Stmt} {N ps : List Str} {j k : Nat} {sp sp' : Sp}
theorem FnB.mono (F : FnB P w K mg base j x ps sp) (h : j ≤ k) : FnB P w K mg base k x ps sp :=
  let ⟨f, fd, a, b, c, d⟩ := F.ex
  ⟨f, fd, a.mono h, b, c, d⟩
theorem DefB.ok (D : DefB K mg x st ps) (S : FnScope N ps (defScope st)) (len : ∀ vs H Q E, sp vs H Q E → vs.length = ps.length)
    (hbody : ∀ (f : Addr) (cdv : Value) (A : Around) (outer : List Env) (s : Shared) (H : Hp) (vs : List V) (Q : VK) (E : XK), Room k (A.deeper (envOfC x (defScope st) s.heap.objs.size f cdv)) → sp vs H Q E →
      ∃ t, PSs (cxOf CX0 P w K mg base N x (defScope st) f cdv A outer s H E).nox (defBody st) t ∧ t { nx := fun _ H' => Q .non H', rt := Q } (start N vs) H) : FnB P w K mg base (k + 1) x ps sp :=
  let ⟨f, fd, a, b, c⟩ := D.ex
  ⟨f, fd, a.ok S len fun cdv A outer s H vs Q E => hbody f cdv A outer s H vs Q E, b, a.kp, c⟩
end
theorem def_of {K : PySem.W.Frag} {h : Heap} {mg : Str → Option Value} {x : Str} {st : Stmt} {ps : List Str} {f : Addr} {od an : Option Addr} {sl : Array (Option Value)} {oc kV doc pm cd ct : Value} (X : K.In h) (G : h.Ns mainGlobals mg)
    (a : PySem.W.nsIn K mainGlobals x = some (some (.ref f))) (l : K.lookup f = some ⟨oc, od, .func (PySem.W.fnOf x x (defArgs st) (defBody st) (defScope st) .none kV doc pm an cd ct), sl⟩)
    (c : PySem.W.codeIn K cd x = true) (k : PySem.W.keepIn K (.ref f) = true)
    (b : ∀ (kV doc pm : Value) (an : Option Addr) (cdv ct : Value) (us : List Value), us.length = ps.length → bindArgs (PySem.W.fnOf x x (defArgs st) (defBody st) (defScope st) .none kV doc pm an cdv ct) ⟨us, []⟩ = pure (ps.zip us)) : DefB K mg x st ps :=
  have F := fun_mk (st := st) l c k
  ⟨_, _, F, PySem.W.mg_of X G a, F.binds b⟩
theorem pe_fn {X : Cx} {k : Nat} {x : Str} {ps : List Str} {sp : Sp} {p pos : Pos} {e : Expr} {es : List Expr} {t : TA} (F : FnB X.prog X.w X.K X.mg X.base k x ps sp) (hr : Room k X.A) (ha : PA X (e :: es) t)
    (hg : Gl X x := by rfl) (hdb : (x == ("__debug__" : Str)) = false := by decide) (he : starEach (e :: es) X.env = (false, eval e X.env) :: starEach es X.env := by rfl)
    (hpl : (backTo pos (starEach es X.env)).any (·.1) = false := by rfl) : PE X (.Call (.Name x p) (e :: es) [] pos) (tCall sp [] E0 t) :=
  let ⟨_, _, a, b, c, d⟩ := F.ex
  pe_call a hr hg b c d .nil pass0 ha hdb he hpl
section
variable {σ : St} {H : Hp} {Q : VK} {D : Ends} {te ta tb : TE} {tr : TA} {ts us : TS} {tt uu : TT} {QB : Bool → Hp → Prop} {QA : List V → Hp → Prop}
theorem r_seq (h : ts { D with nx := us D } σ H) : tSeq ts us D σ H := h
theorem r_set {i : Nat} (h : te σ H fun x H1 => D.nx (σ.set i (some x)) H1) : tAsg te (gName i) D σ H := h
theorem r_asg {g : TG} (h : te σ H fun x H1 => g x σ H1 D.nx) : tAsg te g D σ H := h
theorem r_ret (h : te σ H D.rt) : tRet te D σ H := h
theorem r_drop (h : te σ H fun _ H1 => D.nx σ H1) : tDrop te D σ H := h
theorem r_next (h : D.nx σ H) : tNext D σ H := h
theorem r_var {i : Nat} {v : V} (e : σ[i]? = some (some v)) (h : Q v H) : tVar i σ H Q := ⟨v, e, h⟩
theorem r_for {wi : TI} {g : TG} (h : wi σ H fun J H1 => ∃ W : Nat → Nat → St → Hp → Prop, (∃ m, W 0 m σ H1) ∧ ∀ i m σ H, W i m σ H →
    (J.stop i H ∧ D.nx σ H) ∨ (J.go i H ∧ ∃ N : St → Hp → Prop, (∀ σ' H', N σ' H' → ∃ m', m' < m ∧ W (i + 1) m' σ' H') ∧ ∀ x H', J.yld i H x H' → g x σ H' fun σ2 H2 => ts { D with nx := N, ct := N, bk := D.nx } σ2 H2)) : tFor wi g ts D σ H := h
theorem r_rng3 {R : It → Hp → Prop} (h : tr σ H fun vs H1 => ∃ (i j k : Int) (n : Nat), vs = [.int i, .int j, .int k] ∧ k ≠ 0 ∧ k.natAbs < 1073741824 ∧ Builtin.Range.small i j k = true ∧ Builtin.Range.rangeSize i j k = n ∧ R (Itr3 i k n) H1) : iRng3 tr σ H R := h
theorem r_gname {i : Nat} {v : V} {R : St → Hp → Prop} (h : R (σ.set i (some v)) H) : gName i v σ H R := h
theorem r_gcons {t : TG} {u : TGs} {v : V} {r : List V} {R : St → Hp → Prop} (h : t v σ H fun σ' H' => u r σ' H' R) : gCons t u (v :: r) σ H R := ⟨v, r, rfl, h⟩
theorem r_gnil {R : St → Hp → Prop} (h : R σ H) : gNil [] σ H R := ⟨rfl, h⟩
theorem r_c {v : V} (h : Q v H) : tC v σ H Q := h
theorem r_op {r : R2} (h : ta σ H fun x H1 => tb σ H1 fun y H2 => r x y H2 Q) : tOp r ta tb σ H Q := h
theorem r_un {r : V → Hp → VK → Prop} (h : ta σ H fun x H1 => r x H1 Q) : tUn r ta σ H Q := h
theorem r_i0 {g : Int → Int → V} {i j : Int} (h : Q (g i j) H) : rI0 g (.int i) (.int j) H Q := ⟨i, j, rfl, rfl, h⟩
theorem r_i {C : Int → Int → Prop} {g : Int → Int → V} {i j : Int} (c : C i j) (h : Q (g i j) H) : rI C g (.int i) (.int j) H Q := ⟨i, j, rfl, rfl, c, h⟩
theorem r_u {g : Int → V} {i : Int} (h : Q (g i) H) : rU g (.int i) H Q := ⟨i, rfl, h⟩
theorem r_test (h : te σ H fun x H' => ∃ k, x = .bl k ∧ QB k H') : tTest te σ H QB := h
theorem r_tb (h : te σ H fun x H' => ∃ k, x = .bl k ∧ QB k H') : tB te σ H QB := h
theorem r_bl {k : Bool} {R : Bool → Prop} (h : R k) : ∃ k', V.bl k = .bl k' ∧ R k' := ⟨k, rfl, h⟩
theorem r_eqi {i j : Int} (h : Q (.bl (decide (i = j))) H) : rEq (.int i) (.int j) H Q := ⟨rfl, by rw [show decide (V.int i = V.int j) = decide (i = j) by rw [Bool.eq_iff_iff]; simp]; exact h⟩
theorem r_nei {i j : Int} (h : Q (.bl (!decide (i = j))) H) : rNe (.int i) (.int j) H Q := ⟨rfl, by rw [show decide (V.int i = V.int j) = decide (i = j) by rw [Bool.eq_iff_iff]; simp]; exact h⟩
theorem r_ifS (h : tt σ H fun b H1 => if b = true then ts D σ H1 else us D σ H1) : tIfS tt ts us D σ H := h
theorem r_ifE (h : tt σ H fun c H1 => if c = true then ta σ H1 Q else tb σ H1 Q) : tIf tt ta tb σ H Q := h
theorem r_and (h : tt σ H fun c H1 => if c = true then uu σ H1 QB else QB false H1) : tAnd tt uu σ H QB := h
theorem r_or (h : tt σ H fun c H1 => if c = true then QB true H1 else uu σ H1 QB) : tOr tt uu σ H QB := h
theorem r_not (h : tt σ H fun c H1 => QB (!c) H1) : tNot tt σ H QB := h
theorem r_andV (h : ta σ H fun x H1 => ∃ c, x = .bl c ∧ if c = true then tb σ H1 Q else Q (.bl false) H1) : tAndV ta tb σ H Q := h
theorem r_orV (h : ta σ H fun x H1 => ∃ c, x = .bl c ∧ if c = true then Q (.bl true) H1 else tb σ H1 Q) : tOrV ta tb σ H Q := h
theorem r_notV (h : ta σ H fun x H1 => ∃ c, x = .bl c ∧ Q (.bl (!c)) H1) : tNotV ta σ H Q := h
theorem r_nil (h : QA [] H) : tNil σ H QA := h
theorem r_cons (h : te σ H fun x H1 => tr σ H1 fun xs H2 => QA (x :: xs) H2) : tCons te tr σ H QA := h
theorem r_call {sp : Sp} {E : XK} (h : tr σ H fun vs H1 => sp (vs ++ []) H1 Q E) : tCall sp [] E tr σ H Q := h
theorem r_cb {r : List V → Hp → VK → Prop} (h : tr σ H fun vs H1 => r vs H1 Q) : tCB r tr σ H Q := h
theorem r_tup (h : tr σ H fun xs H1 => xs.length ≤ sizeLine ∧ ∀ p, H1 p = none → Q (.ref p) (upd H1 p (.tup xs))) : tTup tr σ H Q := h
theorem r_lst (h : tr σ H fun xs H1 => xs.length ≤ sizeLine ∧ ∀ p, H1 p = none → Q (.ref p) (upd H1 p (.lst xs))) : tLst tr σ H Q := h
theorem r_tru {K : PySem.W.Frag} {i : Int} {R : Bool → Prop} (h : R (i != 0)) : ∃ k, TruV K (.int i) H k ∧ R k := ⟨_, rfl, h⟩
theorem r_ixL {K : PySem.W.Frag} {p : Addr} {xs : List V} {i : Int} {v : V} (hs : SqL K H p xs) (he : atI xs i = some v) (h : Q v H) : rIxL K (.ref p) (.int i) H Q := ⟨p, xs, i, v, rfl, rfl, hs, he, h⟩
theorem small4 {n : Nat} (h : n ≤ 1000) : n ≤ sizeLine := Nat.le_of_lt (small1000 h)
theorem Same.new {H : Hp} {p : Addr} (h : H p = none) (o : HO) : Same H (upd H p o) := fun b u q => by rw [upd_ne (ne_of_none q h)]; exact q
end
end L2
namespace L2
open PySem PySem.Spec PyProof.Rows
noncomputable def Ite (K : PySem.W.Frag) (a : Addr) : It :=
  ⟨fun i H => ∃ xs x, SqL K H a xs ∧ xs[i]? = some x, fun i H x H' => ∃ p y, H p = none ∧ x = .ref p ∧ H' = upd H p (.tup [.int (i : Int), y]) ∧ ∀ xs, SqL K H a xs → xs[i]? = some y, fun i H => ∃ xs, SqL K H a xs ∧ xs.length ≤ i⟩
noncomputable def Itv (K : PySem.W.Frag) (a : Addr) (n : Nat) : It :=
  ⟨fun i H => i < n ∧ ∃ xs x, SqL K H a xs ∧ xs[n - 1 - i]? = some x, fun i H x H' => H' = H ∧ ∀ xs, SqL K H a xs → xs[n - 1 - i]? = some x, fun i _ => i = n⟩
noncomputable def iEnum (K : PySem.W.Frag) (ta : TA) : TI := fun σ H R => ta σ H fun vs H1 => ∃ a, vs = [.ref a] ∧ (∃ xs, SqL K H1 a xs) ∧ R (Ite K a) H1
noncomputable def iRev (K : PySem.W.Frag) (ta : TA) : TI := fun σ H R => ta σ H fun vs H1 => ∃ a xs, vs = [.ref a] ∧ SqL K H1 a xs ∧ R (Itv K a xs.length) H1
end L2
namespace L2
open PySem PySem.Spec PyProof.Rows
section
variable {prog : Program} {w : World} {A : Around} {R : Result → Shared → Prop} {s : Shared}
theorem comp_loop {elt tg it0 : Expr} {sc : Scope} {ps : Pos} {it acc : Value} {en : Env} (J : Nat → Shared → Prop)
    (turn : ∀ n s, J n s → wpAny (model prog w) A (pyNext it) (fun r s1 => match r with
      | none => R (.ok .next) s1
      | some v => wpAny (model prog w) A (letOwnedTupleGo tg it v) (fun _ s2 => wpAny (model prog w) A (assign tg en v) (fun _ s3 => wpAny (model prog w) A (eval elt en) (fun x s4 =>
          wpAny (model prog w) A (call (.builtin "list.append") [acc, x]) (fun _ s5 => ∃ m, m < n ∧ J m s5) (fun _ _ => False) s4) (fun _ _ => False) s3) (fun _ _ => False) s2) (fun _ _ => False) s1) (fun _ _ => False) s)
    (n : Nat) (h : J n s) : codeAny (model prog w) A (.compLoop (.ListComp elt [⟨tg, it0, [], 0⟩] sc ps) 0 it acc en) R s := by
  refine codeAny_loop rfl J (fun n s hJ => ?_) n h
  show wpAny (model prog w) A ((compTurn (.ListComp elt [⟨tg, it0, [], 0⟩] sc ps) 0 it acc en).onRaise (fun x => do noteFrame x en; theTreesLotGoes x)) _ _ s
  refine wpAny_noted ?_
  rw [compTurn_list1]
  have no : ∀ {α : Type} {t : Sem α} {Q : α → Shared → Prop} {E : Value → Shared → Prop} {s : Shared}, wpAny (model prog w) A t Q (fun _ _ => False) s → wpAny (model prog w) A t Q E s :=
    fun h => wpAny_mono h (fun _ _ q => q) fun _ _ z => z.elim
  refine wpAny_bind (wpAny_standAt (wpAny_bind (thn (no (turn n s hJ)) fun r s1 h1 => ?_)))
  cases r with
  | none => exact wpAny_pure h1
  | some v =>
    refine wpAny_bind (thn (no h1) fun _ s2 h2 => ?_)
    refine wpAny_bind (thn (no h2) fun _ s3 h3 => ?_)
    refine wpAny_bind (wpAny_bind (thn (no h3) fun x s4 h4 => ?_))
    refine wpAny_bind (thn (no h4) fun _ s5 h5 => ?_)
    exact wpAny_pure (wpAny_pure ⟨rfl, h5⟩)
end
noncomputable def cxComp (X : Cx) (scope : Scope) (cl : List (Str × Addr)) (C : Addr) (s : Shared) (H : Hp) (M : List Str) (ex : List Addr) (pins : List (Addr × Obj)) : Cx :=
  { X with N := M, s₀ := s, H₀ := H, env := compEnvC scope cl C X.env, outer := X.stack, ex := ex, fn := fun _ => false, pn := X.pn ++ pins, xe := fun _ _ => False }
structure CompOk (X : Cx) (scope : Scope) (cl : List (Str × Addr)) (own : List Str) (fr : List Nat) (M : List Str) : Prop where
  clos : closureFor scope X.env = pure cl
  kind : scope.kind = .function
  names : ∀ x ∈ scope.names, x.2 = .local → scope.names.lookup x.1 = some .local
  nocell : ∀ x ∈ scope.names, x.2 ≠ .cell
  cls : ∀ x c, cl.lookup x = some c → X.env.cells.lookup x = some c
  has : ∀ x, ((relabel scope X.env).names.lookup x = some .cell ∨ (relabel scope X.env).names.lookup x = some .free) → ∃ c, cl.lookup x = some c
  len : M.length = own.length + fr.length
  ownl : ∀ (i : Nat) x, own[i]? = some x → M[i]? = some x
  from_ : ∀ (j i : Nat) x, fr[j]? = some i → M[own.length + j]? = some x → X.N[i]? = some x ∧ X.env.scope.names.lookup x = some .cell ∧ (∃ c, cl.lookup x = some c) ∧ ((relabel scope X.env).names.lookup x = some .cell ∨ (relabel scope X.env).names.lookup x = some .free)
noncomputable def stComp (own : List Str) (fr : List Nat) (σ : St) : St := List.replicate own.length none ++ fr.map fun i => (σ[i]?).join
section
variable {X : Cx} {pins : List (Addr × Obj)} {σ : St} {H : Hp} {s : Shared} {scope : Scope} {cl : List (Str × Addr)} {own : List Str} {fr : List Nat} {M : List Str}
theorem Inv.comp (I : Inv X pins σ H s) (K : CompOk X scope cl own fr M) {fp : List Addr} (hf : ∀ b ∈ fp, FpOk X pins H b) (ho : ∀ b ∈ fp, ∃ o, s.heap.get? b = some o ∧ ∀ v, o.data ≠ .cell v) {h' : Heap} {m : Str → Option Value} {tk : Nat}
    (hn : h'.Ns s.heap.objs.size m) (hk : ∀ b u, s.heap.get? b = some u → h'.get? b = some u) :
    Inv (cxComp X scope cl s.heap.objs.size s H M fp pins) [] (stComp own fr σ) H { s with heap := h', toks := tk } := by
  have hC : H s.heap.objs.size = none := I.hok.fresh (Nat.le_refl _)
  have ltC : ∀ {b o}, s.heap.get? b = some o → b ≠ s.heap.objs.size := fun e => Nat.ne_of_lt (Heap.lt_size e)
  have neC : ∀ x c, X.env.cells.lookup x = some c → c ≠ s.heap.objs.size := fun x c e => by
    obtain ⟨v, o, q, _⟩ := I.cell x c e
    exact ltC q
  have nfs : ∀ b, b ≠ X.env.locals → b ∉ X.fs → b ∉ frs X.stack := fun b h1 h2 z => (List.mem_cons.mp (I.stkSub b z)).elim h1 h2
  refine ⟨⟨I.ok.mod, K.kind, I.ok.glob, I.ok.blt, Nat.le_refl _, fun x y c h1 h2 => I.ok.inj x y c (K.cls x c h1) (K.cls y c h2), fun x hx => K.has x hx, (fun x c h _ => Bool.noConfusion h), I.ok.hd, I.ok.frames, .inl rfl, fun b hb => ?_, I.bs, Nat.le_trans I.ok.bsz I.sz, fun b o e hb => ?_, fun b hb => ?_, I.stack, I.stkFree⟩,
    rfl, I.bare, Un.kept hk, ⟨m, hn, fun i x v h1 h2 h3 => ?_⟩, fun x c h => ?_, hC, fun x c h => I.freeC x c (K.cls x c h), fun p hp => ?_, I.hok.kept hk, ?_⟩
  · obtain ⟨o, e, _⟩ := ho b hb
    exact ⟨ltC e, fun x c h z => (hf b hb).2.2.2.2.1 x c (K.cls x c h) z⟩
  · have := (hf b hb)
    rcases this.2.2.2.1 with z | z
    · exact I.ok.noex b o e z
    · exact absurd (Nat.lt_of_lt_of_le (Heap.lt_size e) (Nat.le_trans I.ok.bsz z)) (Nat.lt_irrefl _)
  · exact nfs b (hf b hb).2.1 (hf b hb).2.2.1
  · unfold stComp at h2
    by_cases hi : i < own.length
    · rw [List.getElem?_append_left (by simpa using hi), List.getElem?_replicate, if_pos hi] at h2
      cases h2
    · obtain ⟨j, rfl⟩ : ∃ j, i = own.length + j := ⟨i - own.length, by lia⟩
      rw [List.getElem?_append_right (by simp), List.length_replicate, Nat.add_sub_cancel_left, List.getElem?_map] at h2
      cases e : fr[j]? with
      | none => rw [e] at h2; cases h2
      | some k =>
        rw [e] at h2
        have h2' : (σ[k]?).join = some v := Option.some.inj h2
        obtain ⟨q1, q2, ⟨c, q3⟩, q4⟩ := K.from_ j k x e h1
        have h5 : σ[k]? = some (some v) := by
          cases z : σ[k]? with
          | none => rw [z] at h2'; cases h2'
          | some y =>
            rw [z] at h2'
            exact congrArg some h2'
        obtain ⟨m0, _, hl⟩ := I.loc
        obtain ⟨u, r, l⟩ := hl k x v q1 h5 (.inr (.inl q2))
        refine ⟨u, r, .inr ⟨q4, c, q3, ?_⟩⟩
        rcases l with ⟨k1, _⟩ | ⟨_, c', e1, z⟩
        · have k1' : X.env.scope.names.lookup x = some .local := k1
          rw [q2] at k1'; cases k1'
        · have e2 := K.cls x c q3
          rw [e1] at e2; cases e2
          obtain ⟨o, eo, ed⟩ := z
          exact ⟨o, hk _ _ eo, ed⟩
  · obtain ⟨v, o, eo, ed⟩ := I.cell x c (K.cls x c h)
    exact ⟨v, o, hk _ _ eo, ed⟩
  · have hp' : p ∈ X.pn ++ pins := by
      rcases List.mem_append.mp hp with z | z
      · exact z
      · cases z
    obtain ⟨e, n, ne, nf, d⟩ := I.pin p hp'
    exact ⟨hk _ _ e, n, ltC e, nfs _ ne nf, d⟩
  · unfold stComp
    rw [List.length_append, List.length_replicate, List.length_map]
    exact K.len.symm
theorem Inv.uncomp {h : Heap} {s' : Shared} {H' : Hp} {σ' : St} {C : Addr} {fp : List Addr} (I : Inv X pins σ H s) (hf : ∀ b ∈ fp, FpOk X pins H b) (I' : Inv (cxComp X scope cl C s H M fp pins) [] σ' H' s') : Inv X pins σ H' s' :=
  I.call' I'.os I'.base I'.hok I'.bare fun b hb => ⟨(hf b hb).2.2.2.1, (hf b hb).2.1, (hf b hb).2.2.2.2.1, (hf b hb).2.2.2.2.2⟩
noncomputable def tComp (own : List Str) (fr : List Nat) (wi : TI) (g : TG) (te : TE) : TE := fun σ H Q => wi σ H fun J H1 => ∀ D, H1 D = none → ∃ W : Nat → Nat → St → Hp → Prop, (∃ m, W 0 m (stComp own fr σ) (upd H1 D (.lst []))) ∧ ∀ i m σ2 H2, W i m σ2 H2 →
  (J.stop i H2 ∧ Q (.ref D) H2) ∨ (J.go i H2 ∧ ∀ x H3, J.yld i H2 x H3 → g x σ2 H3 fun σ4 H4 => te σ4 H4 fun y H5 => ∃ ys, H5 D = some (.lst ys) ∧ ys.length < sizeLine ∧ ∃ m', m' < m ∧ W (i + 1) m' σ4 (upd H5 D (.lst (ys ++ [y]))))
theorem comp_block {elt tg iter : Expr} {ps : Pos} {g : TG} {te : TE} {it D : Addr} {fp : List Addr} {tn : Nat → Heap → Prop} {J : It} {H1 : Hp} {s3 : Shared} {W : Nat → Nat → St → Hp → Prop} {Qz : Hp → Prop} {Rz : Result → Shared → Prop} {C : Addr}
    (hc : X.calm = true) (K : CompOk X scope cl own fr M) (I3 : Inv X pins σ H1 s3) (T : Turn X.prog X.w X.K tg J fp it tn) (st : tn 0 s3.heap) (hf : ∀ b ∈ fp, FpOk X pins H1 b)
    (hg : PG (cxComp X scope cl C s3 H1 M fp pins) tg g) (he : PE (cxComp X scope cl C s3 H1 M fp pins) elt te)
    (w0 : ∃ m, W 0 m (stComp own fr σ) H1)
    (turn : ∀ i m σ2 H2, W i m σ2 H2 → (J.stop i H2 ∧ Qz H2) ∨ (J.go i H2 ∧ ∀ x H3, J.yld i H2 x H3 → g x σ2 H3 fun σ4 H4 => te σ4 H4 fun y H5 => ∃ ys, H5 D = some (.lst ys) ∧ ys.length < sizeLine ∧ ∃ m', m' < m ∧ W (i + 1) m' σ4 (upd H5 D (.lst (ys ++ [y])))))
    {h' : Heap} {m0 : Str → Option Value} {tk : Nat} (hC : C = s3.heap.objs.size) (hn : h'.Ns C m0) (hk : ∀ b u, s3.heap.get? b = some u → h'.get? b = some u)
    (fin : ∀ s' H' m', Inv X pins σ H' s' → H' C = none → s'.heap.Ns C m' → Qz H' → Rz (.ok .next) s') :
    codeAny (model X.prog X.w) X.A (.compStart (.ListComp elt [⟨tg, iter, [], 0⟩] scope ps) 0 (.ref it) (.ref D) (compEnvC scope cl C X.env)) Rz { s3 with heap := h', toks := tk } := by
  subst hC
  have I4 := I3.comp K hf (T.obj _ _ st) (tk := tk) hn hk
  have st4 : tn 0 h' := T.keep _ _ _ st fun b _ o e => hk b o e
  have stat : ∀ {H' : Hp}, (∀ b ∈ fp, H' b = none) → ∀ b ∈ fp, FpOk (cxComp X scope cl s3.heap.objs.size s3 H1 M fp pins) [] H' b := fun {H'} hz b hb => by
    obtain ⟨o, e, _⟩ := T.obj _ _ st b hb
    obtain ⟨_, f1, f2, f3, f4, f5⟩ := hf b hb
    refine ⟨hz b hb, Nat.ne_of_lt (Heap.lt_size e), fun z => (List.mem_cons.mp (I3.stkSub b z)).elim f1 f2, .inl hb, fun x c h => f4 x c (K.cls x c h), fun p hp => f5 p ?_⟩
    rcases List.mem_append.mp hp with z | z
    · exact z
    · cases z
  have loop : codeAny (model X.prog X.w) X.A (.compLoop (.ListComp elt [⟨tg, iter, [], 0⟩] scope ps) 0 (.ref it) (.ref D) (compEnvC scope cl s3.heap.objs.size X.env)) Rz { s3 with heap := h', toks := tk } := by
    obtain ⟨m, w0⟩ := w0
    refine comp_loop (fun n s' => ∃ i σ' H', Inv (cxComp X scope cl s3.heap.objs.size s3 H1 M fp pins) [] σ' H' s' ∧ tn i s'.heap ∧ (∀ b ∈ fp, H' b = none) ∧ W i n σ' H') (fun n s5 hJ => ?_) m ⟨0, _, H1, I4, st4, fun b hb => (hf b hb).1, w0⟩
    obtain ⟨i, σ5, H5, I5, st5, fr5, w5⟩ := hJ
    rcases turn i n σ5 H5 w5 with ⟨stop, qz⟩ | ⟨go, step⟩
    · refine thn (T.done (cxComp X scope cl s3.heap.objs.size s3 H1 M fp pins) rfl rfl rfl hc i [] s5 σ5 H5 _ I5 (stat fr5) st5 stop) fun r s6 q6 => ?_
      obtain ⟨hr, I6⟩ := q6
      subst hr
      obtain ⟨m6, n6, _⟩ := I6.loc
      exact fin s6 H5 m6 (I3.uncomp (h := h') hf I6) I6.free n6 qz
    · refine thn (T.item (cxComp X scope cl s3.heap.objs.size s3 H1 M fp pins) rfl rfl rfl hc i [] s5 σ5 H5 _ I5 (stat fr5) st5 go) fun r s6 q6 => ?_
      obtain ⟨u, hr, h6⟩ := q6
      subst hr
      refine thn h6 fun _ s7 q7 => ?_
      obtain ⟨x, H7, I7, r7, y7, st7, fr7⟩ := q7
      have I7' := I7.pinned (stat fr7) (T.obj _ _ st7)
      refine thn (hg _ s7 σ5 H7 x u _ I7' r7 (step x H7 y7)) fun _ s8 q8 => ?_
      obtain ⟨σ8, H8, I8, q8⟩ := q8
      refine thn (he _ s8 σ8 H8 _ I8 q8) fun v s9 q9 => ?_
      obtain ⟨y, H9, I9, r9, ys, hD, hz, m', hm, w9⟩ := q9
      refine thn (mt_append (X := cxComp X scope cl s3.heap.objs.size s3 H1 M fp pins) _ s9 σ8 H9 (.ref D) [y] (.ref D) [v] (fun v' H' => v' = .non ∧ H' = upd H9 D (.lst (ys ++ [y]))) I9 rfl (.cons r9 .nil) ⟨D, ys, y, rfl, rfl, hD, hz, rfl, rfl⟩) fun v' s10 q10 => ?_
      obtain ⟨v10, H10, I10, _, rfl, rfl⟩ := q10
      refine ⟨m', hm, i + 1, σ8, _, I10.unpinned, T.keep _ _ _ st7 fun b hb o e => (I10.pin (b, o) (List.mem_append_right _ (List.mem_append_right _ (mem_pinsAt hb e)))).1, fun b hb => ?_, w9⟩
      obtain ⟨o, e, _⟩ := T.obj _ _ st7 b hb
      exact (I10.pin (b, o) (List.mem_append_right _ (List.mem_append_right _ (mem_pinsAt hb e)))).2.1
  exact codeAny_compStart_list loop (T.self X.A 0 _ _ _ st4 loop)
theorem pe_comp {elt tg iter : Expr} {ps : Pos} {wi : TI} {g : TG} {te : TE} (hc : X.calm = true) (hx : X.xe = fun _ _ => False) (K : CompOk X scope cl own fr M) (hi : PI X tg iter wi)
    (hg : ∀ C s3 H1 fp pins, PG (cxComp X scope cl C s3 H1 M fp pins) tg g) (he : ∀ C s3 H1 fp pins, PE (cxComp X scope cl C s3 H1 M fp pins) elt te)
    (hs : ∀ x, foldedSetIterable iter X.env x = pure x := by intro _; rfl) : PE X (.ListComp elt [⟨tg, iter, [], 0⟩] scope ps) (tComp own fr wi g te) := by
  intro pins s σ H Q I h
  rw [eval_ListComp]
  refine wpAny_comprehension_free (use := none) rfl hs K.clos K.kind K.names ?_
  show wpAny _ _ (eval iter X.env) _ _ _
  refine thn (hi pins s σ H _ I h) fun v s1 h1 => thn h1 fun itv s2 h2 => ?_
  obtain ⟨it, fp, tn, J, H2, e, I2, T, st2, f2, hW⟩ := h2
  subst e
  refine wpAny_newObj_type (hd := by size_fits) ?_
  have I3 : Inv X pins σ (upd H2 s2.heap.objs.size (.lst [])) { s2 with heap := s2.heap.push { cls := .type "list", dict := none, data := .seq ([] : List Value).toArray } } := I2.lnew (t' := s2.toks) .nil (Nat.zero_le _)
  obtain ⟨W, w0, turn⟩ := hW s2.heap.objs.size I2.fresh
  have st3 : tn 0 (s2.heap.push { cls := .type "list", dict := none, data := .seq ([] : List Value).toArray }) := T.keep _ _ _ st2 fun b _ o e => Heap.get?_push_of_some _ e
  have f3 : ∀ b ∈ fp, FpOk X pins (upd H2 s2.heap.objs.size (.lst [])) b := fun b hb => by
    obtain ⟨o, e, _⟩ := T.obj _ _ st2 b hb
    obtain ⟨f0, f'⟩ := f2 b hb
    exact ⟨by rw [upd_ne (Nat.ne_of_lt (Heap.lt_size e))]; exact f0, f'⟩
  refine wpAny_newFunctionEnv K.nocell (fun y hy => nomatch hy) (fun h' hns hsb => ?_) K.kind
  have hk : ∀ b u, (s2.heap.push { cls := .type "list", dict := none, data := .seq ([] : List Value).toArray }).get? b = some u → h'.get? b = some u := fun b u e =>
    hsb.extBut b u (Nat.ne_of_lt (Heap.lt_size e)) (Heap.get?_push_of_some _ e)
  refine comp_block (g := g) (te := te) (W := W) (Qz := fun H' => Q (.ref s2.heap.objs.size) H') hc K I3 T st3 f3 (hg _ _ _ _ _) (he _ _ _ _ _) w0 turn rfl hns hk fun s' H' m' J1 hCn hnC qz => ?_
  refine ⟨m', hnC, fun h2 sb => ⟨.ref s2.heap.objs.size, H', ?_, rfl, qz⟩⟩
  obtain ⟨_, f1, _, f3', f4, f5⟩ := I3.fpOk (H' := H') (Nat.le_refl _) hCn
  exact J1.turned (t' := s'.toks) (fun b o hb e => sb.extBut b o hb e) hCn f1 f3' f4 f5
end
end L2
namespace L2
open PySem PySem.Spec PyProof.Rows
section
variable {X : Cx}
end
end L2
namespace L2
open PySem PySem.Spec PyProof.Rows
noncomputable def ClOk (env : Env) : List (Str × Addr) → Prop
  | [] => True
  | p :: r => env.cells.lookup p.1 = some p.2 ∧ ClOk env r
noncomputable def FrOk (X : Cx) (scope : Scope) (cl : List (Str × Addr)) : List Nat → List Str → Prop
  | [], [] => True
  | i :: r, x :: y => (X.N[i]? = some x ∧ X.env.scope.names.lookup x = some .cell ∧ (cl.lookup x).isSome = true ∧ ((relabel scope X.env).names.lookup x = some .cell ∨ (relabel scope X.env).names.lookup x = some .free)) ∧ FrOk X scope cl r y
  | _, _ => False
theorem ClOk.get {env : Env} : ∀ {cl : List (Str × Addr)}, ClOk env cl → ∀ x c, cl.lookup x = some c → env.cells.lookup x = some c
  | [], _, x, c, h => by simp at h
  | (y, d) :: r, k, x, c, h => by
    rw [List.lookup_cons] at h
    cases e : x == y with
    | true =>
      rw [e] at h
      have e1 : x = y := eq_of_beq e
      have e2 : d = c := Option.some.inj h
      rw [e1, ← e2]; exact k.1
    | false =>
      rw [e] at h
      exact ClOk.get k.2 x c h
theorem FrOk.len {X : Cx} {scope : Scope} {cl : List (Str × Addr)} : ∀ {fr : List Nat} {fs : List Str}, FrOk X scope cl fr fs → fr.length = fs.length
  | [], [], _ => rfl
  | _ :: r, _ :: y, h => congrArg Nat.succ (FrOk.len (fr := r) (fs := y) h.2)
  | [], _ :: _, h => h.elim
  | _ :: _, [], h => h.elim
theorem FrOk.get {X : Cx} {scope : Scope} {cl : List (Str × Addr)} : ∀ {fr : List Nat} {fs : List Str}, FrOk X scope cl fr fs → ∀ (j i : Nat) x, fr[j]? = some i → fs[j]? = some x →
    X.N[i]? = some x ∧ X.env.scope.names.lookup x = some .cell ∧ (∃ c, cl.lookup x = some c) ∧ ((relabel scope X.env).names.lookup x = some .cell ∨ (relabel scope X.env).names.lookup x = some .free)
  | [], [], _, j, i, x, h, _ => by simp at h
  | k :: r, z :: y, H, 0, i, x, h1, h2 => by
    simp at h1 h2
    subst h1 h2
    exact ⟨H.1.1, H.1.2.1, Option.isSome_iff_exists.mp H.1.2.2.1, H.1.2.2.2⟩
  | k :: r, z :: y, H, j + 1, i, x, h1, h2 => FrOk.get (fr := r) (fs := y) H.2 j i x (by simpa using h1) (by simpa using h2)
  | [], _ :: _, h, _, _, _, _, _ => h.elim
  | _ :: _, [], h, _, _, _, _, _ => h.elim
theorem compOk {X : Cx} {scope : Scope} {cl : List (Str × Addr)} {own fs : List Str} {fr : List Nat} (clos : closureFor scope X.env = pure cl) (kind : scope.kind = .function)
    (names : ∀ x ∈ scope.names, x.2 = .local → scope.names.lookup x.1 = some .local) (nocell : ∀ x ∈ scope.names, x.2 ≠ .cell) (c : ClOk X.env cl)
    (h : ((relabel scope X.env).names.all fun p => !(p.2 == .cell || p.2 == .free) || (cl.lookup p.1).isSome) = true) (f : FrOk X scope cl fr fs) : CompOk X scope cl own fr (own ++ fs) where
  clos := clos
  kind := kind
  names := names
  nocell := nocell
  cls := c.get
  has := fun x hx => by
    have hm : ∃ k, (x, k) ∈ (relabel scope X.env).names ∧ (k = .cell ∨ k = .free) := by
      rcases hx with z | z
      · exact ⟨_, PySem.mem_of_lookup z, .inl rfl⟩
      · exact ⟨_, PySem.mem_of_lookup z, .inr rfl⟩
    obtain ⟨k, hk, hkk⟩ := hm
    have := List.all_eq_true.mp h (x, k) hk
    rcases hkk with rfl | rfl
    · exact Option.isSome_iff_exists.mp (by simpa using this)
    · exact Option.isSome_iff_exists.mp (by simpa using this)
  len := by rw [List.length_append, f.len]
  ownl := fun i x hi => by
    rw [List.getElem?_append_left (List.getElem?_eq_some_iff.mp hi).1]; exact hi
  from_ := fun j i x h1 h2 => by
    rw [List.getElem?_append_right (Nat.le_add_right _ _), Nat.add_sub_cancel_left] at h2
    exact f.get j i x h1 h2
noncomputable def cap (fr : List Nat) (σ : St) : St := fr.map fun i => (σ[i]?).join
section
variable {own : List Str} {fr : List Nat} {g : TG} {te : TE} {σ : St} {H1 : Hp} {Q : VK}
theorem comp_go {J : It} (n : Nat) (Pv : List V → Prop) (hz : n ≤ sizeLine) (p0 : Pv [])
    (hs : ∀ (i : Nat) (r : St) (ys : List V) (H2 : Hp), i < n → r.length = own.length → ys.length = i → Pv ys → Same H1 H2 → J.go i H2 ∧ ∀ x H3, J.yld i H2 x H3 → Same H2 H3 ∧ ∀ Z : V → St → Hp → Prop, (∀ y σ4 H5, Same H3 H5 → Pv (ys ++ [y]) → (∃ r', r'.length = own.length ∧ σ4 = r' ++ cap fr σ) → Z y σ4 H5) → g x (r ++ cap fr σ) H3 fun σ4 H4 => te σ4 H4 fun y H5 => Z y σ4 H5)
    (he : ∀ H2, Same H1 H2 → J.stop n H2) (hq : ∀ D H2 ys, H1 D = none → Same H1 H2 → H2 D = some (.lst ys) → ys.length = n → Pv ys → Q (.ref D) H2) :
    ∀ D, H1 D = none → ∃ W : Nat → Nat → St → Hp → Prop, (∃ m, W 0 m (stComp own fr σ) (upd H1 D (.lst []))) ∧ ∀ i m σ2 H2, W i m σ2 H2 →
      (J.stop i H2 ∧ Q (.ref D) H2) ∨ (J.go i H2 ∧ ∀ x H3, J.yld i H2 x H3 → g x σ2 H3 fun σ4 H4 => te σ4 H4 fun y H5 => ∃ ys, H5 D = some (.lst ys) ∧ ys.length < sizeLine ∧ ∃ m', m' < m ∧ W (i + 1) m' σ4 (upd H5 D (.lst (ys ++ [y])))) := by
  intro D hD
  refine ⟨fun i m σ2 H2 => m = n - i ∧ i ≤ n ∧ Same H1 H2 ∧ (∃ r : St, r.length = own.length ∧ σ2 = r ++ cap fr σ) ∧ ∃ ys, ys.length = i ∧ Pv ys ∧ H2 D = some (.lst ys), ⟨n, rfl, Nat.zero_le _, Same.new hD _, ⟨_, List.length_replicate, rfl⟩, [], rfl, p0, upd_same⟩, fun i m σ2 H2 w => ?_⟩
  obtain ⟨rfl, hi, s12, ⟨r, hr, rfl⟩, ys, hl, hp, hy⟩ := w
  by_cases hlt : i < n
  · obtain ⟨go, st⟩ := hs i r ys H2 hlt hr hl hp s12
    refine .inr ⟨go, fun x H3 y => ?_⟩
    obtain ⟨s23, gg⟩ := st x H3 y
    refine gg (fun v σ4 H5 => ∃ ys, H5 D = some (.lst ys) ∧ ys.length < sizeLine ∧ ∃ m', m' < n - i ∧ (m' = n - (i + 1) ∧ i + 1 ≤ n ∧ Same H1 (upd H5 D (.lst (ys ++ [v]))) ∧ (∃ r : St, r.length = own.length ∧ σ4 = r ++ cap fr σ) ∧ ∃ zs, zs.length = i + 1 ∧ Pv zs ∧ upd H5 D (.lst (ys ++ [v])) D = some (.lst zs))) fun v σ4 H5 s35 pv ⟨r', hr', e⟩ => ?_
    refine ⟨ys, s35 _ _ (s23 _ _ hy), by lia, n - (i + 1), by lia, rfl, hlt, fun b o q => ?_, ⟨r', hr', e⟩, ys ++ [v], by rw [List.length_append, hl]; rfl, pv, upd_same⟩
    rw [upd_ne (ne_of_none q hD)]
    exact s35 _ _ (s23 _ _ (s12 _ _ q))
  · obtain rfl : i = n := by lia
    exact .inl ⟨he H2 s12, hq D H2 ys hD s12 hy hl hp⟩
theorem comp_range {lo : Int} {n : Nat} (Pv : List V → Prop) (hz : n ≤ sizeLine) (p0 : Pv [])
    (hs : ∀ (i : Nat) (r : St) (ys : List V) (H2 : Hp), i < n → r.length = own.length → ys.length = i → Pv ys → Same H1 H2 → ∀ Z : V → St → Hp → Prop, (∀ y σ4 H5, Same H2 H5 → Pv (ys ++ [y]) → (∃ r', r'.length = own.length ∧ σ4 = r' ++ cap fr σ) → Z y σ4 H5) → g (.int (lo + i)) (r ++ cap fr σ) H2 fun σ4 H4 => te σ4 H4 fun y H5 => Z y σ4 H5)
    (hq : ∀ D H2 ys, H1 D = none → Same H1 H2 → H2 D = some (.lst ys) → ys.length = n → Pv ys → Q (.ref D) H2) :
    ∀ D, H1 D = none → ∃ W : Nat → Nat → St → Hp → Prop, (∃ m, W 0 m (stComp own fr σ) (upd H1 D (.lst []))) ∧ ∀ i m σ2 H2, W i m σ2 H2 →
      ((Itr lo n).stop i H2 ∧ Q (.ref D) H2) ∨ ((Itr lo n).go i H2 ∧ ∀ x H3, (Itr lo n).yld i H2 x H3 → g x σ2 H3 fun σ4 H4 => te σ4 H4 fun y H5 => ∃ ys, H5 D = some (.lst ys) ∧ ys.length < sizeLine ∧ ∃ m', m' < m ∧ W (i + 1) m' σ4 (upd H5 D (.lst (ys ++ [y])))) :=
  comp_go n Pv hz p0 (fun i r ys H2 hi hr hl hp s12 => ⟨hi, fun x H3 y => by
    obtain ⟨rfl, rfl⟩ := y
    exact ⟨Same.refl _, hs i r ys _ hi hr hl hp s12⟩⟩) (fun H2 s12 => Nat.le_refl _) hq
end
section
variable {σ : St} {H : Hp} {R : It → Hp → Prop} {tl : TE} {tr : TA} {Q : VK}
theorem r_ilist {K : PySem.W.Frag} (h : tl σ H fun x H1 => ∃ a, x = .ref a ∧ (∃ xs, SqL K H1 a xs) ∧ R (Itl K a) H1) : iList K tl σ H R := h
theorem r_rng1 (h : tr σ H fun vs H1 => ∃ j : Int, vs = [.int j] ∧ -(2 ^ 62) ≤ j ∧ j < 2 ^ 62 ∧ R (Itr 0 j.toNat) H1) : iRng1 tr σ H R := h
theorem r_rng2 (h : tr σ H fun vs H1 => ∃ i j : Int, vs = [.int i, .int j] ∧ (-(2 ^ 62) ≤ i ∧ i < 2 ^ 62 ∧ -(2 ^ 62) ≤ j ∧ j < 2 ^ 62) ∧ R (Itr i (j - i).toNat) H1) : iRng2 tr σ H R := h
theorem r_ienum {K : PySem.W.Frag} (h : tr σ H fun vs H1 => ∃ a, vs = [.ref a] ∧ (∃ xs, SqL K H1 a xs) ∧ R (Ite K a) H1) : iEnum K tr σ H R := h
theorem r_irev {K : PySem.W.Frag} (h : tr σ H fun vs H1 => ∃ a xs, vs = [.ref a] ∧ SqL K H1 a xs ∧ R (Itv K a xs.length) H1) : iRev K tr σ H R := h
theorem r_part {te : TE} {S : Option Int → Hp → Prop} (h : te σ H fun x H1 => ∃ i, x = .int i ∧ S (some i) H1) : tPart te σ H S := h
theorem r_nopart {S : Option Int → Hp → Prop} (h : S none H) : tNoPart σ H S := h
theorem r_slice {r : V → Option Int → Option Int → Hp → VK → Prop} {tlo thi : TO} (h : tl σ H fun x H1 => tlo σ H1 fun l H2 => thi σ H2 fun u H3 => r x l u H3 Q) : tSl r tl tlo thi σ H Q := h
theorem r_sub {to ti : TE} {t : TSet} {v : V} {S : St → Hp → Prop} (h : to σ H fun o H1 => ti σ H1 fun i H2 => t o i v H2 fun H3 => S σ H3) : gSub to ti t v σ H S := h
end
end L2
namespace SF
open Lean.Grind
section
variable {R : Type} [CommRing R]
noncomputable def sumN (f : Nat → R) : Nat → R
  | 0 => 0
  | n + 1 => sumN f n + f n
end
end SF
namespace SF
noncomputable def Bd (n : Nat) (x : Int) : Prop := x.natAbs < 2 ^ n
theorem Bd.log2 {n : Nat} {x : Int} (h : Bd n x) (hn : n ≤ 9000) : x.natAbs.log2 < 9000 := by
  unfold Bd at h
  rcases Nat.eq_zero_or_pos x.natAbs with h0 | hp
  · rw [h0]; decide
  · exact (Nat.log2_lt (Nat.ne_of_gt hp)).mpr (Nat.lt_of_lt_of_le h (Nat.pow_le_pow_right (by decide) hn))
theorem Bd.of_range {n : Nat} {x : Int} (h1 : 0 ≤ x) (h2 : x < 2 ^ n) : Bd n x := by
  unfold Bd
  have e : ((2 : Int) ^ n) = ((2 ^ n : Nat) : Int) := by simp
  rw [e] at h2
  lia
theorem fmod_pos {g l : Int} (hl : 0 < l) : g.fmod l = g % l := Int.fmod_eq_emod_of_nonneg g (by lia)
noncomputable def rs (a b : Int) : Int := if b < 0 then -((Int.gcd a b : Nat) : Int) else ((Int.gcd a b : Nat) : Int)
noncomputable def rt (a b : Int) : Int := a.fdiv (rs a b)
noncomputable def ru (a b : Int) : Int := b.fdiv (rs a b)
structure Low (p q a b : Int) : Prop where
  pos : 0 < q
  cross : p * b = a * q
  low : Int.gcd p q = 1
end SF
namespace SF
open Lean.Grind
noncomputable def co (xs : List Int) (i : Nat) : Int := xs.getD i 0
end SF
namespace SF
noncomputable def contN (xs : List Int) : Nat := xs.foldl (fun g x => Int.gcd g x) 0
noncomputable def cont (xs : List Int) : Int := if co xs (xs.length - 1) < 0 then -((contN xs : Nat) : Int) else ((contN xs : Nat) : Int)
noncomputable def hv (t u : Int) (xs : List Int) : Int := sumN (fun i => co xs i * (t ^ i * u ^ (xs.length - 1 - i))) xs.length
end SF
namespace SF
end SF
namespace L2
open PySem PySem.Spec PyProof.Rows
section
variable {X : Cx} {K : PySem.W.Frag} {pos : Pos}
end
theorem len1 {α : Type} {r : List α} (h : r.length = 1) : ∃ x, r = [x] := by
  match r, h with
  | [x], _ => exact ⟨x, rfl⟩
noncomputable abbrev CompGo (J : It) (own : List Str) (fr : List Nat) (σ : St) (g : TG) (te : TE) (H1 : Hp) (Q : VK) : Prop :=
  ∀ D, H1 D = none → ∃ W : Nat → Nat → St → Hp → Prop, (∃ m, W 0 m (stComp own fr σ) (upd H1 D (.lst []))) ∧ ∀ i m σ2 H2, W i m σ2 H2 →
      (J.stop i H2 ∧ Q (.ref D) H2) ∨ (J.go i H2 ∧ ∀ x H3, J.yld i H2 x H3 → g x σ2 H3 fun σ4 H4 => te σ4 H4 fun y H5 => ∃ ys, H5 D = some (.lst ys) ∧ ys.length < sizeLine ∧ ∃ m', m' < m ∧ W (i + 1) m' σ4 (upd H5 D (.lst (ys ++ [y]))))
section
variable {K : PySem.W.Frag} {own : List Str} {fr : List Nat} {g : TG} {te : TE} {σ : St} {H1 : Hp} {Q : VK}
end
end L2
namespace PySem
open Sem (wp)
namespace F
end F
section
variable {prog : Program} {w : World} {A : Around} {E : Value → Shared → Prop} {s : Shared}
end
end PySem
namespace L2
open PySem PySem.Spec PyProof.Rows
section
variable {X : Cx}
end
end L2
namespace L2
open PySem PySem.Spec PyProof.Rows
structure Dv (X : Cx) : Prop where
  tree : X.prog.given.tree = none
  top : ∃ (env : Env) (l : List Env), X.stack = env :: l ∧ env.scope.isGenerator = false ∧ env.scope.isCoroutine = false ∧ env.builtins = builtinsNs ∧ env.globals = mainGlobals
  dp : X.A.depth + 100 < recursionLimit
end L2
namespace L2
open PySem PySem.Spec PyProof.Rows
section
variable {X : Cx}
end
end L2
namespace L2
open PySem PySem.Spec PyProof.Rows
inductive IsInts : List Expr → List Int → Prop
  | nil : IsInts [] []
  | pos {n : Int} {j : Nat} {p : Pos} {es : List Expr} {ns : List Int} (h : IsInts es ns) : IsInts (.Constant (.int n) j p :: es) (n :: ns)
  | neg {n : Int} {j : Nat} {p p' : Pos} {es : List Expr} {ns : List Int} (h : IsInts es ns) : IsInts (.UnaryOp .USub (.Constant (.int n) j p) p' :: es) (-n :: ns)
end L2
namespace L2
open PySem PySem.Spec PyProof.Rows
section
variable {X : Cx}
end
end L2
namespace L2
open PySem PySem.Spec PyProof.Rows
section
variable {X : Cx}
theorem strsAre_of : ∀ {ys : List Str} {us : List Value}, Vals (ys.map V.str) us → StrsAre us ys
  | [], us, r => by rw [List.map_nil] at r; cases r; exact .nil
  | y :: ys, us, r => by
    rw [List.map_cons] at r
    cases r with
    | cons r1 r2 =>
      obtain ⟨t, rfl⟩ := r1
      exact .cons y t (strsAre_of r2)
noncomputable def rJoin (K : PySem.W.Frag) : V → List V → Hp → VK → Prop := fun x vs H Q => ∃ (z : Str) (p : Addr) (ys : List Str), x = .str z ∧ vs = [.ref p] ∧ SqL K H p (ys.map V.str) ∧ (ys.map (·.length)).sum + ys.length * z.length ≤ 16777216 ∧ Q (.str (Txt.join z ys)) H
theorem mt_join : MtM X "str.join" (rJoin X.K) := by
  intro pins s σ H x vs v us Q I rx rv h
  obtain ⟨z, p, ys, rfl, rfl, hp, hz, q⟩ := h
  obtain ⟨t, rfl⟩ := rx
  obtain ⟨u, rfl, r1⟩ := vals1 rv
  cases r1
  obtain ⟨its, r, pl, hz2⟩ := I.list hp
  exact join_list pl.isList (strsAre_of r) hz fun t' k => ⟨.str _, H, I.tok _, ⟨_, rfl⟩, q⟩
end
end L2
namespace SF
open PySem
noncomputable abbrev S (l : List Nat) : Str := ⟨l.toArray⟩
theorem S_len (l : List Nat) : (S l).length = l.length := by show l.toArray.size = _; simp
theorem S_list (z : Str) : S z.cps.toList = z := by cases z; rfl
theorem S_app (a b : List Nat) : S a ++ S b = S (a ++ b) := by
  show (⟨a.toArray ++ b.toArray⟩ : Str) = ⟨(a ++ b).toArray⟩
  simp
theorem S_inj {a b : List Nat} (h : S a = S b) : a = b := by
  have := congrArg (fun z : Str => z.cps.toList) h
  simpa using this
noncomputable def isd (c : Nat) : Bool := 48 ≤ c && c ≤ 57
theorem asc_digit : ∀ c : Nat, c < 128 → Unicode.isDigit c = isd c := by decide +kernel
theorem digit1 {c : Nat} (h : c < 128) : Txt.isdigit ⟨#[c]⟩ = isd c := by
  show (decide ((#[c] : Array Nat).size > 0) && (#[c]).all Unicode.isDigit) = _
  simp [asc_digit c h]
noncomputable def fig (n : Nat) : List Nat := (Nat.toDigits 10 n).map Char.toNat
theorem fig_str (n : Nat) : (Str.ofString (toString ((n : Nat) : Int)) : Str) = S (fig n) := by
  rw [← S_list (Str.ofString _)]
  congr 1
  rw [PySem.W.KIN.signs_num]
  rfl
theorem fig_all (n : Nat) : ∀ c ∈ fig n, 48 ≤ c ∧ c ≤ 57 := by
  intro c hc
  obtain ⟨ch, hch, rfl⟩ := List.mem_map.mp hc
  have := Nat.isDigit_of_mem_toDigits (b := 10) (by decide) (by decide) hch
  exact PyProof.Rows.digit_range this
theorem fig_small {n : Nat} (h : n < 10) : fig n = [48 + n] := by
  unfold fig
  rw [Nat.toDigits_of_lt_base h]
  have : ∀ m : Nat, m < 10 → (Nat.digitChar m).toNat = 48 + m := by decide
  rw [List.map_cons, List.map_nil, this n h]
theorem fig_step {n : Nat} (h : 10 ≤ n) : fig n = fig (n / 10) ++ [48 + n % 10] := by
  have hm : n % 10 < 10 := Nat.mod_lt n (by decide)
  have t : Nat.toDigits 10 (n / 10) ++ Nat.toDigits 10 (n % 10) = Nat.toDigits 10 (10 * (n / 10) + n % 10) := Nat.toDigits_append_toDigits (by decide) (by lia) hm
  rw [Nat.div_add_mod] at t
  rw [← fig_small hm]
  unfold fig
  rw [← t, List.map_append]
theorem fig_ne (n : Nat) : fig n ≠ [] := by
  by_cases h : n < 10
  · rw [fig_small h]; simp
  · rw [fig_step (by lia)]; simp
theorem fig_len : ∀ (k n : Nat), n < 10 ^ (k + 1) → (fig n).length ≤ k + 1
  | 0, n, h => by rw [fig_small (by lia)]; simp
  | k + 1, n, h => by
    by_cases h10 : n < 10
    · rw [fig_small h10]; simp
    · rw [fig_step (by lia), List.length_append]
      have := fig_len k (n / 10) (Nat.div_lt_of_lt_mul (by rw [Nat.mul_comm, ← Nat.pow_succ]; exact h))
      show _ + 1 ≤ _
      lia
theorem fig_head : ∀ (n : Nat), n ≠ 0 → (fig n).head? ≠ some 48 := by
  intro n
  induction n using Nat.strongRecOn with
  | _ n ih =>
    intro hn
    by_cases h10 : n < 10
    · rw [fig_small h10]
      intro z
      have : 48 + n = 48 := Option.some.inj z
      lia
    · rw [fig_step (by lia)]
      have := ih (n / 10) (by lia) (by lia)
      cases hd : fig (n / 10) with
      | nil => exact absurd hd (fig_ne _)
      | cons a r =>
        rw [hd] at this
        exact this
theorem fig_val {n : Nat} (h : (fig n).length ≤ 4300) : intText? (S (fig n)) = some (n : Int) := by
  have e := intText_digits (x := S (fig n)) (fig_all n) (fig_ne n) (by rw [S_len]; exact h)
  rw [e]
  show some ((NumText.digitsVal (fig n) : Nat) : Int) = _
  rw [show NumText.digitsVal (fig n) = n from PySem.W.KIN.val_back n]
theorem fig_isd (n : Nat) : ∀ c ∈ fig n, isd c = true := fun c hc => by
  have := fig_all n c hc
  unfold isd
  simp; lia
theorem neg_str (n : Nat) (h : n ≠ 0) : (Str.ofString (toString (-(n : Int))) : Str) = S (45 :: fig n) := by
  obtain ⟨k, rfl⟩ := Nat.exists_eq_succ_of_ne_zero h
  have e : toString (-((k + 1 : Nat) : Int)) = "-" ++ toString ((k + 1 : Nat) : Int) := by
    show Int.repr (Int.negSucc k) = "-" ++ Int.repr (Int.ofNat (k + 1))
    rfl
  rw [← S_list (Str.ofString _)]
  congr 1
  rw [PyProof.Rows.signs_ofString, e, String.toList_append, List.map_append, ← PyProof.Rows.signs_ofString (toString _), PySem.W.KIN.signs_num]
  rfl
theorem starts3 {l p : List Nat} {i : Nat} (hi : i ≤ l.length) : Txt.startswith3 (S l) (S p) (i : Int) = ((l.drop i).take p.length == p) := by
  unfold Txt.startswith3
  have e1 : PySem.fromIndex (S l).length (i : Int) = i := by
    unfold PySem.fromIndex
    rw [if_neg (by lia)]
    lia
  rw [e1, S_len, S_len]
  unfold Builtin.Str.subAt
  have e2 : ((S l).cps.extract i (i + (S p).length) == (S p).cps) = ((l.drop i).take p.length == p) := by
    rw [S_len]
    show (l.toArray.extract i (i + p.length) == p.toArray) = _
    rw [Bool.eq_iff_iff]
    simp [List.extract_toArray]
  rw [e2]
  by_cases h : (l.drop i).take p.length = p
  · have hl := congrArg List.length h
    rw [List.length_take, List.length_drop] at hl
    rw [beq_iff_eq.mpr h, decide_eq_true (by lia)]; rfl
  · have : ((l.drop i).take p.length == p) = false := by simpa using h
    rw [this, Bool.and_false]
theorem starts1 {l p : List Nat} : Txt.startswith (S l) (S p) = (l.take p.length == p) := by
  have := starts3 (l := l) (p := p) (i := 0) (Nat.zero_le _)
  rw [List.drop_zero] at this
  rw [← this]
  unfold Txt.startswith Txt.startswith3
  have e1 : PySem.fromIndex (S l).length ((0 : Nat) : Int) = 0 := by
    unfold PySem.fromIndex
    rw [if_neg (by lia)]
    lia
  rw [e1]
theorem slice_S {l : List Nat} {i j : Nat} (h1 : i ≤ j) (h2 : j ≤ l.length) : Txt.slice (S l) (some (i : Int)) (some (j : Int)) = S ((l.drop i).take (j - i)) := by
  have := PyProof.Rows.slice_closesL (x := S l) (i := (i : Int)) (j := (j : Int)) (by lia) (by lia) (by rw [S_len]; lia)
  rw [eq_of_beq this]
  congr 1
  have e : ((j : Int) - (i : Int)).toNat = j - i := by lia
  rw [e, Int.toNat_natCast]
end SF
namespace L2
open PySem PySem.Spec PyProof.Rows
section
variable {X : Cx}
end
end L2
namespace SF
open PySem
end SF
namespace SF
open PySem PySem.Spec PyProof.Rows L2 PySem.W
section
variable {P : Program} {w : World} {H H' : Hp} {h h' : Heap} {a : Addr} {o : HO}
theorem objok_get (x : ObjOk P w H h a o) : ∃ ob, h.get? a = some ob := by
  cases o with
  | lst xs => obtain ⟨_, _, _, _, e⟩ := x; exact ⟨_, e⟩
  | tup xs => obtain ⟨_, _, _, ob, e, _⟩ := x; exact ⟨_, e⟩
  | dK kvs => obtain ⟨_, _, _, _, o, _, _, e, _⟩ := x; exact ⟨_, e⟩
  | dT kvs => obtain ⟨_, _, _, _, o, _, _, e, _⟩ := x; exact ⟨_, e⟩
  | set S n => obtain ⟨o, _, _, _, e, _⟩ := x; exact ⟨_, e⟩
  | ins C dx fs => obtain ⟨_, _, _, e, _⟩ := x; exact ⟨_, e⟩
  | own y => obtain ⟨_, e⟩ := x; exact ⟨_, e⟩
  | xd fs => obtain ⟨_, ⟨_, _, _, e, _⟩, _⟩ := x; exact ⟨_, e⟩
  | rng lo hi => obtain ⟨_, _, _, e⟩ := x; exact ⟨_, e⟩
  | frz ob u => obtain ⟨e, _⟩ := x; exact ⟨_, e⟩
  | tbl ps => exact ⟨_, (show h.get? a = some _ from x)⟩
  | met f y => exact ⟨_, (show h.get? a = some _ from x)⟩
  | ext φ => obtain ⟨_, ⟨_, e⟩, _⟩ := x; exact ⟨_, e⟩
theorem hok_none (x : HOk P w H h) (e : h.get? a = none) : H a = none := by
  cases q : H a with
  | none => rfl
  | some u =>
    obtain ⟨ob, z⟩ := objok_get (x a u q)
    rw [e] at z; cases z
theorem un_more {fs ex : List Addr} (x : HOk P w H h) (k : ∀ b u, h.get? b = some u → h'.get? b = some u) (q : ∀ b u, h.get? b = some u → H' b = H b) : Un fs ex H H' h h' where
  keep := fun b u e _ _ _ => k b u e
  slot := fun b u e _ _ _ => ⟨u.slots, k b u e⟩
  free := fun b u e n _ => (q b u e).trans n
  there := fun b u e _ => ⟨u, k b u e⟩
  tups := fun b xs e => by obtain ⟨ob, z⟩ := objok_get (x b _ e); rw [q b ob z]; exact e
  frzs := fun b u xs e => by obtain ⟨ob, z⟩ := objok_get (x b _ e); rw [q b ob z]; exact e
  tbls := fun b ps e => by obtain ⟨ob, z⟩ := objok_get (x b _ e); exact ⟨#[], by rw [q b ob z, e]; simp⟩
theorem hok_more (x : HOk P w H h) (k : ∀ b u, h.get? b = some u → h'.get? b = some u) (q : ∀ b u, h.get? b = some u → H' b = H b) (new : ∀ b o, h.get? b = none → H' b = some o → ObjOk P w H' h' b o) : HOk P w H' h' := fun b o e => by
  cases z : h.get? b with
  | none => exact new b o z e
  | some u =>
    rw [q b u z] at e
    refine (x b o e).stay (fun c v _ e => k c v e) (fun c r => ?_) fun c xs r => ?_
    · obtain ⟨ob, z⟩ := objok_get (x c _ r); rw [q c ob z]; exact r
    · obtain ⟨ob, z⟩ := objok_get (x c _ r); rw [q c ob z]; exact r
end
theorem Inv_more {X : Cx} {pins : List (Addr × Obj)} {σ : L2.St} {H H' : Hp} {s : Shared} {h' : Heap} {t' : Nat} (I : Inv X pins σ H s) (k : ∀ b u, s.heap.get? b = some u → h'.get? b = some u) (q : ∀ b u, s.heap.get? b = some u → H' b = H b)
    (new : ∀ b o, s.heap.get? b = none → H' b = some o → ObjOk X.prog X.w H' h' b o) : Inv X pins σ H' { s with heap := h', toks := t' } := I.un (un_more I.hok k q) (hok_more I.hok k q new)
noncomputable def excO (a C t : Addr) (tb : Value) (d : Option Addr) : HO := .ext fun h => ∃ o vs, h.get? a = some o ∧ o.cls = .ref C ∧ o.dict = d ∧ o.data = .fields vs ∧ vs.size = 6 ∧ vs[0]? = some (.ref t) ∧ vs[1]? = some tb
theorem exc_stay {a C t : Addr} {tb : Value} {d : Option Addr} {P : Program} {w : World} {H : Hp} {h : Heap} {o : Obj} {vs : Array Value} (e : h.get? a = some o) (hc : o.cls = .ref C) (hd : o.dict = d) (hf : o.data = .fields vs) (h6 : vs.size = 6) (h0 : vs[0]? = some (.ref t)) (h1 : vs[1]? = some tb) :
    ObjOk P w H h a (excO a C t tb d) :=
  ⟨⟨o, vs, e, hc, hd, hf, h6, h0, h1⟩, ⟨o, e⟩, fun _ _ ⟨o, vs, e, r⟩ k => ⟨o, vs, k o e, r⟩⟩
noncomputable def bmV : List Value := [.type "ValueError", .type "Exception", .type "BaseException", .type "object"]
noncomputable def XCls (K : Frag) (C : Addr) : Prop := excIn K C bmV "ValueError.__new__" = true
section
variable {X : Cx} {C : Addr}
noncomputable def tExc (C : Addr) (t : TA) : TE := fun σ H Q => t σ H fun vs H1 => vs.length ≤ 1000 ∧ ∀ x tp, H1 x = none → H1 tp = none → x ≠ tp → Q (.ref x) (upd (upd H1 tp (.tup vs)) x (excO x C tp .none none))
theorem exc_obj {K : Frag} {h : Heap} (XK : K.In h) (q : XCls K C) : ∃ bm N nm qn bs hdct sn sub ab col dd k0 k1 k2 k3 k5 mN, h.get? C = some (excClassObj nm qn C N bs bm hdct sn sub ab col dd k0 k1 k2 k3 k5 "ValueError.__new__") ∧ h.Ns N mN ∧ mN "__init__" = none ∧ OwnTail h bmV bm := by
  unfold XCls excIn at q
  split at q
  · rename_i dd cd sl ho
    split at q
    · rename_i C' bm k0 k1 k2 k3 n k5 hm hs
      simp only [Bool.and_eq_true, beq_iff_eq, Bool.not_eq_true'] at q
      obtain ⟨⟨⟨⟨⟨rfl, rfl⟩, hdel⟩, ht⟩, hok⟩, hni⟩ := q
      obtain ⟨nm, bs, mro, ns, qn, hd, sn, sub, ab, col, del⟩ := cd
      dsimp only at hm hdel hok hni
      subst hm hdel
      have hsl : sl = #[k0, k1, k2, k3, some (.builtin "ValueError.__new__"), k5] := by
        obtain ⟨l⟩ := sl
        simp only at hs
        rw [hs]
      subst hsl
      exact ⟨bm, ns, nm, qn, bs, hd, sn, sub, ab, col, dd, k0, k1, k2, k3, k5, _, XK _ _ ho, .of_isNs (isNs_of_in XK hok), nsMap_none_of_in XK hok hni, tail_of_in XK ht⟩
    · cases q
  · cases q
theorem made_inv {pins : List (Addr × Obj)} {σ : L2.St} {H : Hp} {s : Shared} {h' : Heap} {e : Addr} {us : List Value} {vs : List V} {Q : VK} (I : Inv X pins σ H s) (r : Vals vs us) (hl : vs.length ≤ 1000) (hm : Heap.MadeExcOf s.heap h' e (.ref C) us)
    (q : ∀ x tp, H x = none → H tp = none → x ≠ tp → Q (.ref x) (upd (upd H tp (.tup vs)) x (excO x C tp .none none))) : EP X pins σ Q (.ref e) { s with heap := h' } := by
  obtain ⟨t, he, htn, ht⟩ := hm.there
  have hne : e ≠ t := fun z => by subst z; rw [he] at ht; cases ht
  refine ⟨.ref e, _, Inv_more (t' := s.toks) I hm.keeps (fun b u z => ?_) (fun b o z zz => ?_), rfl, q e t (hok_none I.hok hm.new) (hok_none I.hok htn) hne⟩
  · rw [upd_ne (fun y => by subst y; rw [hm.new] at z; cases z), upd_ne (fun y => by subst y; rw [htn] at z; cases z)]
  · by_cases hb : b = e
    · subst hb
      rw [upd_same] at zz; cases zz
      exact exc_stay he rfl rfl rfl rfl rfl rfl
    · rw [upd_ne hb] at zz
      by_cases hb2 : b = t
      · subst hb2
        rw [upd_same] at zz; cases zz
        exact ⟨small4 hl, us, r, _, ht, rfl, _, rfl⟩
      · rw [upd_ne hb2] at zz
        rw [hok_none I.hok z] at zz; cases zz
theorem pe_exc {x : Str} {p pos : Pos} {e : Expr} {es : List Expr} {t : TA} (hg : Gl X x) (hm : X.mg x = some (.ref C)) (hk : keepIn X.K (.ref C) = true) (hc : XCls X.K C) (ha : PA X (e :: es) t)
    (hdb : (x == ("__debug__" : Str)) = false := by decide) (he : starEach (e :: es) X.env = (false, eval e X.env) :: starEach es X.env := by rfl) (hpl : (backTo pos (starEach es X.env)).any (·.1) = false := by rfl) :
    PE X (.Call (.Name x p) (e :: es) [] pos) (tExc C t) := by
  intro pins s σ H Q I h
  refine wpAny_Call_Name_kw (ld_glob I hg hm ?_ hdb)
  refine callWith_K (h₀ := X.base) I.ok.mod.kin hk (thn (ha pos pins s σ H _ I h) fun us s1 ⟨vs, H1, I1, r, hl, q⟩ => ⟨I1.kIn, ?_⟩) he hpl
  obtain ⟨bm, N, nm, qn, bs, hdct, sn, sub, ab, col, dd, k0, k1, k2, k3, k5, mN, hC, hN, hni, TL⟩ := exc_obj I1.kIn hc
  have lus : us.length ≤ 1000 := by rw [← r.length]; exact hl
  obtain ⟨hp, g, d, tk, os⟩ := s1
  exact wpAny_call_exc_subU PySem.F.excBase_ValueError (by decide) PySem.F.excBase_ValueError TL hC hN hni (fun h' e hm => made_inv I1 r hl hm q) (small4 lus)
end
end SF
namespace SF
open PySem PySem.Spec PyProof.Rows L2 PySem.W
section
variable {prog : Program} {w : World} {A : Around} {E : Value → Shared → Prop} {s : Shared} {K : Frag} {x C : Addr} {ox : Obj} {od : Option Obj} {name : Str} {tk : Tok}
theorem xga_kind : builtinKind "BaseException.__getattribute__" = some .slot := by decide +kernel
theorem xga_split : splitId "BaseException.__getattribute__" = some ("BaseException", "__getattribute__") := by decide +kernel
theorem xga_code {R : Result → Shared → Prop} (XK : K.In s.heap) (I : InstAt s.heap x ox C od) (hb : subIn K (.ref C) (.type "BaseException") = some true)
    (h : wpAny (model prog w) A.in1 (Builtin.«object.__getattribute__» ⟨[.ref x, .str name tk], []⟩) (fun fin s' => match fin with | .done f => R (.ok f) s' | .again c' => c'.quiet = true ∧ codeAny (model prog w) A c' R s') (fun e s' => R (.error e) s') s) :
    codeAny (model prog w) A (.call (.builtin "BaseException.__getattribute__") ⟨[.ref x, .str name tk], []⟩) R s := by
  have sub : Looks (model prog w) s.heap (isInstance (.ref x) (.type "BaseException")) true := I.type.andThen (looks_subIn XK hb)
  exact codeAny_call_builtin PySem.F.attr_ValueError.ga.plain PySem.F.entry_bexc_ga (@check_slot (model prog w) _ _ s "BaseException.__getattribute__" "BaseException" "__getattribute__" (.ref x) [.str name tk] [] _ xga_kind xga_split sub (PySem.F.args_bexc_ga (.ref x) (.str name tk)) h)
theorem xga_value {v : Value} {Q : Fin → Shared → Prop} (XK : K.In s.heap) (I : InstAt s.heap x ox C od) (hf : findObj K C od name = some (.value v)) (h : Q (.done (.ret v)) s) :
    wpAny (model prog w) A (Builtin.«object.__getattribute__» ⟨[.ref x, .str name tk], []⟩) Q E s := by
  obtain ⟨hh, g, d, t, os⟩ := s
  have L0 := I.type (M := model prog w)
  have L1 := looks_find (M := model prog w) XK I hf
  refine wpAny_bind (wpAny_pure (wpAny_bind (wpAny_pure (wpAny_bind (L0.at (wpAny_bind (L1.at ?_)))))))
  exact wpAny_pure h
theorem xga_class {Q : Fin → Shared → Prop} (XK : K.In s.heap) (I : InstAt s.heap x ox C od) (hf : findObj K C od "__class__" = some (.bind (.builtin "getset_descriptor.__get__") (.builtin "object.__class__"))) (hm : mroIn K C (.type "object") = some true) (h : Q (.done (.ret (.ref C))) s) :
    wpAny (model prog w) A (Builtin.«object.__getattribute__» ⟨[.ref x, .str "__class__" tk], []⟩) Q E s := by
  have L0 := I.type (M := model prog w)
  have L1 := looks_find (M := model prog w) XK I hf
  refine wpAny_bind (wpAny_pure (wpAny_bind (wpAny_pure (wpAny_bind (L0.here (wpAny_bind (L1.here ?_)))))))
  show wpAny _ _ (holding [.builtin "object.__class__"] (call (.builtin "getset_descriptor.__get__") [.builtin "object.__class__", .ref x, .ref C]) >>= ret) _ _ _
  exact wpAny_bind (wpAny_holding (wpAny_call (class_get XK I hm (wpAny_pure h))))
theorem xga_ne : (Value.builtin "BaseException.__getattribute__" == Value.builtin "object.__getattribute__") = false := by decide +kernel
theorem xby {fill expr : Bool} {Q : Value → Shared → Prop} (XK : K.In s.heap) (I : InstAt s.heap x ox C od) (hga : findIn K (.ref C) "__getattribute__" = some (some (.builtin "BaseException.__getattribute__"))) (hgk : findIn K (.ref C) "__getattr__" = some none)
    (hb : subIn K (.ref C) (.type "BaseException") = some true)
    (h : ∀ A' E', wpAny (model prog w) A' (Builtin.«object.__getattribute__» ⟨[.ref x, .str name tk], []⟩) (fun fin s' => ∃ v, fin = .done (.ret v) ∧ handedIn v = true ∧ Q v s') E' s) :
    wpAny (model prog w) A (getAttrBy (.ref x) (.str name tk) fill expr) Q E s := by
  have L0 := I.type (M := model prog w)
  have L1 := looks_findIn (M := model prog w) XK hga
  have L2 := looks_findIn (M := model prog w) XK hgk
  have hx0 : (expr && onTheHeap (Value.builtin "BaseException.__getattribute__")) = false := by cases expr <;> rfl
  have hx1 : (onTheHeap (Value.ref C) && Value.builtin "BaseException.__getattribute__" == Value.builtin "object.__getattribute__") = false := by rw [xga_ne]; rfl
  unfold getAttrBy
  refine wpAny_holding (wpAny_bind (L0.here (wpAny_bind (L1.here ?_))))
  show wpAny _ _ (if (onTheHeap (Value.ref C) && Value.builtin "BaseException.__getattribute__" == Value.builtin "object.__getattribute__") = true then _ else _) _ _ _
  rw [hx1, if_neg (by decide)]
  unfold getAttrByItsOwn
  refine wpAny_bind ?_
  show wpAny _ _ (typeLookup (.ref C) "__getattr__") _ _ _
  refine L2.here (wpAny_bind (wpAny_attempt (wpAny_holding ?_)))
  unfold callGetattribute
  rw [hx0, if_neg (by decide)]
  unfold boundAndCalled
  rw [PySem.F.attr_ValueError.ga.bind (.ref x)]
  refine wpAny_bind (wpAny_pure (wpAny_call (xga_code XK I hb (wpAny_mono (h _ _) (fun fin s' z => ?_) fun _ _ z => z))))
  obtain ⟨v, rfl, hh, q⟩ := z
  show wpAny _ _ (handedOut v) _ _ _
  rw [handedOut_of hh]
  exact wpAny_pure q
end
end SF
namespace SF
open PySem PySem.Spec PyProof.Rows L2 PySem.W
structure XAsk (K : Frag) (D : Addr) : Prop where
  ga : findIn K (.ref D) "__getattribute__" = some (some (.builtin "BaseException.__getattribute__"))
  gk : findIn K (.ref D) "__getattr__" = some none
  base : subIn K (.ref D) (.type "BaseException") = some true
  cls : findIn K (.ref D) "__class__" = some (some (.builtin "object.__class__"))
  cget : specialIn K (.builtin "object.__class__") "__get__" = some (some (.builtin "getset_descriptor.__get__"))
  ctake : takesIn K (.builtin "object.__class__") = some true
  obj : mroIn K D (.type "object") = some true
  dct : hasDictIn K D = true
  str : findIn K (.ref D) "__str__" = some (some (.builtin "BaseException.__str__"))
section
variable {prog : Program} {w : World} {A : Around} {E : Value → Shared → Prop} {s : Shared} {K : Frag} {x C D : Addr} {ox : Obj} {od : Option Obj} {name : Str} {tk : Tok}
theorem kitx_exc (F : XAsk K D) : KitX K (.ref x) (.ref D) (fun h => ∃ ox od, InstAt h x ox D od) where
  ty := fun _ _ _ ⟨_, _, I⟩ => I.type
  it := fun _ _ X _ => by
    obtain ⟨cdD, hcD, _⟩ := any_some F.dct
    unfold clsIn at hcD
    split at hcD
    · rename_i c' d' cd' sl' ho
      intro A' Q' E' s' k q
      unfold isType loadHead
      exact wpAny_bind (wpAny_loadPart (k _ _ (X _ _ ho)) (wpAny_pure q))
    · cases hcD
  ne := fun h tp dd its n sl X htp => by
    obtain ⟨cdD, hcD, _⟩ := any_some F.dct
    refine Bool.eq_false_iff.mpr fun q => ?_
    have e : D = tp := Value.ref.inj (beq_iff_eq.mp q)
    subst e
    unfold clsIn at hcD
    split at hcD
    · rename_i c' d' cd' sl' ho
      have z := (X _ _ ho).symm.trans htp
      cases z
    · cases hcD
  ca := fun {prog w A E Q s} X ⟨ox, od, I⟩ k => by
    have hf : findObj K D od "__class__" = some (.bind (.builtin "getset_descriptor.__get__") (.builtin "object.__class__")) := by
      obtain ⟨cd, hc, _⟩ := any_some F.dct
      unfold findObj
      simp only [hc, F.cls, F.cget, F.ctake, Option.bind_some]
    unfold getAttr? getAttrBy?
    refine wpAny_bind (wpAny_mkText (wpAny_bind (wpAny_attempt ?_)))
    refine xby (s := { s with toks := s.toks + 1 }) X I F.ga F.gk F.base fun A' E' => ?_
    refine xga_class (s := { s with toks := s.toks + 1 }) X I hf F.obj ⟨_, rfl, rfl, ?_⟩
    exact wpAny_pure k
theorem xargs {M : Model} {t0 : Addr} {vs : Array Value} {items : List Value} {Q : Value × List Value → Shared → Prop} (ho : s.heap.get? x = some ox) (hd : ox.data = .fields vs) (h0 : vs[0]? = some (.ref t0)) (ht : s.heap.TupAt t0 items) (hq : Q (.ref t0, items) s) :
    wpAny M A (Builtin.BaseException.bexcArgs (.ref x)) Q E s := by
  obtain ⟨ot, k, hto, _, htd⟩ := ht
  unfold Builtin.BaseException.bexcArgs
  refine wpAny_bind (wpAny_field ho hd h0 (wpAny_bind (wpAny_seqItems hto htd ?_)))
  have : items.toArray.toList = items := by simp
  show wpAny M A (pure (Value.ref t0, items.toArray.toList)) Q E s
  rw [this]; exact wpAny_pure hq
theorem xstr_entry {t0 : Addr} {vs : Array Value} {m : Str} {Q : Fin → Shared → Prop} (ho : s.heap.get? x = some ox) (hd : ox.data = .fields vs) (h0 : vs[0]? = some (.ref t0)) (ht : s.heap.TupAt t0 [.str m tk]) (hq : Q (.done (.ret (.str m tk))) s) :
    wpAny (model prog w) A (Builtin.«BaseException.__str__» ⟨[.ref x], []⟩) Q E s := by
  unfold Builtin.«BaseException.__str__»
  repeat (first | with_reducible refine xargs ho hd h0 ht ?_ | wp_step)
  exact hq
theorem xs_kind : builtinKind "BaseException.__str__" = some .slot := by decide +kernel
theorem xs_split : splitId "BaseException.__str__" = some ("BaseException", "__str__") := by decide +kernel
theorem xstr_of {t0 : Addr} {vs : Array Value} {m : Str} {Q : Value → Shared → Prop} (F : XAsk K C) (XK : K.In s.heap) (I : InstAt s.heap x ox C od) (hu : A.units < cLine) (hd : ox.data = .fields vs) (h0 : vs[0]? = some (.ref t0)) (ht : s.heap.TupAt t0 [.str m tk]) (hq : Q (.str m tk) s) :
    wpAny (model prog w) A (Builtin.Str.strOf (.ref x)) Q E s := by
  have sub : Looks (model prog w) s.heap (isInstance (.ref x) (.type "BaseException")) true := I.type.andThen (looks_subIn XK F.base)
  have L1 := looks_findIn (M := model prog w) XK F.str
  have hc : ∀ {Q : Value → Shared → Prop}, Q (.str m tk) s → wpAny (model prog w) A (call (.builtin "BaseException.__str__") [.ref x]) Q E s := fun {Q} hq =>
    wpAny_call (codeAny_call_builtin PySem.F.excStr_ValueError.str.plain PySem.F.entry_bexc_str (@check_slot (model prog w) _ _ s "BaseException.__str__" "BaseException" "__str__" (.ref x) [] [] _ xs_kind xs_split sub (PySem.F.args_bexc_str (.ref x)) (xstr_entry I.at_ hd h0 ht hq)))
  have hs : ∀ {Q : Option Value → Shared → Prop} , wpAny (model prog w) A (call (.builtin "BaseException.__str__") [.ref x]) (fun v => Q (some v)) E s → wpAny (model prog w) A (callSpecial? (.ref x) "__str__") Q E s := fun {Q} hc => by
    simp only [callSpecial?]
    refine wpAny_bind (wpAny_bind (I.type.here (L1.here ?_)))
    simp only [PySem.F.excStr_ValueError.str.bind]
    exact wpAny_holding (wpAny_bind (wpAny_pure (wpAny_bind (wpAny_mono hc (fun v s' h' => wpAny_pure h') fun _ _ h' => h'))))
  unfold Builtin.Str.strOf
  repeat (first | with_reducible refine wpAny_cRoomFor hu ?_ | with_reducible refine hs ?_ | with_reducible refine hc ?_ | wp_step)
  exact hq
end
end SF
namespace SF
open PySem PySem.Spec PyProof.Rows L2 PySem.W
noncomputable def tbO (T : Addr) (fl : Value) : HO := .ext fun h => ∃ o ts, h.get? T = some o ∧ o.data = .fields ts ∧ ts[3]? = some fl
theorem tb_ok {T : Addr} {fl : Value} {P : Program} {w : World} {H : Hp} {h : Heap} {o : Obj} {ts : Array Value} (e : h.get? T = some o) (hd : o.data = .fields ts) (h3 : ts[3]? = some fl) : ObjOk P w H h T (tbO T fl) :=
  ⟨⟨o, ts, e, hd, h3⟩, ⟨o, e⟩, fun _ _ ⟨o, ts, e, r⟩ k => ⟨o, ts, k o e, r⟩⟩
section
variable {M : Model} {A : Around} {E : Value → Shared → Prop} {s : Shared} {base : Heap} {env : Env} {outer : List Env} {L e : Addr} {oe : Obj} {vs : Array Value} {head : Value} {Q : Unit → Shared → Prop}
structure Noted (fs : List Addr) (e : Addr) (oe : Obj) (fl : Value) (h h' : Heap) (T : Addr) : Prop where
  new : h.get? T = none
  ent : ∃ oT ts, h'.get? T = some oT ∧ oT.data = .fields ts ∧ ts[3]? = some fl
  ne : T ≠ e
  exc : h'.get? e = some (Obj.mapFields (·.setIfInBounds 1 (.ref T)) oe)
  keep : ∀ b o, b ≠ e → b ∉ fs → h.get? b = some o → h'.get? b = some o
  slot : ∀ b o, b ≠ e → h.get? b = some o → ∃ sl, h'.get? b = some { o with slots := sl }
theorem entry_raw {hadNext : Bool} (hfr : A.frames = some (env :: outer)) (hl : s.heap.FunFrames base (env :: outer)) (hf : env.frame = some L) (he : s.heap.get? e = some oe) (hd : oe.data = .fields vs) (hsz : 1 < vs.size)
    (h : ∀ h' T, Noted (frs (env :: outer)) e oe (rawInt L) s.heap h' T → Q () { s with heap := h' }) :
    wpAny M A (do let a ← frameOf env; let pl ← entryPlaceOf L hadNext; let b ← EntryCells.newEntry head a .none (rawInt L) .none pl; setField (.ref e) 1 b) Q E s := by
  have hene : e ∉ (env :: outer).filterMap (·.frame) := fun hm => by
    obtain ⟨_, o, ho, hnf⟩ := hl.mem hm
    rw [he] at ho; injection ho with ho; subst ho; exact hnf vs hd
  refine wpAny_bind (wpAny_frameOf_fun hfr hl hf fun h₁ hs₁ => ?_)
  refine wpAny_bind (wpAny_entryPlaceOf fun pl hpl => ?_)
  unfold EntryCells.newEntry newFields
  refine wpAny_bind (wpAny_newObj_type ?_ (hpl.sizeOk5 _ _ _ _ _))
  have he₁ : h₁.get? e = some oe := (hs₁.2.1 e hene).trans he
  generalize hoT : ({ cls := .type "traceback", dict := none, data := .fields ([head, .ref L, .none, rawInt L, .none] ++ (if pl.isEmpty then List.replicate 6 Value.none else pl)).toArray } : Obj) = oT
  have he₂ := Heap.get?_push_of_some (h := h₁) oT he₁
  refine wpAny_setField he₂ hd hsz ?_
  have hTe : h₁.objs.size ≠ e := Nat.ne_of_gt (Heap.lt_size he₁)
  have hd₃ := Obj.data_mapFields hd (·.setIfInBounds 1 (Value.ref h₁.objs.size))
  have he₃ := Heap.get?_update_self (Obj.mapFields (·.setIfInBounds 1 (Value.ref h₁.objs.size))) he₂ (Obj.isFreed_of_fields hd₃)
  have hT₃ := (Heap.get?_update_other (h₁.push oT) (Obj.mapFields (·.setIfInBounds 1 (Value.ref h₁.objs.size))) (Ne.symm hTe)).trans (Heap.get?_push_size h₁ (by subst hoT; rfl))
  have keep : ∀ b o, b ≠ e → h₁.get? b = some o → ((h₁.push oT).update e (Obj.mapFields (·.setIfInBounds 1 (Value.ref h₁.objs.size)))).get? b = some o := fun b o hbe hb => by
    rw [Heap.get?_update_other _ _ (Ne.symm hbe)]
    exact Heap.get?_push_of_some _ hb
  refine h _ h₁.objs.size ⟨Heap.get?_none_of_le (by rw [hs₁.1]; exact Nat.le_refl _), ⟨oT, _, hT₃, by subst hoT; rfl, by first | (simp; done) | (rcases hpl with rfl | ⟨_, _, _, _, _, _, _, rfl⟩ <;> simp)⟩, hTe, he₃, fun b o hbe hbf hb => keep b o hbe ((hs₁.2.1 b hbf).trans hb), fun b o hbe hb => ?_⟩
  obtain ⟨sl, q⟩ := hs₁.2.2 b o hb
  exact ⟨sl, keep b _ hbe q⟩
theorem same_field {o : Obj} {ts : Array Value} {i : Nat} {x : Value} (hd : o.data = .fields ts) (h3 : ts[i]? = some x) : Obj.mapFields (·.setIfInBounds i x) o = o := by
  obtain ⟨c, d, dt, sl⟩ := o
  subst hd
  have : ts.setIfInBounds i x = ts := by
    apply Array.ext_getElem?
    intro j
    rw [Array.getElem?_setIfInBounds]
    by_cases q : i = j
    · subst q
      rw [if_pos rfl, h3]
      have := (Array.getElem?_eq_some_iff.mp h3).1
      simp [this]
    · rw [if_neg q]
  simp only [Obj.mapFields, this]
theorem note_raw (hfr : A.frames = some (env :: outer)) (hl : s.heap.FunFrames base (env :: outer)) (hf : env.frame = some L) (he : s.heap.get? e = some oe) (hd : oe.data = .fields vs) (h1 : vs[1]? = some head)
    (hh : head = .none ∨ ∃ T oT ts, head = .ref T ∧ T ≠ e ∧ s.heap.get? T = some oT ∧ oT.data = .fields ts ∧ ts[3]? = some .none)
    (h : ∀ h' T, Noted (frs (env :: outer)) e oe (rawInt L) s.heap h' T → Q () { s with heap := h' }) : wpAny M A (noteFrame (.ref e) env) Q E s := by
  have hsz : 1 < vs.size := (Array.getElem?_eq_some_iff.mp h1).1
  unfold noteFrame
  simp only [hf]
  refine wpAny_bind (wpAny_field he hd h1 ?_)
  rcases hh with rfl | ⟨T, oT, ts, rfl, hTe, hT, hdT, h3⟩
  · rw [if_neg (by decide)]
    exact entry_raw hfr hl hf he hd hsz h
  · rw [if_pos (show (Value.ref T != Value.none) = true from by simp)]
    refine wpAny_bind (wpAny_field hT hdT h3 ?_)
    rw [if_neg (show ¬ ((Value.none == rawInt L) = true) from by simp [rawInt])]
    refine wpAny_bind (wpAny_setField hT hdT (Array.getElem?_eq_some_iff.mp h3).1 ?_)
    have same : ∀ b, (s.heap.update T (Obj.mapFields (·.setIfInBounds 3 Value.none))).get? b = s.heap.get? b := fun b => by
      by_cases q : b = T
      · subst q
        rw [Heap.get?_update_self _ hT (Obj.isFreed_of_fields (Obj.data_mapFields hdT _)), hT, same_field hdT h3]
      · exact Heap.get?_update_other _ _ (Ne.symm q)
    refine entry_raw (base := base) hfr (hl.of_keeps fun b o hb _ => ⟨o, (same b).trans hb, rfl⟩) hf ((same e).trans he) hd hsz fun h' T' N => h h' T' ?_
    exact ⟨(same _).symm.trans N.new, N.ent, N.ne, N.exc, fun b o hbe hbf hb => N.keep b o hbe hbf ((same b).trans hb), fun b o hbe hb => N.slot b o hbe ((same b).trans hb)⟩
theorem flight_raw {T : Addr} {oT : Obj} {ts : Array Value} {fl : Value} (he : s.heap.get? e = some oe) (hd : oe.data = .fields vs) (h1 : vs[1]? = some (.ref T)) (hT : s.heap.get? T = some oT) (hdT : oT.data = .fields ts) (h3 : ts[3]? = some fl)
    (h : ∀ h', (∃ oT' ts', h'.get? T = some oT' ∧ oT'.data = .fields ts' ∧ ts'[3]? = some .none) → (∀ b, b ≠ T → h'.get? b = s.heap.get? b) → Q () { s with heap := h' }) : wpAny M A (setFlight (.ref e) none) Q E s := by
  have hsz := (Array.getElem?_eq_some_iff.mp h3).1
  unfold setFlight
  refine wpAny_bind (wpAny_field he hd h1 ?_)
  rw [if_pos (show (Value.ref T != Value.none) = true from by simp)]
  refine wpAny_setField hT hdT hsz (h _ ⟨_, _, Heap.get?_update_self _ hT (Obj.isFreed_of_fields (Obj.data_mapFields hdT _)), Obj.data_mapFields hdT _, by simp [hsz]⟩ fun b hb => Heap.get?_update_other _ _ (Ne.symm hb))
end
noncomputable def TbOk (H : Hp) (a : Addr) (tb : Value) : Prop := tb = .none ∨ ∃ T, tb = .ref T ∧ T ≠ a ∧ H T = some (tbO T .none)
noncomputable def Sub (a : Addr) (H1 H' : Hp) : Prop := ∀ b o, b ≠ a → H1 b = some o → H' b = some o
theorem Sub.refl {a : Addr} {H : Hp} : Sub a H H := fun _ _ _ e => e
theorem Sub.trans {a : Addr} {H1 H2 H3 : Hp} (x : Sub a H1 H2) (y : Sub a H2 H3) : Sub a H1 H3 := fun b o n e => y b o n (x b o n e)
section
variable {X : Cx} {pins : List (Addr × Obj)} {σ : L2.St} {H : Hp} {s : Shared} {a C t T : Addr} {tb fl : Value} {d : Option Addr} {E : Value → Shared → Prop} {Q : Unit → Shared → Prop}
theorem exc_get {P : Program} {w : World} {h : Heap} (x : HOk P w H h) (ha : H a = some (excO a C t tb d)) : ∃ o vs, h.get? a = some o ∧ o.cls = .ref C ∧ o.dict = d ∧ o.data = .fields vs ∧ vs.size = 6 ∧ vs[0]? = some (.ref t) ∧ vs[1]? = some tb := (x a _ ha).1
theorem tb_get {P : Program} {w : World} {h : Heap} (x : HOk P w H h) (ha : H T = some (tbO T fl)) : ∃ o ts, h.get? T = some o ∧ o.data = .fields ts ∧ ts[3]? = some fl := (x T _ ha).1
theorem note_inv (hst : X.stack = X.env :: X.outer) (hfr : X.env.frame = some X.env.locals) (I : Inv X pins σ H s) (ha : H a = some (excO a C t tb d)) (ht : TbOk H a tb)
    (k : ∀ s' T, H T = none → T ≠ a → Inv X pins σ (upd (upd H a (excO a C t (.ref T) d)) T (tbO T (rawInt X.env.locals))) s' → Q () s') : wpAny (model X.prog X.w) X.A (noteFrame (.ref a) X.env) Q E s := by
  obtain ⟨o, vs, e, hc, hd, hf, h6, h0, h1⟩ := exc_get I.hok ha
  have hfrs : X.A.frames = some (X.env :: X.outer) := by rw [← hst]; exact I.ok.frames
  have hfun : s.heap.FunFrames X.base (X.env :: X.outer) := by rw [← hst]; exact I.stack
  have free : ∀ b ∈ frs (X.env :: X.outer), H b = none := by rw [← hst]; exact I.stkFree
  refine note_raw hfrs hfun hfr e hf h1 ?_ fun h' T N => ?_
  · rcases ht with rfl | ⟨T, rfl, n, q⟩
    · exact .inl rfl
    · obtain ⟨oT, ts, x, y, z⟩ := tb_get I.hok q
      exact .inr ⟨T, oT, ts, rfl, n, x, y, z⟩
  · have hTn : H T = none := hok_none I.hok N.new
    obtain ⟨oT, ts, x1, x2, x3⟩ := N.ent
    have nea : ∀ b u, H b = some u → (∀ φ, u ≠ .ext φ) → b ≠ a := fun b u q n z => by subst z; rw [ha] at q; cases q; exact n _ rfl
    have neT : ∀ b u, H b = some u → b ≠ T := fun b u q z => by subst z; rw [hTn] at q; cases q
    have nea0 : ∀ b, H b = none → b ≠ a := fun b q z => by subst z; rw [ha] at q; cases q
    have un : Un (frs X.stack) [] H (upd (upd H a (excO a C t (.ref T) d)) T (tbO T (rawInt X.env.locals))) s.heap h' := by
      rw [hst]
      exact ⟨fun b ob q n hb _ => N.keep b ob (nea0 b n) hb q, fun b ob q n _ _ => N.slot b ob (nea0 b n) q, fun b ob q n _ => by rw [upd_ne (fun z => by subst z; rw [N.new] at q; cases q), upd_ne (nea0 b n)]; exact n,
        fun b ob q _ => by
          by_cases z : b = a
          · subst z; exact ⟨_, N.exc⟩
          · obtain ⟨sl, q⟩ := N.slot b ob z q; exact ⟨_, q⟩,
        fun b xs q => by rw [upd_ne (neT b _ q), upd_ne (nea b _ q (fun _ z => nomatch z))]; exact q, fun b u xs q => by rw [upd_ne (neT b _ q), upd_ne (nea b _ q (fun _ z => nomatch z))]; exact q,
        fun b ps q => ⟨#[], by rw [upd_ne (neT b _ q), upd_ne (nea b _ q (fun _ z => nomatch z)), q]; simp⟩⟩
    have hok : HOk X.prog X.w (upd (upd H a (excO a C t (.ref T) d)) T (tbO T (rawInt X.env.locals))) h' := fun b u q => by
      by_cases hbT : b = T
      · subst hbT; rw [upd_same] at q; cases q
        exact tb_ok x1 x2 x3
      · rw [upd_ne hbT] at q
        by_cases hba : b = a
        · subst hba; rw [upd_same] at q; cases q
          refine exc_stay N.exc ((Obj.cls_mapFields _ _).trans hc) ?_ (Obj.data_mapFields hf _) (by simp [h6]) (by rw [Array.getElem?_setIfInBounds_ne (by decide)]; exact h0) (by simp [h6])
          obtain ⟨cc, dd, dt, sl⟩ := o
          simp only at hf
          subst hf
          exact hd
        · rw [upd_ne hba] at q
          refine (I.hok b u q).stay (fun c v hc e => ?_) (fun c r => by rw [upd_ne (neT c _ r), upd_ne (nea c _ r (fun _ z => nomatch z))]; exact r) fun c xs r => by rw [upd_ne (neT c _ r), upd_ne (nea c _ r (fun _ z => nomatch z))]; exact r
          refine N.keep c v ?_ (fun z => ?_) e
          · rcases hc with rfl | hc
            · exact hba
            · exact nea c _ hc (fun _ z => nomatch z)
          · have := free c z
            rcases hc with rfl | hc
            · rw [this] at q; cases q
            · rw [this] at hc; cases hc
    exact k _ T hTn N.ne (I.call (g' := s.gens) (d' := s.drawn) (t' := s.toks) (ch := []) un hok I.bare (fun b z => absurd z (by simp)))
theorem tb_mut : Mut (some (tbO T fl)) := trivial
theorem land_inv (I : Inv X pins σ H s) (ha : H a = some (excO a C t (.ref T) d)) (hT : H T = some (tbO T fl)) (k : ∀ s', Inv X pins σ (upd H T (tbO T .none)) s' → Q () s') {A : Around} : wpAny (model X.prog X.w) A (setFlight (.ref a) none) Q E s := by
  obtain ⟨o, vs, e, hc, hd, hf, h6, h0, h1⟩ := exc_get I.hok ha
  obtain ⟨oT, ts, x, y, z⟩ := tb_get I.hok hT
  refine flight_raw e hf h1 x y z fun h' ⟨oT', ts', p, q, r⟩ other => ?_
  have keep : ∀ b u, b ≠ T → s.heap.get? b = some u → h'.get? b = some u := fun b u n e => (other b n).trans e
  have mu : Mut (H T) := by rw [hT]; exact tb_mut
  exact k _ (I.un (t' := s.toks) (Un.write mu (.inl rfl) keep ⟨_, p⟩) (I.hok.write mu (.inl rfl) keep ⟨_, p⟩ (tb_ok p q r)))
theorem leave_inv (hst : X.stack = X.env :: X.outer) (hfr : X.env.frame = some X.env.locals) (I : Inv X pins σ H s) (ha : H a = some (excO a C t tb d)) (ht : TbOk H a tb)
    (k : ∀ s' H' T, Inv X pins σ H' s' → H' a = some (excO a C t (.ref T) d) → TbOk H' a (.ref T) → Sub a H H' → Q () s') : wpAny (model X.prog X.w) X.A (leaving X.env (.ref a)) Q E s := by
  unfold leaving
  refine wpAny_bind (note_inv hst hfr I ha ht fun s1 T hTn hne I1 => ?_)
  refine land_inv (T := T) (fl := rawInt X.env.locals) (C := C) (t := t) (d := d) I1 (by rw [upd_ne (Ne.symm hne), upd_same]) (by rw [upd_same]) fun s2 I2 => ?_
  rw [upd_upd] at I2
  refine k s2 _ T I2 (by rw [upd_ne (Ne.symm hne), upd_same]) (.inr ⟨T, rfl, hne, by rw [upd_same]⟩) fun b o n e => ?_
  rw [upd_ne (fun z => by subst z; rw [hTn] at e; cases e), upd_ne n]; exact e
end
noncomputable def CXF (P : Program) (w : World) : CXT := fun outer H s E e s' => ∃ a C t tb d H1 H', e = .ref a ∧ s'.os = s.os ∧ AllBare s'.gens ∧ Un (frs outer) [] H H' s.heap s'.heap ∧ HOk P w H' s'.heap ∧
  H' a = some (excO a C t tb d) ∧ TbOk H' a tb ∧ Sub a H1 H' ∧ E (.ref C) d H1
noncomputable def LeavesTo (X : Cx) (E : XK) : Prop := ∀ pins σ H' s' a C t tb d H1, Inv X pins σ H' s' → H' a = some (excO a C t tb d) → TbOk H' a tb → Sub a H1 H' → E (.ref C) d H1 → X.xe (.ref a) s'
theorem LeavesTo.passes {X : Cx} {E : XK} (h : LeavesTo X E) : Passes (CXF X.prog X.w) X E := fun pins σ H s e s' I ⟨a, C, t, tb, d, H1, H', r, os, bare, un, hok, ha, ht, hs, hE⟩ => by
  subst r
  exact h pins σ H' s' a C t tb d H1 (I.call' (ch := []) os un hok bare fun b z => absurd z (by simp)) ha ht hs hE
noncomputable def tRaise (C : Addr) (E : XK) (t : TA) : TS := fun _ σ H => t σ H fun vs H1 => vs.length ≤ 1000 ∧ ∀ x tp, H1 x = none → H1 tp = none → x ≠ tp → E (.ref C) none (upd (upd H1 tp (.tup vs)) x (excO x C tp .none none))
theorem made_inv' {X : Cx} {C : Addr} {pins : List (Addr × Obj)} {σ : L2.St} {H : Hp} {s : Shared} {h' : Heap} {e : Addr} {us : List Value} {vs : List V} (I : Inv X pins σ H s) (r : Vals vs us) (hl : vs.length ≤ 1000) (hm : Heap.MadeExcOf s.heap h' e (.ref C) us) :
    ∃ tp, H e = none ∧ H tp = none ∧ e ≠ tp ∧ Inv X pins σ (upd (upd H tp (.tup vs)) e (excO e C tp .none none)) { s with heap := h' } := by
  obtain ⟨v, H', I', rv, x, tp, e1, e2, e3, rfl, e4⟩ := made_inv (Q := fun v H' => ∃ x tp, H x = none ∧ H tp = none ∧ x ≠ tp ∧ v = .ref x ∧ H' = upd (upd H tp (.tup vs)) x (excO x C tp .none none)) I r hl hm fun x tp a b c => ⟨x, tp, a, b, c, rfl, rfl⟩
  have : e = x := Value.ref.inj rv
  subst this e4
  exact ⟨tp, e1, e2, e3, I'⟩
theorem ps_raise {X : Cx} {C : Addr} {E : XK} {x : Str} {p cpos pos : Pos} {e : Expr} {es : List Expr} {t : TA} (hE : LeavesTo X E) (hcalm : X.calm = true) (hg : Gl X x) (hm : X.mg x = some (.ref C)) (hc : XCls X.K C) (ha : PA X (e :: es) t)
    (hdb : (x == ("__debug__" : Str)) = false := by decide) (he : starEach (e :: es) X.env = (false, eval e X.env) :: starEach es X.env := by rfl) (hpl : (backTo cpos (starEach (e :: es) X.env)).any (·.1) = false := by rfl) :
    L2.PS X (.Raise (some (.Call (.Name x p) (e :: es) [] cpos)) none pos) (tRaise C E t) := by
  intro pins s σ H D I h
  obtain ⟨bm, N, nm, qn, bs, hdct, sn, sub, ab, col, dd, k0, k1, k2, k3, k5, mN, hC, hN, hni, TL⟩ := exc_obj I.ok.mod.kin hc
  refine wpAny_Raise_call_subU (N := N) (bm := bm) (nm := nm) (q := qn) (bs := bs) (hdct := hdct) (sn := sn) (sub := sub) (ab := ab) (col := col) (dd := dd) (k0 := k0) (k1 := k1) (k2 := k2) (k3 := k3) (k5 := k5) (C := C) (mN := mN) PySem.F.excBase_ValueError (by decide) PySem.F.excBase_ValueError (TL.hasType (by decide)) (I.ok.hd hcalm) hpl hni
    (ld_glob I hg hm ⟨rfl, ?_⟩ hdb)
  rw [he]
  refine Calls.evalArgs_plain ?_
  have hpa := ha cpos pins s σ H _ I h
  rw [he] at hpa
  refine thn hpa fun us s1 ⟨vs, H1, I1, r, hl, q⟩ => ?_
  have lus : us.length ≤ 1000 := by rw [← r.length]; exact hl
  refine ⟨rfl, small4 lus, I1.bk _ _ hC, hN.keeps I1.bk, TL.keeps I1.bk, fun h' x hm => ?_⟩
  obtain ⟨tp, e1, e2, e3, I2⟩ := made_inv' I1 r hl hm
  exact hE pins σ _ _ x C tp .none none _ I2 (by rw [upd_same]) (.inl rfl) Sub.refl (q x tp e1 e2 e3)
end SF
namespace SF
open PySem PySem.Spec PyProof.Rows L2 PySem.W
structure RoomG (cm : Bool) (k : Nat) (A : Around) : Prop where
  hd : cm = true → A.handled = none
  dp : A.depth + 3 * k + 5 < recursionLimit
  un : A.units + 16 * k + 200 < cLine
section
variable {cm : Bool} {j k : Nat} {A : Around}
theorem roomG (r : Room k A) : RoomG cm k A := ⟨fun _ => r.hd, r.dp, r.un⟩
theorem RoomG.calm (r : RoomG true k A) : Room k A := ⟨r.hd rfl, r.dp, r.un⟩
theorem RoomG.deeper (r : RoomG cm (k + 1) A) (env : Env) : RoomG cm k (A.deeper env) :=
  ⟨r.hd, by have := r.dp; show A.depth + 1 + 3 * k + 5 < _; lia, by have := r.un; show A.units + 3 + 16 * k + 200 < _; lia⟩
theorem RoomG.mono (r : RoomG cm k A) (h : j ≤ k) : RoomG cm j A := ⟨r.hd, by have := r.dp; lia, by have := r.un; lia⟩
theorem RoomG.mark {v : Option Value} (r : RoomG cm k A) : RoomG false k (A.mark v) := ⟨nofun, r.dp, r.un⟩
theorem RoomG.depth (r : RoomG cm k A) : A.depth < recursionLimit := by have := r.dp; lia
end
section
variable {X : Cx} {pins : List (Addr × Obj)} {σ : L2.St} {H : Hp} {s : Shared}
noncomputable abbrev reC (X : Cx) (A : Around) (cm : Bool) (E : Value → Shared → Prop) : Cx := { X with A := A, calm := cm, xe := E }
theorem inv_re {A : Around} {cm : Bool} {E : Value → Shared → Prop} (I : Inv X pins σ H s) (hf : A.frames = some X.stack) (hh : cm = true → A.handled = none) : Inv (reC X A cm E) pins σ H s :=
  ⟨⟨I.ok.mod, I.ok.kind, I.ok.glob, I.ok.blt, I.ok.above, I.ok.inj, I.ok.has, I.ok.cab, hh, hf, I.ok.stk, I.ok.exf, I.ok.bs, I.ok.bsz, I.ok.noex, I.ok.exfs, I.ok.funs, I.ok.frf⟩, I.os, I.bare, I.base, I.loc, I.cell, I.free, I.freeC, I.pin, I.hok, I.len⟩
theorem inv_back {A : Around} {cm : Bool} {E : Value → Shared → Prop} (ok : X.Ok) (I : Inv (reC X A cm E) pins σ H s) : Inv X pins σ H s := ⟨ok, I.os, I.bare, I.base, I.loc, I.cell, I.free, I.freeC, I.pin, I.hok, I.len⟩
noncomputable abbrev inTry (X : Cx) (pins : List (Addr × Obj)) (E : XK) : Cx := { X with pn := X.pn ++ pins, xe := fun e s' => ∃ a C t tb d σ H1 H', e = .ref a ∧ Inv X pins σ H' s' ∧ H' a = some (excO a C t tb d) ∧ TbOk H' a tb ∧ Sub a H1 H' ∧ E (.ref C) d H1 }
theorem un_try {E : XK} {pins' : List (Addr × Obj)} (I : Inv (inTry X pins E) pins' σ H s) : Inv X pins σ H s :=
  ⟨⟨I.ok.mod, I.ok.kind, I.ok.glob, I.ok.blt, I.ok.above, I.ok.inj, I.ok.has, I.ok.cab, I.ok.hd, I.ok.frames, I.ok.stk, I.ok.exf, I.ok.bs, I.ok.bsz, I.ok.noex, I.ok.exfs, I.ok.funs, I.ok.frf⟩, I.os, I.bare, I.base, I.loc, I.cell, I.free, I.freeC,
    fun p hp => I.pin p (List.mem_append_left _ hp), I.hok, I.len⟩
theorem to_try {E : XK} (I : Inv X pins σ H s) : Inv (inTry X pins E) [] σ H s :=
  ⟨⟨I.ok.mod, I.ok.kind, I.ok.glob, I.ok.blt, I.ok.above, I.ok.inj, I.ok.has, I.ok.cab, I.ok.hd, I.ok.frames, I.ok.stk, I.ok.exf, I.ok.bs, I.ok.bsz, I.ok.noex, I.ok.exfs, I.ok.funs, I.ok.frf⟩, I.os, I.bare, I.base, I.loc, I.cell, I.free, I.freeC,
    fun p hp => I.pin p (by rcases List.mem_append.mp hp with z | z; exact z; cases z), I.hok, I.len⟩
theorem leaves_try {E : XK} : LeavesTo (inTry X pins E) E := fun _ σ H' _ a C t tb d H1 I ha ht hs hE => ⟨a, C, t, tb, d, σ, H1, H', rfl, un_try I, ha, ht, hs, hE⟩
noncomputable abbrev inSuite (X : Cx) (a : Addr) : Cx := reC X (X.A.mark (some (.ref a))) false fun _ _ => False
theorem in_suite {a : Addr} (I : Inv X pins σ H s) : Inv (inSuite X a) pins σ H s := inv_re I I.ok.frames nofun
theorem inv_gone {i : Nat} {n : Str} {h' : Heap} {v : Option Value} {m : Str → Option Value} {tk : Nat} (I : Inv X pins σ H s) (hN : X.N.Nodup) (hi : X.N[i]? = some n) (hl : X.env.kindOf n = some .local)
    (hm : ∀ (j : Nat) (x : Str) (v : V), X.N[j]? = some x → σ[j]? = some (some v) → Vis X.env.scope x → ∃ u, RelV v u ∧ Look X.env s.heap m x u)
    (hn : h'.Ns X.env.locals (fun x => if x = n then v else m x)) (hs : Heap.SameBut X.env.locals s.heap h') : Inv X pins (σ.set i none) H { s with heap := h', toks := tk } := by
  have hiσ : i < σ.length := by rw [I.len]; exact (List.getElem?_eq_some_iff.mp hi).1
  have old : ∀ b o, X.s₀.heap.get? b = some o → b ≠ X.env.locals := fun b o e => Nat.ne_of_lt (Nat.lt_of_lt_of_le (Heap.lt_size e) I.ok.above)
  refine ⟨I.ok, I.os, I.bare, ⟨fun b o e n hb hx => (hs.2 b (old b o e)).trans (I.base.keep b o e n hb hx), fun b o e n hb hx => ?_, I.base.free, fun b o e hx => ?_, I.base.tups, I.base.frzs, I.base.tbls⟩, ⟨_, hn, fun j y v' e1 e2 e3 => ?_⟩, fun y c e => ?_, I.free, I.freeC, fun p hp => ?_, fun b o e => ?_, by simpa using I.len⟩
  · obtain ⟨sl, e1⟩ := I.base.slot b o e n hb hx
    exact ⟨sl, (hs.2 b (old b o e)).trans e1⟩
  · obtain ⟨o', e1⟩ := I.base.there b o e hx
    exact ⟨o', (hs.2 b (old b o e)).trans e1⟩
  · by_cases hj : j = i
    · subst hj
      rw [List.getElem?_set_self hiσ] at e2
      cases e2
    · rw [List.getElem?_set_ne (Ne.symm hj)] at e2
      obtain ⟨u', r', q⟩ := hm j y v' e1 e2 e3
      refine ⟨u', r', ?_⟩
      rcases q with ⟨k, e⟩ | ⟨k, c, e, z⟩
      · have ne : y ≠ n := fun e => hj (nodup_ix hN e1 (e ▸ hi))
        exact .inl ⟨k, (show (if y = n then v else m y) = some u' from (if_neg ne).trans e)⟩
      · exact .inr ⟨k, c, e, z.sameBut hs (I.cne y c e)⟩
  · obtain ⟨w', z⟩ := I.cell y c e
    exact ⟨w', z.sameBut hs (I.cne y c e)⟩
  · obtain ⟨e, n, ne, nf, d⟩ := I.pin p hp
    exact ⟨(hs.2 p.1 ne).trans e, n, ne, nf, d⟩
  · refine (I.hok b o e).stay (fun c v hc q => (hs.2 c ?_).trans q) (fun _ q => q) fun _ _ q => q
    rintro rfl
    rcases hc with z | z
    · rw [← z, I.free] at e; cases e
    · rw [I.free] at z; cases z
theorem name_goes {M : Model} {A : Around} {E : Value → Shared → Prop} {i : Nat} {n : Str} {pos : Pos} {Q : Unit → Shared → Prop} (I : Inv X pins σ H s) (hN : X.N.Nodup) (hi : X.N[i]? = some n) (hl : X.env.kindOf n = some .local) (h : ∀ s', Inv X pins (σ.set i none) H s' → Q () s') :
    wpAny M A (do bindName X.env n .none; unbindBehindTheSuite X.env n pos) Q E s := by
  obtain ⟨m, hn, hm⟩ := id I.loc
  have hcls : (X.env.scope.kind == .class || (X.env.scope.kind == .module && X.env.locals != X.env.globals)) = false := by rw [I.ok.kind]; rfl
  exact wpAny_nameGoes_keeps hl hn hcls fun h' v hn' hs => h _ (inv_gone I hN hi hl hm hn' hs)
end
noncomputable def tTry (E : XK) (i : Nat) (tb ts : TS) : TS := fun D σ H => tb D σ H ∧ ∀ (σ' : L2.St) (H' : Hp) (a C t : Addr) (tb : Value) (d : Option Addr) (H1 : Hp), σ'.length = σ.length → H' a = some (excO a C t tb d) → Sub a H1 H' → E (.ref C) d H1 →
  ts { nx := fun σ2 H2 => D.nx (σ2.set i none) H2, rt := D.rt, bk := fun σ2 H2 => D.bk (σ2.set i none) H2, ct := fun σ2 H2 => D.ct (σ2.set i none) H2 } (σ'.set i (some (.ref a))) H'
theorem ps_try {X : Cx} {E : XK} {body suite : List Stmt} {b₀ : Stmt} {tb ts : TS} {c : Addr} {x n : Str} {i : Nat} {p hp pos : Pos} (hst : X.stack = X.env :: X.outer) (hfr : X.env.frame = some X.env.locals)
    (hb : ∀ pins, PSs (inTry X pins E) body tb) (hs : ∀ a, PSs (inSuite X a) (b₀ :: suite) ts) (hg : Gl X x) (hm : X.mg x = some (.ref c)) (hE : ∀ C d H, E (.ref C) d H → exmOne X.K (.ref C) (.ref c) = some true)
    (hN : X.N.Nodup) (hi : X.N[i]? = some n) (hl : X.env.kindOf n = some .local) (hdb : (x == ("__debug__" : Str)) = false := by decide) :
    L2.PS X (.Try body [.ExceptHandler (some (.Name x p)) (some n) (b₀ :: suite) hp] [] [] pos) (tTry E i tb ts) := by
  intro pins s σ H D I h
  refine wpAny_Try_except (wpAny_mono (hb pins [] s σ H D (to_try I) h.1) (fun f s1 q => ?_) fun e s1 q => ?_)
  · cases f with
    | next => obtain ⟨σ', H', J, q⟩ := q; exact wpAny_execs_nil ⟨σ', H', un_try J, q⟩
    | brk => obtain ⟨σ', H', J, q⟩ := q; exact ⟨σ', H', un_try J, q⟩
    | cont => obtain ⟨σ', H', J, q⟩ := q; exact ⟨σ', H', un_try J, q⟩
    | ret u => obtain ⟨v, σ', H', J, r, q⟩ := q; exact ⟨v, σ', H', un_try J, r, q⟩
  · obtain ⟨a, C, t, tbv, d, σ', H1, H', rfl, J, ha, ht, hsub, hEa⟩ := q
    refine note_inv hst hfr J ha ht fun s2 T hTn hne J2 => ?_
    have ha2 : upd (upd H' a (excO a C t (.ref T) d)) T (tbO T (rawInt X.env.locals)) a = some (excO a C t (.ref T) d) := by rw [upd_ne (Ne.symm hne), upd_same]
    refine land_inv (T := T) (fl := rawInt X.env.locals) (C := C) (t := t) (d := d) J2 ha2 (by rw [upd_same]) fun s3 J3 => ?_
    rw [upd_upd] at J3
    have ha3 : upd (upd H' a (excO a C t (.ref T) d)) T (tbO T .none) a = some (excO a C t (.ref T) d) := by rw [upd_ne (Ne.symm hne), upd_same]
    have hT3 : upd (upd H' a (excO a C t (.ref T) d)) T (tbO T .none) T = some (tbO T .none) := by rw [upd_same]
    have hs3 : Sub a H1 (upd (upd H' a (excO a C t (.ref T) d)) T (tbO T .none)) := hsub.trans fun b o n e => by
      rw [upd_ne (fun z => by subst z; rw [hTn] at e; cases e), upd_ne n]; exact e
    generalize upd (upd H' a (excO a C t (.ref T) d)) T (tbO T .none) = H3 at J3 ha3 hT3 hs3
    have K3 : Inv (inSuite X a) pins σ' H3 s3 := in_suite J3
    refine wpAny_handleBy_cons (codeAny_handlers_test ?_) (by intro q; cases q)
    refine ld_glob (X := inSuite X a) K3 hg hm ?_ hdb
    obtain ⟨o, vs, e, hc, hd, hf, h6, h0, h1⟩ := exc_get J3.hok ha3
    have LT : Looks (model X.prog X.w) s3.heap (typeOf (.ref a)) (.ref C) := fun A' Q' E' s' k q => by
      unfold typeOf
      dsimp only
      exact wpAny_bind (wpAny_loadPart (k _ _ e) (wpAny_pure (by rw [hc]; exact q)))
    refine (exm_one J3.kIn LT (hE _ _ _ hEa)).here ?_
    refine codeAny_handlers_suite_as (land_inv (X := inSuite X a) (T := T) (fl := .none) (C := C) (t := t) (d := d) K3 ha3 hT3 fun s4 K4 => ?_)
    have e4 : upd H3 T (tbO T .none) = H3 := by
      funext b; unfold upd; by_cases z : b = T
      · rw [if_pos z, z, hT3]
      · rw [if_neg z]
    rw [e4] at K4
    refine store_ok (X := inSuite X a) (v := .ref a) K4 hN hi (.inl hl) rfl (fun s5 K5 => ?_) (.inr hl)
    have hlen : σ'.length = σ.length := by rw [J.len, I.len]
    refine wpAny_mono (hs a pins s5 _ H3 _ K5 (h.2 σ' H3 a C t (.ref T) d H1 hlen ha3 hs3 hEa)) (fun f s6 q => ?_) fun _ _ z => z.elim
    cases f with
    | next => obtain ⟨σ6, H6, K6, q⟩ := q; exact name_goes (inv_back J.ok K6) hN hi hl fun s7 K7 => ⟨_, H6, K7, q⟩
    | brk => obtain ⟨σ6, H6, K6, q⟩ := q; exact name_goes (inv_back J.ok K6) hN hi hl fun s7 K7 => ⟨_, H6, K7, q⟩
    | cont => obtain ⟨σ6, H6, K6, q⟩ := q; exact name_goes (inv_back J.ok K6) hN hi hl fun s7 K7 => ⟨_, H6, K7, q⟩
    | ret u => obtain ⟨v, σ6, H6, K6, r, q⟩ := q; exact name_goes (inv_back J.ok K6) hN hi hl fun s7 K7 => ⟨v, _, H6, K7, r, q⟩
structure FnG (P : Program) (w : World) (K : Frag) (mg : Str → Option Value) (base : Heap) (CX : CXT) (cm : Bool) (k : Nat) (f : Addr) (fd : FuncData) (ps : List Str) (sp : Shared → Sp) : Prop where
  len : ∀ s vs H Q E, sp s vs H Q E → vs.length = ps.length
  run : ∀ (A : Around) (outer : List Env) (s : Shared) (H : Hp) (args : Args) (us : List Value) (vs : List V) (Q : VK) (E : XK), RoomG cm k A → Env0 P w K mg base A outer s H → BindsTo s fd args (ps.zip us) → Vals vs us → sp s vs H Q E →
    codeAny (model P w) A (.call (.ref f) args) (CR CX outer P w H s Q E) s
noncomputable abbrev cxG (CX : CXT) (cm : Bool) (P : Program) (w : World) (K : Frag) (mg : Str → Option Value) (base : Heap) (N : List Str) (qual : Str) (scope : Scope) (f : Addr) (cd : Value) (A : Around) (outer : List Env) (s : Shared) (H : Hp) (E : XK) : Cx :=
  { cxOf CX P w K mg base N qual scope f cd A outer s H E with calm := cm }
section
variable {P : Program} {w : World} {K : Frag} {mg : Str → Option Value} {base : Heap} {CX : CXT} {cm : Bool} {k : Nat}
theorem FnG.ok {f : Addr} {fd : FuncData} {ps : List Str} {sp : Sp} (F : FnG P w K mg base CX cm k f fd ps fun _ => sp) (len : ∀ vs H Q E, sp vs H Q E → vs.length = ps.length) : FnOk P w K mg base CX k f fd ps sp :=
  ⟨len, fun A outer s H args us vs Q E hr => F.run A outer s H args us vs Q E (roomG hr)⟩
theorem inv_startG {N ps : List Str} {qual : Str} {scope : Scope} {f : Addr} {cd : Value} {A : Around} {outer : List Env} {s s1 : Shared} {H : Hp} {E : XK} {us : List Value} {vs : List V}
    (S : FnScope N ps scope) (hd : cm = true → A.handled = none) (e0 : Env0 P w K mg base A outer s H) (hl : vs.length = ps.length) (r : Vals vs us)
    (x : InCallC s s.heap.objs.size (bindL (envOfC qual scope s.heap.objs.size f cd).kindOf (ps.zip us) fun _ => none) (cellsFrom (s.heap.objs.size + 1) scope.names []) (bindC (envOfC qual scope s.heap.objs.size f cd).kindOf (ps.zip us) fun _ => none) s1) :
    Inv (cxG CX cm P w K mg base N qual scope f cd A outer s H E) [] (start N vs) H s1 := by
  have e1 : Env0 P w K mg base { A with handled := none } outer s H := ⟨e0.frames, e0.mod, e0.bs, e0.bsz, e0.funs, e0.frf, e0.hok, e0.bare⟩
  have I := inv_start (CX := CX) (E := E) S (A := { A with handled := none }) rfl e1 hl r x
  exact inv_re (X := cxOf CX P w K mg base N qual scope f cd { A with handled := none } outer s H E) (A := A.deeper (envOfC qual scope s.heap.objs.size f cd)) (cm := cm) (E := (cxOf CX P w K mg base N qual scope f cd A outer s H E).xe) I (Around.frames_deeper e0.frames) hd
theorem _root_.L2.Fun.okG {x qual : Str} {st : Stmt} {f : Addr} {fd : FuncData} {N ps : List Str} {sp : Shared → Sp} (F : Fun K x qual st f fd) (S : FnScope N ps (defScope st)) (len : ∀ s vs H Q E, sp s vs H Q E → vs.length = ps.length)
    (hbody : ∀ (cdv : Value) (A : Around) (outer : List Env) (s : Shared) (H : Hp) (vs : List V) (Q : VK) (E : XK), codeIn K cdv qual = true → fd.code = cdv → RoomG cm k (A.deeper (envOfC qual (defScope st) s.heap.objs.size f cdv)) → sp s vs H Q E →
      ∃ t, PSs (cxG CX cm P w K mg base N qual (defScope st) f cdv A outer s H E) (defBody st) t ∧ t { nx := fun _ H' => Q .non H', rt := Q } (start N vs) H) : FnG P w K mg base CX cm (k + 1) f fd ps sp := by
  obtain ⟨oc, od, kV, doc, pm, an, cdv, ct, osl, rfl, lk, hcd⟩ := F.ex
  refine ⟨len, fun A outer s H args us vs Q E hr e0 hb r hsp => ?_⟩
  have KX : K.In s.heap := e0.mod.kin.keeps fun b o e => (e0.bs b o e).1
  have lim : s.heap.NoLimit := e0.mod.nolimit.keeps fun b o e => (e0.bs b o e).1
  refine codeAny_call_function hr.depth (KX _ _ lk) rfl S.co S.gen rfl (codeRec_of KX hcd) (hb _ _ _ _ ?_)
  refine wpAny_newFunctionEnv_cells S.kind (fun ⟨n, v⟩ hy => ?_) fun env he s1 x => ?_
  · rcases S.par n (List.of_mem_zip hy).1 with q | q
    · exact .inl q
    · exact .inr ⟨q, cellsFrom_some _ _ _ (.inl q)⟩
  · subst he
    refine ⟨lim.keeps x.toInCall.keep, codeAny_func ?_⟩
    obtain ⟨t, ht, hq⟩ := hbody cdv A outer s H vs Q E hcd rfl (hr.deeper _) hsp
    have I : Inv (cxG CX cm P w K mg base N qual (defScope st) f cdv A outer s H E) [] (start N vs) H s1 := inv_startG S hr.hd e0 (len _ _ _ _ _ hsp) r x
    refine wpAny_mono (ht [] s1 _ H _ I hq) (fun fl s' hs => ?_) fun e s' hs => hs
    cases fl with
    | ret u => obtain ⟨v, σ', H', J, rv, q⟩ := hs; exact ⟨v, H', J.os, J.bare, J.base, J.hok, rv, q⟩
    | next => obtain ⟨σ', H', J, q⟩ := hs; exact ⟨.non, H', J.os, J.bare, J.base, J.hok, rfl, q⟩
    | brk => obtain ⟨_, _, _, q⟩ := hs; exact q.elim
    | cont => obtain ⟨_, _, _, q⟩ := hs; exact q.elim
end
structure FnGB (P : Program) (w : World) (K : Frag) (mg : Str → Option Value) (base : Heap) (CX : CXT) (cm : Bool) (k : Nat) (x : Str) (ps : List Str) (sp : Shared → Sp) : Prop where
  ex : ∃ f fd, FnG P w K mg base CX cm k f fd ps sp ∧ mg x = some (.ref f) ∧ keepIn K (.ref f) = true ∧ Binds K fd ps []
theorem FnGB.ok {P : Program} {w : World} {K : Frag} {mg : Str → Option Value} {base : Heap} {cm : Bool} {k : Nat} {x : Str} {ps : List Str} {sp : Sp} (F : FnGB P w K mg base CX0 cm k x ps fun _ => sp) (len : ∀ vs H Q E, sp vs H Q E → vs.length = ps.length) : FnB P w K mg base k x ps sp :=
  let ⟨f, fd, a, b, c, d⟩ := F.ex
  ⟨f, fd, a.ok len, b, c, d⟩
theorem _root_.L2.DefB.okG {P : Program} {w : World} {K : Frag} {mg : Str → Option Value} {base : Heap} {CX : CXT} {cm : Bool} {k : Nat} {x : Str} {st : Stmt} {N ps : List Str} {sp : Shared → Sp} (D : DefB K mg x st ps) (S : FnScope N ps (defScope st)) (len : ∀ s vs H Q E, sp s vs H Q E → vs.length = ps.length)
    (hbody : ∀ (f : Addr) (cdv : Value) (A : Around) (outer : List Env) (s : Shared) (H : Hp) (vs : List V) (Q : VK) (E : XK), codeIn K cdv x = true → RoomG cm k (A.deeper (envOfC x (defScope st) s.heap.objs.size f cdv)) → sp s vs H Q E →
      ∃ t, PSs (cxG CX cm P w K mg base N x (defScope st) f cdv A outer s H E) (defBody st) t ∧ t { nx := fun _ H' => Q .non H', rt := Q } (start N vs) H) : FnGB P w K mg base CX cm (k + 1) x ps sp :=
  let ⟨f, fd, a, b, c⟩ := D.ex
  ⟨f, fd, a.okG S len fun cdv A outer s H vs Q E hc _ => hbody f cdv A outer s H vs Q E hc, b, a.kp, c⟩
theorem leaves_cxG {cm : Bool} {P : Program} {w : World} {K : Frag} {mg : Str → Option Value} {base : Heap} {N : List Str} {qual : Str} {scope : Scope} {f : Addr} {cd : Value} {A : Around} {outer : List Env} {s : Shared} {H : Hp} {E : XK} :
    LeavesTo (cxG (CXF P w) cm P w K mg base N qual scope f cd A outer s H E) E := fun pins σ H' s' a C t tb d H1 I ha ht hs hE => by
  show wpAny _ _ (leaving _ _) _ _ _
  exact leave_inv (X := cxG (CXF P w) cm P w K mg base N qual scope f cd A outer s H E) rfl rfl I ha ht fun s2 H2 T J ha2 ht2 hs2 =>
    ⟨a, C, t, _, d, H1, H2, rfl, J.os, J.bare, J.base, J.hok, ha2, ht2, hs.trans hs2, hE⟩
section
variable {X : Cx} {CX : CXT} {cm : Bool} {k : Nat} {f : Addr} {fd : FuncData} {ps : List Str} {E : XK} {x : Str} {p pos : Pos} {e : Expr} {es : List Expr} {t : TA}
theorem run_fnG {sp : Shared → Sp} {pins : List (Addr × Obj)} {σ : L2.St} {H : Hp} {s : Shared} {Q : VK} {us : List Value} {vs : List V} (F : FnG X.prog X.w X.K X.mg X.base CX cm k f fd ps sp) (hr : RoomG cm k X.A) (hb : Binds X.K fd ps []) (hx : Passes CX X E)
    (I : Inv X pins σ H s) (r : Vals vs us) (h : sp s vs H Q E) : wpAny (model X.prog X.w) X.A (call (.ref f) us) (EP X pins σ Q) X.xe s := by
  have hl : us.length = ps.length := by rw [← r.length]; exact F.len _ _ _ _ _ h
  have hbb : BindsTo s fd ⟨us, []⟩ (ps.zip us) := by
    have := hb s us I.kIn (by rw [List.append_nil]; exact hl)
    rw [List.append_nil] at this
    exact this
  refine wpAny_call (codeAny_mono (F.run X.A X.stack s H ⟨us, []⟩ us vs Q E hr I.env0 hbb r h) fun r s' hq => ?_)
  cases r with
  | error e => exact hx pins σ H s e s' I hq
  | ok fl =>
    cases fl with
    | ret u => exact I.after hq
    | next => exact False.elim hq
    | brk => exact False.elim hq
    | cont => exact False.elim hq
theorem pe_fnG {sp : Sp} (F : FnGB X.prog X.w X.K X.mg X.base CX cm k x ps fun _ => sp) (hr : RoomG cm k X.A) (hx : Passes CX X E) (ha : PA X (e :: es) t)
    (hg : Gl X x := by rfl) (hdb : (x == ("__debug__" : Str)) = false := by decide) (he : starEach (e :: es) X.env = (false, eval e X.env) :: starEach es X.env := by rfl)
    (hpl : (backTo pos (starEach es X.env)).any (·.1) = false := by rfl) : PE X (.Call (.Name x p) (e :: es) [] pos) (tCall sp [] E t) := by
  obtain ⟨f, fd, a, b, c, d⟩ := F.ex
  intro pins s σ H Q I h
  refine wpAny_Call_Name_kw (ld_glob I hg b ?_ hdb)
  refine callWith_K (h₀ := X.base) I.ok.mod.kin c (thn (ha pos pins s σ H _ I h) fun us s1 ⟨vs, H1, I1, r, q⟩ => ⟨I1.kIn, ?_⟩) he hpl
  have q' : sp (vs ++ []) H1 Q E := q
  rw [List.append_nil] at q'
  exact run_fnG a hr d hx I1 r q'
end
end SF
namespace SF
open PySem PySem.Spec PyProof.Rows L2 PySem.W
noncomputable def lamO (f : Addr) (name qual : Str) (params : Arguments) (body : Expr) (scope : Scope) (cl : List (Str × Addr)) (c' : Addr) : HO := .ext fun h => ∃ pm ctv, h.get? f = some (kla_obj name qual params body scope cl pm c' ctv)
noncomputable def cdO (c' : Addr) (q : Str) : HO := .ext fun h => ∃ o vs t, h.get? c' = some o ∧ o.data = .fields vs ∧ vs[1]? = some (.str q t)
noncomputable def BMain (base : Heap) (mg : Str → Option Value) : Prop := ∃ bm ob, mg "__builtins__" = some (.ref bm) ∧ bm ≠ builtinsNs ∧ bm ≠ mainGlobals ∧ base.get? bm = some ob ∧ ob.cls = .type "module" ∧ ob.dict = some builtinsNs ∧ ob.data = .plain
noncomputable def tLam (P : Addr) (pos : Pos) (qual : Str) (params : Arguments) (body : Expr) (scope : Scope) (cl : List (Str × Addr)) : TE := fun _ H Q => ∃ ps, H P = some (.tbl ps) ∧ TriplesOk ps.toList ∧ codeAmong pos ps.toList = none ∧
  ∀ f c', H f = none → H c' = none → f ≠ c' → Q (.ref f) (upd (upd (upd H P (.tbl (ps ++ #[rawInt pos.line, rawInt pos.col, .ref c']))) c' (cdO c' qual)) f (lamO f "<lambda>" qual params body scope cl c'))
theorem pe_lam {X : Cx} {params : Arguments} {body : Expr} {scope : Scope} {pos : Pos} {c P : Addr} {cl : List (Str × Addr)} (hcode : X.env.code = .ref c) (C : CodeHd X.base c P) (hcl : closureFor scope X.env = pure cl) (hdef : defaultsOf params X.env = ([], [])) (B : BMain X.base X.mg) :
    PE X (.Lambda params body scope pos) (tLam P pos (X.env.qual ++ "<lambda>") params body scope cl) := by
  intro pins s σ H Q I h
  obtain ⟨ps, hP, ht, hn, q⟩ := h
  have hPs : s.heap.get? P = some (tabObj ps) := I.hok P _ hP
  have hg := I.mod.glob.keeps I.bk
  have neP : ∀ b o, X.base.get? b = some o → b ≠ P := fun b o e z => by subst z; have := (I.bs b o e).2; rw [hP] at this; cases this
  have hgP : mainGlobals ≠ P := by obtain ⟨o, _, _, e, _⟩ := I.mod.glob; exact neP _ o e
  obtain ⟨bm, ob, b1, b2, b3, b4, b5, b6, b7⟩ := B
  refine kla_eval hdef (kla_makeFunction (mg := X.mg) hcl I.ok.glob hg hcode (C.keeps I.bk) hPs ht hn hgP ⟨bm, ob, b1, b2, b3, neP _ _ b4, I.bk _ _ b4, b5, b6, b7⟩ fun c' ctv h' tk hx hge hlt hrec htb => ?_)
  obtain ⟨c2, oc, vs, t2, e2, hoc, hd, hv⟩ := hrec
  cases e2
  have hsz : s.heap.objs.size ≤ h'.objs.size := Nat.le_of_lt (Nat.lt_of_le_of_lt hge hlt)
  have hc'n : H c' = none := I.hok.fresh hge
  have hfn : H h'.objs.size = none := I.hok.fresh hsz
  have hfc : h'.objs.size ≠ c' := Nat.ne_of_gt hlt
  have old : ∀ b o, s.heap.get? b = some o → b ≠ c' ∧ b ≠ h'.objs.size := fun b o e => ⟨Nat.ne_of_lt (Nat.lt_of_lt_of_le (Heap.lt_size e) hge), Nat.ne_of_lt (Nat.lt_of_lt_of_le (Heap.lt_size e) hsz)⟩
  have nP : ∀ b u, H b = some u → (∀ z, u ≠ .tbl z) → b ≠ P := fun b u e n z => by subst z; rw [hP] at e; cases e; exact n _ rfl
  have nP0 : ∀ b, H b = none → b ≠ P := fun b e z => by subst z; rw [hP] at e; cases e
  have trk : ∀ b u, H b = some u → b ≠ c' ∧ b ≠ h'.objs.size := fun b u e => ⟨fun z => (by rw [z, hc'n] at e; cases e), fun z => (by rw [z, hfn] at e; cases e)⟩
  have hPc : P ≠ c' := (trk P _ hP).1
  have hPf : P ≠ h'.objs.size := (trk P _ hP).2
  generalize hob : kla_obj "<lambda>" (X.env.qual ++ "<lambda>") params body scope cl ((X.mg "__name__").getD .none) c' ctv = obj
  have keep : ∀ b o, b ≠ P → s.heap.get? b = some o → (h'.push obj).get? b = some o := fun b o n e => Heap.get?_push_of_some _ (hx b o n e)
  have hfo : (h'.push obj).get? h'.objs.size = some obj := Heap.get?_push_size _ (by subst hob; rfl)
  refine ⟨.ref h'.objs.size, _, I.un (t' := tk) (H' := upd (upd (upd H P (.tbl (ps ++ #[rawInt pos.line, rawInt pos.col, .ref c']))) c' (cdO c' (X.env.qual ++ "<lambda>"))) h'.objs.size (lamO h'.objs.size "<lambda>" (X.env.qual ++ "<lambda>") params body scope cl c')) ⟨fun b o e n _ _ => keep b o (nP0 b n) e, fun b o e n _ _ => ⟨o.slots, keep b o (nP0 b n) e⟩, fun b o e n _ => ?_, fun b o e _ => ?_, fun b xs e => ?_, fun b u xs e => ?_, fun b pz e => ?_⟩ fun b u e => ?_, rfl, q _ c' hfn hc'n hfc⟩
  · rw [upd_ne (old b o e).2, upd_ne (old b o e).1, upd_ne (nP0 b n)]; exact n
  · by_cases z : b = P
    · subst z; exact ⟨_, Heap.get?_push_of_some _ htb⟩
    · exact ⟨o, keep b o z e⟩
  · rw [upd_ne (trk b _ e).2, upd_ne (trk b _ e).1, upd_ne (nP b _ e nofun)]; exact e
  · rw [upd_ne (trk b _ e).2, upd_ne (trk b _ e).1, upd_ne (nP b _ e nofun)]; exact e
  · rw [upd_ne (trk b _ e).2, upd_ne (trk b _ e).1]
    by_cases z : b = P
    · subst z; rw [hP] at e; cases e; exact ⟨_, upd_same⟩
    · exact ⟨#[], by rw [upd_ne z, e]; simp⟩
  · by_cases hbf : b = h'.objs.size
    · subst hbf; rw [upd_same] at e; cases e
      subst hob
      exact ⟨⟨_, _, hfo⟩, ⟨_, hfo⟩, fun _ _ ⟨pm, ctv, e⟩ k => ⟨pm, ctv, k _ e⟩⟩
    · rw [upd_ne hbf] at e
      by_cases hbc : b = c'
      · subst hbc; rw [upd_same] at e; cases e
        have := Heap.get?_push_of_some obj hoc
        exact ⟨⟨oc, vs, t2, this, hd, hv⟩, ⟨_, this⟩, fun _ _ ⟨o, vs, t, e, r⟩ k => ⟨o, vs, t, k _ e, r⟩⟩
      · rw [upd_ne hbc] at e
        by_cases hbP : b = P
        · subst hbP; rw [upd_same] at e; cases e
          exact Heap.get?_push_of_some obj htb
        · rw [upd_ne hbP] at e
          refine (I.hok b u e).stay (fun c v hc e => keep c v ?_ e) (fun c r => ?_) fun c xs r => ?_
          · rcases hc with rfl | hc
            · exact hbP
            · exact nP c _ hc nofun
          · rw [upd_ne (trk c _ r).2, upd_ne (trk c _ r).1, upd_ne (nP c _ r nofun)]; exact r
          · rw [upd_ne (trk c _ r).2, upd_ne (trk c _ r).1, upd_ne (nP c _ r nofun)]; exact r
structure LamScope (N ps : List Str) (sc : Scope) : Prop where
  kind : sc.kind = .function
  co : sc.isCoroutine = false
  gen : sc.isGenerator = false
  par : ∀ x ∈ ps, sc.names.lookup x = some .local
  nocell : ∀ y ∈ sc.names, y.2 ≠ .cell
noncomputable def cxL (CX : CXT) (cm : Bool) (P : Program) (w : World) (K : Frag) (mg : Str → Option Value) (base : Heap) (N : List Str) (qual : Str) (scope : Scope) (f : Addr) (cd : Value) (cl : List (Str × Addr)) (A : Around) (outer : List Env) (s : Shared) (H : Hp) (E : XK) : Cx where
  prog := P
  w := w
  K := K
  mg := mg
  base := base
  A := A.deeper (envX qual scope s.heap.objs.size f cd cl)
  N := N
  s₀ := s
  H₀ := H
  env := envX qual scope s.heap.objs.size f cd cl
  outer := outer
  stack := envX qual scope s.heap.objs.size f cd cl :: outer
  ex := []
  calm := cm
  fn := fun _ => false
  pn := []
  xe := fun e s' => wpAny (model P w) (A.deeper (envX qual scope s.heap.objs.size f cd cl)) (leaving (envX qual scope s.heap.objs.size f cd cl) e) (fun _ s'' => CX outer H s E e s'') (fun e' s'' => CX outer H s E e' s'') s'
section
variable {P : Program} {w : World} {K : Frag} {mg : Str → Option Value} {base : Heap} {CX : CXT} {cm : Bool} {k : Nat} {N ps : List Str} {name qual : Str} {params : Arguments} {body : Expr} {scope : Scope} {f c' : Addr} {cl : List (Str × Addr)} {A : Around} {outer : List Env} {s : Shared} {H : Hp} {E : XK} {Q : VK} {pm ctv : Value}
theorem leaves_cxL {cd : Value} : LeavesTo (cxL (CXF P w) cm P w K mg base N qual scope f cd cl A outer s H E) E := fun pins σ H' s' a C t tb d H1 I ha ht hs hE => by
  show wpAny _ _ (leaving _ _) _ _ _
  exact leave_inv (X := cxL (CXF P w) cm P w K mg base N qual scope f cd cl A outer s H E) rfl rfl I ha ht fun s2 H2 T J ha2 ht2 hs2 =>
    ⟨a, C, t, _, d, H1, H2, rfl, J.os, J.bare, J.base, J.hok, ha2, ht2, hs.trans hs2, hE⟩
theorem lam_run {args : Args} {us : List Value} (S : LamScope N ps scope) (ho : s.heap.get? f = some (kla_obj name qual params body scope cl pm c' ctv)) (hcd : s.heap.CodeRec (.ref c') qual) (e0 : Env0 P w K mg base A outer s H) (hr : RoomG cm (k + 1) A)
    (hbind : bindArgs (kla_fn name qual params body scope cl pm (.ref c') ctv) args = pure (ps.zip us))
    (hcl : ∀ x c, cl.lookup x = some c → (∃ v, s.heap.IsCell c v) ∧ H c = none) (hinj : ∀ x y c, cl.lookup x = some c → cl.lookup y = some c → x = y) (hhas : ∀ x, scope.names.lookup x = some .free → ∃ c, cl.lookup x = some c)
    {σ : L2.St} (hσ : σ.length = N.length)
    (hv : ∀ (i : Nat) (x : Str) (v : V), N[i]? = some x → σ[i]? = some (some v) → (scope.names.lookup x = some .local ∧ ∃ u, RelV v u ∧ (ps.zip us).reverse.lookup x = some u) ∨ (scope.names.lookup x = some .free ∧ ∃ c u, cl.lookup x = some c ∧ s.heap.IsCell c (some u) ∧ RelV v u))
    (hbody : RoomG cm k (A.deeper (envX qual scope s.heap.objs.size f (.ref c') cl)) → ∃ t, PE (cxL CX cm P w K mg base N qual scope f (.ref c') cl A outer s H E) body t ∧ t σ H Q) :
    codeAny (model P w) A (.call (.ref f) args) (CR CX outer P w H s Q E) s := by
  have lim : s.heap.NoLimit := e0.mod.nolimit.keeps fun b o e => (e0.bs b o e).1
  refine kla_callFunE hr.depth ho rfl S.co S.gen rfl hcd ?_
  rw [hbind]
  refine wpAny_pure (wpAny_newFunctionEnv S.nocell (fun x hx => S.par _ (List.of_mem_zip (show (x.1, x.2) ∈ ps.zip us from hx)).1) (fun h₁ hns hsb => ⟨lim.fresh _ hsb, ?_⟩) S.kind)
  show codeAny _ _ (.expr body (envX qual scope s.heap.objs.size f (.ref c') cl)) _ _
  have hk₁ : ∀ b o, s.heap.get? b = some o → h₁.get? b = some o := fun b o e => hsb.extBut b o (Nat.ne_of_lt (Heap.lt_size e)) (Heap.get?_push_of_some _ e)
  obtain ⟨t, ht, hq⟩ := hbody (hr.deeper _)
  have cK : ∀ c v, s.heap.IsCell c v → h₁.IsCell c v := fun c v ⟨o, e, d⟩ => ⟨o, hk₁ _ _ e, d⟩
  have I : Inv (cxL CX cm P w K mg base N qual scope f (.ref c') cl A outer s H E) [] σ H { s with heap := h₁, toks := s.toks + (ps.zip us).length } := by
    have noA : ∀ b : Addr, b ∉ (cxL CX cm P w K mg base N qual scope f (.ref c') cl A outer s H E).ex := fun b z => absurd (show b ∈ ([] : List Addr) from z) (by simp)
    refine ⟨⟨e0.mod, S.kind, rfl, rfl, Nat.le_refl _, hinj, fun y hy => ?_, fun y c z => Bool.noConfusion (show false = true from z), hr.hd, Around.frames_deeper e0.frames, .inr ⟨rfl, rfl⟩, fun b z => absurd z (noA b), e0.bs, e0.bsz, fun b _ _ => noA b, fun b z => absurd z (noA b), e0.funs, e0.frf⟩,
      rfl, e0.bare, Un.kept hk₁, ⟨_, hns, fun i x v h1 h2 h3 => ?_⟩, fun y c e => ?_, e0.hok.fresh (Nat.le_refl _), fun y c e => (hcl y c e).2, fun p hp => absurd (show p ∈ ([] : List (Addr × Obj)) from hp) (by simp), e0.hok.kept hk₁, hσ⟩
    · have hy : scope.names.lookup y = some .cell ∨ scope.names.lookup y = some .free := hy
      rcases hy with hy | hy
      · exact absurd rfl (S.nocell _ (PySem.mem_of_lookup hy))
      · exact hhas y hy
    · rcases hv i x v h1 h2 with ⟨k, u, r, e⟩ | ⟨k, c, u, e, z, r⟩
      · exact ⟨u, r, .inl ⟨k, e⟩⟩
      · exact ⟨u, r, .inr ⟨.inr k, c, e, cK _ _ z⟩⟩
    · obtain ⟨v, z⟩ := (hcl y c e).1
      exact ⟨v, cK _ _ z⟩
  refine kla_codeExpr (wpAny_mono (ht [] _ σ H Q I hq) (fun u s' ⟨v, H', J, rv, q⟩ => ⟨v, H', J.os, J.bare, J.base, J.hok, rv, q⟩) fun e s' hs => hs)
end
noncomputable def tRun (i : Nat) (R : Addr → Hp → VK → Prop) : TE := fun σ H Q => ∃ f, σ[i]? = some (some (.ref f)) ∧ R f H Q
theorem pe_run {X : Cx} {CX : CXT} {E : XK} {i : Nat} {x : Str} {p pos : Pos} {R : Addr → Hp → VK → Prop} (hN : X.N[i]? = some x) (hv : Vis X.env.scope x) (hx : Passes CX X E)
    (hR : ∀ pins σ H s f Q, Inv X pins σ H s → R f H Q → FnAt f s.heap ∧ codeAny (model X.prog X.w) X.A (.call (.ref f) ⟨[], []⟩) (CR CX X.stack X.prog X.w H s Q E) s)
    (hd : (x == ("__debug__" : Str)) = false := by decide) (hcd : (x == ("__classdict__" : Str)) = false := by decide) : PE X (.Call (.Name x p) [] [] pos) (tRun i R) := by
  intro pins s σ H Q I ⟨f, e, h⟩
  refine wpAny_Call_Name_kw (thn (pe_var (X := X) (pos := p) hN hv hd hcd pins s σ H (fun v H1 => v = .ref f ∧ H1 = H) I ⟨_, e, rfl, rfl⟩) fun u s1 ⟨v, H1, I1, r, ev, eh⟩ => ?_)
  subst ev eh
  cases r
  obtain ⟨a, b⟩ := hR pins σ _ s1 f Q I1 h
  refine callWith_F0 a (wpAny_call (codeAny_mono b fun r s' hq => ?_))
  cases r with
  | error e => exact hx pins σ _ s1 e s' I1 hq
  | ok fl =>
    cases fl with
    | ret u => exact I1.after hq
    | next => exact False.elim hq
    | brk => exact False.elim hq
    | cont => exact False.elim hq
end SF
namespace SF
open PySem PySem.Spec PyProof.Rows L2 PySem.W
noncomputable def DctOk (H : Hp) (d : Option Addr) : Prop := d = none ∨ ∃ dx fs, d = some dx ∧ H dx = some (.xd fs)
theorem DctOk.same {H H' : Hp} {d : Option Addr} (h : DctOk H d) (s : Same H H') : DctOk H' d := by
  rcases h with rfl | ⟨dx, fs, rfl, e⟩
  · exact .inl rfl
  · exact .inr ⟨dx, fs, rfl, s _ _ e⟩
noncomputable def cvOf : V → Value
  | .ref a => .ref a
  | .ty n => .type n
  | _ => .none
theorem inst_exc {P : Program} {w : World} {H : Hp} {h : Heap} {a C t : Addr} {tb : Value} {d : Option Addr} (x : HOk P w H h) (ha : H a = some (excO a C t tb d)) (hd : DctOk H d) : ∃ ox od vs, InstAt h a ox C od ∧ ox.dict = d ∧ ox.data = .fields vs ∧ vs[0]? = some (.ref t) := by
  obtain ⟨o, vs, e, hc, hd', hf, h6, h0, h1⟩ := exc_get x ha
  have no : notCls o = true := by
    obtain ⟨cc, dd, dt, sl⟩ := o
    simp only at hf
    subst hf
    rfl
  rcases hd with rfl | ⟨dx, fs, rfl, hx⟩
  · exact ⟨o, none, vs, ⟨e, hc, no, by rw [hd']; trivial⟩, hd', hf, h0⟩
  · obtain ⟨mA, ⟨od, es, ep, e2, r⟩, _⟩ := (show ObjOk P w H h dx (.xd fs) from x dx _ hx)
    exact ⟨o, some od, vs, ⟨e, hc, no, by rw [hd']; exact e2⟩, hd', hf, h0⟩
section
variable {X : Cx}
noncomputable def rIsX (K : Frag) : List V → Hp → VK → Prop := fun xs H Q => ∃ a C t tb d c b, xs = [.ref a, c] ∧ H a = some (excO a C t tb d) ∧ DctOk H d ∧ XAsk K C ∧ cvOf c ≠ .none ∧ kitOne K (.ref C) (cvOf c) = some b ∧ Q (.bl b) H
theorem call_isx : CallR X (.builtin "isinstance") (rIsX X.K) := by
  intro pins s σ H xs us Q I r h
  obtain ⟨a, C, t, tb, d, c, b, rfl, ha, hd, F, hc, e, q⟩ := h
  obtain ⟨u, v, rfl, ru, rv⟩ := Vals.two r
  cases ru
  have ev : v = cvOf c := by
    cases c <;> first | exact rv | exact absurd rfl hc
  subst ev
  obtain ⟨ox, od, vs, J, _⟩ := inst_exc I.hok ha hd
  exact kia_one (kitx_exc F) I.kIn ⟨ox, od, J⟩ e (fun z => nomatch z) fun tk => ⟨.bl b, H, I.tok _, rfl, q⟩
noncomputable def rStrX (K : Frag) : List V → Hp → VK → Prop := fun xs H Q => ∃ a C t tb d m, xs = [.ref a] ∧ H a = some (excO a C t tb d) ∧ DctOk H d ∧ XAsk K C ∧ H t = some (.tup [.str m]) ∧ Q (.str m) H
theorem call_strx (hu : X.A.units + 2 < cLine) : CallR X (.type "str") (rStrX X.K) := by
  intro pins s σ H xs us Q I r h
  obtain ⟨a, C, t, tb, d, m, rfl, ha, hd, F, ht, q⟩ := h
  obtain ⟨u, rfl, ru⟩ := Vals.one r
  cases ru
  obtain ⟨ox, od, vs, J, _, hf, h0⟩ := inst_exc I.hok ha hd
  obtain ⟨_, its, rv, ob, e1, e2, n, e3⟩ := (show ObjOk X.prog X.w H s.heap t (.tup [.str m]) from I.hok t _ ht)
  obtain ⟨u, rfl, tk, rfl⟩ := Vals.one rv
  have tup : s.heap.TupAt t [.str m tk] := ⟨ob, n, e1, e2, e3⟩
  refine callType_new PySem.F.called_str (by decide) (PySem.F.typeCall_str_1 _) (PySem.F.newCall_str_1 _) (fun obj => PySem.F.args_object_init_2 obj _) PySem.F.entry_str_new
    (meets_str_new (S := fun A' R s' => A'.units + 1 < cLine ∧ X.K.In s'.heap ∧ InstAt s'.heap a ox C od ∧ s'.heap.TupAt t [.str m tk] ∧ R (.ok (.ret (.str m tk))) s')
      fun _ _ A' _ _ hq => xstr_of (A := A'.in1) F hq.2.1 hq.2.2.1 hq.1 hf h0 hq.2.2.2.1 hq.2.2.2.2)
    ⟨(show X.A.units + 1 + 1 < cLine from hu), I.kIn, J, tup, typeIs_str _ _ _, ?_⟩
  exact ⟨.str m, H, I, ⟨tk, rfl⟩, q⟩
noncomputable def tXat (K : Frag) (te : TE) (f : Str) : TE := fun σ H Q => te σ H fun x H1 => ∃ a C t tb dx fs v, x = .ref a ∧ H1 a = some (excO a C t tb (some dx)) ∧ H1 dx = some (.xd fs) ∧ XAsk K C ∧ findIn K (.ref C) f = some none ∧ fs.lookup f = some v ∧ Q v H1
theorem pe_xat {e : Expr} {te : TE} {f : Str} {pos : Pos} (he : PE X e te) (hb : attributeBase e f X.env (eval e X.env) = eval e X.env) : PE X (.Attribute e f pos) (tXat X.K te f) := by
  intro pins s σ H Q I h
  refine attr_of hb (thn (he pins s σ H _ I h) fun u s1 ⟨x, H1, I1, rx, a, C, t, tb, dx, fs, v, ex, ha, hx, F, hf, hl, q⟩ => ?_)
  subst ex
  obtain rfl : u = Value.ref a := rx
  obtain ⟨ox, od, vs, J, hdd, _⟩ := inst_exc I1.hok ha (.inr ⟨dx, fs, rfl, hx⟩)
  obtain ⟨mA, hn, hr⟩ := (show ObjOk X.prog X.w H1 s1.heap dx (.xd fs) from I1.hok dx _ hx)
  obtain ⟨u, hu, ru⟩ := RelO.some_of (v := v) (o := mA f) (by rw [← hl]; exact hr f)
  obtain ⟨od', ho', hlk⟩ := lookIn_ns hn
  have hd := J.dict
  rw [hdd] at hd
  cases od with
  | none => exact hd.elim
  | some od =>
  have ee : od = od' := Option.some.inj (hd.symm.trans ho')
  subst ee
  have hfo : findObj X.K C (some od) f = some (.value u) := findObj_own F.dct hf rfl (by rw [hlk, hu])
  unfold getAttr
  refine wpAny_bind (wpAny_mkText ?_)
  refine xby (s := { s1 with toks := s1.toks + 1 }) I1.kIn J F.ga F.gk F.base fun A' E' => ?_
  exact xga_value (s := { s1 with toks := s1.toks + 1 }) I1.kIn J hfo ⟨_, rfl, handed_of ru, v, H1, I1.tok _, ru, q⟩
theorem bools_eq (k : Bool) : ∀ {bs : List Bool} {us : List Value}, Vals (bs.map V.bl) us → ∀ y, y ∈ us → ∀ (A : Around) (s : Shared), SeqAt.EqAt A s y (.bool k) (isBoolOf k y)
  | [], _, .nil, _, hy, _, _ => absurd hy (by simp)
  | b :: bs, _, .cons r t, y, hy, A, s => by
    rcases List.mem_cons.mp hy with e | hy
    · subst e
      cases r
      exact SeqAt.EqAt.bool_bool b k
    · exact bools_eq k t y hy A s
theorem bools_count (k : Bool) : ∀ {bs : List Bool} {us : List Value}, Vals (bs.map V.bl) us → us.countP (isBoolOf k) = bs.countP (· == k)
  | [], _, .nil => rfl
  | b :: bs, _, .cons r t => by
    cases r
    rw [List.countP_cons, List.countP_cons, bools_count k t]
    rfl
theorem bools_get (k : Bool) : ∀ {bs : List Bool} {us : List Value} (i : Nat) (h : i < us.length), Vals (bs.map V.bl) us → isBoolOf k us[i] = (bs.getD i (!k) == k)
  | [], _, i, h, .nil => absurd h (by simp)
  | _ :: _, _, 0, _, .cons r t => by cases r; rfl
  | b :: bs, _ :: us, i + 1, h, .cons r t => by
    have := bools_get k (bs := bs) i (Nat.lt_of_succ_lt_succ h) t
    simpa using this
noncomputable def rCntB (K : Frag) : V → List V → Hp → VK → Prop := fun x vs H Q => ∃ (p : Addr) (bs : List Bool) (k : Bool), x = .ref p ∧ vs = [.bl k] ∧ SqL K H p (bs.map V.bl) ∧ Q (.int (bs.countP (· == k) : Nat)) H
theorem mt_cntB : MtM X "list.count" (rCntB X.K) := by
  intro pins s σ H x xs v us Q I rx r h
  obtain ⟨p, bs, k, rfl, rfl, hs, q⟩ := h
  cases rx
  obtain ⟨u, rfl, ru⟩ := Vals.one r
  cases ru
  obtain ⟨its, rv, ⟨o, n, e1, e2, e3, e4⟩, hz⟩ := I.list hs
  obtain ⟨cls, dd, data, sl⟩ := o
  simp only at e2 e3 e4
  subst e2 e3 e4
  refine call_meets PySem.F.slot_list_count ⟨_, e1, rfl⟩ PySem.F.entry_list_count (PySem.F.args_list_count_2 _ _) (SeqAt.list_countAt p its.toArray n none sl (.bool k) (isBoolOf k)) ⟨e1, fun y hy => bools_eq k rv y (by simpa using hy) _ _, ?_⟩
  rw [show its.toArray.toList = its from rfl, bools_count k rv]
  exact ⟨.int _, H, I.tok _, ⟨_, rfl⟩, q⟩
noncomputable def rIdxB (K : Frag) : V → List V → Hp → VK → Prop := fun x vs H Q => ∃ (p : Addr) (bs : List Bool) (k : Bool) (i : Nat), x = .ref p ∧ vs = [.bl k] ∧ SqL K H p (bs.map V.bl) ∧ i < bs.length ∧ bs.getD i (!k) = k ∧ (∀ j, j < i → bs.getD j (!k) = (!k)) ∧ Q (.int (i : Nat)) H
theorem mt_idxB : MtM X "list.index" (rIdxB X.K) := by
  intro pins s σ H x xs v us Q I rx r h
  obtain ⟨p, bs, k, i, rfl, rfl, hs, hi, hh, hno, q⟩ := h
  cases rx
  obtain ⟨u, rfl, ru⟩ := Vals.one r
  cases ru
  obtain ⟨its, rv, ⟨o, n, e1, e2, e3, e4⟩, hz⟩ := I.list hs
  obtain ⟨cls, dd, data, sl⟩ := o
  simp only at e2 e3 e4
  subst e2 e3 e4
  have hl : its.length = bs.length := by rw [← rv.length]; simp
  have hz' : bs.length ≤ sizeLine := by simpa using hz
  have hsz : sizeLine < 2 ^ 62 := by decide
  refine call_meets PySem.F.slot_list_index ⟨_, e1, rfl⟩ PySem.F.entry_list_index (PySem.F.args_list_index_2 _ _) (SeqAt.list_indexAt p its.toArray n none sl (.bool k) (isBoolOf k) i (by simpa [hl] using hi) (by lia) ?_ fun m hm hmi => ?_) ⟨e1, fun y hy => bools_eq k rv y (by simpa using hy) _ _, ?_⟩
  · have := bools_get k i (by rw [hl]; exact hi) rv
    rw [hh] at this
    simpa using this
  · have := bools_get k m (by simpa using hm) rv
    rw [hno m hmi] at this
    simp only [List.getElem_toArray]
    rw [this]
    cases k <;> rfl
  · exact ⟨.int _, H, I.tok _, ⟨_, rfl⟩, q⟩
end
end SF
namespace SF
open PySem PySem.W PySem.Builtin PySem.Builtin.ObjectAttr
section
variable {prog : Program} {w : World} {A : Around} {E : Value → Shared → Prop} {h : Heap} {g : Array GenState} {d : Drawn} {t : Nat} {os : OsState}
variable {nm q : Str} {C N : Addr} {bs bm bmB : List Value} {hdct : Bool} {sn : List Str} {sub : List Value} {ab : Bool} {col : Option Bool} {dd : Option Addr} {k0 k1 k2 k3 k5 : Option Value} {B Bn newId nid initId inN : String} {bmN : List Value}
theorem type_call_init (Fn : ExcBaseFacts Bn newId inN bmN) (hBn : bmB.contains (.type Bn) = true) (F : ExcBaseFacts B nid initId bmB) (T : OwnTail h bmB bm) {mN : Str → Option Value} {rest : List Value} {fI : Addr} {oI : Obj} {Q : Fin → Shared → Prop}
    (hC : h.get? C = some (excClassObj nm q C N bs bm hdct sn sub ab col dd k0 k1 k2 k3 k5 newId)) (hn : h.Ns N mN) (hi : mN "__init__" = some (.ref fI)) (hfI : h.get? fI = some oI) (hfc : oI.cls = .type "function")
    (hq : ∀ h' e, Heap.MadeExcOf h h' e (.ref C) rest → wpAny (model prog w) A (call (.ref fI) (.ref e :: rest)) (fun r s' => r = .none ∧ Q (.done (.ret (.ref e))) s') E ⟨h', g, d, t, os⟩) (hrest : rest.length ≤ sizeLine) :
    wpAny (model prog w) A (Builtin.«type.__call__» ⟨.ref C :: rest, []⟩) Q E ⟨h, g, d, t, os⟩ := by
  repeat (first | with_reducible refine wpAny_loadPart_at hC ?_ | with_reducible refine wpAny_madeBy_exc hC ?_ | wp_step)
  refine codeAny_call_builtin_code (Code.quiet_builtin _ Fn.quiet) (wpAny_check_new_subU Fn hBn T hC ?_)
  refine codeAny_exc_new_subU Fn hBn F T hC ?_ hrest
  show wpAny _ _ _ _ _ _
  generalize ho1 : ({ cls := .type "tuple", data := .seq rest.toArray } : Obj) = o1
  generalize ho2 : ({ cls := .ref C, data := .fields #[.ref h.objs.size, .none, .none, .none, .bool false, .none] } : Obj) = o2
  have keep : ∀ b o, h.get? b = some o → ((h.push o1).push o2).get? b = some o := fun b o e => Heap.get?_push_of_some _ (Heap.get?_push_of_some _ e)
  have hget : ((h.push o1).push o2).get? (h.objs.size + 1) = some o2 := by subst ho1 ho2; heap_get
  have hC₁ := keep _ _ hC
  have hcC : (Value.ref C :: bm).contains (.ref C) = true := by simp
  have hcl : o2.cls = .ref C := by subst ho2; rfl
  unfold isInstance
  repeat (first | (with_reducible refine wpAny_loadPart_at hget ?_; rw [hcl]) | (with_reducible refine wpAny_isSubtype_exc hC₁ ?_; rw [hcC]) | wp_step)
  show wpAny _ _ (typeLookup (.ref C) _) _ _ _
  refine wpAny_typeLookup_tail hC₁ (hn.keeps keep) (T.keeps keep) F.mroIs F.init.lookup ?_
  rw [hi]
  refine wpAny_holding (wpAny_bind ?_)
  unfold bindSpecial
  refine wpAny_bind (wpAny_typeOf (T := "function") ⟨_, keep _ _ hfI, hfc⟩ ?_)
  rw [if_pos (by decide)]
  refine wpAny_pure (wpAny_bind (wpAny_mono (hq _ (h.objs.size + 1) ⟨keep, Heap.get?_none_of_le (Nat.le_succ _), h.objs.size, by rw [hget, ← ho2], Heap.get?_none_of_le (Nat.le_refl _), ?_⟩) (fun r s' hr => ?_) fun _ _ x => x))
  · rw [Heap.get?_push_of_some _ (Heap.get?_push_at rfl (by subst ho1; rfl)), ← ho1]
  · obtain ⟨rfl, hQ⟩ := hr
    wp_walk
    exact hQ
theorem call_init (Fn : ExcBaseFacts Bn newId inN bmN) (hBn : bmB.contains (.type Bn) = true) (F : ExcBaseFacts B nid initId bmB) (T : OwnTail h bmB bm) {mN : Str → Option Value} {rest : List Value} {fI : Addr} {oI : Obj} {Q : Value → Shared → Prop}
    (hC : h.get? C = some (excClassObj nm q C N bs bm hdct sn sub ab col dd k0 k1 k2 k3 k5 newId)) (hn : h.Ns N mN) (hi : mN "__init__" = some (.ref fI)) (hfI : h.get? fI = some oI) (hfc : oI.cls = .type "function")
    (hq : ∀ h' e, Heap.MadeExcOf h h' e (.ref C) rest → wpAny (model prog w) (A.under (.builtin "type.__call__" ⟨.ref C :: rest, []⟩)) (call (.ref fI) (.ref e :: rest)) (fun r s' => r = .none ∧ Q (.ref e) s') E ⟨h', g, d, t, os⟩) (hrest : rest.length ≤ sizeLine) :
    wpAny (model prog w) A (call (.ref C) rest) Q E ⟨h, g, d, t, os⟩ := by
  have f1 := tc_lookup
  have f2 := tc_bind (.ref C)
  have hT : (⟨h, g, d, t, os⟩ : Shared).TypeIs (.ref C) "type" := ⟨_, hC, rfl⟩
  refine wpAny_call (codeAny_of_tree ?_)
  show wpAny _ _ (callAny (.ref C) _) _ _ _
  repeat (any_goals (first | assumption | with_reducible refine wpAny_loadPart_at hC ?_ | wp_step))
  refine ⟨rfl, ?_⟩
  exact codeAny_call_builtin_at (Code.quiet_builtin _ (by decide +kernel)) entry_typeCall (wpAny_check_type_call_sub hC (type_call_init Fn hBn F T hC hn hi hfI hfc (fun h' e hm => hq h' e hm) hrest))
theorem init_again (F : ExcBaseFacts B nid initId bmB) (T : OwnTail h bmB bm) {e : Addr} {oe : Obj} {vs : Array Value} {rest : List Value} {Q : Value → Shared → Prop}
    (hC : h.get? C = some (excClassObj nm q C N bs bm hdct sn sub ab col dd k0 k1 k2 k3 k5 newId)) (he : h.get? e = some oe) (hcls : oe.cls = .ref C) (hd : oe.data = .fields vs) {t0 : Addr} (h0 : vs[0]? = some (.ref t0)) (hrest : rest.length ≤ sizeLine)
    (hq : Q .none ⟨(h.push { cls := .type "tuple", data := .seq rest.toArray }).update e (Obj.mapFields (·.setIfInBounds 0 (.ref h.objs.size))), g, d, t, os⟩) :
    wpAny (model prog w) A (call (.builtin initId) (.ref e :: rest)) Q E ⟨h, g, d, t, os⟩ := by
  refine wpAny_call (codeAny_call_builtin F.init.plain F.initEntry (wpAny_check_init_subU F T hC he hcls ?_))
  unfold Builtin.«BaseException.__init__»
  repeat wp_step
  rw [hd]
  refine wpAny_pure ?_
  rw [h0]
  refine wpAny_pure (wpAny_bind (wpAny_setField (Heap.get?_push_of_some _ he) hd (Array.getElem?_eq_some_iff.mp h0).1 ?_))
  repeat wp_step
  exact hq
end
noncomputable def overV : List Value → Bool
  | [.type a, .type b, .type c, .type d] => a == "ValueError" && b == "Exception" && c == "BaseException" && d == "object"
  | .ref _ :: r => overV r
  | _ => false
theorem refuse_overV (self : Value) : ∀ {l : List Value}, overV l = true → refuseLoop self "__setattr__" l = pure ()
  | [.type a, .type b, .type c, .type d], e => by
    simp only [overV, Bool.and_eq_true, beq_iff_eq] at e
    obtain ⟨⟨⟨rfl, rfl⟩, rfl⟩, rfl⟩ := e
    exact PySem.F.store_ValueError.passes self
  | .ref c :: r, e => by rw [refuseLoop_ref]; exact refuse_overV self (by cases r <;> first | exact e | cases e)
noncomputable def excOver (K : Frag) (C : Addr) : Bool := (clsIn K C).any fun cd => cd.hasDict && overV cd.mro
section
variable {prog : Program} {w : World} {A : Around} {E : Value → Shared → Prop} {s : Shared} {K : Frag} {x C : Addr} {ox : Obj} {vs : Array Value} {name : Str} {v : Value} {Q : Unit → Shared → Prop}
theorem x_store (X : K.In s.heap) (I : InstAt s.heap x ox C none) (hnd : ox.dict = none) (hd : ox.data = .fields vs) (hp : excOver K C = true) (hs : findIn K (.ref C) "__setattr__" = some (some (.builtin "object.__setattr__"))) (hob : mroIn K C (.type "object") = some true) (ha : findIn K (.ref C) name = some none)
    (h : ∀ h' tk, (∀ b o, b ≠ x → s.heap.get? b = some o → h'.get? b = some o) → h'.get? x = some { ox with dict := some s.heap.objs.size } → h'.Ns1 s.heap.objs.size (fun y => if y = name then some v else none) → Q () { s with heap := h', toks := tk }) :
    wpAny (model prog w) A (setAttr (.ref x) name v) Q E s := by
  obtain ⟨cd, hc, hcd⟩ := any_some hp
  simp only [Bool.and_eq_true] at hcd
  refine set_plain X I hs ?_
  have SF := PySem.F.store_object
  have sub : Looks (model prog w) s.heap (isInstance (.ref x) (.type "object")) true := I.type.andThen (looks_mroIn X hob)
  refine codeAny_call_builtin SF.slot.plain SF.entry (@check_slot (model prog w) _ _ { s with toks := s.toks + 1 } "object.__setattr__" "object" "__setattr__" (.ref x) [.str name s.toks, v] [] _ SF.kind SF.split sub (SF.args (.ref x) (.str name s.toks) v) ?_)
  have hm : Looks (model prog w) s.heap (mroOf (.ref C)) cd.mro := (looks_clsIn X hc).andThen .now
  have L0 := I.type (M := model prog w)
  have L1 := looks_findIn (M := model prog w) X ha
  rw [osa_eq]
  refine wpAny_bind ?_
  rw [refuse_eq]
  refine wpAny_bind (L0 _ _ _ _ (fun _ _ e => e) (wpAny_bind (hm _ _ _ _ (fun _ _ e => e) ?_)))
  rw [refuse_overV _ hcd.2]
  refine wpAny_pure (wpAny_bind (L0 _ _ _ _ (fun _ _ e => e) (wpAny_bind (L1 _ _ _ _ (fun _ _ e => e) (wpAny_bind (wpAny_pure ?_))))))
  dsimp only
  obtain ⟨hx, hcl, hn, -⟩ := I
  obtain ⟨oc, odi, oda, osl⟩ := ox
  dsimp only at hcl hd hnd
  subst hcl hd hnd
  refine wpAny_bind (wpAny_pure (wpAny_bind (wpAny_bind (wpAny_loadPart hx (wpAny_bind ((looks_clsIn X hc) _ _ _ _ (fun _ _ e => e) ?_))))))
  rw [hcd.1]
  dsimp only
  have hxs : x ≠ s.heap.objs.size := Nat.ne_of_lt (Heap.lt_size hx)
  have hx₁ : (s.heap.push { cls := .type "dict", data := .dict #[] }).get? x = some ⟨.ref C, none, .fields vs, osl⟩ := Heap.get?_push_of_some _ hx
  refine wpAny_bind (wpAny_alloc' ?_)
  refine wpAny_bind (wpAny_update' hx₁ ?_)
  refine wpAny_pure ?_
  generalize hh2 : ((s.heap.push { cls := .type "dict", data := .dict #[] }).update x fun o => { cls := o.cls, dict := some s.heap.objs.size, data := o.data, slots := o.slots }) = h2
  have hgd : h2.get? s.heap.objs.size = some { cls := .type "dict", data := .dict #[] } := by subst hh2; exact (Heap.get?_update_ne _ _ _ _ hxs.symm).trans (Heap.get?_push_at rfl rfl)
  have hnd : h2.Ns s.heap.objs.size (fun _ => none) := ⟨_, #[], _, hgd, rfl, fun e he => absurd he (by simp), fun _ => rfl⟩
  have keep : ∀ b o, b ≠ x → s.heap.get? b = some o → h2.get? b = some o := fun b o hb e => by subst hh2; exact (Heap.get?_update_ne _ _ _ _ hb).trans (Heap.get?_push_of_some _ e)
  have hx2 : h2.get? x = some ⟨.ref C, some s.heap.objs.size, .fields vs, osl⟩ := by subst hh2; exact Heap.get?_update_self _ hx₁ rfl
  show wpAny _ _ (storeInDict s.heap.objs.size (.str name s.toks) name v) _ _ _
  unfold storeInDict newKeyGuard
  refine wpAny_bind (wpAny_pure (wpAny_bind (wpAny_nsSet1 (Heap.Ns1.of_empty hnd) fun h' hn' hs => ?_)))
  obtain ⟨oD, esD, epD, hoD, hdD, hcD⟩ := hn'.count (Within.cons name v Within.nil)
  refine wpAny_bind (wpAny_lookBehind hoD (by rw [hdD]; exact pastItsLine_dict (Nat.le_trans hcD (by rw [List.length_cons, List.length_nil, sizeLine_eq]; lia))) ?_)
  refine wpAny_pure ?_
  exact h _ _ (fun b o hb e => (hs.2 b (Nat.ne_of_lt (Heap.lt_size e))).trans (keep b o hb e)) ((hs.2 x hxs).trans hx2) hn'
end
end SF
namespace SF
open PySem PySem.Spec PyProof.Rows L2 PySem.W
theorem ns_val {K : Frag} {h : Heap} {N : Addr} {m : Str → Option Value} {n : Str} {v : Value} (X : K.In h) (G : h.Ns N m) (e : nsIn K N n = some (some v)) : m n = some v := by
  obtain ⟨⟨c, d, dt, sl⟩, es, ep, ho, hd, _, hf⟩ := G
  cases hd
  cases q : K.lookup N with
  | none => simp [nsIn, q] at e
  | some ob =>
    have z := (X _ _ q).symm.trans ho
    cases z
    simp only [nsIn, q] at e
    cases he : es.toList.find? (·.key.isStr n) with
    | none => rw [he] at e; dsimp only at e; split at e <;> cases e
    | some en =>
      rw [he] at e; cases e
      rw [← hf, nsFind, findBy, ← Array.find?_toList, he]
      rfl
noncomputable def excInI (K : Frag) (C : Addr) (bmB : List Value) (newId : String) (fI : Addr) : Bool := match K.lookup C with
  | some ⟨.type "type", _, .cls cd, sl⟩ => (match cd.mro, sl.toList with
    | .ref C' :: bm, [_, _, _, _, some (.builtin n), _] => C' == C && n == newId && !cd.hasDel && tailIn K bmB bm && nsOkIn K cd.ns && nsIn K cd.ns "__init__" == some (some (.ref fI))
    | _, _ => false)
  | _ => false
noncomputable def XClsI (K : Frag) (C fI : Addr) : Prop := excInI K C bmV "ValueError.__new__" fI = true
section
variable {X : Cx} {C fI : Addr}
theorem excI_obj {K : Frag} {h : Heap} (XK : K.In h) (q : XClsI K C fI) : ∃ bm N nm qn bs hdct sn sub ab col dd k0 k1 k2 k3 k5 mN, h.get? C = some (excClassObj nm qn C N bs bm hdct sn sub ab col dd k0 k1 k2 k3 k5 "ValueError.__new__") ∧ h.Ns N mN ∧ mN "__init__" = some (.ref fI) ∧ OwnTail h bmV bm := by
  unfold XClsI excInI at q
  split at q
  · rename_i dd cd sl ho
    split at q
    · rename_i C' bm k0 k1 k2 k3 n k5 hm hs
      simp only [Bool.and_eq_true, beq_iff_eq, Bool.not_eq_true'] at q
      obtain ⟨⟨⟨⟨⟨rfl, rfl⟩, hdel⟩, ht⟩, hok⟩, hni⟩ := q
      obtain ⟨nm, bs, mro, ns, qn, hd, sn, sub, ab, col, del⟩ := cd
      dsimp only at hm hdel hok hni
      subst hm hdel
      have hsl : sl = #[k0, k1, k2, k3, some (.builtin "ValueError.__new__"), k5] := by
        obtain ⟨l⟩ := sl
        simp only at hs
        rw [hs]
      subst hsl
      have hN : h.Ns ns (h.nsMap ns) := .of_isNs (isNs_of_in XK hok)
      exact ⟨bm, ns, nm, qn, bs, hd, sn, sub, ab, col, dd, k0, k1, k2, k3, k5, _, XK _ _ ho, hN, ns_val XK hN hni, tail_of_in XK ht⟩
    · cases q
  · cases q
theorem inv_two {pins : List (Addr × Obj)} {σ : L2.St} {H : Hp} {s : Shared} {h' : Heap} {a T : Addr} {φ : Heap → Prop} {o1 o2 : HO} {tk : Nat} (I : Inv X pins σ H s) (ha : H a = some (.ext φ)) (hT : s.heap.get? T = none) (hne : T ≠ a)
    (keep : ∀ b o, b ≠ a → s.heap.get? b = some o → h'.get? b = some o) (there : ∃ o, h'.get? a = some o) (n1 : ∀ H', ObjOk X.prog X.w H' h' a o1) (n2 : ∀ H', ObjOk X.prog X.w H' h' T o2) : Inv X pins σ (upd (upd H T o2) a o1) { s with heap := h', toks := tk } := by
  have hTn : H T = none := hok_none I.hok hT
  have nea : ∀ b u, H b = some u → (∀ φ, u ≠ .ext φ) → b ≠ a := fun b u q n z => by subst z; rw [ha] at q; cases q; exact n _ rfl
  have neT : ∀ b u, H b = some u → b ≠ T := fun b u q z => by subst z; rw [hTn] at q; cases q
  have nea0 : ∀ b, H b = none → b ≠ a := fun b q z => by subst z; rw [ha] at q; cases q
  refine I.un ⟨fun b ob q n _ _ => keep b ob (nea0 b n) q, fun b ob q n _ _ => ⟨ob.slots, keep b ob (nea0 b n) q⟩, fun b ob q n _ => by rw [upd_ne (nea0 b n), upd_ne (fun z => by subst z; rw [hT] at q; cases q)]; exact n, fun b ob q _ => ?_,
    fun b xs q => by rw [upd_ne (nea b _ q nofun), upd_ne (neT b _ q)]; exact q, fun b u xs q => by rw [upd_ne (nea b _ q nofun), upd_ne (neT b _ q)]; exact q, fun b ps q => ⟨#[], by rw [upd_ne (nea b _ q nofun), upd_ne (neT b _ q), q]; simp⟩⟩ fun b u q => ?_
  · by_cases z : b = a
    · subst z; exact there
    · exact ⟨ob, keep b ob z q⟩
  · by_cases hba : b = a
    · subst hba; rw [upd_same] at q; cases q
      exact n1 _
    · rw [upd_ne hba] at q
      by_cases hbT : b = T
      · subst hbT; rw [upd_same] at q; cases q
        exact n2 _
      · rw [upd_ne hbT] at q
        refine (I.hok b u q).stay (fun c v hc e => keep c v ?_ e) (fun c r => by rw [upd_ne (nea c _ r nofun), upd_ne (neT c _ r)]; exact r) fun c xs r => by rw [upd_ne (nea c _ r nofun), upd_ne (neT c _ r)]; exact r
        rcases hc with rfl | hc
        · exact hba
        · exact nea c _ hc nofun
noncomputable def tBad (C : Addr) (sp : Sp) (dvs : List V) (E : XK) (t : TA) : TE := fun σ H Q => t σ H fun vs H1 => vs.length ≤ 1000 ∧ ∀ x tp, H1 x = none → H1 tp = none → x ≠ tp →
  sp (.ref x :: (vs ++ dvs)) (upd (upd H1 tp (.tup vs)) x (excO x C tp .none none)) (fun v H2 => v = .non ∧ Q (.ref x) H2) E
theorem pe_bad {CX : CXT} {k : Nat} {fd : FuncData} {ps : List Str} {sp : Sp} {dvs : List V} {ds : List Value} {E : XK} {x : Str} {p pos : Pos} {e : Expr} {es : List Expr} {t : TA} (hc : XClsI X.K C fI) (hfn : typeIn X.K (.ref fI) = some (.type "function")) (hk : keepIn X.K (.ref C) = true)
    (F : FnOk X.prog X.w X.K X.mg X.base CX k fI fd ps sp) (hr : Room (k + 1) X.A) (hg : Gl X x) (hm : X.mg x = some (.ref C)) (hb : Binds X.K fd ps ds) (hd : Vals dvs ds) (hx : Passes CX X E) (ha : PA X (e :: es) t)
    (hdb : (x == ("__debug__" : Str)) = false := by decide) (he : starEach (e :: es) X.env = (false, eval e X.env) :: starEach es X.env := by rfl) (hpl : (backTo pos (starEach es X.env)).any (·.1) = false := by rfl) :
    PE X (.Call (.Name x p) (e :: es) [] pos) (tBad C sp dvs E t) := by
  intro pins s σ H Q I h
  refine wpAny_Call_Name_kw (ld_glob I hg hm ?_ hdb)
  refine callWith_K (h₀ := X.base) I.ok.mod.kin hk (thn (ha pos pins s σ H _ I h) fun us s1 ⟨vs, H1, I1, r, hl, q⟩ => ⟨I1.kIn, ?_⟩) he hpl
  obtain ⟨bm, N, nm, qn, bs, hdct, sn, sub, ab, col, dd, k0, k1, k2, k3, k5, mN, hC, hN, hni, TL⟩ := excI_obj I1.kIn hc
  have lus : us.length ≤ 1000 := by rw [← r.length]; exact hl
  have hfo : ∃ oI, s1.heap.get? fI = some oI ∧ oI.cls = .type "function" := by
    obtain ⟨o, ho, hcl⟩ := Option.map_eq_some_iff.mp hfn
    exact ⟨o, I1.kIn _ _ ho, hcl⟩
  obtain ⟨oI, hfI, hfc⟩ := hfo
  obtain ⟨hp, g, d, tk, os⟩ := s1
  refine call_init PySem.F.excBase_ValueError (by decide) PySem.F.excBase_ValueError TL hC hN hni hfI hfc (fun h' e hm => ?_) (small4 lus)
  obtain ⟨tp, e1, e2, e3, I2⟩ := made_inv' I1 r hl hm
  have hq := q e tp e1 e2 e3
  have r2 : Vals (V.ref e :: (vs ++ dvs)) (Value.ref e :: (us ++ ds)) := .cons rfl (r.append hd)
  have hlen : (Value.ref e :: us ++ ds).length = ps.length := by
    have z := r2.length
    rw [F.len _ _ _ _ hq] at z
    exact z.symm
  refine wpAny_call (codeAny_mono (F.run _ X.stack _ _ ⟨Value.ref e :: us, []⟩ (Value.ref e :: (us ++ ds)) _ _ E (hr.make C us []) (I2.env0.make C us []) (hb _ (Value.ref e :: us) I2.kIn hlen) r2 hq) fun r s' hq' => ?_)
  cases r with
  | error e' => exact hx pins σ _ _ e' s' I2 hq'
  | ok fl =>
    cases fl with
    | ret u =>
      obtain ⟨v, H', I3, rv, ev, q3⟩ := I2.after hq'
      subst ev
      exact ⟨rv, ⟨V.ref e, H', I3, rfl, q3⟩⟩
    | next => exact False.elim hq'
    | brk => exact False.elim hq'
    | cont => exact False.elim hq'
noncomputable def tXinit (K : Frag) (fI : Addr) (t : TA) : TE := fun σ H Q => t σ H fun vs H1 => ∃ x rest C tp tb d, vs = .ref x :: rest ∧ H1 x = some (excO x C tp tb d) ∧ XClsI K C fI ∧ rest.length ≤ 1000 ∧ ∀ tp', H1 tp' = none → tp' ≠ x → Q .non (upd (upd H1 tp' (.tup rest)) x (excO x C tp' tb d))
theorem pe_xinit {pl : Sem Bool} {B : Addr} {x : Str} {p apos pos : Pos} {e : Expr} {es : List Expr} {t : TA} (hg : Gl X x) (hm : X.mg x = some (.ref B)) (hs : specialIn X.K (.ref B) "__getattribute__" = some (some (.builtin "type.__getattribute__"))) (hr : readsIn X.K B (.type "type") = true)
    (hf : findCls X.K (.ref B) (.type "type") "__init__" = some (.val (.builtin "ValueError.__init__"))) (ha : PA X (e :: es) t)
    (hdb : (x == ("__debug__" : Str)) = false := by decide) (hst : starEach (e :: es) X.env = (false, eval e X.env) :: starEach es X.env := by rfl) (hpl : (backTo pos (starEach es X.env)).any (·.1) = false := by rfl)
    (ht : eval (.Call (.Attribute (.Name x p) "__init__" apos) (e :: es) [] pos) X.env = (do
      let ov ← eval (.Name x p) X.env
      standAt apos.atName
      let (f, first) ← holding [ov] (getMethod ov "__init__" pl)
      callWith pos f first (backTo pos (starEach (e :: es) X.env)) (backToKw pos (keywordEach [] X.env))) := by rfl) :
    PE X (.Call (.Attribute (.Name x p) "__init__" apos) (e :: es) [] pos) (tXinit X.K fI t) := by
  intro pins s σ H Q I h
  refine methodCall_KW (pl := pl) (ld_glob I hg hm ?_ hdb) ht
  refine method_cls I.kIn hs (cls_value I.kIn hr hf (by decide +kernel) ?_)
  have I0 := I.tok (s.toks + 1)
  refine PyProof.Rows.callWith_builtin1 (thn (ha pos pins _ σ H _ I0 h) fun us s1 ⟨vs, H1, I1, r, y, rest, C, tp, tb, d, ev, hy, hc, hl, q⟩ => ?_) hst hpl
  subst ev
  obtain ⟨bm, N, nm, qn, bs, hdct, sn, sub, ab, col, dd, k0, k1, k2, k3, k5, mN, hC, hN, hni, TL⟩ := excI_obj I1.kIn hc
  obtain ⟨o, ws, e1, hcl, hd, hfl, h6, h0, h1⟩ := exc_get I1.hok hy
  obtain ⟨us, eu, rr⟩ : ∃ us', us = Value.ref y :: us' ∧ Vals rest us' := by
    cases r with
    | cons ry rr => cases ry; exact ⟨_, rfl, rr⟩
  subst eu
  have lus : us.length ≤ 1000 := by rw [← rr.length]; exact hl
  obtain ⟨hp, g, dr, tk, os⟩ := s1
  refine init_again PySem.F.excBase_ValueError TL hC e1 hcl hfl h0 (small4 lus) ?_
  have hne : hp.objs.size ≠ y := Nat.ne_of_gt (Heap.lt_size e1)
  generalize hoT : ({ cls := .type "tuple", data := .seq us.toArray } : Obj) = oT
  have e2 := Heap.get?_push_of_some (h := hp) oT e1
  have e3 := Heap.get?_update_self (Obj.mapFields (·.setIfInBounds 0 (Value.ref hp.objs.size))) e2 (Obj.isFreed_of_fields (Obj.data_mapFields hfl _))
  have e4 : ((hp.push oT).update y (Obj.mapFields (·.setIfInBounds 0 (Value.ref hp.objs.size)))).get? hp.objs.size = some oT := (Heap.get?_update_other _ _ (Ne.symm hne)).trans (Heap.get?_push_size hp (by subst hoT; rfl))
  have hT : hp.get? hp.objs.size = none := Heap.get?_none_of_le (Nat.le_refl _)
  refine ⟨.non, _, inv_two (s := ⟨hp, g, dr, tk, os⟩) (T := hp.objs.size) (tk := tk) I1 hy hT hne (fun b ob hb z => (Heap.get?_update_other _ _ (Ne.symm hb)).trans (Heap.get?_push_of_some _ z)) ⟨_, e3⟩ (fun H' => exc_stay (C := C) (t := hp.objs.size) (tb := tb) (d := d) e3 ((Obj.cls_mapFields _ _).trans hcl) ?_ (Obj.data_mapFields hfl _) (by simp [h6]) (by simp [h6]) (by rw [Array.getElem?_setIfInBounds_ne (by decide)]; exact h1)) (o2 := .tup rest) (fun H' => ?_), rfl, q _ (hok_none I1.hok hT) hne⟩
  · obtain ⟨cc, dd, dt, sl⟩ := o
    simp only at hfl
    subst hfl
    exact hd
  · subst hoT
    exact ⟨small4 hl, us, rr, _, e4, rfl, _, rfl⟩
noncomputable def sXset (K : Frag) (ta tv : TE) (f : Str) : TS := fun D σ H => tv σ H fun y H1 => ta σ H1 fun xv H2 => ∃ x C tp tb, xv = .ref x ∧ H2 x = some (excO x C tp tb none) ∧ excOver K C = true ∧ findIn K (.ref C) "__setattr__" = some (some (.builtin "object.__setattr__")) ∧ mroIn K C (.type "object") = some true ∧
  findIn K (.ref C) f = some none ∧ ∀ dx, H2 dx = none → dx ≠ x → D.nx σ (upd (upd H2 dx (.xd [(f, y)])) x (excO x C tp tb (some dx)))
theorem ps_xset {o value : Expr} {f : Str} {pos pos' : Pos} {ta tv : TE} (ha : PE X o ta) (hv : PE X value tv) (hs : swapsWith value (some (.Attribute o f pos')) pos.line X.env = pure false) : L2.PS X (.Assign [.Attribute o f pos'] value pos) (sXset X.K ta tv f) := by
  intro pins s σ H D I h
  refine plainObj_wpAny_Assign_Attribute (thn (hv pins s σ H _ I h) fun u s1 ⟨y, H1, I1, ry, q⟩ => thn (ha pins s1 σ H1 _ I1 q) fun ov s2 ⟨x, H2, I2, rx, a, C, tp, tb, ex, hy, hp, hsa, hob, hfi, q2⟩ => ?_) hs
  subst ex
  obtain rfl : ov = Value.ref a := rx
  obtain ⟨ox, od, ws, J, hdd, hfl, h0⟩ := inst_exc I2.hok hy (.inl rfl)
  obtain ⟨o, ws', e1, hcl, hd, hfl', h6, h0', h1⟩ := exc_get I2.hok hy
  have ee : o = ox := Option.some.inj (e1.symm.trans J.at_)
  subst ee
  have hod : od = none := by
    have := J.dict
    rw [hdd] at this
    cases od with
    | none => rfl
    | some _ => exact this.elim
  subst hod
  refine x_store I2.kIn J hdd hfl hp hsa hob hfi fun h' tk keep hx hns => ?_
  have hT : s2.heap.get? s2.heap.objs.size = none := Heap.get?_none_of_le (Nat.le_refl _)
  have hne : s2.heap.objs.size ≠ a := Nat.ne_of_gt (Heap.lt_size e1)
  refine ⟨σ, _, inv_two (T := s2.heap.objs.size) (tk := tk) I2 hy hT hne keep ⟨_, hx⟩ (fun H' => exc_stay (C := C) (t := tp) (tb := tb) (d := some s2.heap.objs.size) hx hcl rfl hfl' h6 h0' h1) (o2 := .xd [(f, y)]) (fun H' => ⟨_, hns, fun z => ?_⟩), q2 _ (hok_none I2.hok hT) hne⟩
  by_cases hz : z = f
  · subst hz
    simp only [List.lookup_cons, beq_self_eq_true, if_true]
    exact ry
  · have : (z == f) = false := beq_eq_false_iff_ne.mpr hz
    simp only [List.lookup_cons, this, if_neg hz, List.lookup_nil]
    trivial
end
end SF
namespace SF
open PySem PySem.Spec PyProof.Rows L2 PySem.W
theorem law_call2 {P : Program} {w : World} {K : Frag} {mg mb : Str → Option Value} {k : Nat} {fa a c Pt : Addr} {fd : FuncData} {x : Str} {sp : Sp} {s₁ : Shared} {vs : List Value} {ns : List Int}
    (KX : K.In s₁.heap) (hns : s₁.heap.Ns mainGlobals mg) (hb : s₁.heap.Ns builtinsNs mb) (hbb : ∀ x : Str, x ≠ "__name__" → mb x = bootBuiltins x) (hlim : s₁.heap.NoLimit) (hseer : s₁.heap.NoSeer) (hg : s₁.gens = #[])
    (ha : s₁.heap.get? a = some { cls := .type "list", data := .seq vs.toArray }) (hi : IntsAre vs ns) (hl : ns.length ≤ sizeLine) (hr : Room k callerA) (hcd : CodeHd s₁.heap c Pt) (hPt : s₁.heap.get? Pt = some (tabObj #[])) (hKt : noTabs K = true) (BM : BMain s₁.heap mg)
    (F : ∀ base : Heap, K.In base → base.Ns mainGlobals mg → BMain base mg → CodeHd base c Pt → FnG P w K mg base CX0 true k fa fd [x] fun _ => sp) (hbind : ∀ (s : Shared) (u : Value), BindsTo s fd ⟨[u], []⟩ [(x, u)])
    (hsp : ∀ H : Hp, SqL K H a (ns.map V.int) → H Pt = some (.tbl #[]) → sp [.ref a] H (fun v _ => v = .bl true) E0) :
    codeAny (model P w) callerA (.call (.ref fa) ⟨[.ref a], []⟩) (fun r s' => r = .ok (.ret (.bool true)) ∧ OldK s₁.heap s'.heap ∧ s'.os = s₁.os ∧ AllBare s'.gens) s₁ := by
  have rv := vals_ints hi
  have lenV := hi.length
  have haP : a ≠ Pt := fun z => by rw [z, hPt] at ha; cases ha
  have core : ∀ H : Hp, SqL K H a (ns.map V.int) → H Pt = some (.tbl #[]) → HOk P w H s₁.heap → (∀ b, H b ≠ none → b = a ∨ b = Pt) → (H a = none ∨ ∃ o xs, H a = some (.frz o (.lst xs))) → (H a ≠ none → K.lookup a = none) →
      codeAny (model P w) callerA (.call (.ref fa) ⟨[.ref a], []⟩) (fun r s' => r = .ok (.ret (.bool true)) ∧ OldK s₁.heap s'.heap ∧ s'.os = s₁.os ∧ AllBare s'.gens) s₁ := by
    intro H hS hP hok hA hO hK
    have noA : ∀ {b : Addr} {o : Obj}, s₁.heap.get? b = some o → (o.cls ≠ .type "list" ∨ ∀ xs n, o.data ≠ .seq xs n) → o ≠ tabObj #[] → H b = none := fun {b o} e d d2 => by
      cases q : H b with
      | none => rfl
      | some u =>
        rcases hA b (by rw [q]; simp) with z | z
        · subst z
          rw [ha] at e; cases e
          rcases d with d | d
          · exact absurd rfl d
          · exact absurd rfl (d _ _)
        · subst z
          rw [hPt] at e; cases e
          exact absurd rfl d2
    have nsK : ∀ {b : Addr} {m : Str → Option Value}, s₁.heap.Ns b m → (hidT s₁.heap H).Ns b m := fun {b m} ⟨o, es, ep, e, d, r⟩ => ⟨o, es, ep, hidT_get e (noA e (.inr fun xs n z => by rw [d] at z; cases z) fun z => by rw [z] at d; cases d), d, r⟩
    have hKb : K.In (hidT s₁.heap H) := fun b o e => hidT_get (KX b o e) (by
      cases q : H b with
      | none => rfl
      | some u =>
        rcases hA b (by rw [q]; simp) with z | z
        · subst z
          rw [hK (by rw [q]; simp)] at e; cases e
        · subst z
          have h2 := List.all_eq_true.mp hKt (b, o) (mem_of_lookupK e)
          have := KX b o e
          rw [hPt] at this; cases this
          exact absurd (show false = true from h2) Bool.false_ne_true)
    have mdl : ∀ {b : Addr} {o : Obj}, s₁.heap.get? b = some o → o.cls = .type "module" → (hidT s₁.heap H).get? b = some o := fun {b o} e c => hidT_get e (noA e (.inl (by rw [c]; intro z; exact absurd (Value.type.inj z) (by decide))) fun z => by rw [z] at c; cases c)
    have hM : Mod K mg (hidT s₁.heap H) := ⟨hKb, nsK hns, ⟨mb, nsK hb, hbb⟩, (let ⟨mc, h1, h2⟩ := hlim; ⟨mc, nsK h1, h2⟩), (let ⟨mc, h1, h2⟩ := hseer.statics; ⟨mc, nsK h1, h2⟩), (let ⟨mc, h1, h2⟩ := hseer.mods; ⟨mc, nsK h1, h2⟩), (let ⟨mc, h1, h2⟩ := hseer.imp; ⟨mc, nsK h1, h2⟩),
      (let ⟨g, bm, ob, h1, h2, h3, h4, h5⟩ := hseer.main; ⟨g, bm, ob, nsK h1, h2, mdl h3 h4, h4, h5⟩)⟩
    have BM' : BMain (hidT s₁.heap H) mg := let ⟨bm, ob, b1, b2, b3, b4, b5, b6⟩ := BM; ⟨bm, ob, b1, b2, b3, mdl b4 b5, b5, b6⟩
    have hcd' : CodeHd (hidT s₁.heap H) c Pt := by
      obtain ⟨o, ws, file, tf, flags, tg, inF, text, tt, e1, r1, r2⟩ := hcd
      exact ⟨o, ws, file, tf, flags, tg, inF, text, tt, hidT_get e1 (noA e1 (.inl (by rw [r1]; intro z; exact absurd (Value.type.inj z) (by decide))) fun z => by rw [z] at r1; cases r1), r1, r2⟩
    have e0 : Env0 P w K mg (hidT s₁.heap H) callerA [] s₁ H := ⟨rfl, hM, fun b o e => of_hidT e, Nat.le_of_eq (hidT_size _ _), trivial, fun b hb => absurd (show b ∈ ([] : List Addr) from hb) (by simp), hok, .of_eq hg⟩
    refine codeAny_mono ((F _ hKb (nsK hns) BM' hcd').run callerA [] s₁ H ⟨[.ref a], []⟩ [.ref a] [.ref a] _ _ (roomG hr) e0 (hbind s₁ (.ref a)) (.cons rfl .nil) (hsp H hS hP)) fun r s' h => ?_
    cases r with
    | error e => exact h.elim
    | ok fl =>
      cases fl with
      | next => exact False.elim h
      | brk => exact False.elim h
      | cont => exact False.elim h
      | ret u =>
        obtain ⟨v, H', os, bare, un, hok', r', q⟩ := h
        have q' : v = .bl true := q
        subst q'
        obtain rfl : u = Value.bool true := r'
        obtain ⟨more, eP⟩ := un.tbls Pt #[] hP
        have eP' : s'.heap.get? Pt = some (tabObj (#[] ++ more)) := hok' Pt _ eP
        have kp : ∀ b o, b ≠ Pt → s₁.heap.get? b = some o → s'.heap.get? b = some o := fun b o nb e => by
          cases q : H b with
          | none => exact un.keep b o e q (by intro z; exact absurd (show b ∈ ([] : List Addr) from z) (by simp)) (by simp)
          | some u =>
            have hba : b = a := (hA b (by rw [q]; simp)).resolve_right nb
            subst hba
            rcases hO with z | ⟨ob, xs, z⟩
            · rw [q] at z; cases z
            · have z2 := un.frzs b ob _ z
              obtain ⟨e1, _⟩ := hok b _ z
              obtain ⟨e2, _⟩ := hok' b _ z2
              rw [e] at e1; cases e1
              exact e2
        refine ⟨rfl, ⟨fun b o e => ?_, fun b o e => ?_⟩, os, bare⟩
        · by_cases hbP : b = Pt
          · subst hbP
            have eo : o = tabObj #[] := Option.some.inj (e.symm.trans hPt)
            subst eo
            exact .inr (.inl ⟨(hcd.tab hPt).isCodeTable, rfl, #[], more, rfl, eP'⟩)
          · exact .inl (kp b o hbP e)
        · by_cases hbP : b = Pt
          · subst hbP; exact ⟨_, eP'⟩
          · exact ⟨o, kp b o hbP e⟩
  have hPtok : ∀ H, ObjOk P w H s₁.heap Pt (.tbl #[]) := fun _ => hPt
  cases hk : K.lookup a with
  | some o =>
    have e := KX a o hk
    rw [ha] at e
    cases e
    refine core (fun b => if b = Pt then some (.tbl #[]) else none) (.inr ⟨_, vs.toArray, _, hk, rfl, rfl, rfl, by rw [List.size_toArray, lenV]; exact hl, by simpa using rv⟩) (if_pos rfl) (fun b u z => ?_) (fun b z => ?_) (.inl (if_neg haP)) fun z => absurd (if_neg haP) z
    · by_cases hb : b = Pt
      · have z' := (if_pos hb).symm.trans z
        cases z'
        subst hb
        exact hPtok _
      · have z' := (if_neg hb).symm.trans z
        cases z'
    · by_cases hb : b = Pt
      · exact .inr hb
      · exact absurd (if_neg hb) z
  | none =>
    refine core (fun b => if b = Pt then some (.tbl #[]) else if b = a then some (.frz { cls := .type "list", data := .seq vs.toArray } (.lst (ns.map V.int))) else none) (.inl (.inr ⟨{ cls := .type "list", data := .seq vs.toArray }, by show (if a = Pt then _ else _) = _; rw [if_neg haP, if_pos rfl]⟩)) (if_pos rfl) (fun b u z => ?_) (fun b z => ?_) (.inr ⟨_, _, by show (if a = Pt then _ else _) = _; rw [if_neg haP, if_pos rfl]⟩) fun _ => hk
    · have z : (if b = Pt then some (.tbl #[]) else if b = a then some (.frz { cls := .type "list", data := .seq vs.toArray } (.lst (ns.map V.int))) else none : Option HO) = some u := z
      by_cases hb : b = Pt
      · rw [if_pos hb] at z; cases z
        subst hb
        exact hPtok _
      · rw [if_neg hb] at z
        by_cases hba : b = a
        · rw [if_pos hba] at z; cases z
          subst hba
          exact ⟨ha, by rw [List.length_map]; exact hl, vs, _, rv, ha⟩
        · rw [if_neg hba] at z; cases z
    · by_cases hb : b = Pt
      · exact .inr hb
      · rw [if_neg hb] at z
        by_cases hba : b = a
        · exact .inl hba
        · rw [if_neg hba] at z; exact absurd rfl z
theorem walk2 {l : OpenLaw} {n k j : Nat} {q : Program} {loose : List Str} {XP : (Str → Option Value) → Heap → Prop} {YP : World → Heap → Prop} {d : DefRec} {K : Params → Frag} {sp : Frag → Addr → Sp} {x : Str}
    (hn : l.most = some n) (hn2 : n ≤ sizeLine) (hdf : d.params.defaults = []) (hr : Room k callerA) (hrec : (recsOf q)[j]? = some d)
    (hY : ∀ (w : World) (h : Heap), YP w h → (K w.params).In h) (hKt : ∀ w : World, noTabs (K w.params) = true)
    (F : ∀ (w : World) (mg : Str → Option Value) (fa : Addr) (h : Heap), (K w.params).In h → h.Ns mainGlobals mg → mg d.name = some (.ref fa) →
      ∃ fd : FuncData, (∃ oc od sl, (K w.params).lookup fa = some ⟨oc, od, .func fd, sl⟩) ∧ (∀ (s : Shared) (u : Value), BindsTo s fd ⟨[u], []⟩ [(x, u)]) ∧
        ∀ (base : Heap) (c Pt : Addr), fd.code = .ref c → (K w.params).In base → base.Ns mainGlobals mg → BMain base mg → CodeHd base c Pt → FnG l.prog w (K w.params) mg base CX0 true k fa fd [x] fun _ => sp (K w.params) Pt)
    (hsp : ∀ (K : Frag) (Pt : Addr) (H : Hp) (a : Addr) (ns : List Int), ns.length ≤ n → SqL K H a (ns.map V.int) → H Pt = some (.tbl #[]) → sp K Pt [.ref a] H (fun v _ => v = .bl true) E0) (hi : importsNone q = true) :
    WalkO q loose XP YP l.row.toRowW d [] (fun f vs => PySem.call f vs) := by
  refine Att.attach_call hn hdf fun w s₀ s₁ mg mb fa o pm cd doc a vs ns G Y ho hd hcd hmg hobj hints hlen hg => ?_
  have KX := hY w _ Y
  obtain ⟨fd, ⟨oc, od, sl, lk⟩, hb, hF⟩ := F w mg fa _ KX G.T.g hmg
  obtain ⟨a2, o2, fd2, c, Pt, t1, t2, t3, t4, t5, t6⟩ := G.T.tab d (List.mem_of_getElem? hrec)
  have ea : a2 = fa := Value.ref.inj (Option.some.inj (t1.symm.trans hmg))
  subst ea
  have eo := Option.some.inj (t2.symm.trans (KX _ _ lk))
  subst eo
  have efd : fd = fd2 := by injection t3
  subst efd
  have BM : BMain s₁.heap mg := by
    obtain ⟨bm, ob, b1, b2, b3, b4, b5, b6⟩ := G.T.bmain
    refine ⟨bm, ob, b1, b2, fun z => ?_, b3, b4, b5, b6⟩
    obtain ⟨o', es, ep, e, dd, _⟩ := G.T.g
    rw [z, e] at b3; cases b3
    rw [dd] at b6; cases b6
  exact law_call2 KX G.T.g G.T.b G.T.builtins G.T.nolimit (G.T.seer hi) hg hobj hints (Nat.le_trans hlen hn2) hr (CodeHd.of t5 t6) t6.2 (hKt w) BM (fun base b1 b2 b3 b4 => hF base c Pt t4 b1 b2 b3 b4) hb fun H hS hP => hsp _ Pt H a ns hlen hS hP
end SF
local macro_rules | `(tactic| walk_at "sf") => `(tactic| (repeat first
  | ((with_reducible apply L2.r_var); exact rfl)
  | with_reducible apply L2.r_c | with_reducible apply L2.r_seq | with_reducible apply L2.r_set | with_reducible apply L2.r_ret | with_reducible apply L2.r_op | with_reducible apply L2.r_un
  | with_reducible apply L2.r_i0 | with_reducible apply L2.r_u | with_reducible apply L2.r_test | with_reducible apply L2.r_tb | with_reducible apply L2.r_bl | with_reducible apply L2.r_eqi | with_reducible apply L2.r_nei
  | with_reducible apply L2.r_ifS | with_reducible apply L2.r_ifE | with_reducible apply L2.r_and | with_reducible apply L2.r_or | with_reducible apply L2.r_not | with_reducible apply L2.r_andV | with_reducible apply L2.r_orV | with_reducible apply L2.r_notV
  | with_reducible apply L2.r_nil | with_reducible apply L2.r_cons | with_reducible apply L2.r_call | with_reducible apply L2.r_cb | with_reducible apply L2.r_tup | with_reducible apply L2.r_lst | with_reducible apply L2.r_drop | with_reducible apply L2.r_next
  | with_reducible apply L2.r_tru | with_reducible apply L2.r_for | with_reducible apply L2.r_rng3 | with_reducible apply L2.r_gname | with_reducible apply L2.r_gcons | with_reducible apply L2.r_gnil | with_reducible apply L2.r_asg
  | with_reducible apply L2.r_ilist | with_reducible apply L2.r_rng1 | with_reducible apply L2.r_rng2 | with_reducible apply L2.r_ienum | with_reducible apply L2.r_irev | with_reducible apply L2.r_part | with_reducible apply L2.r_nopart | with_reducible apply L2.r_slice | with_reducible apply L2.r_sub
  | ((with_reducible show (_ ≤ PySem.sizeLine) ∧ _); refine And.intro (L2.small4 (Nat.le_of_ble_eq_true rfl)) ?_)))
namespace K10
open PySem PyProof.Rows L2 SF PySem.W
noncomputable def top (i : Nat) : Stmt := PySem.Challenge.pw_surefoot_k10_refusals_apart.main.body.getD i (.Pass ⟨0, 0, 0, 0⟩)
noncomputable abbrev s_ratio : Stmt := top 9
theorem sc_ratio : FnScope ["top", "under", "shared"] ["top", "under"] (defScope s_ratio) := ⟨rfl, rfl, rfl, by decide +kernel, rfl, by decide +kernel, by decide +kernel⟩
noncomputable abbrev s_law_cell : Stmt := top 11
theorem sc_law_cell : FnScope ["_law_script", "_law_k"] ["_law_script", "_law_k"] (defScope s_law_cell) := ⟨rfl, rfl, rfl, by decide +kernel, rfl, by decide +kernel, by decide +kernel⟩
noncomputable abbrev s_law_drawn : Stmt := top 12
theorem sc_law_drawn : FnScope ["_law_cell_here", "_law_k", "_law_more"] ["_law_cell_here", "_law_k"] (defScope s_law_drawn) := ⟨rfl, rfl, rfl, by decide +kernel, rfl, by decide +kernel, by decide +kernel⟩
noncomputable abbrev s_law_word : Stmt := top 13
theorem sc_law_word : FnScope ["_law_e", "_law_flags"] ["_law_e"] (defScope s_law_word) := ⟨rfl, rfl, rfl, by decide +kernel, rfl, by decide +kernel, by decide +kernel⟩
noncomputable abbrev s_law_told : Stmt := top 14
theorem sc_law_told : FnScope ["_law_rule", "_law_e"] ["_law_rule"] (defScope s_law_told) := ⟨rfl, rfl, rfl, by decide +kernel, rfl, by decide +kernel, by decide +kernel⟩
noncomputable abbrev s_law : Stmt := top 15
theorem sc_law : FnScope ["_law_script", "_law_words", "_law_made", "_law_k", "_law_place"] ["_law_script"] (defScope s_law) := ⟨rfl, rfl, rfl, by decide +kernel, rfl, by decide +kernel, by decide +kernel⟩
structure Nm (mg : Str → Option Value) : Prop where
  n_len : mg "len" = none
  n_range : mg "range" = none
  n_isinstance : mg "isinstance" = none
  n_str : mg "str" = none
  n_ValueError : mg "ValueError" = none
theorem mulOk {i j : Int} {m n : Nat} (hi : Bd m i) (hj : Bd n j) (h : m + n ≤ 134217728) : IntMulOk i j := by
  have bits : ∀ {k : Nat} {x : Int}, Bd k x → Builtin.Int.intBits x ≤ k := fun {k x} hx => PySem.intBits_le_iff.mpr hx
  exact PySem.IntMulOk.of_le (bits hi) (bits hj) (by lia)
noncomputable def spCell (K : PySem.W.Frag) : Sp := fun vs H Q _ => ∃ (a : Addr) (ns : List Int) (k : Int), vs = [.ref a, .int k] ∧ SqL K H a (ns.map V.int) ∧ ns.length ≤ 63 ∧ 0 ≤ k ∧ ∀ (c : Int) (H' : Hp), Same H H' → Q (.int c) H'
noncomputable def spDrawn : Sp := fun vs H Q _ => ∃ c k : Int, vs = [.int c, .int k] ∧ ∀ m : Int, 0 ≤ m → Bd 128 m → Q (.int m) H
section
variable {P : Program} {w : World} {K : PySem.W.Frag} {mg : Str → Option Value} {base : Heap}
theorem ok_law_cell (T : Nm mg) (D : DefB K mg "_law_cell" s_law_cell ["_law_script", "_law_k"]) : FnB P w K mg base 1 "_law_cell" ["_law_script", "_law_k"] (spCell K) := by
  refine D.ok sc_law_cell (fun vs H Q E h => ?_) (fun f cdv A outer s H vs Q E hr h => ?_)
  · obtain ⟨a, ns, k, rfl, _⟩ := h
    rfl
  obtain ⟨a, ns, k, rfl, hS, hl, hk, q⟩ := h
  refine ⟨_, (pss_cons (ps_if (pt_cmpR (op_eqI hr.units0) (pv 0) (pe_lst pa_nil) (nomark _))
    (pss_one (ps_ret (pe_op op_mulL (pv 1) pe_int)))
    pss_nil)
    (pss_one (ps_ret (pe_op op_add (pe_ix ix_list (pv 0) (pe_op op_modN (pv 1) (pe_callB call_len_seq rfl T.n_len boot_len (pa_cons (pv 0) pa_nil))) (fun _ _ => rfl)) (pe_op op_mulL (pe_op op_fdivL (pv 1) (pe_callB call_len_seq rfl T.n_len boot_len (pa_cons (pv 0) pa_nil))) pe_int))))), ?_⟩
  walk_at "sf"
  intro p hp
  have g1 : Same H (upd H p (.lst [])) := Same.new hp _
  refine ⟨a, p, ns, [], rfl, rfl, g1.seq hS, SqL.of upd_same, ?_⟩
  walk_at "sf"
  refine ite2 (fun c => ?_) (fun c => ?_)
  · walk_at "sf"
    refine r_i (IntMulOk.of_right (by decide)) ?_
    exact q _ _ g1
  · have hne : ns ≠ [] := by simpa using c
    have hp1 : 0 < ns.length := List.length_pos_iff.mpr hne
    have em : (ns.map V.int).length = ns.length := List.length_map _
    have hpz : (0 : Int) < ((ns.map V.int).length : Nat) := by rw [em]; lia
    walk_at "sf"
    refine ⟨a, _, rfl, .inl (g1.seq hS), ?_⟩
    refine r_i (Int.ne_of_gt hpz) ?_
    rw [fmod_pos hpz]
    have h1 := Int.emod_nonneg k (Int.ne_of_gt hpz)
    have h2 := Int.emod_lt_of_pos k hpz
    obtain ⟨j, ej⟩ := Int.eq_ofNat_of_zero_le h1
    rw [ej] at h2 ⊢
    have hj : j < ns.length := by rw [em] at h2; lia
    refine r_ixL (g1.seq hS) (atI_nat (v := V.int ns[j]) (by rw [List.getElem?_map, List.getElem?_eq_getElem hj] <;> rfl)) ?_
    walk_at "sf"
    refine ⟨a, _, rfl, .inl (g1.seq hS), ?_⟩
    refine r_i ⟨Int.ne_of_gt hpz, (Bd.of_range (n := 64) (by lia) (by rw [em]; lia)).log2 (by decide)⟩ ?_
    walk_at "sf"
    refine r_i (IntMulOk.of_right (by decide)) ?_
    walk_at "sf"
    exact q _ _ g1
theorem ok_law_drawn (D : DefB K mg "_law_drawn" s_law_drawn ["_law_cell_here", "_law_k"]) : FnB P w K mg base 1 "_law_drawn" ["_law_cell_here", "_law_k"] spDrawn := by
  refine D.ok sc_law_drawn (fun vs H Q E h => ?_) (fun f cdv A outer s H vs Q E hr h => ?_)
  · obtain ⟨c, k, rfl, _⟩ := h
    rfl
  obtain ⟨c, k, rfl, q⟩ := h
  refine ⟨_, (pss_cons (ps_set (i := 2) sc_law_drawn.nd rfl (Or.inl rfl) (pe_op op_modN (pe_op op_add (pe_op op_mulL (pv 0) pe_int) (pe_op op_mulL (pe_op op_add (pv 1) pe_int) pe_int)) pe_int))
    (pss_one (ps_ret (pe_op op_modN (pe_op op_mulL (pv 2) (pv 2)) pe_int)))), ?_⟩
  walk_at "sf"
  refine r_i (IntMulOk.of_right (by decide)) ?_
  walk_at "sf"
  refine r_i (IntMulOk.of_right (by decide)) ?_
  walk_at "sf"
  refine r_i (by decide) ?_
  rw [fmod_pos (by decide)]
  generalize hm : (c * 6364136223846793005 + (k + 1) * 1442695040888963407) % 340282366920938463463374607431768211507 = m
  have m1 : 0 ≤ m := by rw [← hm]; exact Int.emod_nonneg _ (by decide)
  have m2 : m < 340282366920938463463374607431768211507 := by rw [← hm]; exact Int.emod_lt_of_pos _ (by decide)
  have mz : Bd 129 m := Bd.of_range m1 (Int.lt_of_lt_of_le m2 (by decide))
  walk_at "sf"
  refine r_i (mulOk mz mz (by decide)) ?_
  walk_at "sf"
  refine r_i (by decide) ?_
  rw [fmod_pos (by decide)]
  exact q _ (Int.emod_nonneg _ (by decide)) (Bd.of_range (Int.emod_nonneg _ (by decide)) (Int.lt_of_lt_of_le (Int.emod_lt_of_pos _ (by decide)) (by decide)))
end
noncomputable def nmW : Nat → Str
  | 0 => "NoRatio"
  | 1 => "NoNumber"
  | 2 => "TooGreat"
  | 3 => "BadText"
  | _ => "BadRow"
theorem nm_at {i : Nat} (h : i < 5) : atI [V.str "NoRatio", V.str "NoNumber", V.str "TooGreat", V.str "BadText", V.str "BadRow"] (i : Int) = some (V.str (nmW i)) := by
  match i, h with
  | 0, _ => exact atI_nat rfl
  | 1, _ => exact atI_nat rfl
  | 2, _ => exact atI_nat rfl
  | 3, _ => exact atI_nat rfl
  | 4, _ => exact atI_nat rfl
structure Ad where
  cf : Addr
  c0 : Addr
  c1 : Addr
  c2 : Addr
  c3 : Addr
  c4 : Addr
noncomputable def Ad.l (a : Ad) : List Addr := [a.c0, a.c1, a.c2, a.c3, a.c4]
noncomputable def Ad.c (a : Ad) (i : Nat) : Addr := a.l.getD i 0
noncomputable def askB (K : Frag) (D : Addr) : Bool := (findIn K (.ref D) "__getattribute__" == some (some (.builtin "BaseException.__getattribute__"))) && (findIn K (.ref D) "__getattr__" == some none) && (subIn K (.ref D) (.type "BaseException") == some true)
  && (findIn K (.ref D) "__class__" == some (some (.builtin "object.__class__"))) && (specialIn K (.builtin "object.__class__") "__get__" == some (some (.builtin "getset_descriptor.__get__"))) && (takesIn K (.builtin "object.__class__") == some true)
  && (mroIn K D (.type "object") == some true) && hasDictIn K D && (findIn K (.ref D) "__str__" == some (some (.builtin "BaseException.__str__")))
theorem ask_of {K : Frag} {D : Addr} (h : askB K D = true) : XAsk K D := by
  simp only [askB, Bool.and_eq_true, beq_iff_eq] at h
  obtain ⟨⟨⟨⟨⟨⟨⟨⟨a, b⟩, c⟩, d⟩, e⟩, f⟩, g⟩, i⟩, j⟩ := h
  exact ⟨a, b, c, d, e, f, g, i, j⟩
noncomputable def okB (K : Frag) (a : Ad) : Bool := ((List.range 5).all fun i => askB K (a.c i) && keepIn K (.ref (a.c i)) && (kitOne K (.ref (a.c i)) (.ref a.cf) == some true) && (kitOne K (.ref (a.c i)) (.type "ValueError") == some true)
    && ((List.range 5).all fun j => kitOne K (.ref (a.c i)) (.ref (a.c j)) == some (i == j)) && (i == 3 || excIn K (a.c i) bmV "ValueError.__new__"))
  && (exmOne K (.ref a.c0) (.ref a.cf) == some true) && (findIn K (.ref a.c3) "at" == some none)
structure Cl5 (K : Frag) (mg : Str → Option Value) (a : Ad) : Prop where
  mf : mg "FootError" = some (.ref a.cf)
  m0 : mg "NoRatio" = some (.ref a.c0)
  m1 : mg "NoNumber" = some (.ref a.c1)
  m2 : mg "TooGreat" = some (.ref a.c2)
  m3 : mg "BadText" = some (.ref a.c3)
  m4 : mg "BadRow" = some (.ref a.c4)
  ok : okB K a = true
section
variable {K : Frag} {mg : Str → Option Value} {a : Ad} {i j : Nat}
theorem Cl5.all (C : Cl5 K mg a) (h : i < 5) : XAsk K (a.c i) ∧ keepIn K (.ref (a.c i)) = true ∧ kitOne K (.ref (a.c i)) (.ref a.cf) = some true ∧ kitOne K (.ref (a.c i)) (.type "ValueError") = some true ∧
    (∀ j, j < 5 → kitOne K (.ref (a.c i)) (.ref (a.c j)) = some (i == j)) ∧ (i ≠ 3 → XCls K (a.c i)) := by
  have q := C.ok
  simp only [okB, Bool.and_eq_true] at q
  have r := (List.all_eq_true.mp q.1.1) i (List.mem_range.mpr h)
  simp only [Bool.and_eq_true, beq_iff_eq, Bool.or_eq_true] at r
  obtain ⟨⟨⟨⟨⟨r1, r2⟩, r3⟩, r4⟩, r5⟩, r6⟩ := r
  refine ⟨ask_of r1, r2, r3, r4, fun j hj => ?_, fun n => r6.resolve_left n⟩
  have z := (List.all_eq_true.mp r5) j (List.mem_range.mpr hj)
  exact beq_iff_eq.mp z
theorem Cl5.exm (C : Cl5 K mg a) : exmOne K (.ref a.c0) (.ref a.cf) = some true := by
  have q := C.ok
  simp only [okB, Bool.and_eq_true, beq_iff_eq] at q
  exact q.1.2
theorem Cl5.at' (C : Cl5 K mg a) : findIn K (.ref a.c3) "at" = some none := by
  have q := C.ok
  simp only [okB, Bool.and_eq_true, beq_iff_eq] at q
  exact q.2
end
end K10
namespace K10
open PySem PyProof.Rows L2 SF PySem.W
section
variable {P : Program} {w : World} {K : Frag} {mg : Str → Option Value} {base : Heap} {a : Ad}
theorem boot_ValueError : bootBuiltins "ValueError" = some (.type "ValueError") := by kernel_rfl
theorem pe_cls {X : Cx} {x : Str} {c : Addr} {pos : Pos} (hg : Gl X x) (hm : X.mg x = some (.ref c)) (hd : (x == ("__debug__" : Str)) = false := by decide) : PE X (.Name x pos) (tC (.ref c)) := pe_glob (v := .ref c) hg hm rfl hd
noncomputable def fl (i : Nat) : List Bool := [i == 0, i == 1, i == 2, i == 3, i == 4]
theorem fl_count (h : i < 5) : (fl i).countP (· == true) = 1 := by
  match i, h with
  | 0, _ => rfl
  | 1, _ => rfl
  | 2, _ => rfl
  | 3, _ => rfl
  | 4, _ => rfl
theorem fl_at (h : i < 5) : (fl i).getD i (!true) = true ∧ ∀ j, j < i → (fl i).getD j (!true) = (!true) := by
  match i, h with
  | 0, _ => exact ⟨rfl, fun j hj => by lia⟩
  | 1, _ => exact ⟨rfl, fun j hj => by match j, hj with | 0, _ => rfl⟩
  | 2, _ => exact ⟨rfl, fun j hj => by match j, hj with | 0, _ => rfl | 1, _ => rfl⟩
  | 3, _ => exact ⟨rfl, fun j hj => by match j, hj with | 0, _ => rfl | 1, _ => rfl | 2, _ => rfl⟩
  | 4, _ => exact ⟨rfl, fun j hj => by match j, hj with | 0, _ => rfl | 1, _ => rfl | 2, _ => rfl | 3, _ => rfl⟩
noncomputable def spWord (a : Ad) : Sp := fun vs H Q _ => ∃ x i t tb d, vs = [.ref x] ∧ i < 5 ∧ H x = some (excO x (a.c i) t tb d) ∧ DctOk H d ∧ ∀ H', Same H H' → Q (.str (nmW i)) H'
theorem ok_law_word (T : Nm mg) (C : Cl5 K mg a) (D : DefB K mg "_law_word" s_law_word ["_law_e"]) : FnGB P w K mg base CX0 false 1 "_law_word" ["_law_e"] (fun _ => spWord a) := by
  refine D.okG sc_law_word (fun s vs H Q E h => ?_) (fun f cdv A outer s H vs Q E hcd hr h => ?_)
  · obtain ⟨x, i, t, tb, d, rfl, _⟩ := h
    rfl
  obtain ⟨x, i, t, tb, d, rfl, hi, hx, hd, q⟩ := h
  obtain ⟨ask, _, kF, kV, kk, _⟩ := C.all hi
  have isx : ∀ (H1 : Hp) (Q : VK) (j : Nat), Same H H1 → j < 5 → Q (.bl (i == j)) H1 → rIsX K [.ref x, .ref (a.c j)] H1 Q := fun H1 Q j s1 hj q => ⟨x, a.c i, t, tb, d, .ref (a.c j), i == j, rfl, s1 _ _ hx, hd.same s1, ask, nofun, kk j hj, q⟩
  have isF : ∀ (H1 : Hp) (Q : VK), Same H H1 → Q (.bl true) H1 → rIsX K [.ref x, .ref a.cf] H1 Q := fun H1 Q s1 q => ⟨x, a.c i, t, tb, d, .ref a.cf, true, rfl, s1 _ _ hx, hd.same s1, ask, nofun, kF, q⟩
  have isV : ∀ (H1 : Hp) (Q : VK), Same H H1 → Q (.bl true) H1 → rIsX K [.ref x, .ty "ValueError"] H1 Q := fun H1 Q s1 q => ⟨x, a.c i, t, tb, d, .ty "ValueError", true, rfl, s1 _ _ hx, hd.same s1, ask, nofun, kV, q⟩
  refine ⟨_, PSs.nox (pss_cons (ps_set (i := 1) sc_law_word.nd rfl (Or.inl rfl) (pe_lst (pa_cons (pe_callB call_isx rfl T.n_isinstance boot_isinstance (pa_cons (pv 0) (pa_cons (pe_cls rfl C.m0) pa_nil))) (pa_cons (pe_callB call_isx rfl T.n_isinstance boot_isinstance (pa_cons (pv 0) (pa_cons (pe_cls rfl C.m1) pa_nil)))
      (pa_cons (pe_callB call_isx rfl T.n_isinstance boot_isinstance (pa_cons (pv 0) (pa_cons (pe_cls rfl C.m2) pa_nil))) (pa_cons (pe_callB call_isx rfl T.n_isinstance boot_isinstance (pa_cons (pv 0) (pa_cons (pe_cls rfl C.m3) pa_nil))) pa_nil))))))
    (pss_cons (ps_set (i := 1) sc_law_word.nd rfl (Or.inl rfl) (pe_op op_cat (pv 1) (pe_lst (pa_cons (pe_callB call_isx rfl T.n_isinstance boot_isinstance (pa_cons (pv 0) (pa_cons (pe_cls rfl C.m4) pa_nil))) pa_nil))))
    (pss_cons (ps_if (PW.pt (pw_or (pt_cmpR op_ne (pe_bm PySem.F.plainAttrs_list PySem.F.slot_list_count PySem.F.type_list_count mt_cntB (pv 1) (pa_cons pe_bl pa_nil)) pe_int (nomark _))
        (pw_or (pt_not (pt_val (pe_callB call_isx rfl T.n_isinstance boot_isinstance (pa_cons (pv 0) (pa_cons (pe_cls rfl C.mf) pa_nil))))) (pw_or1 (pt_not (pt_val (pe_callB call_isx rfl T.n_isinstance boot_isinstance (pa_cons (pv 0) (pa_cons (pe_ty rfl T.n_ValueError boot_ValueError) pa_nil)))))))))
      (pss_one (ps_ret pe_str)) pss_nil)
    (pss_one (ps_ret (pe_ix ix_list (pe_lst (pa_cons pe_str (pa_cons pe_str (pa_cons pe_str (pa_cons pe_str (pa_cons pe_str pa_nil)))))) (pe_bm PySem.F.plainAttrs_list PySem.F.slot_list_index PySem.F.type_list_index mt_idxB (pv 1) (pa_cons pe_bl pa_nil)) (fun _ _ => rfl))))))), ?_⟩
  walk_at "sf"
  refine isx _ _ 0 (Same.refl _) (by decide) ?_
  walk_at "sf"
  refine isx _ _ 1 (Same.refl _) (by decide) ?_
  walk_at "sf"
  refine isx _ _ 2 (Same.refl _) (by decide) ?_
  walk_at "sf"
  refine isx _ _ 3 (Same.refl _) (by decide) ?_
  walk_at "sf"
  intro p1 hp1
  have s1 := Same.new hp1 (.lst [V.bl (i == 0), V.bl (i == 1), V.bl (i == 2), V.bl (i == 3)])
  walk_at "sf"
  refine isx _ _ 4 s1 (by decide) ?_
  walk_at "sf"
  intro p2 hp2
  have s2 := s1.trans (Same.new hp2 (.lst [V.bl (i == 4)]))
  have n12 : p1 ≠ p2 := fun z => by subst z; rw [upd_same] at hp2; cases hp2
  refine ⟨p1, p2, [V.bl (i == 0), V.bl (i == 1), V.bl (i == 2), V.bl (i == 3)], [V.bl (i == 4)], rfl, rfl, by rw [upd_ne n12, upd_same], by rw [upd_same], small4 (show 5 ≤ 1000 by decide), fun p3 hp3 => ?_⟩
  have s3 := s2.trans (Same.new hp3 (.lst ([V.bl (i == 0), V.bl (i == 1), V.bl (i == 2), V.bl (i == 3)] ++ [V.bl (i == 4)])))
  generalize hH3 : upd (upd (upd H p1 _) p2 _) p3 _ = H3 at s3 ⊢
  have h3 : SqL K H3 p3 ((fl i).map V.bl) := by subst hH3; exact SqL.of upd_same
  clear hH3 s1 s2
  walk_at "sf"
  refine ⟨_, rfl, ⟨.inl ⟨rfl, _, h3⟩, ?_⟩⟩
  walk_at "sf"
  refine ⟨p3, fl i, true, rfl, rfl, h3, ?_⟩
  rw [fl_count hi]
  walk_at "sf"
  refine iteF ?_
  walk_at "sf"
  refine isF _ _ s3 ?_
  walk_at "sf"
  refine iteF ?_
  walk_at "sf"
  refine isV _ _ s3 ?_
  walk_at "sf"
  refine iteF ?_
  walk_at "sf"
  intro p4 hp4
  have s4 := s3.trans (Same.new hp4 (.lst [V.str "NoRatio", V.str "NoNumber", V.str "TooGreat", V.str "BadText", V.str "BadRow"]))
  walk_at "sf"
  refine ⟨_, rfl, ⟨.inl ⟨rfl, _, (Same.new hp4 _).seq h3⟩, ?_⟩⟩
  walk_at "sf"
  refine ⟨p3, fl i, true, i, rfl, rfl, (Same.new hp4 _).seq h3, hi, (fl_at hi).1, (fl_at hi).2, ?_⟩
  refine r_ixL (SqL.of upd_same) (nm_at hi) ?_
  exact q _ s4
noncomputable def spRz (c : Addr) : Sp := fun vs H Q E => ∃ t : Int, vs = [.int t, .int 0] ∧ ∀ x tp m, H x = none → H tp = none → x ≠ tp → E (.ref c) none (upd (upd H tp (.tup [.str m])) x (excO x c tp .none none))
theorem ok_ratio (C : Cl5 K mg a) (D : DefB K mg "ratio" s_ratio ["top", "under"]) : FnGB P w K mg base (CXF P w) true 1 "ratio" ["top", "under"] (fun _ => spRz a.c0) := by
  refine D.okG sc_ratio (fun s vs H Q E h => ?_) (fun f cdv A outer s H vs Q E hcd hr h => ?_)
  · obtain ⟨t, rfl, _⟩ := h
    rfl
  obtain ⟨t, rfl, q⟩ := h
  have X0 : XCls K a.c0 := (C.all (i := 0) (by decide)).2.2.2.2.2 (by decide)
  refine ⟨_, (pss_cons (ps_if (pt_cmpR op_eq (pv 1) pe_int (nomark _)) (pss_one (ps_raise (E := E) leaves_cxG rfl rfl C.m0 X0 (pa_cons pe_str pa_nil))) pss_nil) pss_never), ?_⟩
  walk_at "sf"
  refine iteT ?_
  refine ⟨by decide, fun x tp e1 e2 e3 => q x tp _ e1 e2 e3⟩
noncomputable def lamE : Expr := match (defBody s_law).getLast? with
  | some (.Return (some (.Compare (.Call _ (l :: _) _ _) _ _ _)) _) => l
  | _ => .Constant .none 0 ⟨0, 0, 0, 0⟩
noncomputable def lamA : Arguments := match lamE with
  | .Lambda x _ _ _ => x
  | _ => { posonlyargs := [], args := [], vararg := none, kwonlyargs := [], kw_defaults := [], kwarg := none, defaults := [] }
noncomputable def lamB : Expr := match lamE with
  | .Lambda _ b _ _ => b
  | e => e
noncomputable def lamS : Scope := match lamE with
  | .Lambda _ _ sc _ => sc
  | _ => { kind := .function, names := [], isGenerator := false, isCoroutine := false }
noncomputable abbrev lamQ : Str := ("law" : Str) ++ ".<locals>." ++ "<lambda>"
theorem sc_lam : LamScope ["_law_place"] [] lamS := ⟨rfl, rfl, rfl, by decide +kernel, by decide +kernel⟩
noncomputable def spTold : Shared → Sp := fun s vs H Q _ => ∃ f c' cell u p, vs = [.ref f] ∧ H f = some (lamO f "<lambda>" lamQ lamA lamB lamS [("_law_place", cell)] c') ∧ H c' = some (cdO c' lamQ) ∧ H cell = none ∧ s.heap.IsCell cell (some u) ∧ RelV (.int p) u ∧ ∀ H', Q (.str "NoRatio") H'
theorem ok_told (C : Cl5 K mg a) (g_word : FnGB P w K mg base CX0 false 6 "_law_word" ["_law_e"] (fun _ => spWord a)) (g_ratio : FnGB P w K mg base (CXF P w) true 4 "ratio" ["top", "under"] (fun _ => spRz a.c0)) (D : DefB K mg "_law_told" s_law_told ["_law_rule"]) :
    FnGB P w K mg base CX0 true 7 "_law_told" ["_law_rule"] spTold := by
  refine D.okG sc_law_told (fun s vs H Q E h => ?_) (fun f0 cdv A outer s H vs Q E hcd hr h => ?_)
  · obtain ⟨f, c', cell, u, p, rfl, _⟩ := h
    rfl
  obtain ⟨f, c', cell, u, p, rfl, hf, hc, hn, hcell, hu, q⟩ := h
  obtain ⟨E1, hE1⟩ : ∃ E1 : XK, E1 = fun c d _ => c = .ref a.c0 ∧ d = none := ⟨_, rfl⟩
  obtain ⟨R, hR⟩ : ∃ R : Addr → Hp → VK → Prop, R = fun f1 H1 _ => f1 = f ∧ H1 f = some (lamO f "<lambda>" lamQ lamA lamB lamS [("_law_place", cell)] c') ∧ H1 c' = some (cdO c' lamQ) := ⟨_, rfl⟩
  have run : ∀ pins pins' σ1 H1 s1 f1 Q1, Inv (inTry (cxG CX0 true P w K mg base ["_law_rule", "_law_e"] "_law_told" (defScope s_law_told) f0 cdv A outer s H E) pins E1) pins' σ1 H1 s1 → R f1 H1 Q1 →
      FnAt f1 s1.heap ∧ codeAny (model P w) (A.deeper (envOfC "_law_told" (defScope s_law_told) s.heap.objs.size f0 cdv)) (.call (.ref f1) ⟨[], []⟩) (CR (CXF P w) (envOfC "_law_told" (defScope s_law_told) s.heap.objs.size f0 cdv :: outer) P w H1 s1 Q1 E1) s1 := by
    intro pins pins' σ1 H1 s1 f1 Q1 J r
    rw [hR] at r
    obtain ⟨rfl, hf1, hc1⟩ := r
    obtain ⟨pm, ctv, ho⟩ := (J.hok _ _ hf1).1
    obtain ⟨oc, vs, tq, e1, e2, e3⟩ := (J.hok _ _ hc1).1
    obtain ⟨ob, hob, hod⟩ := hcell
    obtain ⟨sl, hob1⟩ := J.base.any hob hn (fun z => absurd (show cell ∈ ([] : List Addr) from z) (by simp))
    have celln : H1 cell = none := J.base.free cell ob hob hn (fun z => absurd (show cell ∈ ([] : List Addr) from z) (by simp))
    have cell1 : s1.heap.IsCell cell (some u) := ⟨_, hob1, hod⟩
    have one : ∀ x c, ([("_law_place", cell)] : List (Str × Addr)).lookup x = some c → x = "_law_place" ∧ c = cell := fun x c e => by
      rw [List.lookup_cons] at e
      by_cases z : x = "_law_place"
      · subst z
        simp only [beq_self_eq_true] at e
        exact ⟨rfl, (Option.some.inj e).symm⟩
      · rw [show (x == ("_law_place" : Str)) = false from beq_eq_false_iff_ne.mpr z] at e
        cases e
    refine ⟨⟨_, _, _, _, ho⟩, lam_run (CX := CXF P w) (cm := true) (k := 5) (N := ["_law_place"]) (ps := []) (us := []) sc_lam ho ⟨c', oc, vs, tq, rfl, e1, e2, e3⟩ J.env0 hr rfl (fun x c e => ?_) (fun x y c e1 e2 => (one x c e1).1.trans (one y c e2).1.symm) (fun x e => ?_) (σ := [some (.int p)]) rfl (fun i x v h1 h2 => ?_) fun hr2 => ⟨_, pe_fnG g_ratio (hr2.mono (by decide)) leaves_cxL.passes (pa_cons (pe_op op_sub (pv 0) pe_int) (pa_cons pe_int pa_nil)), ?_⟩⟩
    · obtain ⟨rfl, rfl⟩ := one x c e
      exact ⟨⟨_, cell1⟩, celln⟩
    · have : x = "_law_place" := (by decide +kernel : ∀ y ∈ lamS.names, y.2 = .free → y.1 = "_law_place") _ (PySem.mem_of_lookup e) rfl
      subst this
      exact ⟨cell, rfl⟩
    · match i, h1, h2 with
      | 0, h1, h2 =>
        cases h1; cases h2
        exact .inr ⟨rfl, cell, u, rfl, cell1, hu⟩
      | i + 1, h1, h2 => cases h1
    · walk_at "sf"
      refine ⟨_, rfl, fun x tp m _ _ _ => ?_⟩
      rw [hE1]
      exact ⟨rfl, rfl⟩
  refine ⟨_, pss_one (ps_try (E := E1) (i := 1) (c := a.cf) rfl rfl (fun pins => pss_one (ps_ret (pe_run (CX := CXF P w) (E := E1) (i := 0) (R := R) rfl (Or.inl rfl) leaves_try.passes (run pins)))) (fun a' => pss_one (ps_ret (pe_fnG g_word hr.mark pass0 (pa_cons (pv 1) pa_nil)))) rfl C.mf (fun C1 d H1 e => ?_) sc_law_told.nd rfl rfl), ?_⟩
  · rw [hE1] at e
    cases e.1
    exact C.exm
  · refine ⟨⟨f, rfl, by rw [hR]; exact ⟨rfl, hf, hc⟩⟩, fun σ' H' a1 C1 t tb d H1 hl ha hsub hE => ?_⟩
    rw [hE1] at hE
    obtain ⟨e1, rfl⟩ := hE
    cases e1
    obtain ⟨y0, y1, rfl⟩ : ∃ y0 y1, σ' = [y0, y1] := by
      match σ', hl with
      | [y0, y1], _ => exact ⟨y0, y1, rfl⟩
    walk_at "sf"
    exact ⟨a1, 0, t, tb, none, rfl, by decide, ha, .inl rfl, fun H2 _ => q H2⟩
end
end K10
namespace K10
open PySem PyProof.Rows L2 SF PySem.W
noncomputable abbrev s_init : Stmt := inClass (top 5) 0
theorem sc_init : FnScope ["self", "text", "at"] ["self", "text", "at"] (defScope s_init) := ⟨rfl, rfl, rfl, by decide +kernel, rfl, by decide +kernel, by decide +kernel⟩
structure Ini (K : Frag) (a : Ad) (fI : Addr) (fd : FuncData) : Prop where
  ex : ∃ (oc : Value) (od : Option Addr) (dV kV doc pm : Value) (an : Option Addr) (cdv ct : Value) (osl : Array (Option Value)),
    fd = fnOf "__init__" "BadText.__init__" (defArgs s_init) (defBody s_init) (defScope s_init) dV kV doc pm an cdv ct ∧ K.lookup fI = some ⟨oc, od, .func fd, osl⟩ ∧ codeIn K cdv "BadText.__init__" = true
  b1 : ∃ t, Binds K fd ["self", "text", "at"] [.int 0 t]
  b2 : Binds K fd ["self", "text", "at"] []
  fn : typeIn K (.ref fI) = some (.type "function")
  cls : XClsI K a.c3 fI
  ov : excOver K a.c3 = true
  sa : findIn K (.ref a.c3) "__setattr__" = some (some (.builtin "object.__setattr__"))
  ob : mroIn K a.c3 (.type "object") = some true
  ga : specialIn K (.ref a.cf) "__getattribute__" = some (some (.builtin "type.__getattribute__"))
  rd : readsIn K a.cf (.type "type") = true
  fc : findCls K (.ref a.cf) (.type "type") "__init__" = some (.val (.builtin "ValueError.__init__"))
section
variable {P : Program} {w : World} {K : Frag} {mg : Str → Option Value} {base : Heap} {a : Ad} {fI : Addr} {fd : FuncData}
noncomputable def spInit (c : Addr) : Sp := fun vs H Q _ => ∃ x m k tp, vs = [.ref x, .str m, .int k] ∧ H x = some (excO x c tp .none none) ∧ ∀ tp' dx, H tp' = none → H dx = none → tp' ≠ dx → tp' ≠ x → dx ≠ x →
  Q .non (upd (upd (upd (upd H tp' (.tup [.str m])) x (excO x c tp' .none none)) dx (.xd [("at", .int k)])) x (excO x c tp' .none (some dx)))
theorem ok_init (C : Cl5 K mg a) (I : Ini K a fI fd) : FnOk P w K mg base CX0 1 fI fd ["self", "text", "at"] (spInit a.c3) := by
  obtain ⟨oc, od, dV, kV, doc, pm, an, cdv, ct, osl, rfl, lk, hcd⟩ := I.ex
  refine fn_of lk hcd sc_init (fun vs H Q E h => ?_) fun A outer s H vs Q E hr h => ?_
  · obtain ⟨x, m, k, tp, rfl, _⟩ := h
    rfl
  obtain ⟨x, m, k, tp, rfl, hx, q⟩ := h
  refine ⟨_, PSs.nox (pss_cons (ps_expr (pe_xinit (fI := fI) (pl := ?pl) rfl C.mf I.ga I.rd I.fc (pa_cons (pv 0) (pa_cons (pv 1) pa_nil)))) (pss_one (ps_xset (pv 0) (pv 2) ?sw))), ?_⟩
  case sw => rfl
  walk_at "sf"
  unfold tXinit
  walk_at "sf"
  refine ⟨x, _, _, tp, _, _, rfl, hx, I.cls, (by decide : 1 ≤ 1000), fun tp' h1 n1 => ?_⟩
  walk_at "sf"
  unfold sXset
  walk_at "sf"
  refine ⟨x, a.c3, tp', .none, rfl, upd_same, I.ov, I.sa, I.ob, C.at', fun dx h2 n2 => ?_⟩
  have h3 : dx ≠ tp' := fun z => by subst z; rw [upd_ne n2, upd_same] at h2; cases h2
  have h4 : H dx = none := by rw [upd_ne n2, upd_ne h3] at h2; exact h2
  exact q tp' dx h1 h4 (Ne.symm h3) n1 n2
noncomputable def Made (H : Hp) (a : Ad) (ws : Str) (xs : List Addr) : Prop := xs.length = 5 ∧ ∀ i x, xs[i]? = some x → ∃ t d, H x = some (excO x (a.c i) t .none d) ∧ H t = some (.tup [.str ws]) ∧ DctOk H d ∧ (i = 3 → ∃ dx, d = some dx ∧ H dx = some (.xd [("at", .int 0)]))
theorem Made.same {H H' : Hp} {ws : Str} {xs : List Addr} (h : Made H a ws xs) (s : Same H H') : Made H' a ws xs := ⟨h.1, fun i x e => by
  obtain ⟨t, d, h1, h2, h3, h4⟩ := h.2 i x e
  exact ⟨t, d, s _ _ h1, s _ _ h2, h3.same s, fun z => by obtain ⟨dx, e1, e2⟩ := h4 z; exact ⟨dx, e1, s _ _ e2⟩⟩⟩
theorem same_exc {H : Hp} {x tp C : Addr} {vs : List V} (h1 : H x = none) (h2 : H tp = none) : Same H (upd (upd H tp (.tup vs)) x (excO x C tp .none none)) := fun b o e => by
  rw [upd_ne (ne_of_none e h1), upd_ne (ne_of_none e h2)]; exact e
theorem same_bad {H : Hp} {x tp tp' dx C : Addr} {vs ws : List V} {fs : List (Str × V)} (h1 : H x = none) (h2 : H tp = none) (h3 : H tp' = none) (h4 : H dx = none) :
    Same H (upd (upd (upd (upd (upd (upd H tp (.tup vs)) x (excO x C tp .none none)) tp' (.tup ws)) x (excO x C tp' .none none)) dx (.xd fs)) x (excO x C tp' .none (some dx))) := fun b o e => by
  rw [upd_ne (ne_of_none e h1), upd_ne (ne_of_none e h4), upd_ne (ne_of_none e h1), upd_ne (ne_of_none e h3), upd_ne (ne_of_none e h1), upd_ne (ne_of_none e h2)]; exact e
theorem bad_end {H : Hp} {Q : Hp → Prop} {c x tp : Addr} {m : Str} {k : Int} {vs : List V} (h1 : H x = none) (h2 : H tp = none)
    (q : ∀ t dx H', Same H H' → H' x = some (excO x c t .none (some dx)) → H' t = some (.tup [.str m]) → H' dx = some (.xd [("at", .int k)]) → Q H') :
    spInit c [.ref x, .str m, .int k] (upd (upd H tp (.tup vs)) x (excO x c tp .none none)) (fun v H2 => v = .non ∧ Q H2) E0 := by
  refine ⟨x, m, k, tp, rfl, upd_same, fun tp' dx e1 e2 n1 n2 n3 => ⟨rfl, ?_⟩⟩
  have t1 : H tp' = none := by
    by_cases z : tp' = tp
    · subst z; exact h2
    · rw [upd_ne n2, upd_ne z] at e1; exact e1
  have t2 : H dx = none := by
    by_cases z : dx = tp
    · subst z; exact h2
    · rw [upd_ne n3, upd_ne z] at e2; exact e2
  exact q tp' dx _ (same_bad h1 h2 t1 t2) upd_same (by rw [upd_ne n2, upd_ne n1, upd_ne n2, upd_same]) (by rw [upd_ne n3, upd_same])
noncomputable def tCallS (R : List V → Hp → L2.St → VK → Prop) (t : TA) : TE := fun σ H Q => t σ H fun vs H1 => R vs H1 σ Q
theorem pe_fnS {X : Cx} {CX : CXT} {cm : Bool} {k : Nat} {ps : List Str} {E : XK} {x : Str} {p pos : Pos} {e : Expr} {es : List Expr} {t : TA} {sp : Shared → Sp} {R : List V → Hp → L2.St → VK → Prop} (F : FnGB X.prog X.w X.K X.mg X.base CX cm k x ps sp) (hr : RoomG cm k X.A) (hx : Passes CX X E) (ha : PA X (e :: es) t)
    (hR : ∀ pins σ H s vs Q, Inv X pins σ H s → R vs H σ Q → sp s vs H Q E)
    (hg : Gl X x := by rfl) (hdb : (x == ("__debug__" : Str)) = false := by decide) (he : starEach (e :: es) X.env = (false, eval e X.env) :: starEach es X.env := by rfl)
    (hpl : (backTo pos (starEach es X.env)).any (·.1) = false := by rfl) : PE X (.Call (.Name x p) (e :: es) [] pos) (tCallS R t) := by
  obtain ⟨f, fd, a, b, c, d⟩ := F.ex
  intro pins s σ H Q I h
  refine wpAny_Call_Name_kw (ld_glob I hg b ?_ hdb)
  refine callWith_K (h₀ := X.base) I.ok.mod.kin c (thn (ha pos pins s σ H _ I h) fun us s1 ⟨vs, H1, I1, r, q⟩ => ⟨I1.kIn, ?_⟩) he hpl
  exact run_fnG a hr d hx I1 r (hR pins σ H1 s1 vs Q I1 q)
end
end K10
namespace K10
open PySem PyProof.Rows L2 SF PySem.W
theorem fm {x : Int} {m : Int} (hm : 0 < m) : x.fmod m = x % m ∧ 0 ≤ x % m ∧ x % m < m := ⟨fmod_pos hm, Int.emod_nonneg x (Int.ne_of_gt hm), Int.emod_lt_of_pos x hm⟩
theorem r_comp2 {σ : L2.St} {H : Hp} {Q : VK} {own : List Str} {fr : List Nat} {wi : TI} {g : TG} {te : TE} (Pj : It → Hp → Prop) (h : ∀ R : It → Hp → Prop, (∀ J H1, Pj J H1 → R J H1) → wi σ H R) (h2 : ∀ J H1, Pj J H1 → CompGo J own fr σ g te H1 Q) : tComp own fr wi g te σ H Q := h _ h2
theorem comp_rangeP {own : List Str} {fr : List Nat} {g : TG} {te : TE} {σ : L2.St} {H1 : Hp} {Q : VK} {lo : Int} {n : Nat} (Pv : List V → Prop) (hz : n ≤ sizeLine) (p0 : Pv [])
    (hs : ∀ (i : Nat) (r : L2.St) (ys : List V) (H2 : Hp), i < n → r.length = own.length → ys.length = i → Pv ys → Same H1 H2 → ∀ Z : V → L2.St → Hp → Prop, (∀ y σ4 H5, Same H2 H5 → Pv (ys ++ [y]) → (∃ r' : L2.St, r'.length = own.length ∧ σ4 = r' ++ cap fr σ) → Z y σ4 H5) → g (.int (lo + i)) (r ++ cap fr σ) H2 fun σ4 H4 => te σ4 H4 fun y H5 => Z y σ4 H5)
    (hq : ∀ D H2 ys, H1 D = none → Same H1 H2 → H2 D = some (.lst ys) → ys.length = n → Pv ys → Q (.ref D) H2) : CompGo (Itr lo n) own fr σ g te H1 Q := comp_range Pv hz p0 hs hq
section
variable {σ : L2.St} {H : Hp} {Q : VK} {t : TA} {te : TE}
theorem r_exc {C : Addr} (h : t σ H fun vs H1 => vs.length ≤ 1000 ∧ ∀ x tp, H1 x = none → H1 tp = none → x ≠ tp → Q (.ref x) (upd (upd H1 tp (.tup vs)) x (excO x C tp .none none))) : tExc C t σ H Q := h
theorem r_bad {C : Addr} {sp : Sp} {dvs : List V} {E : XK} (h : t σ H fun vs H1 => vs.length ≤ 1000 ∧ ∀ x tp, H1 x = none → H1 tp = none → x ≠ tp →
  sp (.ref x :: (vs ++ dvs)) (upd (upd H1 tp (.tup vs)) x (excO x C tp .none none)) (fun v H2 => v = .non ∧ Q (.ref x) H2) E) : tBad C sp dvs E t σ H Q := h
theorem r_xat {K : Frag} {f : Str} (h : te σ H fun x H1 => ∃ a C t tb dx fs v, x = .ref a ∧ H1 a = some (excO a C t tb (some dx)) ∧ H1 dx = some (.xd fs) ∧ XAsk K C ∧ findIn K (.ref C) f = some none ∧ fs.lookup f = some v ∧ Q v H1) : tXat K te f σ H Q := h
theorem r_callS {R : List V → Hp → L2.St → VK → Prop} (h : t σ H fun vs H1 => R vs H1 σ Q) : tCallS R t σ H Q := h
end
theorem ne_same {H : Hp} {Q : VK} {x : V} (hs : scal x x = true) (h : Q (.bl false) H) : rNe x x H Q := ⟨hs, by rw [decide_eq_true rfl]; exact h⟩
theorem eq_same {H : Hp} {Q : VK} {x : V} (hs : scal x x = true) (h : Q (.bl true) H) : rEq x x H Q := ⟨hs, by rw [decide_eq_true rfl]; exact h⟩
theorem letter (i : Int) (h0 : 0 ≤ i) (h7 : i < 7) : ∃ c, atI (("abc -'x" : Str).cps.toList) i = some c := by
  obtain ⟨n, rfl⟩ := Int.eq_ofNat_of_zero_le h0
  have hn : n < ("abc -'x" : Str).cps.toList.length := by
    have : ("abc -'x" : Str).cps.toList.length = 7 := by decide +kernel
    lia
  exact ⟨_, atI_nat (List.getElem?_eq_getElem hn)⟩
theorem joinable : ∀ {zs : List Str}, (∀ z ∈ zs, z.length = 1) → (zs.map (·.length)).sum = zs.length
  | [], _ => rfl
  | z :: zs, h => by
    rw [List.map_cons, List.sum_cons, h z (.head _), joinable fun y hy => h y (.tail _ hy), List.length_cons]
    lia
section
variable {P : Program} {w : World} {K : Frag} {mg : Str → Option Value} {base : Heap} {a : Ad} {fI : Addr} {fd : FuncData}
theorem clo (L fa c : Addr) : closureFor lamS (envOfC "law" (defScope s_law) L fa (.ref c)) = pure [(("_law_place" : Str), L + 1 + 1)] := by first | (rfl; done) | kernel_rfl
noncomputable def spLaw (K : Frag) (Pt : Addr) : Sp := fun vs H Q _ => ∃ (sa : Addr) (ns : List Int), vs = [.ref sa] ∧ SqL K H sa (ns.map V.int) ∧ ns.length ≤ 63 ∧ H Pt = some (.tbl #[]) ∧ ∀ H', Q (.bl true) H'
theorem ok_law {fa c Pt : Addr} {fdl : FuncData} (T : Nm mg) (C : Cl5 K mg a) (I : Ini K a fI fd) (g_law_cell : FnB P w K mg base 20 "_law_cell" ["_law_script", "_law_k"] (spCell K)) (g_law_drawn : FnB P w K mg base 20 "_law_drawn" ["_law_cell_here", "_law_k"] spDrawn)
    (g_word : FnB P w K mg base 20 "_law_word" ["_law_e"] (spWord a)) (g_told : FnGB P w K mg base CX0 true 20 "_law_told" ["_law_rule"] spTold) (g_init : FnOk P w K mg base CX0 19 fI fd ["self", "text", "at"] (spInit a.c3))
    (F : Fun K "law" "law" s_law fa fdl) (hfd : fdl.code = .ref c) (hc : CodeHd base c Pt) (B : SF.BMain base mg) : FnG P w K mg base CX0 true 21 fa fdl ["_law_script"] (fun _ => spLaw K Pt) := by
  refine F.okG sc_law (fun s vs H Q E h => ?_) (fun cdv A outer s H vs Q E hcd hcv hr0 h => ?_)
  · obtain ⟨sa, ns, rfl, _⟩ := h
    rfl
  obtain ⟨sa, ns, rfl, hS, hl, hP, q⟩ := h
  obtain rfl : Value.ref c = cdv := hfd.symm.trans hcv
  have hr := hr0.calm
  obtain ⟨t0, hb1⟩ := I.b1
  obtain ⟨cell, hce, hclo⟩ : ∃ cell, (envOfC "law" (defScope s_law) s.heap.objs.size fa (.ref c)).cells.lookup ("_law_place" : Str) = some cell ∧ closureFor lamS (envOfC "law" (defScope s_law) s.heap.objs.size fa (.ref c)) = pure [(("_law_place" : Str), cell)] := ⟨_, rfl, clo _ _ _⟩
  have x0 := (C.all (i := 0) (by decide)).2.2.2.2.2 (by decide)
  have x1 := (C.all (i := 1) (by decide)).2.2.2.2.2 (by decide)
  have x2 := (C.all (i := 2) (by decide)).2.2.2.2.2 (by decide)
  have x4 := (C.all (i := 4) (by decide)).2.2.2.2.2 (by decide)
  have kp := fun i (h : i < 5) => (C.all h).2.1
  have ask := fun i (h : i < 5) => (C.all h).1
  have hu : A.units + 3 + 2 < cLine := by have := hr0.un; exact Nat.lt_of_le_of_lt (by show A.units + 3 + 2 ≤ A.units + 3 + 16 * 20 + 200; lia) this
  obtain ⟨R, hR⟩ : ∃ R : List V → Hp → L2.St → VK → Prop, R = fun vs H1 σ Q1 => ∃ (f c' : Addr) (p : Int), vs = [.ref f] ∧ H1 f = some (lamO f "<lambda>" lamQ lamA lamB lamS [("_law_place", cell)] c') ∧ H1 c' = some (cdO c' lamQ) ∧ σ[4]? = some (some (.int p)) ∧ ∀ H', Q1 (.str "NoRatio") H' := ⟨_, rfl⟩
  refine ⟨_, PSs.nox (pss_cons (ps_set (i := 1) sc_law.nd rfl (Or.inl rfl) (pe_bm PySem.F.plainAttrs_str PySem.F.slot_str_join PySem.F.type_str_join mt_join pe_str (pa_cons
      (pe_comp rfl rfl (compOk (own := ["_law_k"]) (fr := [0]) (fs := ["_law_script"]) (by with_unfolding_all rfl) rfl (by decide +kernel) (by decide +kernel) (by exact ⟨rfl, trivial⟩) (by with_unfolding_all rfl) (by exact ⟨⟨rfl, rfl, rfl, Or.inl rfl⟩, trivial⟩)) (pi_range1 rfl T.n_range (pa_cons (pe_op op_modN (pe_fn g_law_cell hr (pa_cons (pv 0) (pa_cons pe_int pa_nil))) pe_int) pa_nil)) (fun _ _ _ _ _ => (pg_name (i := 0) (show List.Nodup (["_law_k", "_law_script"] : List Str) by decide +kernel) rfl (Or.inl rfl) (Or.inr rfl))) (fun _ _ _ _ _ => (pe_ix ix_str pe_str (pe_op op_modN (pe_fn g_law_drawn hr (pa_cons (pe_fn g_law_cell hr (pa_cons (pv 1) (pa_cons (pv 0) pa_nil))) (pa_cons (pv 0) pa_nil))) pe_int) (fun _ _ => rfl)))) pa_nil)))
    (pss_cons (ps_set (i := 2) sc_law.nd rfl (Or.inl rfl) (pe_lst (pa_cons (pe_exc rfl C.m0 (kp 0 (by decide)) x0 (pa_cons (pv 1) pa_nil)) (pa_cons (pe_exc rfl C.m1 (kp 1 (by decide)) x1 (pa_cons (pv 1) pa_nil)) (pa_cons (pe_exc rfl C.m2 (kp 2 (by decide)) x2 (pa_cons (pv 1) pa_nil))
      (pa_cons (pe_bad (dvs := [.int 0]) (E := E0) I.cls I.fn (kp 3 (by decide)) g_init hr rfl C.m3 hb1 (.cons ⟨t0, rfl⟩ .nil) pass0 (pa_cons (pv 1) pa_nil)) (pa_cons (pe_exc rfl C.m4 (kp 4 (by decide)) x4 (pa_cons (pv 1) pa_nil)) pa_nil)))))))
    (pss_cons (ps_for PassesOwn.never rfl (pi_range1 rfl T.n_range (pa_cons pe_int pa_nil)) (pg_name (i := 3) sc_law.nd rfl (Or.inl rfl))
      (pss_cons (ps_if (pt_cmpR op_ne (pe_callTy (call_strx hu) rfl T.n_str boot_str (pa_cons (pe_ix ix_list (pv 2) (pv 3) (fun _ _ => rfl)) pa_nil)) (pv 1) (nomark _)) (pss_one (ps_ret pe_bl)) pss_nil)
      (pss_one (ps_if (pt_cmpR op_ne (pe_fn g_word hr (pa_cons (pe_ix ix_list (pv 2) (pv 3) (fun _ _ => rfl)) pa_nil)) (pe_ix ix_list (pe_lst (pa_cons pe_str (pa_cons pe_str (pa_cons pe_str (pa_cons pe_str (pa_cons pe_str pa_nil)))))) (pv 3) (fun _ _ => rfl)) (nomark _)) (pss_one (ps_ret pe_bl)) pss_nil))))
    (pss_cons (ps_set (i := 4) sc_law.nd rfl (Or.inr rfl) (pe_op op_modN (pe_fn g_law_cell hr (pa_cons (pv 0) (pa_cons pe_int pa_nil))) pe_int))
    (pss_cons (ps_if (PW.pt (pw_or (pt_cmpR op_ne (pe_xat (pe_ix ix_list (pv 2) pe_int (fun _ _ => rfl)) rfl) pe_int (nomark _))
        (pw_or (pt_cmpR op_ne (pe_xat (pe_bad (dvs := []) (E := E0) I.cls I.fn (kp 3 (by decide)) g_init hr rfl C.m3 I.b2 .nil pass0 (pa_cons (pv 1) (pa_cons (pv 4) pa_nil))) rfl) (pv 4) (nomark _))
        (pw_or1 (pt_cmpR op_ne (pe_callTy (call_strx hu) rfl T.n_str boot_str (pa_cons (pe_bad (dvs := []) (E := E0) I.cls I.fn (kp 3 (by decide)) g_init hr rfl C.m3 I.b2 .nil pass0 (pa_cons (pv 1) (pa_cons (pv 4) pa_nil))) pa_nil)) (pv 1) (nomark _))))))
      (pss_one (ps_ret pe_bl)) pss_nil)
    (pss_one (ps_ret (pe_cmpR op_eq (pe_fnS (R := R) (E := E0) g_told (roomG hr) pass0 (pa_cons (pe_lam (P := Pt) (cl := [("_law_place", cell)]) rfl hc hclo rfl B) pa_nil) ?hR) pe_str (nomark _))))))))), ?_⟩
  case hR =>
    intro pins σ1 H1 s1 vs Q1 J r
    rw [hR] at r
    obtain ⟨f, c', p, rfl, e1, e2, e3, q1⟩ := r
    obtain ⟨m, hn, hlo⟩ := J.loc
    obtain ⟨u, ru, lk⟩ := hlo 4 "_law_place" (.int p) rfl e3 (Or.inr (Or.inl rfl))
    rcases lk with ⟨k1, _⟩ | ⟨_, c1, k2, k3⟩
    · cases k1
    · have ec : c1 = cell := Option.some.inj (k2.symm.trans hce)
      subst ec
      exact ⟨f, c', c1, u, p, rfl, e1, e2, J.freeC _ _ k2, k3, ru, q1⟩
  walk_at "sf"
  refine ⟨rfl, ?_⟩
  walk_at "sf"
  refine r_comp2 (fun J H1 => ∃ n : Nat, n < 9 ∧ J = Itr 0 n ∧ Same H H1) (fun R hR => ?_) ?_
  · walk_at "sf"
    refine ⟨sa, ns, _, rfl, hS, hl, by decide, fun c0 H1 s1 => ?_⟩
    walk_at "sf"
    refine r_i (by decide) ?_
    obtain ⟨a1, a2, a3⟩ := fm (x := c0) (m := 9) (by decide)
    rw [a1]
    walk_at "sf"
    exact ⟨_, rfl, by lia, by lia, hR _ _ ⟨(c0 % 9).toNat, by lia, rfl, s1⟩⟩
  rintro J H1 ⟨n, hn, rfl, s1⟩
  refine comp_rangeP (n := n) (fun ys => ∃ zs : List Str, ys = zs.map V.str ∧ ∀ z ∈ zs, z.length = 1) (small4 (by lia)) ⟨[], rfl, fun _ h => nomatch h⟩ ?_ ?_
  · rintro i r ys H2 hi hr2 hl2 ⟨zs, rfl, hz⟩ s12 Z hZ
    obtain ⟨y0, rfl⟩ := len1 hr2
    walk_at "sf"
    refine ⟨sa, ns, _, rfl, (s1.trans s12).seq hS, hl, by lia, fun c' H3 s23 => ?_⟩
    walk_at "sf"
    refine ⟨_, _, rfl, fun m m0 mb => ?_⟩
    walk_at "sf"
    refine r_i (by decide) ?_
    obtain ⟨b1, b2, b3⟩ := fm (x := m) (m := 7) (by decide)
    rw [b1]
    obtain ⟨c1, hc1⟩ := letter _ b2 b3
    refine ⟨_, _, c1, rfl, rfl, small4 (by decide +kernel), hc1, ?_⟩
    refine hZ _ _ _ s23 ⟨zs ++ [⟨#[c1]⟩], by rw [List.map_append]; rfl, fun z hz' => ?_⟩ ⟨[_], rfl, rfl⟩
    rcases List.mem_append.mp hz' with hz' | hz'
    · exact hz z hz'
    · rw [List.mem_singleton.mp hz']; rfl
  rintro D H2 ys hD s12 hD2 hlD ⟨zs, rfl, hz⟩
  rw [List.length_map] at hlD
  walk_at "sf"
  refine ⟨_, D, zs, rfl, rfl, SqL.of hD2, ?_, ?_⟩
  · rw [joinable hz]
    have : ("" : Str).length = 0 := by decide +kernel
    rw [this]
    lia
  generalize Txt.join _ zs = ws
  have hH2 := s1.trans s12
  clear s1 s12 hD2 hlD hz hD
  walk_at "sf"
  refine r_exc ?_
  walk_at "sf"
  refine ⟨show 1 ≤ 1000 by decide, fun x0 t0 e1 e2 e3 => ?_⟩
  have s0 := same_exc (C := a.c0) (vs := [V.str ws]) e1 e2
  have f0 : upd (upd H2 t0 (.tup [V.str ws])) x0 (excO x0 a.c0 t0 .none none) x0 = some (excO x0 a.c0 t0 .none none) := upd_same
  have g0 : upd (upd H2 t0 (.tup [V.str ws])) x0 (excO x0 a.c0 t0 .none none) t0 = some (.tup [V.str ws]) := by rw [upd_ne (Ne.symm e3), upd_same]
  generalize upd (upd H2 t0 (.tup [V.str ws])) x0 (excO x0 a.c0 t0 .none none) = H3 at s0 f0 g0 ⊢
  clear e1 e2 e3
  walk_at "sf"
  refine r_exc ?_
  walk_at "sf"
  refine ⟨show 1 ≤ 1000 by decide, fun x1 t1 e1 e2 e3 => ?_⟩
  have s1 := same_exc (C := a.c1) (vs := [V.str ws]) e1 e2
  have f1 : upd (upd H3 t1 (.tup [V.str ws])) x1 (excO x1 a.c1 t1 .none none) x1 = some (excO x1 a.c1 t1 .none none) := upd_same
  have g1 : upd (upd H3 t1 (.tup [V.str ws])) x1 (excO x1 a.c1 t1 .none none) t1 = some (.tup [V.str ws]) := by rw [upd_ne (Ne.symm e3), upd_same]
  generalize upd (upd H3 t1 (.tup [V.str ws])) x1 (excO x1 a.c1 t1 .none none) = H4 at s1 f1 g1 ⊢
  clear e1 e2 e3
  walk_at "sf"
  refine r_exc ?_
  walk_at "sf"
  refine ⟨show 1 ≤ 1000 by decide, fun x2 t2 e1 e2 e3 => ?_⟩
  have s2 := same_exc (C := a.c2) (vs := [V.str ws]) e1 e2
  have f2 : upd (upd H4 t2 (.tup [V.str ws])) x2 (excO x2 a.c2 t2 .none none) x2 = some (excO x2 a.c2 t2 .none none) := upd_same
  have g2 : upd (upd H4 t2 (.tup [V.str ws])) x2 (excO x2 a.c2 t2 .none none) t2 = some (.tup [V.str ws]) := by rw [upd_ne (Ne.symm e3), upd_same]
  generalize upd (upd H4 t2 (.tup [V.str ws])) x2 (excO x2 a.c2 t2 .none none) = H5 at s2 f2 g2 ⊢
  clear e1 e2 e3
  walk_at "sf"
  refine r_bad ?_
  walk_at "sf"
  refine ⟨show 1 ≤ 1000 by decide, fun x3 tq e1 e2 _ => bad_end (m := ws) (k := 0) e1 e2 (fun t3 d3 H6 s3 f3 g3 g3' => ?_)⟩
  clear e1 e2
  walk_at "sf"
  refine r_exc ?_
  walk_at "sf"
  refine ⟨show 1 ≤ 1000 by decide, fun x4 t4 e1 e2 e3 => ?_⟩
  have s4 := same_exc (C := a.c4) (vs := [V.str ws]) e1 e2
  have f4 : upd (upd H6 t4 (.tup [V.str ws])) x4 (excO x4 a.c4 t4 .none none) x4 = some (excO x4 a.c4 t4 .none none) := upd_same
  have g4 : upd (upd H6 t4 (.tup [V.str ws])) x4 (excO x4 a.c4 t4 .none none) t4 = some (.tup [V.str ws]) := by rw [upd_ne (Ne.symm e3), upd_same]
  generalize upd (upd H6 t4 (.tup [V.str ws])) x4 (excO x4 a.c4 t4 .none none) = H7 at s4 f4 g4 ⊢
  clear e1 e2 e3
  walk_at "sf"
  intro pm hpm
  have s5 := Same.new hpm (.lst [V.ref x0, V.ref x1, V.ref x2, V.ref x3, V.ref x4])
  have hm : upd H7 pm (.lst [V.ref x0, V.ref x1, V.ref x2, V.ref x3, V.ref x4]) pm = some (.lst ([x0, x1, x2, x3, x4].map V.ref)) := upd_same
  generalize upd H7 pm (.lst [V.ref x0, V.ref x1, V.ref x2, V.ref x3, V.ref x4]) = H8 at s5 hm ⊢
  have made : Made H8 a ws [x0, x1, x2, x3, x4] := by
    have z4 := s4.trans s5
    have z3 := z4
    have z2 := s3.trans z3
    have z1 := s2.trans z2
    have z0 := s1.trans z1
    refine ⟨rfl, fun i x e => ?_⟩
    match i, e with
    | 0, e => cases e; exact ⟨t0, none, z0 _ _ f0, z0 _ _ g0, .inl rfl, fun z => nomatch z⟩
    | 1, e => cases e; exact ⟨t1, none, z1 _ _ f1, z1 _ _ g1, .inl rfl, fun z => nomatch z⟩
    | 2, e => cases e; exact ⟨t2, none, z2 _ _ f2, z2 _ _ g2, .inl rfl, fun z => nomatch z⟩
    | 3, e => cases e; exact ⟨t3, some d3, z3 _ _ f3, z3 _ _ g3, .inr ⟨d3, _, rfl, z3 _ _ g3'⟩, fun _ => ⟨d3, rfl, z3 _ _ g3'⟩⟩
    | 4, e => cases e; exact ⟨t4, none, s5 _ _ f4, s5 _ _ g4, .inl rfl, fun z => nomatch z⟩
  have hH8 : Same H H8 := hH2.trans (s0.trans (s1.trans (s2.trans (s3.trans (s4.trans s5)))))
  generalize hxs : [x0, x1, x2, x3, x4] = xs at hm made
  clear s0 s1 s2 s3 s4 s5 f0 f1 f2 f3 f4 g0 g1 g2 g3 g3' g4 hH2
  have at5 : ∀ i, i < 5 → ∃ x, xs[i]? = some x := fun i hi => ⟨xs[i]'(by rw [made.1]; exact hi), List.getElem?_eq_getElem _⟩
  walk_at "sf"
  refine ⟨_, rfl, by decide, by decide, ?_⟩
  refine for_range (n := 5) (fun i σ H' => (∃ r3, σ = [some (.ref sa), some (.str ws), some (.ref pm), r3, none]) ∧ Same H8 H') ⟨⟨_, rfl⟩, Same.refl _⟩ ?_ ?_
  · rintro i σ H' hix ⟨⟨r3, rfl⟩, s8⟩
    have e0 : (0 : Int) + (i : Int) = (i : Int) := by lia
    rw [e0]
    obtain ⟨x, hx⟩ := at5 i hix
    obtain ⟨t, d, h1, h2, h3, _⟩ := (made.same s8).2 i x hx
    have hxi : atI (xs.map V.ref) (i : Int) = some (V.ref x) := atI_nat (by rw [List.getElem?_map, hx]; rfl)
    walk_at "sf"
    refine r_ixL (SqL.of (s8 _ _ hm)) hxi ?_
    walk_at "sf"
    refine ⟨x, _, t, _, d, ws, rfl, h1, h3, ask i hix, h2, ?_⟩
    walk_at "sf"
    refine ne_same rfl ?_
    walk_at "sf"
    refine iteF ?_
    walk_at "sf"
    refine r_ixL (SqL.of (s8 _ _ hm)) hxi ?_
    walk_at "sf"
    refine ⟨x, i, t, _, d, rfl, hix, h1, h3, fun H9 s9 => ?_⟩
    walk_at "sf"
    intro pl hpl
    walk_at "sf"
    refine r_ixL (SqL.of upd_same) (nm_at hix) ?_
    refine ne_same rfl ?_
    walk_at "sf"
    refine iteF ?_
    walk_at "sf"
    exact ⟨⟨_, rfl⟩, s8.trans (s9.trans (Same.new hpl _))⟩
  rintro σ H9 ⟨⟨r3, rfl⟩, s9⟩
  have hH9 := hH8.trans s9
  have made9 := made.same s9
  have hm9 := s9 _ _ hm
  clear hH8 s9 made hm
  walk_at "sf"
  refine ⟨sa, ns, _, rfl, hH9.seq hS, hl, by decide, fun c1 H10 s10 => ?_⟩
  walk_at "sf"
  refine r_i (by decide) ?_
  generalize c1.fmod 60 = pl
  have hP10 : H10 Pt = some (.tbl #[]) := s10 _ _ (hH9 _ _ hP)
  obtain ⟨x3', hx3⟩ := at5 3 (by decide)
  obtain ⟨t, d, h1, h2, h3, h4⟩ := (made9.same s10).2 3 x3' hx3
  obtain ⟨dx, rfl, h5⟩ := h4 rfl
  have hm10 := s10 _ _ hm9
  walk_at "sf"
  refine r_xat ?_
  walk_at "sf"
  refine r_ixL (SqL.of hm10) (atI_nat (j := 3) (v := V.ref x3') (by rw [List.getElem?_map, hx3]; rfl)) ?_
  refine ⟨x3', a.c3, t, _, dx, _, .int 0, rfl, h1, h5, ask 3 (by decide), C.at', rfl, ?_⟩
  walk_at "sf"
  refine iteNS rfl ?_
  walk_at "sf"
  refine r_xat ?_
  refine r_bad ?_
  walk_at "sf"
  refine ⟨show 2 ≤ 1000 by decide, fun x5 tq e1 e2 _ => bad_end (m := ws) (k := pl) e1 e2 (fun t5 d5 H11 s11 f5 g5 g5' => ?_)⟩
  clear e1 e2
  refine ⟨x5, a.c3, t5, _, d5, _, .int pl, rfl, f5, g5', ask 3 (by decide), C.at', rfl, ?_⟩
  walk_at "sf"
  refine iteNS rfl ?_
  walk_at "sf"
  refine r_bad ?_
  walk_at "sf"
  refine ⟨show 2 ≤ 1000 by decide, fun x6 tq e1 e2 _ => bad_end (m := ws) (k := pl) e1 e2 (fun t6 d6 H12 s12 f6 g6 g6' => ?_)⟩
  clear e1 e2
  walk_at "sf"
  refine ⟨x6, _, t6, _, _, ws, rfl, f6, .inr ⟨d6, _, rfl, g6'⟩, ask 3 (by decide), g6, ?_⟩
  walk_at "sf"
  refine ne_same rfl ?_
  walk_at "sf"
  refine iteF ?_
  walk_at "sf"
  refine r_callS ?_
  walk_at "sf"
  have hP12 : H12 Pt = some (.tbl #[]) := s12 _ _ (s11 _ _ hP10)
  refine ⟨#[], hP12, trivial, rfl, fun f c' e1 e2 e3 => ?_⟩
  walk_at "sf"
  rw [hR]
  refine ⟨f, c', pl, rfl, upd_same, (by rw [upd_ne (Ne.symm e3), upd_same]; rfl), rfl, fun H' => ?_⟩
  walk_at "sf"
  exact eq_same rfl (q H')
end
end K10
namespace K10
open PySem PyProof.Rows L2 SF PySem.W
theorem fng_mono {P : Program} {w : World} {K : Frag} {mg : Str → Option Value} {base : Heap} {CX : CXT} {cm : Bool} {j k : Nat} {x : Str} {ps : List Str} {sp : Shared → Sp} (F : FnGB P w K mg base CX cm j x ps sp) (h : j ≤ k) : FnGB P w K mg base CX cm k x ps sp :=
  let ⟨f, fd, a, b, c, d⟩ := F.ex
  ⟨f, fd, ⟨a.len, fun A outer s H args us vs Q E hr => a.run A outer s H args us vs Q E (hr.mono h)⟩, b, c, d⟩
section
variable {P : Program} {w : World} {K : Frag} {mg : Str → Option Value} {base : Heap} {a : Ad} {fI : Addr} {fd : FuncData}
theorem all_law {fa c Pt : Addr} {fdl : FuncData} (T : Nm mg) (C : Cl5 K mg a) (I : Ini K a fI fd) (F : Fun K "law" "law" s_law fa fdl) (d_ratio : DefB K mg "ratio" s_ratio ["top", "under"]) (d_law_cell : DefB K mg "_law_cell" s_law_cell ["_law_script", "_law_k"])
    (d_law_drawn : DefB K mg "_law_drawn" s_law_drawn ["_law_cell_here", "_law_k"]) (d_law_word : DefB K mg "_law_word" s_law_word ["_law_e"]) (d_law_told : DefB K mg "_law_told" s_law_told ["_law_rule"]) (hfd : fdl.code = .ref c) (hc : CodeHd base c Pt) (B : SF.BMain base mg) :
    FnG P w K mg base CX0 true 21 fa fdl ["_law_script"] (fun _ => spLaw K Pt) := by
  have gw := ok_law_word (P := P) (w := w) (base := base) T C d_law_word
  have gr := ok_ratio (P := P) (w := w) (base := base) C d_ratio
  have gt := ok_told (P := P) (w := w) (base := base) C (fng_mono gw (by decide)) (fng_mono gr (by decide)) d_law_told
  refine ok_law T C I ((ok_law_cell T d_law_cell).mono (by decide)) ((ok_law_drawn d_law_drawn).mono (by decide)) ((gw.ok fun vs H Q E h => ?_).mono (by decide)) (fng_mono gt (by decide)) ((ok_init C I).mono (by decide)) F hfd hc B
  obtain ⟨x, i, t, tb, d, rfl, _⟩ := h
  rfl
end
theorem cl5_mk {K : Frag} {h : Heap} {mg : Str → Option Value} {cf c0 c1 c2 c3 c4 : Addr} (X : K.In h) (G : h.Ns mainGlobals mg) (ef : nsIn K mainGlobals "FootError" = some (some (.ref cf))) (e0 : nsIn K mainGlobals "NoRatio" = some (some (.ref c0))) (e1 : nsIn K mainGlobals "NoNumber" = some (some (.ref c1)))
    (e2 : nsIn K mainGlobals "TooGreat" = some (some (.ref c2))) (e3 : nsIn K mainGlobals "BadText" = some (some (.ref c3))) (e4 : nsIn K mainGlobals "BadRow" = some (some (.ref c4))) (ok : okB K ⟨cf, c0, c1, c2, c3, c4⟩ = true) : Cl5 K mg ⟨cf, c0, c1, c2, c3, c4⟩ :=
  ⟨mg_of X G ef, mg_of X G e0, mg_of X G e1, mg_of X G e2, mg_of X G e3, mg_of X G e4, ok⟩
theorem ini_mk {K : Frag} {cf c0 c1 c2 c3 c4 fI Td : Addr} {od an : Option Addr} {osl : Array (Option Value)} {kV doc pm cdv ct : Value} {ot : Obj} {t : Tok} {n : Nat} {mg : Str → Option Value} (_C : Cl5 K mg ⟨cf, c0, c1, c2, c3, c4⟩) (_e : findIn K (.ref c3) "__init__" = some (some (.ref fI)))
    (lk : K.lookup fI = some ⟨.type "function", od, .func (fnOf "__init__" "BadText.__init__" (defArgs s_init) (defBody s_init) (defScope s_init) (.ref Td) kV doc pm an cdv ct), osl⟩) (hcd : codeIn K cdv "BadText.__init__" = true) (ht : K.lookup Td = some ot) (hs : ot.data = .seq #[.int 0 t] n)
    (o1 : excInI K c3 bmV "ValueError.__new__" fI = true) (o2 : excOver K c3 = true) (o3 : findIn K (.ref c3) "__setattr__" = some (some (.builtin "object.__setattr__"))) (o4 : mroIn K c3 (.type "object") = some true)
    (o5 : specialIn K (.ref cf) "__getattribute__" = some (some (.builtin "type.__getattribute__"))) (o6 : readsIn K cf (.type "type") = true) (o7 : findCls K (.ref cf) (.type "type") "__init__" = some (.val (.builtin "ValueError.__init__"))) :
    ∃ fI' fd, Ini K ⟨cf, c0, c1, c2, c3, c4⟩ fI' fd := by
  refine ⟨fI, _, ⟨.type "function", od, .ref Td, kV, doc, pm, an, cdv, ct, osl, rfl, lk, hcd⟩, ⟨t, fun s us X hl => ?_⟩, fun s us X hl => ?_, by show (K.lookup fI).map _ = _; rw [lk]; rfl, o1, o2, o3, o4, o5, o6, o7⟩
  · have h2 : us.length = 2 := by simpa using hl
    match us, h2 with
    | [u1, u2], _ => exact binds_K X rfl ht hs rfl rfl
  · have h2 : us.length = 3 := by simpa using hl
    match us, h2 with
    | [u1, u2, u3], _ => first | exact binds_K X rfl ht hs rfl rfl | exact BindsTo.of_eq rfl
theorem walk {l : OpenLaw} {j : Nat} {q : Program} {loose : List Str} {XP : (Str → Option Value) → Heap → Prop} {YP : World → Heap → Prop} {d : DefRec} {K : Params → Frag} (hn : l.most = some 63) (hdf : d.params.defaults = []) (hrec : (recsOf q)[j]? = some d)
    (hY : ∀ (w : World) (h : Heap), YP w h → (K w.params).In h) (hKt : ∀ w : World, noTabs (K w.params) = true)
    (F : ∀ (w : World) (mg : Str → Option Value) (fa : Addr) (h : Heap), (K w.params).In h → h.Ns mainGlobals mg → mg d.name = some (.ref fa) →
      ∃ fd : FuncData, (∃ oc od sl, (K w.params).lookup fa = some ⟨oc, od, .func fd, sl⟩) ∧ (∀ (s : Shared) (u : Value), BindsTo s fd ⟨[u], []⟩ [("_law_script", u)]) ∧
        ∀ (base : Heap) (c Pt : Addr), fd.code = .ref c → (K w.params).In base → base.Ns mainGlobals mg → SF.BMain base mg → CodeHd base c Pt → FnG l.prog w (K w.params) mg base CX0 true 21 fa fd ["_law_script"] fun _ => spLaw (K w.params) Pt) (hi : importsNone q = true) :
    WalkO q loose XP YP l.row.toRowW d [] (fun f vs => PySem.call f vs) :=
  SF.walk2 (n := 63) (k := 21) (x := "_law_script") (sp := spLaw) hn (by decide) hdf ⟨rfl, by decide, by decide⟩ hrec hY hKt F (fun _ _ _ a ns hl hS hP => ⟨a, ns, rfl, hS, hl, hP, fun _ => rfl⟩) hi
theorem law_mk {K : Frag} {h : Heap} {mg : Str → Option Value} {fa f : Addr} {od an : Option Addr} {sl : Array (Option Value)} {oc kV doc pm cd ct : Value} (X : K.In h) (G : h.Ns mainGlobals mg) (hfa : mg "law" = some (.ref fa))
    (a : nsIn K mainGlobals "law" = some (some (.ref f))) (l : K.lookup f = some ⟨oc, od, .func (fnOf "law" "law" (defArgs s_law) (defBody s_law) (defScope s_law) .none kV doc pm an cd ct), sl⟩)
    (c : codeIn K cd "law" = true) (k : keepIn K (.ref f) = true) : ∃ fd : FuncData, (∃ oc od sl, K.lookup fa = some ⟨oc, od, .func fd, sl⟩) ∧ (∀ (s : Shared) (v : Value), BindsTo s fd ⟨[v], []⟩ [("_law_script", v)]) ∧ Fun K "law" "law" s_law fa fd := by
  have e := hfa.symm.trans (mg_of X G a)
  cases e
  exact ⟨_, ⟨_, _, _, l⟩, fun s v => .of_eq rfl, fun_mk (st := s_law) l c k⟩
end K10
open PySem PySem.W PyProof.Rows
set_option maxRecDepth 100000 in
set_option maxHeartbeats 0 in
theorem PySem.Challenge.cw_surefoot_k10_refusals_apart_holds : PySem.Challenge.rw_surefoot_k10_refusals_apart.Holds := by
  w_on; o_law; k_head; (case hw => w_witness2)
  k_fill
  refine K10.walk (l := PySem.Challenge.rw_surefoot_k10_refusals_apart) (j := 6) rfl rfl ?rcx (fun w h Y => PySem.W.km_in_of Y) ?ntx ?F ?I
  case rcx => kernel_rfl
  case ntx => intro w; kernel_rfl
  case I => decide +kernel
  case F =>
    intro w mg fa h KX G hmg
    have T : K10.Nm mg := by
      refine' ⟨PySem.W.mg_none_of KX G ?t1, PySem.W.mg_none_of KX G ?t2, PySem.W.mg_none_of KX G ?t3, PySem.W.mg_none_of KX G ?t4, PySem.W.mg_none_of KX G ?t5⟩
      all_goals k_is
    have L := by
      refine' K10.law_mk KX G hmg ?a ?l ?c ?k
      (case a => k_is); (case l => k_is); (case c => k_is); (case k => k_is)
    obtain ⟨fd, lk, hb, F⟩ := L
    have C := by
      refine' K10.cl5_mk KX G ?ef ?e0 ?e1 ?e2 ?e3 ?e4 ?ok
      (case ef => k_is); (case e0 => k_is); (case e1 => k_is); (case e2 => k_is); (case e3 => k_is); (case e4 => k_is)
      (case ok => kernel_rfl)
    have I := by
      refine' K10.ini_mk C ?e ?lk ?cd ?td ?hs ?o1 ?o2 ?o3 ?o4 ?o5 ?o6 ?o7
      (case e => k_is); (case lk => k_is); (case cd => k_is); (case td => k_is); (case hs => rfl)
      all_goals kernel_rfl
    obtain ⟨fI, fdI, I⟩ := I
    refine ⟨fd, lk, hb, fun base c Pt hfd _ _ B hc => ?_⟩
    refine' K10.all_law T C I F (L2.def_of KX G ?a1 ?l1 ?c1 ?k1 ?b1) (L2.def_of KX G ?a2 ?l2 ?c2 ?k2 ?b2) (L2.def_of KX G ?a3 ?l3 ?c3 ?k3 ?b3) (L2.def_of KX G ?a4 ?l4 ?c4 ?k4 ?b4) (L2.def_of KX G ?a5 ?l5 ?c5 ?k5 ?b5) hfd hc B
    (case a1 => k_is); (case l1 => k_is); (case c1 => k_is); (case k1 => k_is); (case b1 => exact fun _ _ _ _ _ _ us hl => match us, hl with | [_, _], _ => rfl)
    (case a2 => k_is); (case l2 => k_is); (case c2 => k_is); (case k2 => k_is); (case b2 => exact fun _ _ _ _ _ _ us hl => match us, hl with | [_, _], _ => rfl)
    (case a3 => k_is); (case l3 => k_is); (case c3 => k_is); (case k3 => k_is); (case b3 => exact fun _ _ _ _ _ _ us hl => match us, hl with | [_, _], _ => rfl)
    (case a4 => k_is); (case l4 => k_is); (case c4 => k_is); (case k4 => k_is); (case b4 => exact fun _ _ _ _ _ _ us hl => match us, hl with | [_], _ => rfl)
    (case a5 => k_is); (case l5 => k_is); (case c5 => k_is); (case k5 => k_is); (case b5 => exact fun _ _ _ _ _ _ us hl => match us, hl with | [_], _ => rfl)
#print axioms PySem.Challenge.cw_surefoot_k10_refusals_apart_holds
