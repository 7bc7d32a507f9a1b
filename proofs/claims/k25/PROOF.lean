import PyProof.Rows.All
import Wide.All
import OpenK.AllK
import Wide.FinOn
import Lean
import PyProof.EqAt
import PyProof.EqKinds
import PyProof.TupleCall
import KE.KIntText
import KE.KTryMore
import KE.KLam
import PySem.Challenge.RW_surefoot_k25_weights_bound
set_option Elab.async false
set_option linter.all false
set_option maxRecDepth 100000
namespace L2
open PySem PySem.Spec PyProof.Rows
noncomputable abbrev Key := Sum Int Str
noncomputable def keyIs : Key → Value → Bool
  | .inl k, v => Value.isInt k v
  | .inr x, v => Value.isStrOf x v
noncomputable def keyH (w : World) : Key → Int
  | .inl k => hashInt k
  | .inr x => hashStr w x
theorem keyIs_shape : ∀ {k : Key} {v : Value}, keyIs k v = true → (∃ i t, k = Sum.inl i ∧ v = Value.int i t) ∨ (∃ x t, k = Sum.inr x ∧ v = Value.str x t)
  | .inl i, v, h => by
    obtain ⟨t, e⟩ := Value.isInt_shape (k := i) (v := v) h
    exact .inl ⟨i, t, rfl, e⟩
  | .inr x, v, h => by
    obtain ⟨t, e⟩ := Value.isStrOf_shape (x := x) (v := v) h
    exact .inr ⟨x, t, rfl, e⟩
theorem key_ll (a b : Int) : decide ((Sum.inl a : Key) = Sum.inl b) = (a == b) := by
  by_cases e : a = b
  · subst e; simp
  · have h : ¬ (Sum.inl a : Key) = Sum.inl b := fun q => e (Sum.inl.inj q)
    rw [decide_eq_false h]
    exact (beq_eq_false_iff_ne.mpr e).symm
theorem key_rr (a b : Str) : decide ((Sum.inr a : Key) = Sum.inr b) = decide (a = b) := by
  by_cases e : a = b
  · subst e; simp
  · have h : ¬ (Sum.inr a : Key) = Sum.inr b := fun q => e (Sum.inr.inj q)
    rw [decide_eq_false h, decide_eq_false e]
theorem key_lr (a : Int) (b : Str) : decide ((Sum.inl a : Key) = Sum.inr b) = false := decide_eq_false (fun q => nomatch q)
theorem key_rl (a : Str) (b : Int) : decide ((Sum.inr a : Key) = Sum.inl b) = false := decide_eq_false (fun q => nomatch q)
noncomputable def mixKind (prog : Program) (w : World) : PySem.KeyKind prog w Key where
  is := keyIs
  hash := keyH w
  inj := fun v a b ha hb => by
    rcases keyIs_shape ha with ⟨i, t, rfl, rfl⟩ | ⟨x, t, rfl, rfl⟩
    · rcases keyIs_shape hb with ⟨j, u, rfl, e⟩ | ⟨y, u, rfl, e⟩
      · injection e with e1 _; rw [e1]
      · exact nomatch e
    · rcases keyIs_shape hb with ⟨j, u, rfl, e⟩ | ⟨y, u, rfl, e⟩
      · exact nomatch e
      · injection e with e1 _; rw [e1]
  byValue := fun k v h => by
    rcases keyIs_shape h with ⟨i, t, rfl, rfl⟩ | ⟨x, t, rfl, rfl⟩ <;> rfl
  pyHash := fun hv h => by
    rcases keyIs_shape hv with ⟨i, t, rfl, rfl⟩ | ⟨x, t, rfl, rfl⟩
    · exact wpAny_pyHash_int h
    · exact wpAny_pyHash_str h
  eqBool := fun hu hv h => by
    rcases keyIs_shape hu with ⟨i, t, rfl, rfl⟩ | ⟨x, t, rfl, rfl⟩
    · rcases keyIs_shape hv with ⟨j, u, rfl, rfl⟩ | ⟨y, u, rfl, rfl⟩
      · rw [key_ll] at h; exact wpAny_eqBool_int h
      · rw [key_lr] at h; exact SeqAt.EqAt.int_str i t y u _ _ _ _ h
    · rcases keyIs_shape hv with ⟨j, u, rfl, rfl⟩ | ⟨y, u, rfl, rfl⟩
      · rw [key_rl] at h; exact SeqAt.EqAt.str_int x t j u _ _ _ _ h
      · rw [key_rr] at h; exact wpAny_eqBool_str h
  «strs» := fun k x t v h => by
    rcases keyIs_shape h with ⟨i, u, rfl, e⟩ | ⟨y, u, rfl, e⟩
    · exact nomatch e
    · injection e with e1 _
      subst e1
      cases v <;> rfl
end L2
namespace L2
open PySem PySem.Spec PyProof.Rows
inductive V where
  | non | bl (b : Bool) | int (i : Int) | str (x : Str) | byt (b : Array UInt8) | flt (b : UInt64) | ref (a : Addr) | ty (n : String)
  deriving DecidableEq
noncomputable def RelV : V → Value → Prop
  | .non, u => u = Value.none
  | .bl b, u => u = Value.bool b
  | .int i, u => ∃ t, u = Value.int i t
  | .str x, u => ∃ t, u = Value.str x t
  | .byt b, u => ∃ t, u = Value.bytes b t
  | .flt b, u => ∃ t, u = Value.float b t
  | .ref a, u => u = Value.ref a
  | .ty n, u => u = Value.type n
noncomputable abbrev Vals : List V → List Value → Prop := Paired RelV
theorem Vals.length {xs : List V} {us : List Value} (r : Vals xs us) : xs.length = us.length := Paired.length r
theorem Vals.get : ∀ {xs : List V} {us : List Value} {i : Nat} {x : V}, Vals xs us → xs[i]? = some x → ∃ u, us[i]? = some u ∧ RelV x u
  | _, _, _, _, .nil, e => by simp at e
  | _, _, 0, _, .cons r _, e => by simp at e; subst e; exact ⟨_, rfl, r⟩
  | _, _, i + 1, x, .cons _ t, e => by
    obtain ⟨u, h1, h2⟩ := Vals.get (i := i) (x := x) t (by simpa using e)
    exact ⟨u, by simpa using h1, h2⟩
theorem Vals.set {x : V} {u : Value} (r : RelV x u) : ∀ {xs : List V} {us : List Value} (i : Nat), Vals xs us → Vals (xs.set i x) (us.set i u)
  | _, _, _, .nil => .nil
  | _, _, 0, .cons _ t => .cons r t
  | _, _, i + 1, .cons q t => .cons q (Vals.set r i t)
theorem Vals.append : ∀ {xs ys : List V} {us ws : List Value}, Vals xs us → Vals ys ws → Vals (xs ++ ys) (us ++ ws)
  | _, _, _, _, .nil, s => s
  | _, _, _, _, .cons r t, s => .cons r (Vals.append t s)
theorem Vals.take : ∀ {xs : List V} {us : List Value} (n : Nat), Vals xs us → Vals (xs.take n) (us.take n)
  | _, _, 0, _ => .nil
  | _, _, _ + 1, .nil => .nil
  | _, _, n + 1, .cons r t => .cons r (Vals.take n t)
theorem Vals.drop : ∀ {xs : List V} {us : List Value} (n : Nat), Vals xs us → Vals (xs.drop n) (us.drop n)
  | _, _, 0, r => r
  | _, _, _ + 1, .nil => .nil
  | _, _, n + 1, .cons _ t => Vals.drop n t
noncomputable def RelO : Option V → Option Value → Prop
  | some v, some u => RelV v u
  | none, none => True
  | _, _ => False
noncomputable def KV {κ : Type} : List (κ × V) → List (κ × Value) → Prop := Paired fun (p : κ × V) (q : κ × Value) => p.1 = q.1 ∧ RelV p.2 q.2
noncomputable def kV : Key → V
  | .inl i => .int i
  | .inr x => .str x
inductive HO where
    | lst (xs : List V)
    | tup (xs : List V)
    | dK (kvs : List (Key × V)) | dT (kvs : List (List Key × V))
    | set (S : Int → Bool) (n : Nat)
    | ins (C dx : Addr) (fs : List (Str × V))
    | own (x : Addr)
    | xd (fs : List (Str × V))
    | met (f x : Addr)
    | rng (lo hi : Int)
    | frz (o : Obj) (u : HO)
    | tbl (ps : Array Value)
    | ext (φ : Heap → Prop)
noncomputable abbrev Hp := Addr → Option HO
noncomputable def upd (H : Hp) (a : Addr) (o : HO) : Hp := fun b => if b = a then some o else H b
theorem upd_same {H : Hp} {a : Addr} {o : HO} : upd H a o a = some o := by unfold upd; rw [if_pos rfl]
theorem upd_ne {H : Hp} {a b : Addr} {o : HO} (h : b ≠ a) : upd H a o b = H b := by unfold upd; rw [if_neg h]
theorem upd_upd {H : Hp} {a : Addr} {o u : HO} : upd (upd H a o) a u = upd H a u := by
  funext b; unfold upd; split <;> rfl
theorem ne_of_none {H : Hp} {a b : Addr} {o : HO} (h : H a = some o) (h' : H b = none) : a ≠ b := by
  intro e; subst e; rw [h] at h'; cases h'
section
variable (P : Program) (w : World)
noncomputable def ObjOk (H : Hp) (h : Heap) (a : Addr) : HO → Prop
  | .lst xs => xs.length ≤ sizeLine ∧ ∃ (its : List Value) (n : Nat), Vals xs its ∧ h.get? a = some { cls := .type "list", data := .seq its.toArray n }
  | .tup xs => xs.length ≤ sizeLine ∧ ∃ its : List Value, Vals xs its ∧ IsTup h a its.toArray
  | .dK kvs => kvs.length ≤ sizeLine ∧ (a == sysModules) = false ∧ ∃ vs, KV kvs vs ∧ h.DictOf (mixKind P w) a vs
  | .dT kvs => kvs.length ≤ sizeLine ∧ (a == sysModules) = false ∧ ∃ xs : List (List Key × Addr × Value),
      Paired (fun (p : List Key × V) (q : List Key × Addr × Value) => p.1 = q.1 ∧ H q.2.1 = some (.tup (p.1.map kV)) ∧ RelV p.2 q.2.2) kvs xs ∧
      ∃ o es ep, h.get? a = some o ∧ o.ExactDict ∧ o.data = .dict es ep ∧ es.toList = xs.map (entryOfKey (tupleKind (mixKind P w))) ∧ (xs.map (·.1)).Nodup
  | .set S n => h.SetOf (intKind P w) a S n
  | .ins C dx fs => H dx = some (.own a) ∧ fs.length ≤ 1000 ∧ dx ≠ a ∧ h.get? a = some (PySem.W.instObj C dx) ∧
      ∃ mA, h.Ns1 dx mA ∧ (∀ f, RelO (fs.lookup f) (mA f)) ∧ PySem.Within mA (fs.map (·.1))
  | .own _ => ∃ o, h.get? a = some o
  | .xd fs => ∃ mA, h.Ns1 a mA ∧ ∀ f, RelO (fs.lookup f) (mA f)
  | .rng lo hi => ∃ t u v, h.get? a = some { cls := .type "range", data := .fields #[.int lo t, .int hi u, .int 1 v] }
  | .frz o u => h.get? a = some o ∧ ObjOk H h a u
  | .tbl ps => h.get? a = some { cls := .none, data := .fields ps }
  | .met f x => h.get? a = some (PySem.W.methodObj (.ref f) (.ref x))
  | .ext φ => φ h ∧ (∃ o, h.get? a = some o) ∧ ∀ h1 h2 : Heap, φ h1 → (∀ o, h1.get? a = some o → h2.get? a = some o) → φ h2
noncomputable def HOk (H : Hp) (h : Heap) : Prop := ∀ a o, H a = some o → ObjOk P w H h a o
end
section
variable {P : Program} {w : World} {H H' : Hp} {h h' : Heap} {a : Addr} {o : HO}
theorem ObjOk.lt (x : ObjOk P w H h a o) : a < h.objs.size := by
  cases o with
  | lst xs => obtain ⟨_, _, _, _, e⟩ := x; exact Heap.lt_size e
  | tup xs => obtain ⟨_, _, _, p⟩ := x; exact p.lt
  | dK kvs => obtain ⟨_, _, _, _, o, _, _, e, _⟩ := x; exact Heap.lt_size e
  | dT kvs => obtain ⟨_, _, _, _, o, _, _, e, _⟩ := x; exact Heap.lt_size e
  | set S n => obtain ⟨o, _, _, _, e, _⟩ := x; exact Heap.lt_size e
  | ins C dx fs => obtain ⟨_, _, _, e, _⟩ := x; exact Heap.lt_size e
  | own y => obtain ⟨_, e⟩ := x; exact Heap.lt_size e
  | xd fs => obtain ⟨_, ⟨_, _, _, e, _⟩, _⟩ := x; exact Heap.lt_size e
  | rng lo hi => obtain ⟨_, _, _, e⟩ := x; exact Heap.lt_size e
  | frz ob u => obtain ⟨e, _⟩ := x; exact Heap.lt_size e
  | tbl ps => exact Heap.lt_size (show h.get? a = some _ from x)
  | met f y => exact Heap.lt_size (show h.get? a = some _ from x)
  | ext φ => obtain ⟨_, ⟨_, e⟩, _⟩ := x; exact Heap.lt_size e
theorem Paired.mapP {α β : Type} {F G : α → β → Prop} : ∀ {l₁ : List α} {l₂ : List β}, Paired F l₁ l₂ → (∀ a b, F a b → G a b) → Paired G l₁ l₂
  | _, _, .nil, _ => .nil
  | _, _, .cons r t, f => .cons (f _ _ r) (Paired.mapP t f)
theorem ObjOk.stay (x : ObjOk P w H h a o) (k : ∀ b u, (b = a ∨ H b = some (.own a)) → h.get? b = some u → h'.get? b = some u)
    (ho : ∀ b, H b = some (.own a) → H' b = some (.own a)) (ht : ∀ b xs, H b = some (.tup xs) → H' b = some (.tup xs)) : ObjOk P w H' h' a o := by
  induction o with
  | lst xs => obtain ⟨z, its, n, r, e⟩ := x; exact ⟨z, its, n, r, k _ _ (.inl rfl) e⟩
  | tup xs => obtain ⟨z, its, r, ob, e, c⟩ := x; exact ⟨z, its, r, ob, k _ _ (.inl rfl) e, c⟩
  | dK kvs => obtain ⟨z, y, vs, r, ob, es, ep, e, c⟩ := x; exact ⟨z, y, vs, r, ob, es, ep, k _ _ (.inl rfl) e, c⟩
  | dT kvs =>
    obtain ⟨z, y, xs, r, ob, es, ep, e, c⟩ := x
    exact ⟨z, y, xs, Paired.mapP r fun p q z => ⟨z.1, ht _ _ z.2.1, z.2.2⟩, ob, es, ep, k _ _ (.inl rfl) e, c⟩
  | set S n => obtain ⟨ob, es, ep, t, e, c⟩ := x; exact ⟨ob, es, ep, t, k _ _ (.inl rfl) e, c⟩
  | ins C dx fs =>
    obtain ⟨d, z, ne, e, mA, ⟨od, es, ep, e2, c⟩, r⟩ := x
    exact ⟨ho _ d, z, ne, k _ _ (.inl rfl) e, mA, ⟨od, es, ep, k _ _ (.inr d) e2, c⟩, r⟩
  | own y => obtain ⟨ob, e⟩ := x; exact ⟨ob, k _ _ (.inl rfl) e⟩
  | xd fs => obtain ⟨mA, ⟨od, es, ep, e, c⟩, r⟩ := x; exact ⟨mA, ⟨od, es, ep, k _ _ (.inl rfl) e, c⟩, r⟩
  | rng lo hi => obtain ⟨t, u, v, e⟩ := x; exact ⟨t, u, v, k _ _ (.inl rfl) e⟩
  | frz ob u ih => obtain ⟨e, q⟩ := x; exact ⟨k _ _ (.inl rfl) e, ih q⟩
  | tbl ps =>
    have e : h.get? a = some { cls := .none, data := .fields ps } := x
    show h'.get? a = some { cls := .none, data := .fields ps }
    exact k a _ (.inl rfl) e
  | met f y =>
    have e : h.get? a = some (PySem.W.methodObj (.ref f) (.ref y)) := x
    show h'.get? a = some (PySem.W.methodObj (.ref f) (.ref y))
    exact k a _ (.inl rfl) e
  | ext φ => obtain ⟨p, ⟨o, e⟩, st⟩ := x; exact ⟨st _ _ p fun o q => k _ _ (.inl rfl) q, ⟨o, k _ _ (.inl rfl) e⟩, st⟩
theorem HOk.lt (x : HOk P w H h) (e : H a = some o) : a < h.objs.size := (x a o e).lt
theorem HOk.fresh (x : HOk P w H h) (e : h.objs.size ≤ a) : H a = none := by
  cases q : H a with
  | none => rfl
  | some u => exact absurd (Nat.lt_of_lt_of_le (x.lt q) e) (Nat.lt_irrefl _)
theorem HOk.kept (x : HOk P w H h) (k : ∀ b u, h.get? b = some u → h'.get? b = some u) : HOk P w H h' := fun a o e =>
  (x a o e).stay (fun b u _ q => k b u q) (fun _ q => q) fun _ _ q => q
theorem HOk.laid (x : HOk P w H h) (k : ∀ b u, h.get? b = some u → h'.get? b = some u) (hp : h.objs.size ≤ a) (new : ObjOk P w (upd H a o) h' a o) : HOk P w (upd H a o) h' := fun b u e => by
  have hn := x.fresh hp
  by_cases hb : b = a
  · subst hb; rw [upd_same] at e; cases e; exact new
  · rw [upd_ne hb] at e
    exact (x b u e).stay (fun c v _ q => k c v q) (fun c q => by rw [upd_ne (ne_of_none q hn)]; exact q) fun c xs q => by rw [upd_ne (ne_of_none q hn)]; exact q
end
noncomputable def Rd (H : Hp) (a : Addr) (u : HO) : Prop := H a = some u ∨ ∃ o, H a = some (.frz o u)
theorem Rd.ok {P : Program} {w : World} {H : Hp} {h : Heap} {a : Addr} {u : HO} (r : Rd H a u) (x : HOk P w H h) : ObjOk P w H h a u := by
  rcases r with r | ⟨o, r⟩
  · exact x a u r
  · obtain ⟨_, q⟩ := x a _ r
    exact q
noncomputable def Mut : Option HO → Prop
  | some (.lst _) => True
  | some (.dK _) => True
  | some (.dT _) => True
  | some (.set _ _) => True
  | some (.ins _ _ _) => True
  | some (.ext _) => True
  | _ => False
section
variable {P : Program} {w : World} {H : Hp} {h h' : Heap} {x e : Addr} {o' : HO}
theorem HOk.write (ok : HOk P w H h) (mu : Mut (H x)) (he : e = x ∨ H e = some (.own x)) (k : ∀ b u, b ≠ e → h.get? b = some u → h'.get? b = some u) (heo : ∃ u, h'.get? e = some u)
    (new : ObjOk P w (upd H x o') h' x o') : HOk P w (upd H x o') h' := fun b u q => by
  have nown : ∀ c y, H c = some (.own y) → c ≠ x := fun c y r z => by subst z; rw [r] at mu; exact mu
  have ntup : ∀ c xs, H c = some (.tup xs) → c ≠ x := fun c xs r z => by subst z; rw [r] at mu; exact mu
  by_cases hb : b = x
  · subst hb; rw [upd_same] at q; cases q; exact new
  · rw [upd_ne hb] at q
    by_cases hbe : b = e
    · have q' : H b = some (.own x) := by
        rcases he with z | z
        · exact absurd (hbe.trans z) hb
        · rw [hbe]; exact z
      rw [q] at q'; cases q'
      obtain ⟨v, hv⟩ := heo
      exact ⟨v, by rw [hbe]; exact hv⟩
    · refine (ok b u q).stay (fun c v hc r => k c v ?_ r) (fun c r => by rw [upd_ne (nown c b r)]; exact r) fun c xs r => by rw [upd_ne (ntup c xs r)]; exact r
      rcases hc with rfl | hc
      · exact hbe
      · rintro rfl
        rcases he with z | z
        · exact nown c b hc z
        · rw [hc] at z; cases z; exact hb rfl
end
structure Un (fs ex : List Addr) (H H' : Hp) (h h' : Heap) : Prop where
  keep : ∀ b o, h.get? b = some o → H b = none → b ∉ fs → b ∉ ex → h'.get? b = some o
  slot : ∀ b o, h.get? b = some o → H b = none → b ∈ fs → b ∉ ex → ∃ sl, h'.get? b = some { o with slots := sl }
  free : ∀ b o, h.get? b = some o → H b = none → b ∉ ex → H' b = none
  there : ∀ b o, h.get? b = some o → b ∉ ex → ∃ o', h'.get? b = some o'
  tups : ∀ b xs, H b = some (.tup xs) → H' b = some (.tup xs)
  frzs : ∀ b o u, H b = some (.frz o u) → H' b = some (.frz o u)
  tbls : ∀ b ps, H b = some (.tbl ps) → ∃ more, H' b = some (.tbl (ps ++ more))
section
variable {fs fs' ex ex' : List Addr} {H H1 H2 : Hp} {h h1 h2 h' : Heap} {a x e : Addr} {o : HO}
theorem Un.any (u : Un fs ex H H1 h h1) {b : Addr} {ob : Obj} (q : h.get? b = some ob) (n : H b = none) (hx : b ∉ ex) : ∃ sl, h1.get? b = some { ob with slots := sl } := by
  by_cases hb : b ∈ fs
  · exact u.slot b ob q n hb hx
  · exact ⟨ob.slots, u.keep b ob q n hb hx⟩
theorem Un.kept (k : ∀ b u, h.get? b = some u → h'.get? b = some u) : Un fs ex H H h h' :=
  ⟨fun b ob q _ _ _ => k b ob q, fun b ob q _ _ _ => ⟨ob.slots, k b ob q⟩, fun _ _ _ n _ => n, fun b ob q _ => ⟨ob, k b ob q⟩, fun _ _ q => q, fun _ _ _ q => q, fun _ ps q => ⟨#[], by rw [q]; simp⟩⟩
theorem Un.refl : Un fs ex H H h h := Un.kept fun _ _ q => q
theorem Un.laid (k : ∀ b u, h.get? b = some u → h'.get? b = some u) (hp : h.objs.size ≤ a) (hn : H a = none) : Un fs ex H (upd H a o) h h' where
  keep := fun b u q _ _ _ => k b u q
  slot := fun b u q _ _ _ => ⟨u.slots, k b u q⟩
  free := fun b u q n _ => by rw [upd_ne (Nat.ne_of_lt (Nat.lt_of_lt_of_le (Heap.lt_size q) hp))]; exact n
  there := fun b u q _ => ⟨u, k b u q⟩
  tups := fun b xs q => by rw [upd_ne (ne_of_none q hn)]; exact q
  frzs := fun b u xs q => by rw [upd_ne (ne_of_none q hn)]; exact q
  tbls := fun b ps q => ⟨#[], by rw [upd_ne (ne_of_none q hn), q]; simp⟩
theorem Un.write (mu : Mut (H x)) (he : e = x ∨ H e = some (.own x)) (k : ∀ b u, b ≠ e → h.get? b = some u → h'.get? b = some u) (heo : ∃ u, h'.get? e = some u) : Un fs ex H (upd H x o) h h' := by
  have hx : ∀ b, H b = none → b ≠ x := fun b n z => by subst z; rw [n] at mu; exact mu
  have hb : ∀ b, H b = none → b ≠ e := fun b n z => by
    subst z
    rcases he with r | r
    · exact hx b n r
    · rw [n] at r; cases r
  have hm : ∀ b u, H b = some u → ¬ Mut (some u) → b ≠ x := fun b u q nm z => by subst z; rw [q] at mu; exact nm mu
  refine ⟨fun b u q n _ _ => k b u (hb b n) q, fun b u q n _ _ => ⟨u.slots, k b u (hb b n) q⟩, fun b u q n _ => by rw [upd_ne (hx b n)]; exact n, fun b u q _ => ?_,
    fun b xs q => by rw [upd_ne (hm b _ q fun z => z)]; exact q, fun b u xs q => by rw [upd_ne (hm b _ q fun z => z)]; exact q, fun b ps q => ⟨#[], by rw [upd_ne (hm b _ q fun z => z), q]; simp⟩⟩
  by_cases hbe : b = e
  · subst hbe; exact heo
  · exact ⟨u, k b u hbe q⟩
end
noncomputable def trk (h : Heap) (H : Hp) : List Addr := (List.range h.objs.size).filter fun a => (H a).isSome
noncomputable def hidT (h : Heap) (H : Hp) : Heap := PySem.W.hideAll h (trk h H)
theorem hidT_size (h : Heap) (H : Hp) : (hidT h H).objs.size = h.objs.size := PySem.W.hideAll_size _ _
theorem hidT_get {h : Heap} {H : Hp} {b : Addr} {o : Obj} (e : h.get? b = some o) (n : H b = none) : (hidT h H).get? b = some o :=
  PySem.W.hideAll_get _ e fun hm => by
    have q : (H b).isSome = true := (List.mem_filter.mp hm).2
    rw [n] at q; simp at q
theorem of_hidT {h : Heap} {H : Hp} {b : Addr} {o : Obj} (e : (hidT h H).get? b = some o) : h.get? b = some o ∧ H b = none := by
  have e' : h.get? b = some o := PySem.W.of_hideAll (trk h H) e
  refine ⟨e', ?_⟩
  cases q : H b with
  | none => rfl
  | some x =>
    have hm : b ∈ trk h H := List.mem_filter.mpr ⟨List.mem_range.mpr (Heap.lt_size e'), by simp [q]⟩
    have z : (hidT h H).get? b = none := PySem.W.hideAll_none (trk h H) hm
    rw [z] at e; cases e
noncomputable def allNews (g h : Heap) (L : Addr) : List (Addr × Obj) := (List.range h.objs.size).filterMap fun a => if a = L ∨ (g.get? a).isSome = true then none else (h.get? a).map fun o => (a, o)
noncomputable def rest (g h : Heap) (L d : Addr) : List (Addr × Obj) := (allNews g h L).filter fun p => decide (p.1 ≠ d)
end L2
namespace L2
open PySem PySem.Spec PyProof.Rows
structure Mod (K : PySem.W.Frag) (mg : Str → Option Value) (base : Heap) : Prop where
  kin : K.In base
  glob : base.Ns mainGlobals mg
  blt : ∃ mb, base.Ns builtinsNs mb ∧ ∀ x : Str, x ≠ "__name__" → mb x = bootBuiltins x
  nolimit : base.NoLimit
  seer : base.NoSeer
structure Cx where
  prog : Program
  w : World
  K : PySem.W.Frag
  mg : Str → Option Value
  base : Heap
  A : Around
  N : List Str
  s₀ : Shared
  H₀ : Hp
  env : Env
  outer : List Env
  stack : List Env
  ex : List Addr
  fn : Str → Bool
  calm : Bool
  pn : List (Addr × Obj)
  xe : Value → Shared → Prop
noncomputable def frs (l : List Env) : List Addr := l.filterMap (·.frame)
noncomputable abbrev Cx.fs (X : Cx) : List Addr := frs X.outer
noncomputable def Vis (sc : Scope) (x : Str) : Prop := sc.names.lookup x = some .local ∨ sc.names.lookup x = some .cell ∨ sc.names.lookup x = some .free
noncomputable def Loc (sc : Scope) (x : Str) : Prop := sc.names.lookup x = some .local ∨ sc.names.lookup x = some .cell
noncomputable def Look (env : Env) (h : Heap) (m : Str → Option Value) (x : Str) (u : Value) : Prop :=
  (env.kindOf x = some .local ∧ m x = some u) ∨ ((env.kindOf x = some .cell ∨ env.kindOf x = some .free) ∧ ∃ c, env.cells.lookup x = some c ∧ h.IsCell c (some u))
structure Cx.Ok (X : Cx) : Prop where
  mod : Mod X.K X.mg X.base
  kind : X.env.scope.kind = .function
  glob : X.env.globals = mainGlobals
  blt : X.env.builtins = builtinsNs
  above : X.s₀.heap.objs.size ≤ X.env.locals
  inj : ∀ x y c, X.env.cells.lookup x = some c → X.env.cells.lookup y = some c → x = y
  has : ∀ x, (X.env.kindOf x = some .cell ∨ X.env.kindOf x = some .free) → ∃ c, X.env.cells.lookup x = some c
  cab : ∀ x c, X.fn x = true → X.env.cells.lookup x = some c → X.s₀.heap.objs.size ≤ c
  hd : X.calm = true → X.A.handled = none
  frames : X.A.frames = some X.stack
  stk : X.stack = X.outer ∨ (X.stack = X.env :: X.outer ∧ X.env.frame = some X.env.locals)
  exf : ∀ b ∈ X.ex, b ≠ X.env.locals ∧ ∀ x c, X.env.cells.lookup x = some c → c ≠ b
  bs : ∀ b o, X.base.get? b = some o → X.s₀.heap.get? b = some o ∧ X.H₀ b = none
  bsz : X.base.objs.size ≤ X.s₀.heap.objs.size
  noex : ∀ b o, X.base.get? b = some o → b ∉ X.ex
  exfs : ∀ b ∈ X.ex, b ∉ X.fs
  funs : X.s₀.heap.FunFrames X.base X.outer
  frf : ∀ b ∈ X.fs, X.H₀ b = none
structure Inv (X : Cx) (pins : List (Addr × Obj)) (σ : List (Option V)) (H : Hp) (s : Shared) : Prop where
  ok : X.Ok
  os : s.os = X.s₀.os
  bare : AllBare s.gens
  base : Un X.fs X.ex X.H₀ H X.s₀.heap s.heap
  loc : ∃ m, s.heap.Ns X.env.locals m ∧ ∀ (i : Nat) (x : Str) (v : V), X.N[i]? = some x → σ[i]? = some (some v) → Vis X.env.scope x → ∃ u, RelV v u ∧ Look X.env s.heap m x u
  cell : ∀ x c, X.env.cells.lookup x = some c → ∃ v, s.heap.IsCell c v
  free : H X.env.locals = none
  freeC : ∀ x c, X.env.cells.lookup x = some c → H c = none
  pin : ∀ p ∈ X.pn ++ pins, s.heap.get? p.1 = some p.2 ∧ H p.1 = none ∧ p.1 ≠ X.env.locals ∧ p.1 ∉ X.fs ∧ ∀ v, p.2.data ≠ .cell v
  hok : HOk X.prog X.w H s.heap
  len : σ.length = X.N.length
section
variable {X : Cx} {pins : List (Addr × Obj)} {σ : List (Option V)} {H H' : Hp} {s : Shared} {h' : Heap}
theorem Cx.Ok.nofr (ok : X.Ok) {b : Addr} {o : Obj} (e : X.base.get? b = some o) : b ∉ X.fs := fun hb => by
  have := (ok.funs.mem hb).1
  rw [e] at this; cases this
theorem Inv.bs (I : Inv X pins σ H s) : ∀ b o, X.base.get? b = some o → s.heap.get? b = some o ∧ H b = none := fun b o e =>
  ⟨I.base.keep b o (I.ok.bs b o e).1 (I.ok.bs b o e).2 (I.ok.nofr e) (I.ok.noex b o e), I.base.free b o (I.ok.bs b o e).1 (I.ok.bs b o e).2 (I.ok.noex b o e)⟩
theorem Inv.bk (I : Inv X pins σ H s) : ∀ b o, X.base.get? b = some o → s.heap.get? b = some o := fun b o e => (I.bs b o e).1
theorem Inv.mod (I : Inv X pins σ H s) : Mod X.K X.mg X.base := I.ok.mod
theorem Inv.kIn (I : Inv X pins σ H s) : X.K.In s.heap := I.ok.mod.kin.keeps I.bk
theorem Inv.nolimit (I : Inv X pins σ H s) : s.heap.NoLimit := I.ok.mod.nolimit.keeps I.bk
theorem Inv.lt (I : Inv X pins σ H s) : X.env.locals < s.heap.objs.size := let ⟨_, hn, _⟩ := I.loc; hn.lt
theorem Inv.sz (I : Inv X pins σ H s) : X.s₀.heap.objs.size ≤ s.heap.objs.size := Nat.le_trans I.ok.above (Nat.le_of_lt I.lt)
theorem Inv.nofs (I : Inv X pins σ H s) {a : Addr} (h : s.heap.objs.size ≤ a) : a ∉ X.fs := fun hb => by
  obtain ⟨_, o, ho, _⟩ := I.ok.funs.mem hb
  exact absurd (Nat.lt_of_lt_of_le (Heap.lt_size ho) (Nat.le_trans I.sz h)) (Nat.lt_irrefl _)
theorem Inv.cne (I : Inv X pins σ H s) : ∀ x c, X.env.cells.lookup x = some c → c ≠ X.env.locals := fun x c e z => by
  obtain ⟨v, o, ho, hd⟩ := I.cell x c e
  obtain ⟨m, ⟨o', es, ep, ho', hd', _⟩, _⟩ := I.loc
  rw [z, ho'] at ho; cases ho; rw [hd'] at hd; cases hd
theorem Inv.funs (I : Inv X pins σ H s) : s.heap.FunFrames X.base X.outer := by
  have all : ∀ (l : List Env), (∀ b ∈ frs l, b ∈ X.fs) → X.s₀.heap.FunFrames X.base l → s.heap.FunFrames X.base l := by
    intro l
    induction l with
    | nil => intro _ _; trivial
    | cons env r ih =>
      intro hs hl
      obtain ⟨hk, ⟨L, o, hf, hn, ho, hd⟩, hr⟩ := hl
      have hL : L ∈ X.fs := hs L (by unfold frs; rw [List.filterMap_cons, hf]; exact List.mem_cons_self)
      obtain ⟨sl, e⟩ := I.base.slot L o ho (I.ok.frf L hL) hL fun z => I.ok.exfs L z hL
      exact ⟨hk, ⟨L, _, hf, hn, e, hd⟩, ih (fun b hb => hs b (by unfold frs; rw [List.filterMap_cons, hf]; exact List.mem_cons_of_mem _ hb)) hr⟩
  exact all X.outer (fun _ hb => hb) I.ok.funs
theorem Inv.stack (I : Inv X pins σ H s) : s.heap.FunFrames X.base X.stack := by
  rcases I.ok.stk with e | ⟨e, hf⟩
  · rw [e]; exact I.funs
  · rw [e]
    obtain ⟨m, hn, _⟩ := I.loc
    refine .cons (by rw [I.ok.kind]; decide) hf hn ?_ I.funs
    exact Heap.get?_none_of_le (Nat.le_trans I.ok.bsz I.ok.above)
theorem Inv.stkSub (I : Inv X pins σ H s) : ∀ b ∈ frs X.stack, b ∈ X.env.locals :: X.fs := fun b hb => by
  rcases I.ok.stk with e | ⟨e, hf⟩
  · rw [e] at hb; exact List.mem_cons_of_mem _ hb
  · rw [e] at hb
    unfold frs at hb
    rw [List.filterMap_cons, hf] at hb
    exact hb
theorem Inv.stkFree (I : Inv X pins σ H s) : ∀ b ∈ frs X.stack, H b = none := fun b hb => by
  rcases List.mem_cons.mp (I.stkSub b hb) with e | hb
  · rw [e]; exact I.free
  · obtain ⟨_, o, ho, _⟩ := I.ok.funs.mem hb
    exact I.base.free b o ho (I.ok.frf b hb) fun z => I.ok.exfs b z hb
theorem Inv.step {g' : Array GenState} {t' : Nat} {d' : Drawn} {ch : List Addr} (I : Inv X pins σ H s)
    (hch : ∀ b ∈ ch, (b ∈ X.ex ∨ X.s₀.heap.objs.size ≤ b) ∧ b ≠ X.env.locals ∧ (∀ x c, X.env.cells.lookup x = some c → c ≠ b) ∧ ∀ p ∈ X.pn ++ pins, p.1 ≠ b)
    (keep : ∀ b o, b ≠ X.env.locals → b ∉ X.fs → b ∉ ch → s.heap.get? b = some o → H b = none → h'.get? b = some o)
    (slot : ∀ b o, b ≠ X.env.locals → b ∈ X.fs → b ∉ ch → s.heap.get? b = some o → H b = none → ∃ sl, h'.get? b = some { o with slots := sl }) (free : ∀ b o, b ∉ ch → s.heap.get? b = some o → H b = none → H' b = none)
    (there : ∀ b o, b ∉ ch → s.heap.get? b = some o → ∃ o', h'.get? b = some o')
    (tups : ∀ b xs, H b = some (.tup xs) → H' b = some (.tup xs)) (frzs : ∀ b o u, H b = some (.frz o u) → H' b = some (.frz o u)) (tbls : ∀ b ps, H b = some (.tbl ps) → ∃ more, H' b = some (.tbl (ps ++ more)))
    (ns : ∀ m, s.heap.Ns X.env.locals m → h'.Ns X.env.locals m) (hok : HOk X.prog X.w H' h') (hg : AllBare g') :
    Inv X pins σ H' { s with heap := h', gens := g', drawn := d', toks := t' } := by
  have neL : ∀ b o, X.s₀.heap.get? b = some o → b ≠ X.env.locals := fun b o e => Nat.ne_of_lt (Nat.lt_of_lt_of_le (Heap.lt_size e) I.ok.above)
  have neC : ∀ b o, X.s₀.heap.get? b = some o → b ∉ X.ex → b ∉ ch := fun b o e hx hb => by
    rcases (hch b hb).1 with z | z
    · exact hx z
    · exact absurd (Nat.lt_of_lt_of_le (Heap.lt_size e) z) (Nat.lt_irrefl _)
  have cellK : ∀ x c, X.env.cells.lookup x = some c → ∀ v, s.heap.IsCell c v → h'.IsCell c v := fun x c e v ⟨o, ho, hd⟩ => by
    have nch : c ∉ ch := fun z => (hch c z).2.2.1 x c e rfl
    by_cases hc : c ∈ X.fs
    · obtain ⟨sl, q⟩ := slot c o (I.cne x c e) hc nch ho (I.freeC x c e)
      exact ⟨_, q, hd⟩
    · exact ⟨o, keep c o (I.cne x c e) hc nch ho (I.freeC x c e), hd⟩
  refine ⟨I.ok, I.os, hg, ⟨fun b o e n hb hx => ?_, fun b o e n hb hx => ?_, fun b o e n hx => ?_, fun b o e hx => ?_, fun b xs e => tups b xs (I.base.tups b xs e), fun b o xs e => frzs b o xs (I.base.frzs b o xs e), fun b ps e => ?_⟩, ?_, fun x c e => ?_, ?_, fun x c e => ?_, fun p hp => ?_, hok, I.len⟩
  · exact keep b o (neL b o e) hb (neC b o e hx) (I.base.keep b o e n hb hx) (I.base.free b o e n hx)
  · obtain ⟨sl, e1⟩ := I.base.slot b o e n hb hx
    obtain ⟨sl', e2⟩ := slot b _ (neL b o e) hb (neC b o e hx) e1 (I.base.free b o e n hx)
    exact ⟨sl', e2⟩
  · obtain ⟨o', e1⟩ := I.base.there b o e hx
    exact free b o' (neC b o e hx) e1 (I.base.free b o e n hx)
  · obtain ⟨o', e1⟩ := I.base.there b o e hx
    exact there b o' (neC b o e hx) e1
  · obtain ⟨m1, e1⟩ := I.base.tbls b ps e
    obtain ⟨m2, e2⟩ := tbls b _ e1
    exact ⟨m1 ++ m2, by rw [e2, Array.append_assoc]⟩
  · obtain ⟨m, hn, hl⟩ := I.loc
    refine ⟨m, ns m hn, fun i x v e1 e2 e3 => ?_⟩
    obtain ⟨u, r, l⟩ := hl i x v e1 e2 e3
    refine ⟨u, r, ?_⟩
    rcases l with l | ⟨k, c, e, z⟩
    · exact .inl l
    · exact .inr ⟨k, c, e, cellK x c e _ z⟩
  · obtain ⟨v, z⟩ := I.cell x c e
    exact ⟨v, cellK x c e v z⟩
  · obtain ⟨m, ⟨o, _, _, ho, _⟩, _⟩ := I.loc
    exact free _ o (fun z => (hch _ z).2.1 rfl) ho I.free
  · obtain ⟨v, o, ho, hd⟩ := I.cell x c e
    exact free c o (fun z => (hch c z).2.2.1 x c e rfl) ho (I.freeC x c e)
  · obtain ⟨e, n, ne, nf, d⟩ := I.pin p hp
    have nch : p.1 ∉ ch := fun z => (hch p.1 z).2.2.2 p hp rfl
    exact ⟨keep p.1 p.2 ne nf nch e n, free p.1 p.2 nch e n, ne, nf, d⟩
theorem Inv.un {t' : Nat} (I : Inv X pins σ H s) (u : Un X.fs [] H H' s.heap h') (hok : HOk X.prog X.w H' h') : Inv X pins σ H' { s with heap := h', toks := t' } := by
  obtain ⟨m, ⟨o, es, ep, ho, r⟩, _⟩ := id I.loc
  obtain ⟨sl, hL⟩ := u.any ho I.free (by simp)
  exact I.step (g' := s.gens) (d' := s.drawn) (ch := []) (fun _ z => nomatch z) (fun b o _ hb _ e n => u.keep b o e n hb (by simp)) (fun b o _ hb _ e n => u.slot b o e n hb (by simp)) (fun b o _ e n => u.free b o e n (by simp)) (fun b o _ e => u.there b o e (by simp)) u.tups u.frzs u.tbls (fun m' hm => by
    obtain ⟨o', es', ep', ho', r'⟩ := hm
    rw [ho] at ho'; cases ho'
    exact ⟨_, es', ep', hL, r'⟩) hok I.bare
theorem Inv.call {g' : Array GenState} {t' : Nat} {d' : Drawn} {ch : List Addr} (I : Inv X pins σ H s) (u : Un (frs X.stack) ch H H' s.heap h') (hok : HOk X.prog X.w H' h') (hg : AllBare g')
    (hch : ∀ b ∈ ch, (b ∈ X.ex ∨ X.s₀.heap.objs.size ≤ b) ∧ b ≠ X.env.locals ∧ (∀ x c, X.env.cells.lookup x = some c → c ≠ b) ∧ ∀ p ∈ X.pn ++ pins, p.1 ≠ b) :
    Inv X pins σ H' { s with heap := h', gens := g', drawn := d', toks := t' } := by
  obtain ⟨m, ⟨o, es, ep, ho, r⟩, _⟩ := id I.loc
  obtain ⟨sl, hL⟩ := u.any ho I.free fun z => (hch _ z).2.1 rfl
  exact I.step (ch := ch) hch (fun b o hL hb hc e n => u.keep b o e n (fun z => (List.mem_cons.mp (I.stkSub b z)).elim hL hb) hc) (fun b o _ _ hc e n => u.any e n hc) (fun b o hc e n => u.free b o e n hc) (fun b o hc e => u.there b o e hc) u.tups u.frzs u.tbls (fun m' hm => by
    obtain ⟨o', es', ep', ho', r'⟩ := hm
    rw [ho] at ho'; cases ho'
    exact ⟨_, es', ep', hL, r'⟩) hok hg
theorem Inv.turned {t' : Nat} {it : Addr} (I : Inv X pins σ H s) (k : ∀ b o, b ≠ it → s.heap.get? b = some o → h'.get? b = some o) (hn : H it = none) (hL : it ≠ X.env.locals)
    (h1 : it ∈ X.ex ∨ X.s₀.heap.objs.size ≤ it) (h2 : ∀ x c, X.env.cells.lookup x = some c → c ≠ it) (h3 : ∀ p ∈ X.pn ++ pins, p.1 ≠ it) : Inv X pins σ H { s with heap := h', toks := t' } := by
  have nit : ∀ b u, H b = some u → b ≠ it := fun b u e z => by rw [z, hn] at e; cases e
  refine I.step (g' := s.gens) (d' := s.drawn) (ch := [it]) (fun b hb => ?_) (fun b o _ _ hc e _ => k b o (fun z => hc (by simp [z])) e) (fun b o _ _ hc e _ => ⟨o.slots, k b o (fun z => hc (by simp [z])) e⟩) (fun _ _ _ _ n => n)
    (fun b o hc e => ⟨o, k b o (fun z => hc (by simp [z])) e⟩) (fun _ _ e => e) (fun _ _ _ e => e) (fun b ps e => ⟨#[], by rw [e]; simp⟩) (fun m hm => ?_) (fun b u e => ?_) I.bare
  · have e : b = it := by simpa using hb
    subst e
    exact ⟨h1, hL, h2, h3⟩
  · obtain ⟨o, es, ep, ho, r⟩ := hm
    exact ⟨o, es, ep, k _ o (Ne.symm hL) ho, r⟩
  · refine (I.hok b u e).stay (fun c v hc q => k c v ?_ q) (fun _ q => q) fun _ _ q => q
    rcases hc with z | z
    · rw [z]; exact nit b u e
    · exact nit c _ z
theorem Inv.tok (I : Inv X pins σ H s) (t : Nat) : Inv X pins σ H { s with toks := t } := I.un (h' := s.heap) (t' := t) Un.refl I.hok
theorem Inv.kept {t' : Nat} (I : Inv X pins σ H s) (k : ∀ b u, s.heap.get? b = some u → h'.get? b = some u) : Inv X pins σ H { s with heap := h', toks := t' } := I.un (Un.kept k) (I.hok.kept k)
theorem Inv.laid {a : Addr} {o : HO} {t' : Nat} (I : Inv X pins σ H s) (k : ∀ b u, s.heap.get? b = some u → h'.get? b = some u) (hp : s.heap.objs.size ≤ a) (new : ObjOk X.prog X.w (upd H a o) h' a o) :
    Inv X pins σ (upd H a o) { s with heap := h', toks := t' } := I.un (Un.laid k hp (I.hok.fresh hp)) (I.hok.laid k hp new)
theorem Inv.write {x e : Addr} {o : HO} {t' : Nat} (I : Inv X pins σ H s) (mu : Mut (H x)) (he : e = x ∨ H e = some (.own x)) (k : ∀ b u, b ≠ e → s.heap.get? b = some u → h'.get? b = some u) (heo : ∃ u, h'.get? e = some u)
    (new : ObjOk X.prog X.w (upd H x o) h' x o) : Inv X pins σ (upd H x o) { s with heap := h', toks := t' } := I.un (Un.write mu he k heo) (I.hok.write mu he k heo new)
theorem Inv.pins_of {pins' : List (Addr × Obj)} (I : Inv X pins σ H s) (h : ∀ p ∈ pins', s.heap.get? p.1 = some p.2 ∧ H p.1 = none ∧ p.1 ≠ X.env.locals ∧ p.1 ∉ X.fs ∧ ∀ v, p.2.data ≠ .cell v) : Inv X pins' σ H s :=
  ⟨I.ok, I.os, I.bare, I.base, I.loc, I.cell, I.free, I.freeC, fun p hp => (List.mem_append.mp hp).elim (fun z => I.pin p (List.mem_append_left _ z)) (h p), I.hok, I.len⟩
theorem nodup_ix {N : List Str} (hN : N.Nodup) {i j : Nat} {x : Str} (a : N[i]? = some x) (b : N[j]? = some x) : i = j := by
  obtain ⟨h1, e1⟩ := List.getElem?_eq_some_iff.mp a
  obtain ⟨h2, e2⟩ := List.getElem?_eq_some_iff.mp b
  exact (List.getElem_inj hN).mp (e1.trans e2.symm)
theorem store_ok2 {M : Model} {A : Around} {E : Value → Shared → Prop} {i : Nat} {x : Str} {v : V} {u : Value} {Q : Unit → Shared → Prop} (I : Inv X pins σ H s) (hN : X.N.Nodup) (hi : X.N[i]? = some x) (hx : Loc X.env.scope x) (r : RelV v u)
    (h : ∀ s', Inv X pins (σ.set i (some v)) H s' → (∃ a, Heap.SameBut a s.heap s'.heap ∧ (a = X.env.locals ∨ X.env.cells.lookup x = some a)) → Q () s') (hf : X.fn x = true ∨ X.env.scope.names.lookup x = some .local := by first | exact .inl rfl | exact .inr rfl | assumption) : wpAny M A (storeName X.env x u) Q E s := by
  obtain ⟨m, hn, hl⟩ := id I.loc
  have hcls : (X.env.scope.kind == .class || (X.env.scope.kind == .module && X.env.locals != X.env.globals)) = false := by rw [I.ok.kind]; rfl
  have hiσ : i < σ.length := by rw [I.len]; exact (List.getElem?_eq_some_iff.mp hi).1
  have cne := I.cne
  have tracked : ∀ {a : Addr} {h' : Heap}, (∃ o, s.heap.get? a = some o ∧ H a = none) → Heap.SameBut a s.heap h' → HOk X.prog X.w H h' := fun {a h'} ha hs b ob e => by
    obtain ⟨_, _, hfree⟩ := ha
    refine (I.hok b ob e).stay (fun c w' hc q => (hs.2 c ?_).trans q) (fun _ q => q) fun _ _ q => q
    rintro rfl
    rcases hc with rfl | hc
    · rw [hfree] at e; cases e
    · rw [hfree] at hc; cases hc
  rcases hx with hk | hk
  · refine wpAny_storeName_local hk hn (fun h' hn' hs => ?_) hcls
    obtain ⟨oL, _, _, hoL, _⟩ := id hn
    refine h _ ⟨I.ok, I.os, I.bare, ⟨fun b o e n hb hx => ?_, fun b o e n hb hx => ?_, I.base.free, fun b o e hx => ?_, I.base.tups, I.base.frzs, I.base.tbls⟩, ⟨_, hn', fun j y v' e1 e2 e3 => ?_⟩, fun y c e => ?_, I.free, I.freeC, fun p hp => ?_, tracked ⟨oL, hoL, I.free⟩ hs, by simpa using I.len⟩ ⟨_, hs, .inl rfl⟩
    · exact (hs.2 b (Nat.ne_of_lt (Nat.lt_of_lt_of_le (Heap.lt_size e) I.ok.above))).trans (I.base.keep b o e n hb hx)
    · obtain ⟨sl, e1⟩ := I.base.slot b o e n hb hx
      exact ⟨sl, (hs.2 b (Nat.ne_of_lt (Nat.lt_of_lt_of_le (Heap.lt_size e) I.ok.above))).trans e1⟩
    · obtain ⟨o', e1⟩ := I.base.there b o e hx
      exact ⟨o', (hs.2 b (Nat.ne_of_lt (Nat.lt_of_lt_of_le (Heap.lt_size e) I.ok.above))).trans e1⟩
    · by_cases hj : j = i
      · subst hj
        rw [hi] at e1; cases e1
        rw [List.getElem?_set_self hiσ] at e2
        cases e2
        exact ⟨u, r, .inl ⟨hk, by simp⟩⟩
      · rw [List.getElem?_set_ne (Ne.symm hj)] at e2
        obtain ⟨u', r', q⟩ := hl j y v' e1 e2 e3
        refine ⟨u', r', ?_⟩
        rcases q with ⟨k, e⟩ | ⟨k, c, e, z⟩
        · refine .inl ⟨k, ?_⟩
          have : y ≠ x := fun e => hj (nodup_ix hN e1 (e ▸ hi))
          simp [this, e]
        · exact .inr ⟨k, c, e, z.sameBut hs (cne y c e)⟩
    · obtain ⟨w', z⟩ := I.cell y c e
      exact ⟨w', z.sameBut hs (cne y c e)⟩
    · obtain ⟨e, n, ne, nf, d⟩ := I.pin p hp
      exact ⟨(hs.2 p.1 ne).trans e, n, ne, nf, d⟩
  · have hfn : X.fn x = true := by
      rcases hf with z | z
      · exact z
      · rw [z] at hk; cases hk
    obtain ⟨c, hc⟩ := I.ok.has x (.inl hk)
    obtain ⟨w', z⟩ := I.cell x c hc
    refine wpAny_storeName_cell I.ok.kind hk hc z (fun h' hc' hs => ?_)
    obtain ⟨oc, hoc, hocd⟩ := id z
    refine h { s with heap := h' } ⟨I.ok, I.os, I.bare, ⟨fun b o e n hb hx => ?_, fun b o e n hb hx => ?_, I.base.free, fun b o e hx => ?_, I.base.tups, I.base.frzs, I.base.tbls⟩, ⟨m, hn.sameBut hs (Ne.symm (cne x c hc)), fun j y v' e1 e2 e3 => ?_⟩, fun y c' e => ?_, I.free, I.freeC, fun p hp => ?_, tracked ⟨oc, hoc, I.freeC x c hc⟩ hs, by simpa using I.len⟩ ⟨c, hs, .inr hc⟩
    · exact (hs.2 b (Nat.ne_of_lt (Nat.lt_of_lt_of_le (Heap.lt_size e) (I.ok.cab x c hfn hc)))).trans (I.base.keep b o e n hb hx)
    · obtain ⟨sl, e1⟩ := I.base.slot b o e n hb hx
      exact ⟨sl, (hs.2 b (Nat.ne_of_lt (Nat.lt_of_lt_of_le (Heap.lt_size e) (I.ok.cab x c hfn hc)))).trans e1⟩
    · obtain ⟨o', e1⟩ := I.base.there b o e hx
      exact ⟨o', (hs.2 b (Nat.ne_of_lt (Nat.lt_of_lt_of_le (Heap.lt_size e) (I.ok.cab x c hfn hc)))).trans e1⟩
    · by_cases hj : j = i
      · subst hj
        rw [hi] at e1; cases e1
        rw [List.getElem?_set_self hiσ] at e2
        cases e2
        exact ⟨u, r, .inr ⟨.inl hk, c, hc, hc'⟩⟩
      · rw [List.getElem?_set_ne (Ne.symm hj)] at e2
        obtain ⟨u', r', q⟩ := hl j y v' e1 e2 e3
        refine ⟨u', r', ?_⟩
        rcases q with q | ⟨k, c', e, z'⟩
        · exact .inl q
        · refine .inr ⟨k, c', e, z'.sameBut hs ?_⟩
          rintro rfl
          exact hj (nodup_ix hN e1 (I.ok.inj _ _ _ e hc ▸ hi))
    · by_cases hcc : c' = c
      · subst hcc; exact ⟨_, hc'⟩
      · obtain ⟨w2, z2⟩ := I.cell y c' e
        exact ⟨w2, z2.sameBut hs hcc⟩
    · obtain ⟨e, n, ne, nf, d⟩ := I.pin p hp
      refine ⟨(hs.2 p.1 ?_).trans e, n, ne, nf, d⟩
      intro q
      rw [q, hoc] at e
      have q' : oc = p.2 := Option.some.inj e
      exact d w' (by rw [← q']; exact hocd)
theorem store_ok {M : Model} {A : Around} {E : Value → Shared → Prop} {i : Nat} {x : Str} {v : V} {u : Value} {Q : Unit → Shared → Prop} (I : Inv X pins σ H s) (hN : X.N.Nodup) (hi : X.N[i]? = some x) (hx : Loc X.env.scope x) (r : RelV v u)
    (h : ∀ s', Inv X pins (σ.set i (some v)) H s' → Q () s') (hf : X.fn x = true ∨ X.env.scope.names.lookup x = some .local := by first | exact .inl rfl | exact .inr rfl | assumption) : wpAny M A (storeName X.env x u) Q E s :=
  store_ok2 I hN hi hx r (fun s' I' _ => h s' I') hf
theorem Inv.call' {s' : Shared} {ch : List Addr} (I : Inv X pins σ H s) (ho : s'.os = s.os) (u : Un (frs X.stack) ch H H' s.heap s'.heap) (hok : HOk X.prog X.w H' s'.heap) (hg : AllBare s'.gens)
    (hch : ∀ b ∈ ch, (b ∈ X.ex ∨ X.s₀.heap.objs.size ≤ b) ∧ b ≠ X.env.locals ∧ (∀ x c, X.env.cells.lookup x = some c → c ≠ b) ∧ ∀ p ∈ X.pn ++ pins, p.1 ≠ b) : Inv X pins σ H' s' := by
  obtain ⟨h', g', d', t', o'⟩ := s'
  have e : o' = s.os := ho
  subst e
  exact I.call (g' := g') (t' := t') (d' := d') u hok hg hch
end
noncomputable abbrev XK := Value → Option Addr → Hp → Prop
noncomputable abbrev St := List (Option V)
noncomputable abbrev VK := V → Hp → Prop
noncomputable abbrev TE := St → Hp → VK → Prop
noncomputable abbrev TT := St → Hp → (Bool → Hp → Prop) → Prop
noncomputable abbrev TA := St → Hp → (List V → Hp → Prop) → Prop
structure Ends where
  nx : St → Hp → Prop
  rt : VK
  bk : St → Hp → Prop := fun _ _ => False
  ct : St → Hp → Prop := fun _ _ => False
noncomputable abbrev TS := Ends → St → Hp → Prop
noncomputable def EP (X : Cx) (pins : List (Addr × Obj)) (σ : St) (Q : VK) (u : Value) (s' : Shared) : Prop := ∃ v H', Inv X pins σ H' s' ∧ RelV v u ∧ Q v H'
noncomputable def TP (X : Cx) (pins : List (Addr × Obj)) (σ : St) (Q : Bool → Hp → Prop) (b : Bool) (s' : Shared) : Prop := ∃ H', Inv X pins σ H' s' ∧ Q b H'
noncomputable def AP (X : Cx) (pins : List (Addr × Obj)) (σ : St) (Q : List V → Hp → Prop) (us : List Value) (s' : Shared) : Prop := ∃ vs H', Inv X pins σ H' s' ∧ Vals vs us ∧ Q vs H'
noncomputable def SP (X : Cx) (pins : List (Addr × Obj)) (D : Ends) (f : Flow) (s' : Shared) : Prop :=
  match f with
  | .next => ∃ σ' H', Inv X pins σ' H' s' ∧ D.nx σ' H'
  | .brk => ∃ σ' H', Inv X pins σ' H' s' ∧ D.bk σ' H'
  | .cont => ∃ σ' H', Inv X pins σ' H' s' ∧ D.ct σ' H'
  | .ret u => ∃ v σ' H', Inv X pins σ' H' s' ∧ RelV v u ∧ D.rt v H'
noncomputable def PE (X : Cx) (e : Expr) (t : TE) : Prop :=
  ∀ (pins : List (Addr × Obj)) (s : Shared) (σ : St) (H : Hp) (Q : VK), Inv X pins σ H s → t σ H Q → wpAny (model X.prog X.w) X.A (eval e X.env) (EP X pins σ Q) X.xe s
noncomputable def PT (X : Cx) (e : Expr) (t : TT) : Prop :=
  ∀ (pins : List (Addr × Obj)) (s : Shared) (σ : St) (H : Hp) (Q : Bool → Hp → Prop), Inv X pins σ H s → t σ H Q → wpAny (model X.prog X.w) X.A (isTrue e X.env (eval e X.env)) (TP X pins σ Q) X.xe s
noncomputable def PW (X : Cx) (e : Expr) (t : TT) : Prop :=
  ∀ (whole : Sem Value) (pins : List (Addr × Obj)) (s : Shared) (σ : St) (H : Hp) (Q : Bool → Hp → Prop), Inv X pins σ H s → t σ H Q → wpAny (model X.prog X.w) X.A (isTrue e X.env whole) (TP X pins σ Q) X.xe s
theorem PW.pt {X : Cx} {e : Expr} {t : TT} (h : PW X e t) : PT X e t := h _
noncomputable def PA (X : Cx) (es : List Expr) (t : TA) : Prop :=
  ∀ (pos : Pos) (pins : List (Addr × Obj)) (s : Shared) (σ : St) (H : Hp) (Q : List V → Hp → Prop), Inv X pins σ H s → t σ H Q → wpAny (model X.prog X.w) X.A (spliced (backTo pos (starEach es X.env))) (AP X pins σ Q) X.xe s
noncomputable def PS (X : Cx) (st : Stmt) (t : TS) : Prop :=
  ∀ (pins : List (Addr × Obj)) (s : Shared) (σ : St) (H : Hp) (D : Ends), Inv X pins σ H s → t D σ H → wpAny (model X.prog X.w) X.A (exec st X.env) (SP X pins D) X.xe s
noncomputable def PSs (X : Cx) (st : List Stmt) (t : TS) : Prop :=
  ∀ (pins : List (Addr × Obj)) (s : Shared) (σ : St) (H : Hp) (D : Ends), Inv X pins σ H s → t D σ H → wpAny (model X.prog X.w) X.A (execs st X.env) (SP X pins D) X.xe s
theorem thn {α : Type} {t : Sem α} {Q Q' : α → Shared → Prop} {M : Model} {A : Around} {E : Value → Shared → Prop} {s : Shared} (h : wpAny M A t Q E s) (hQ : ∀ a s, Q a s → Q' a s) : wpAny M A t Q' E s := wpAny_mono h hQ fun _ _ x => x
end L2
namespace L2
open PySem PySem.Spec PyProof.Rows
section
variable {X : Cx}
noncomputable def tVar (i : Nat) : TE := fun σ H Q => ∃ v, σ[i]? = some (some v) ∧ Q v H
noncomputable def tC (v : V) : TE := fun _ H Q => Q v H
theorem pe_var {i : Nat} {x : Str} {pos : Pos} (hN : X.N[i]? = some x) (hv : Vis X.env.scope x) (hd : (x == ("__debug__" : Str)) = false := by decide) (hcd : (x == ("__classdict__" : Str)) = false := by decide) : PE X (.Name x pos) (tVar i) := by
  intro pins s σ H Q I h
  obtain ⟨v, e, h⟩ := h
  obtain ⟨m, hn, hl⟩ := I.loc
  obtain ⟨u, r, l⟩ := hl i x v hN e hv
  have fin : EP X pins σ Q u s := ⟨v, H, I, r, h⟩
  rcases l with ⟨hk, hm⟩ | ⟨hk, c, hc, hcell⟩
  · exact wpAny_Name (wpAny_loadName_local I.ok.kind hk hn hm fin) hd
  · rcases hk with hk | hk
    · exact wpAny_Name (wpAny_loadName_cell I.ok.kind hk hc hcell fin) hd
    · exact wpAny_Name (wpAny_loadName_free I.ok.kind hk hc hcell fin hcd) hd
theorem pe_int {i j pos} : PE X (.Constant (.int i) j pos) (tC (.int i)) := fun _ _ _ H _ I h => wpAny_Constant_int ⟨.int i, H, I.tok _, ⟨_, rfl⟩, h⟩
theorem pe_bl {b j pos} : PE X (.Constant (.bool b) j pos) (tC (.bl b)) := fun _ _ _ H _ I h => Constant_bool ⟨.bl b, H, I, rfl, h⟩
theorem pe_non {j pos} : PE X (.Constant .none j pos) (tC .non) := fun _ _ _ H _ I h => Constant_none ⟨.non, H, I, rfl, h⟩
theorem pe_str {x j pos} : PE X (.Constant (.str x) j pos) (tC (.str x)) := fun _ _ _ H _ I h => Calls.Constant_str ⟨.str x, H, I.tok _, ⟨_, rfl⟩, h⟩
noncomputable def Gl (X : Cx) (x : Str) : Prop := X.env.kindOf x = some .globalImplicit
theorem ld_glob {E : Value → Shared → Prop} {pins : List (Addr × Obj)} {s : Shared} {σ : St} {H : Hp} {x : Str} {u : Value} {pos : Pos} {Q : Value → Shared → Prop} (I : Inv X pins σ H s) (hg : Gl X x) (hm : X.mg x = some u) (h : Q u s)
    (hd : (x == ("__debug__" : Str)) = false := by decide) : wpAny (model X.prog X.w) X.A (eval (.Name x pos) X.env) Q E s :=
  Calls.Name_function_global I.ok.kind hg (Calls.loadGlobal_global (by rw [I.ok.glob]; exact I.mod.glob.keeps I.bk) hm h) hd
theorem ld_blt {E : Value → Shared → Prop} {pins : List (Addr × Obj)} {s : Shared} {σ : St} {H : Hp} {x : Str} {u : Value} {pos : Pos} {Q : Value → Shared → Prop} (I : Inv X pins σ H s) (hg : Gl X x) (hm : X.mg x = none) (hv : bootBuiltins x = some u) (h : Q u s)
    (hn : x ≠ "__name__" := by decide) (hd : (x == ("__debug__" : Str)) = false := by decide) : wpAny (model X.prog X.w) X.A (eval (.Name x pos) X.env) Q E s := by
  obtain ⟨mb, h1, h2⟩ := I.mod.blt
  exact Calls.Name_function_global I.ok.kind hg (Calls.loadGlobal_builtin (by rw [I.ok.glob]; exact I.mod.glob.keeps I.bk) hm (by rw [I.ok.blt]; exact h1.keeps I.bk) ((h2 x hn).trans hv) h) hd
theorem pe_glob {x : Str} {v : V} {u : Value} {pos : Pos} (hg : Gl X x) (hm : X.mg x = some u) (r : RelV v u) (hd : (x == ("__debug__" : Str)) = false := by decide) : PE X (.Name x pos) (tC v) :=
  fun _ _ _ H _ I h => ld_glob I hg hm ⟨v, H, I, r, h⟩ hd
theorem pe_bltn {x : Str} {v : V} {u : Value} {pos : Pos} (hg : Gl X x) (hm : X.mg x = none) (hv : bootBuiltins x = some u) (r : RelV v u) (hn : x ≠ "__name__" := by decide) (hd : (x == ("__debug__" : Str)) = false := by decide) : PE X (.Name x pos) (tC v) :=
  fun _ _ _ H _ I h => ld_blt I hg hm hv ⟨v, H, I, r, h⟩ hn hd
variable {a b : Expr} {ta tb : TE} {pos : Pos}
noncomputable def tB (t : TE) : TT := fun σ H Q => t σ H fun x H1 => ∃ c, x = .bl c ∧ Q c H1
theorem pt_val {e : Expr} {t : TE} (h : PE X e t) (he : ∀ whole, isTrue e X.env whole = (do let v ← whole; standAt e.pos; holding [v] (truthy v)) := by intro _; rfl) : PT X e (tB t) := by
  intro pins s σ H Q I hw
  refine isTrue_plain (thn (h pins s σ H _ I hw) fun v s1 ⟨x, H1, I1, r1, q1⟩ => ?_) (he _)
  obtain ⟨d, rfl, q⟩ := q1
  cases r1
  exact wpAny_truthy_bool ⟨H1, I1, q⟩
variable {tA tB' : TT} {rest : List Expr}
noncomputable def tAnd (t u : TT) : TT := fun σ H Q => t σ H fun c H1 => if c = true then u σ H1 Q else Q false H1
noncomputable def tOr (t u : TT) : TT := fun σ H Q => t σ H fun c H1 => if c = true then Q true H1 else u σ H1 Q
noncomputable def tNot (t : TT) : TT := fun σ H Q => t σ H fun c H1 => Q (!c) H1
theorem pw_and1 (ha : PT X a tA) : PW X (.BoolOp .And [a] pos) tA := by
  intro wh pins s σ H Q I h
  refine isTrue_and (thn (ha pins s σ H Q I h) fun c s1 e => ?_)
  cases c with
  | true => exact isTrue_and_nil e
  | false => exact e
theorem pw_or1 (ha : PT X a tA) : PW X (.BoolOp .Or [a] pos) tA := by
  intro wh pins s σ H Q I h
  refine isTrue_or (thn (ha pins s σ H Q I h) fun c s1 e => ?_)
  cases c with
  | false => exact isTrue_or_nil e
  | true => exact e
theorem pw_and (ha : PT X a tA) (hb : PW X (.BoolOp .And (b :: rest) pos) tB') : PW X (.BoolOp .And (a :: b :: rest) pos) (tAnd tA tB') := by
  intro wh pins s σ H Q I h
  refine isTrue_and (thn (ha pins s σ H _ I h) fun c s1 ⟨H1, I1, q1⟩ => ?_)
  cases c with
  | true => exact hb wh pins s1 σ H1 Q I1 q1
  | false => exact ⟨H1, I1, q1⟩
theorem pw_or (ha : PT X a tA) (hb : PW X (.BoolOp .Or (b :: rest) pos) tB') : PW X (.BoolOp .Or (a :: b :: rest) pos) (tOr tA tB') := by
  intro wh pins s σ H Q I h
  refine isTrue_or (thn (ha pins s σ H _ I h) fun c s1 ⟨H1, I1, q1⟩ => ?_)
  cases c with
  | true => exact ⟨H1, I1, q1⟩
  | false => exact hb wh pins s1 σ H1 Q I1 q1
theorem pt_not (ha : PT X a tA) : PT X (.UnaryOp .Not a pos) (tNot tA) := by
  intro pins s σ H Q I h
  exact isTrue_not (ha pins s σ H (fun c H1 => Q (!c) H1) I h)
noncomputable def tAndV (ta tb : TE) : TE := fun σ H Q => ta σ H fun x H1 => ∃ c, x = .bl c ∧ if c = true then tb σ H1 Q else Q (.bl false) H1
noncomputable def tOrV (ta tb : TE) : TE := fun σ H Q => ta σ H fun x H1 => ∃ c, x = .bl c ∧ if c = true then Q (.bl true) H1 else tb σ H1 Q
noncomputable def tNotV (ta : TE) : TE := fun σ H Q => ta σ H fun x H1 => ∃ c, x = .bl c ∧ Q (.bl (!c)) H1
theorem pe_one {op} {t : TE} (h : PE X a t) : PE X (.BoolOp op [a] pos) t := fun pins s σ H Q I hw => BoolOp_one (h pins s σ H Q I hw)
theorem pe_and (ha : PE X a ta) (hb : PE X (.BoolOp .And (b :: rest) pos) tb) : PE X (.BoolOp .And (a :: b :: rest) pos) (tAndV ta tb) := by
  intro pins s σ H Q I h
  refine BoolOp_and (thn (ha pins s σ H _ I h) fun v s1 ⟨x, H1, I1, r1, q1⟩ => ?_)
  obtain ⟨c, rfl, q1⟩ := q1
  cases r1
  refine wpAny_truthy_bool ?_
  cases c with
  | true => exact hb pins s1 σ H1 Q I1 q1
  | false => exact ⟨.bl false, H1, I1, rfl, q1⟩
noncomputable def tIf (t : TT) (ta tb : TE) : TE := fun σ H Q => t σ H fun c H1 => if c = true then ta σ H1 Q else tb σ H1 Q
theorem pe_ifExp {c : Expr} (hc : PT X c tA) (ha : PE X a ta) (hb : PE X b tb) : PE X (.IfExp c a b pos) (tIf tA ta tb) := by
  intro pins s σ H Q I h
  refine wpAny_IfExp (thn (hc pins s σ H _ I h) fun d s1 ⟨H1, I1, q1⟩ => ?_)
  cases d with
  | true => exact ha pins s1 σ H1 Q I1 q1
  | false => exact hb pins s1 σ H1 Q I1 q1
end
end L2
namespace L2
open PySem PySem.Spec PyProof.Rows
noncomputable def SqL (K : PySem.W.Frag) (H : Hp) (a : Addr) (xs : List V) : Prop :=
  Rd H a (.lst xs) ∨
    ∃ (o : Obj) (its : Array Value) (n : Nat), K.lookup a = some o ∧ o.cls = .type "list" ∧ o.dict = none ∧ o.data = .seq its n ∧ its.size ≤ sizeLine ∧ Vals xs its.toList
noncomputable def SqT (K : PySem.W.Frag) (H : Hp) (a : Addr) (xs : List V) : Prop :=
  Rd H a (.tup xs) ∨
    ∃ (o : Obj) (its : Array Value) (n : Nat), K.lookup a = some o ∧ o.cls = .type "tuple" ∧ o.data = .seq its n ∧ its.size ≤ sizeLine ∧ Vals xs its.toList
noncomputable def absV : Value → Option V
  | .none => some .non
  | .bool b => some (.bl b)
  | .int i _ => some (.int i)
  | .str x _ => some (.str x)
  | .bytes b _ => some (.byt b)
  | .float b _ => some (.flt b)
  | .ref a => some (.ref a)
  | .type n => some (.ty n)
  | _ => none
theorem RelV.abs {x : V} {u : Value} (r : RelV x u) : absV u = some x := by
  cases x with
  | non => cases r; rfl
  | bl _ => cases r; rfl
  | int _ => obtain ⟨t, rfl⟩ := r; rfl
  | str _ => obtain ⟨t, rfl⟩ := r; rfl
  | byt _ => obtain ⟨t, rfl⟩ := r; rfl
  | flt _ => obtain ⟨t, rfl⟩ := r; rfl
  | ref _ => cases r; rfl
  | ty _ => cases r; rfl
theorem RelV.inj {x y : V} {u : Value} (r : RelV x u) (q : RelV y u) : x = y := Option.some.inj (r.abs.symm.trans q.abs)
theorem Vals.inj : ∀ {xs ys : List V} {us : List Value}, Vals xs us → Vals ys us → xs = ys
  | _, _, _, .nil, .nil => rfl
  | _, _, _, .cons r t, .cons r' t' => by rw [r.inj r', Vals.inj t t']
section
variable {X : Cx} {pins : List (Addr × Obj)} {σ : St} {H : Hp} {s : Shared} {a : Addr} {xs ys : List V}
theorem SqL.of {K : PySem.W.Frag} (h : H a = some (.lst xs)) : SqL K H a xs := .inl (.inl h)
theorem SqT.of {K : PySem.W.Frag} (h : H a = some (.tup xs)) : SqT K H a xs := .inl (.inl h)
theorem Inv.list (I : Inv X pins σ H s) (h : SqL X.K H a xs) : ∃ its : List Value, Vals xs its ∧ PlainL s.heap a its.toArray ∧ xs.length ≤ sizeLine := by
  rcases h with h | ⟨o, its, n, hk, hc, hd, hs, hz, r⟩
  · obtain ⟨z, its, n, r, e⟩ := h.ok I.hok
    exact ⟨its, r, ⟨_, n, e, rfl, rfl, rfl⟩, z⟩
  · refine ⟨its.toList, r, ⟨o, n, I.kIn a o hk, hc, hd, by simpa using hs⟩, ?_⟩
    have e := r.length
    simp only [Array.length_toList] at e
    lia
theorem Inv.tuple (I : Inv X pins σ H s) (h : SqT X.K H a xs) : ∃ its : List Value, Vals xs its ∧ IsTup s.heap a its.toArray ∧ xs.length ≤ sizeLine := by
  rcases h with h | ⟨o, its, n, hk, hc, hs, hz, r⟩
  · obtain ⟨z, its, r, p⟩ := h.ok I.hok
    exact ⟨its, r, p, z⟩
  · refine ⟨its.toList, r, ⟨o, I.kIn a o hk, hc, n, by simpa using hs⟩, ?_⟩
    have e := r.length
    simp only [Array.length_toList] at e
    lia
theorem Inv.list_inj (I : Inv X pins σ H s) (h : SqL X.K H a xs) (h' : SqL X.K H a ys) : xs = ys := by
  obtain ⟨its, r, ⟨o, n, e, _, _, d⟩, _⟩ := I.list h
  obtain ⟨its', r', ⟨o', n', e', _, _, d'⟩, _⟩ := I.list h'
  rw [e] at e'; cases e'
  rw [d] at d'
  injection d' with d1 _
  have : its = its' := by simpa using congrArg Array.toList d1
  subst this
  exact r.inj r'
end
noncomputable abbrev Cx.wish (X : Cx) (E : Value → Shared → Prop) : Cx := { X with xe := E }
noncomputable abbrev Cx.nox (X : Cx) : Cx := X.wish fun _ _ => False
theorem Cx.Ok.wish {X : Cx} (ok : X.Ok) (E : Value → Shared → Prop) : (X.wish E).Ok :=
  ⟨ok.mod, ok.kind, ok.glob, ok.blt, ok.above, ok.inj, ok.has, ok.cab, ok.hd, ok.frames, ok.stk, ok.exf, ok.bs, ok.bsz, ok.noex, ok.exfs, ok.funs, ok.frf⟩
theorem Cx.Ok.unwish {X : Cx} {E : Value → Shared → Prop} (ok : (X.wish E).Ok) : X.Ok :=
  ⟨ok.mod, ok.kind, ok.glob, ok.blt, ok.above, ok.inj, ok.has, ok.cab, ok.hd, ok.frames, ok.stk, ok.exf, ok.bs, ok.bsz, ok.noex, ok.exfs, ok.funs, ok.frf⟩
section
variable {X : Cx} {pins : List (Addr × Obj)} {σ : St} {H : Hp} {s : Shared} {E : Value → Shared → Prop}
theorem Inv.wish (I : Inv X pins σ H s) (E : Value → Shared → Prop) : Inv (X.wish E) pins σ H s := ⟨I.ok.wish E, I.os, I.bare, I.base, I.loc, I.cell, I.free, I.freeC, I.pin, I.hok, I.len⟩
theorem Inv.unwish (I : Inv (X.wish E) pins σ H s) : Inv X pins σ H s := ⟨I.ok.unwish, I.os, I.bare, I.base, I.loc, I.cell, I.free, I.freeC, I.pin, I.hok, I.len⟩
theorem SP.unwish {D : Ends} {f : Flow} {s' : Shared} (h : SP (X.wish E) pins D f s') : SP X pins D f s' := by
  cases f with
  | next => obtain ⟨σ', H', I, q⟩ := h; exact ⟨σ', H', I.unwish, q⟩
  | brk => obtain ⟨σ', H', I, q⟩ := h; exact ⟨σ', H', I.unwish, q⟩
  | cont => obtain ⟨σ', H', I, q⟩ := h; exact ⟨σ', H', I.unwish, q⟩
  | ret u => obtain ⟨v, σ', H', I, r, q⟩ := h; exact ⟨v, σ', H', I.unwish, r, q⟩
theorem PSs.nox {st : List Stmt} {t : TS} (h : PSs X.nox st t) : PSs X st t := fun pins s σ H D I hw =>
  wpAny_mono (h pins s σ H D (I.wish _) hw) (fun _ _ q => q.unwish) fun _ _ z => False.elim z
end
section
variable {X : Cx} {st : Stmt} {rest : List Stmt} {t u : TS} {e : Expr} {te : TE} {pos : Pos}
noncomputable def tNext : TS := fun D σ H => D.nx σ H
noncomputable def tSeq (t u : TS) : TS := fun D σ H => t { D with nx := u D } σ H
theorem pss_nil : PSs X [] tNext := fun _ _ σ H _ I h => wpAny_execs_nil ⟨σ, H, I, h⟩
theorem pss_cons (h1 : PS X st t) (h2 : PSs X rest u) : PSs X (st :: rest) (tSeq t u) := by
  intro pins s σ H D I h
  refine wpAny_execs_cons (thn (h1 pins s σ H { D with nx := u D } I h) fun f s1 q => ?_)
  cases f with
  | next =>
    obtain ⟨σ', H', I', q⟩ := q
    exact h2 pins s1 σ' H' D I' q
  | ret v => exact q
  | brk => exact q
  | cont => exact q
theorem pss_one (h1 : PS X st t) : PSs X [st] t := by
  intro pins s σ H D I h
  refine wpAny_execs_cons (thn (h1 pins s σ H D I h) fun f s1 q => ?_)
  cases f with
  | next => exact wpAny_execs_nil q
  | ret v => exact q
  | brk => exact q
  | cont => exact q
theorem Inv.quiet {pins : List (Addr × Obj)} {σ : St} {H : Hp} {s : Shared} (I : Inv X pins σ H s) : interactive X.env = false := by simp [interactive, I.ok.kind]
noncomputable def tDrop (te : TE) : TS := fun D σ H => te σ H fun _ H1 => D.nx σ H1
theorem ps_expr (he : PE X e te) (hs : swapsWith e none pos.line X.env = pure false := by rfl) : PS X (.Expr e pos) (tDrop te) := by
  intro pins s σ H D I h
  exact wpAny_Expr_any (thn (he pins s σ H _ I h) fun v s1 ⟨x, H1, I1, r1, q1⟩ => ⟨σ, H1, I1, q1⟩) I.quiet hs
noncomputable def tRet (te : TE) : TS := fun D σ H => te σ H D.rt
theorem ps_ret (he : PE X e te) : PS X (.Return (some e) pos) (tRet te) := by
  intro pins s σ H D I h
  exact wpAny_Return_some (thn (he pins s σ H _ I h) fun v s1 ⟨x, H1, I1, r1, q1⟩ => ⟨x, σ, H1, I1, r1, q1⟩)
noncomputable def tIfS (c : TT) (t u : TS) : TS := fun D σ H => c σ H fun b H1 => if b = true then t D σ H1 else u D σ H1
theorem ps_if {c : Expr} {a b : List Stmt} {tc : TT} (hc : PT X c tc) (ha : PSs X a t) (hb : PSs X b u) : PS X (.If c a b pos) (tIfS tc t u) := by
  intro pins s σ H D I h
  refine wpAny_If (thn (hc pins s σ H _ I h) fun d s1 ⟨H1, I1, q1⟩ => ?_)
  cases d with
  | true => exact ha pins s1 σ H1 D I1 q1
  | false => exact hb pins s1 σ H1 D I1 q1
noncomputable def tNever : TS := fun _ _ _ => False
theorem ps_never : PS X st tNever := fun _ _ _ _ _ _ h => h.elim
end
noncomputable abbrev TG := V → St → Hp → (St → Hp → Prop) → Prop
noncomputable abbrev TGs := List V → St → Hp → (St → Hp → Prop) → Prop
noncomputable def PG (X : Cx) (target : Expr) (t : TG) : Prop :=
  ∀ (pins : List (Addr × Obj)) (s : Shared) (σ : St) (H : Hp) (v : V) (u : Value) (Q : St → Hp → Prop), Inv X pins σ H s → RelV v u → t v σ H Q →
    wpAny (model X.prog X.w) X.A (assign target X.env u) (fun _ s' => ∃ σ' H', Inv X pins σ' H' s' ∧ Q σ' H') X.xe s
noncomputable def PGs (X : Cx) (ts : List Expr) (t : TGs) : Prop :=
  ∀ (pins : List (Addr × Obj)) (s : Shared) (σ : St) (H : Hp) (vs : List V) (us : List Value) (Q : St → Hp → Prop), Inv X pins σ H s → Vals vs us → t vs σ H Q →
    wpAny (model X.prog X.w) X.A (assignInOrder ((assignEach ts X.env).map (·.2)) us) (fun _ s' => ∃ σ' H', Inv X pins σ' H' s' ∧ Q σ' H') X.xe s
noncomputable abbrev TSet := V → V → V → Hp → (Hp → Prop) → Prop
noncomputable def PSet (X : Cx) (t : TSet) : Prop :=
  ∀ (pins : List (Addr × Obj)) (s : Shared) (σ : St) (H : Hp) (o i v : V) (ov iv u : Value) (Q : Hp → Prop), Inv X pins σ H s → RelV o ov → RelV i iv → RelV v u → t o i v H Q →
    wpAny (model X.prog X.w) X.A (setItem ov iv u) (fun _ s' => ∃ H', Inv X pins σ H' s' ∧ Q H') X.xe s
section
variable {X : Cx} {pos : Pos}
noncomputable def gName (i : Nat) : TG := fun v σ H Q => Q (σ.set i (some v)) H
theorem pg_name {i : Nat} {x : Str} (hN : X.N.Nodup) (hi : X.N[i]? = some x) (hx : Loc X.env.scope x) (hf : X.fn x = true ∨ X.env.scope.names.lookup x = some .local := by first | exact .inl rfl | exact .inr rfl | assumption) : PG X (.Name x pos) (gName i) := by
  intro pins s σ H v u Q I r h
  exact wpAny_assign_Name (store_ok I hN hi hx r (fun s' I' => ⟨_, H, I', h⟩) hf)
noncomputable def gNil : TGs := fun vs σ H Q => vs = [] ∧ Q σ H
noncomputable def gCons (t : TG) (u : TGs) : TGs := fun vs σ H Q => ∃ v r, vs = v :: r ∧ t v σ H fun σ' H' => u r σ' H' Q
theorem pgs_nil : PGs X [] gNil := by
  intro pins s σ H vs us Q I r h
  obtain ⟨e, h⟩ := h
  subst e
  cases r
  exact assignInOrder_nil ⟨σ, H, I, h⟩
theorem pgs_cons {e : Expr} {es : List Expr} {t : TG} {u : TGs} (h1 : PG X e t) (h2 : PGs X es u)
    (hs : (assignEach (e :: es) X.env).map (·.2) = assign e X.env :: (assignEach es X.env).map (·.2) := by rfl) : PGs X (e :: es) (gCons t u) := by
  intro pins s σ H vs us Q I r h
  obtain ⟨v, vr, e1, h⟩ := h
  subst e1
  cases r with
  | cons r rr =>
    rw [hs]
    refine assignInOrder_cons (thn (h1 pins s σ H _ _ _ I r h) fun _ s1 ⟨σ1, H1, I1, q1⟩ => ?_)
    exact h2 pins s1 σ1 H1 _ _ Q I1 rr q1
noncomputable def gTup (K : PySem.W.Frag) (n : Nat) (t : TGs) : TG := fun v σ H Q => ∃ a xs, v = .ref a ∧ SqT K H a xs ∧ xs.length = n ∧ t xs σ H Q
theorem pg_tup {es : List Expr} {k : Nat} {t : TGs} {n : Nat} (hc : X.calm = true) (h : PGs X es t)
    (hn : (assignEach es X.env).length = n := by rfl) (hst : (assignEach es X.env).findIdx? (·.1) = none := by rfl) : PG X (.Tuple es k pos) (gTup X.K n t) := by
  intro pins s σ H v u Q I r hw
  obtain ⟨a, xs, e1, hq, hl, hw⟩ := hw
  subst e1
  cases r
  obtain ⟨its, rv, ht, hz⟩ := I.tuple hq
  refine assign_Tuple_tuple (I.ok.hd hc) ht (by simp [hn, ← hl, rv.length]) hst fun h' hx => ?_
  have I1 : Inv X pins σ H { s with heap := h' } := I.kept (t' := s.toks) fun b o e => hx b o (Nat.ne_of_lt (Heap.lt_size e)) e
  exact h pins _ σ H xs _ Q I1 (by simpa using rv) hw
noncomputable def gSub (to ti : TE) (t : TSet) : TG := fun v σ H Q => to σ H fun o H1 => ti σ H1 fun i H2 => t o i v H2 fun H3 => Q σ H3
theorem pg_sub {o i : Expr} {to ti : TE} {t : TSet} (ho : PE X o to) (hi : PE X i ti) (hs : PSet X t)
    (ha : ∀ v, assign (.Subscript o i pos) X.env v = (do
      let ov ← holding [v] (eval o X.env)
      let iv ← holding [v, ov] (eval i X.env)
      standAt pos
      holding [v, ov, iv] (setItem ov iv v)
      release [v, ov, iv] []) := by intro _; rfl) : PG X (.Subscript o i pos) (gSub to ti t) := by
  intro pins s σ H v u Q I r h
  rw [ha]
  refine wpAny_bind (wpAny_holding (thn (ho pins s σ H _ I h) fun ov s1 ⟨x, H1, I1, r1, q1⟩ => ?_))
  refine wpAny_bind (wpAny_holding (thn (hi pins s1 σ H1 _ I1 q1) fun iv s2 ⟨y, H2, I2, r2, q2⟩ => ?_))
  refine wpAny_bind (wpAny_standAt (wpAny_bind (wpAny_holding (thn (hs pins s2 σ H2 x y v ov iv u _ I2 r1 r2 r q2) fun _ s3 ⟨H3, I3, q3⟩ => ?_))))
  exact wpAny_release ⟨σ, H3, I3, q3⟩
noncomputable def tAsg (te : TE) (g : TG) : TS := fun D σ H => te σ H fun x H1 => g x σ H1 D.nx
theorem ps_asg {tg e : Expr} {te : TE} {g : TG} (he : PE X e te) (hg : PG X tg g) (hs : swapsWithSole [tg] e pos.line X.env = pure false := by rfl) (hw : swappedStores [tg] e X.env = pure none := by rfl)
    (h1 : (assignEach [tg] X.env).map (·.2) = [assign tg X.env] := by rfl) : PS X (.Assign [tg] e pos) (tAsg te g) := by
  intro pins s σ H D I h
  refine wpAny_Assign_stores (thn (he pins s σ H _ I h) fun v s1 ⟨x, H1, I1, r1, q1⟩ => ?_) hs hw
  rw [h1]
  exact thn (hg pins s1 σ H1 x v _ I1 r1 q1) fun _ s2 q => q
theorem ps_set {i : Nat} {x : Str} {e : Expr} {te : TE} {pos' : Pos} (hN : X.N.Nodup) (hi : X.N[i]? = some x) (hx : Loc X.env.scope x) (he : PE X e te) (hs : swapsWith e (some (.Name x pos')) pos.line X.env = pure false := by rfl) (hf : X.fn x = true ∨ X.env.scope.names.lookup x = some .local := by first | exact .inl rfl | exact .inr rfl | assumption) :
    PS X (.Assign [.Name x pos'] e pos) (tAsg te (gName i)) := by
  intro pins s σ H D I h
  refine wpAny_Assign_Name (thn (he pins s σ H _ I h) fun v s1 ⟨y, H1, I1, r1, q1⟩ => ?_) hs
  exact store_ok I1 hN hi hx r1 (fun s2 I2 => ⟨_, H1, I2, q1⟩) hf
end
section
variable {X : Cx} {pos : Pos}
noncomputable def tWhile (c : TT) (tb : TS) : TS := fun D σ H => ∃ W : Nat → St → Hp → Prop, (∃ m, W m σ H) ∧ ∀ m σ H, W m σ H →
  c σ H fun b H1 => if b = true then ∃ N : St → Hp → Prop, (∀ σ' H', N σ' H' → ∃ m', m' < m ∧ W m' σ' H') ∧ tb { D with nx := N, ct := N, bk := D.nx } σ H1 else D.nx σ H1
theorem ps_while {c : Expr} {body : List Stmt} {tc : TT} {tb : TS} (hp : PassesOwn (model X.prog X.w) X.A X.env X.xe) (hc : PT X c tc) (hb : PSs X body tb) : PS X (.While c body [] pos) (tWhile tc tb) := by
  intro pins s σ H D I h
  obtain ⟨W, ⟨m0, w0⟩, turn⟩ := h
  refine wpAny_While (codeAny_whileLoop (fun n s' => ∃ σ' H', Inv X pins σ' H' s' ∧ W n σ' H') ?_ m0 ⟨σ, H, I, w0⟩)
  rintro n s1 ⟨σ1, H1, I1, w1⟩
  refine wpAny_passesOwn hp (thn (hc pins s1 σ1 H1 _ I1 (turn n σ1 H1 w1)) fun b s2 ⟨H2, I2, q2⟩ => ?_)
  cases b with
  | true =>
    obtain ⟨N, hN, q2⟩ := q2
    rw [if_pos rfl]
    refine wpAny_passesOwn hp (thn (hb pins s2 σ1 H2 _ I2 q2) fun f s3 q3 => ?_)
    cases f with
    | next =>
      obtain ⟨σ3, H3, I3, n3⟩ := q3
      obtain ⟨m', hm, w3⟩ := hN σ3 H3 n3
      exact ⟨m', hm, σ3, H3, I3, w3⟩
    | cont =>
      obtain ⟨σ3, H3, I3, n3⟩ := q3
      obtain ⟨m', hm, w3⟩ := hN σ3 H3 n3
      exact ⟨m', hm, σ3, H3, I3, w3⟩
    | brk => exact q3
    | ret v => exact q3
  | false =>
    rw [if_neg Bool.false_ne_true]
    exact wpAny_execs_nil ⟨σ1, H2, I2, q2⟩
end
structure It where
  go : Nat → Hp → Prop
  yld : Nat → Hp → V → Hp → Prop
  stop : Nat → Hp → Prop
noncomputable def FpOk (X : Cx) (pins : List (Addr × Obj)) (H : Hp) (b : Addr) : Prop :=
  H b = none ∧ b ≠ X.env.locals ∧ b ∉ X.fs ∧ (b ∈ X.ex ∨ X.s₀.heap.objs.size ≤ b) ∧ (∀ x c, X.env.cells.lookup x = some c → c ≠ b) ∧ ∀ p ∈ X.pn ++ pins, p.1 ≠ b
theorem Inv.fpOk {X : Cx} {pins : List (Addr × Obj)} {σ : St} {H H' : Hp} {s : Shared} {b : Addr} (I : Inv X pins σ H s) (hb : s.heap.objs.size ≤ b) (hn : H' b = none) : FpOk X pins H' b := by
  refine ⟨hn, Nat.ne_of_gt (Nat.lt_of_lt_of_le I.lt hb), I.nofs hb, .inr (Nat.le_trans I.sz hb), fun x c e z => ?_, fun p hp z => ?_⟩
  · obtain ⟨v, q⟩ := I.cell x c e
    exact absurd (Nat.lt_of_lt_of_le q.lt (by rw [z]; exact hb)) (Nat.lt_irrefl _)
  · exact absurd (Nat.lt_of_lt_of_le (Heap.lt_size (I.pin p hp).1) (by rw [z]; exact hb)) (Nat.lt_irrefl _)
structure Turn (P : Program) (w : World) (K : PySem.W.Frag) (tg : Expr) (J : It) (fp : List Addr) (it : Addr) (tn : Nat → Heap → Prop) : Prop where
  mem : it ∈ fp
  obj : ∀ i h, tn i h → ∀ b ∈ fp, ∃ o, h.get? b = some o ∧ ∀ v, o.data ≠ .cell v
  keep : ∀ i h h', tn i h → (∀ b ∈ fp, ∀ o, h.get? b = some o → h'.get? b = some o) → tn i h'
  item : ∀ (X : Cx), X.prog = P → X.w = w → X.K = K → X.calm = true → ∀ (i : Nat) (pins : List (Addr × Obj)) (s : Shared) (σ : St) (H : Hp) (E : Value → Shared → Prop), Inv X pins σ H s → (∀ b ∈ fp, FpOk X pins H b) → tn i s.heap → J.go i H →
    wpAny (model P w) X.A (pyNext (.ref it)) (fun r s1 => ∃ u, r = some u ∧
      wpAny (model P w) X.A (letOwnedTupleGo tg (.ref it) u) (fun _ s2 => ∃ x H', Inv X pins σ H' s2 ∧ RelV x u ∧ J.yld i H x H' ∧ tn (i + 1) s2.heap ∧ ∀ b ∈ fp, H' b = none) E s1) E s
  done : ∀ (X : Cx), X.prog = P → X.w = w → X.K = K → X.calm = true → ∀ (i : Nat) (pins : List (Addr × Obj)) (s : Shared) (σ : St) (H : Hp) (E : Value → Shared → Prop), Inv X pins σ H s → (∀ b ∈ fp, FpOk X pins H b) → tn i s.heap → J.stop i H →
    wpAny (model P w) X.A (pyNext (.ref it)) (fun r s1 => r = none ∧ Inv X pins σ H s1) E s
  self : ∀ (A : Around) (i : Nat) (s : Shared) (Q : Value → Shared → Prop) (E : Value → Shared → Prop), tn i s.heap → Q (.ref it) s → wpAny (model P w) A (pyIter (.ref it)) Q E s
noncomputable abbrev TI := St → Hp → (It → Hp → Prop) → Prop
noncomputable def PIE (X : Cx) (pins : List (Addr × Obj)) (σ : St) (tg : Expr) (R : It → Hp → Prop) (itv : Value) (s2 : Shared) : Prop :=
  ∃ (it : Addr) (fp : List Addr) (tn : Nat → Heap → Prop) (J : It) (H' : Hp), itv = .ref it ∧ Inv X pins σ H' s2 ∧ Turn X.prog X.w X.K tg J fp it tn ∧ tn 0 s2.heap ∧ (∀ b ∈ fp, FpOk X pins H' b) ∧ R J H'
noncomputable def PI (X : Cx) (tg iter : Expr) (wi : TI) : Prop :=
  ∀ (pins : List (Addr × Obj)) (s : Shared) (σ : St) (H : Hp) (R : It → Hp → Prop), Inv X pins σ H s → wi σ H R →
    wpAny (model X.prog X.w) X.A (eval iter X.env) (fun v s1 => wpAny (model X.prog X.w) X.A (pyIter v) (PIE X pins σ tg R) X.xe s1) X.xe s
theorem go_of {M : Model} {A : Around} {E : Value → Shared → Prop} {s : Shared} {tg : Expr} {it : Addr} {u : Value} {o : Obj} {n : String} {vs : Array Value} {Q : Unit → Shared → Prop} (ho : s.heap.get? it = some o) (hc : o.cls = .type n) (hd : o.data = .fields vs)
    (hn : ["enumerate", "zip", "dict_itemiterator", "dict_reverseitemiterator", "odict_iterator", "itertools.zip_longest", "itertools.pairwise"].contains n = false) (hQ : Q () s) : wpAny M A (letOwnedTupleGo tg (.ref it) u) Q E s := by
  unfold letOwnedTupleGo
  cases tg <;> first
    | exact wpAny_pure hQ
    | (cases u <;> first
        | exact wpAny_pure hQ
        | (refine wpAny_bind (wpAny_load ho ?_)
           rw [hc, hd]
           show wpAny M A (if (["enumerate", "zip", "dict_itemiterator", "dict_reverseitemiterator", "odict_iterator", "itertools.zip_longest", "itertools.pairwise"].contains n && vs[0]? == some (rawInt _)) = true then _ else _) Q E s
           rw [if_neg (by intro h; rw [hn, Bool.false_and] at h; cases h)]
           exact wpAny_pure hQ))
noncomputable def Itl (K : PySem.W.Frag) (a : Addr) : It :=
  ⟨fun i H => ∃ xs x, SqL K H a xs ∧ xs[i]? = some x, fun i H x H' => H' = H ∧ ∀ xs, SqL K H a xs → xs[i]? = some x, fun i H => ∃ xs, SqL K H a xs ∧ xs.length ≤ i⟩
noncomputable def Itr (lo : Int) (n : Nat) : It := ⟨fun i _ => i < n, fun i H x H' => H' = H ∧ x = .int (lo + i), fun i _ => n ≤ i⟩
theorem turn_list {P : Program} {w : World} {K : PySem.W.Frag} {tg : Expr} (a it : Addr) : Turn P w K tg (Itl K a) [it] it (fun i h => h.IsListIter it a i) where
  mem := by simp
  obj := fun i h st b hb => by
    have e : b = it := by simpa using hb
    subst e
    obtain ⟨o, e, c, d⟩ := st
    exact ⟨o, e, fun v z => by rw [d] at z; cases z⟩
  keep := fun i h h' st k => st.at fun o e => k it (by simp) o e
  item := by
    intro X hP hw hK hc i pins s σ H E I hf st hg
    subst hP hw hK
    obtain ⟨xs, x, hq, hx⟩ := hg
    obtain ⟨its, rv, p, hz⟩ := I.list hq
    obtain ⟨u, hu, ru⟩ := rv.get hx
    obtain ⟨f0, f1, f2, f3, f4, f5⟩ := hf it (by simp)
    refine wpAny_pyNext_list_item st p.isList (x := u) (by simpa using hu) fun h' st' sb => ?_
    have I1 : Inv X pins σ H { s with heap := h' } := I.turned (t' := s.toks) (fun b o hb e => (sb.2 b hb).trans e) f0 f1 f3 f4 f5
    obtain ⟨o, e, c, d⟩ := id st'
    exact ⟨u, rfl, go_of (s := { s with heap := h' }) e c d (by decide) ⟨x, H, I1, ru, ⟨rfl, fun ys hy => by rw [I.list_inj hy hq]; exact hx⟩, st', fun b hb => (hf b hb).1⟩⟩
  done := by
    intro X hP hw hK hc i pins s σ H E I hf st hg
    subst hP hw hK
    obtain ⟨xs, hq, hx⟩ := hg
    obtain ⟨its, rv, p, hz⟩ := I.list hq
    obtain ⟨f0, f1, f2, f3, f4, f5⟩ := hf it (by simp)
    have hl := rv.length
    exact wpAny_pyNext_list_end (I.ok.hd hc) st p.isList (by simp; lia) fun h' eb => ⟨rfl, I.turned (t' := s.toks) (fun b o hb e => eb b o hb e) f0 f1 f3 f4 f5⟩
  self := fun _ _ _ _ _ st h => wpAny_pyIter_listiter st h
theorem turn_range {P : Program} {w : World} {K : PySem.W.Frag} {tg : Expr} (it : Addr) (lo : Int) (n : Nat) : Turn P w K tg (Itr lo n) [it] it (fun i h => IsRangeIter h it (lo + (i : Nat) * 1) ((n : Int) - (i : Nat)) 1) where
  mem := by simp
  obj := fun i h st b hb => by
    have e : b = it := by simpa using hb
    subst e
    exact ⟨_, st, fun v z => by
      have z' : Data.fields _ = Data.cell v := z
      cases z'⟩
  keep := fun i h h' st k => k it (by simp) _ st
  item := by
    intro X hP hw hK hc i pins s σ H E I hf st hg
    subst hP hw hK
    obtain ⟨f0, f1, f2, f3, f4, f5⟩ := hf it (by simp)
    have W := Walks.range (prog := X.prog) (w := X.w) (I.ok.hd hc) it lo 1 n
    refine W.item i s _ _ hg st fun v h' tk hv st' kk => ?_
    obtain ⟨t, rfl⟩ := hv
    have I1 : Inv X pins σ H { s with heap := h', toks := tk } := I.turned (fun b o hb e => kk b o (by simpa using hb) e) f0 f1 f3 f4 f5
    refine ⟨_, rfl, go_of (s := { s with heap := h', toks := tk }) (n := "range_iterator") st' rfl rfl (by decide) ⟨.int (lo + i), H, I1, ⟨t, ?_⟩, ⟨rfl, rfl⟩, st', fun b hb => (hf b hb).1⟩⟩
    rw [Int.mul_one]
  done := by
    intro X hP hw hK hc i pins s σ H E I hf st hg
    subst hP hw hK
    obtain ⟨f0, f1, f2, f3, f4, f5⟩ := hf it (by simp)
    exact wpAny_pyNext_range_end (I.ok.hd hc) st (by have : n ≤ i := hg; lia) fun h' eb => ⟨rfl, I.turned (t' := s.toks) (fun b o hb e => eb b o hb e) f0 f1 f3 f4 f5⟩
  self := fun _ _ _ _ _ st h => wpAny_pyIter_rangeiter st h
end L2
namespace L2
open PySem PySem.Spec PyProof.Rows
section
variable {X : Cx} {tg : Expr}
noncomputable def iList (K : PySem.W.Frag) (tl : TE) : TI := fun σ H R => tl σ H fun x H1 => ∃ a, x = .ref a ∧ (∃ xs, SqL K H1 a xs) ∧ R (Itl K a) H1
theorem pi_list {l : Expr} {tl : TE} (hl : PE X l tl) : PI X tg l (iList X.K tl) := by
  intro pins s σ H R I h
  refine thn (hl pins s σ H _ I h) fun v s1 ⟨x, H1, I1, r1, q1⟩ => ?_
  obtain ⟨a, e, ⟨xs, hq⟩, q⟩ := q1
  subst e
  cases r1
  obtain ⟨its, rv, p, hz⟩ := I1.list hq
  refine wpAny_pyIter_list p.isList ?_
  refine ⟨s1.heap.objs.size, [s1.heap.objs.size], _, _, H1, rfl, I1.kept (t' := s1.toks) fun b o e => Heap.get?_push_of_some _ e, turn_list a _, ⟨_, Heap.get?_push_size _ rfl, rfl, rfl⟩, fun b hb => ?_, q⟩
  have e : b = s1.heap.objs.size := by simpa using hb
  subst e
  exact I1.fpOk (Nat.le_refl _) (I1.hok.fresh (Nat.le_refl _))
theorem range_it {pins : List (Addr × Obj)} {σ : St} {H : Hp} {s : Shared} {R : It → Hp → Prop} {E : Value → Shared → Prop} {lo hi : Int} {t u v : Tok} {tk : Nat} (I : Inv X pins σ H s) (h1 : -(2 ^ 62) ≤ lo) (h2 : lo < 2 ^ 62) (h3 : -(2 ^ 62) ≤ hi) (h4 : hi < 2 ^ 62)
    (q : R (Itr lo (hi - lo).toNat) H) : wpAny (model X.prog X.w) X.A (pyIter (.ref s.heap.objs.size)) (PIE X pins σ tg R) E { s with heap := s.heap.push { cls := .type "range", data := .fields #[.int lo t, .int hi u, .int 1 v] }, toks := tk } := by
  refine wpAny_pyIter_range (IsRange.new ..) (small_one h1 h2 h3 h4) ?_
  have I1 : Inv X pins σ H { s with heap := s.heap.push { cls := .type "range", data := .fields #[.int lo t, .int hi u, .int 1 v] }, toks := tk } := I.kept fun b o e => Heap.get?_push_of_some _ e
  refine ⟨(s.heap.push { cls := .type "range", data := .fields #[.int lo t, .int hi u, .int 1 v] }).objs.size, [(s.heap.push { cls := .type "range", data := .fields #[.int lo t, .int hi u, .int 1 v] }).objs.size], _, _, H, rfl,
    I1.kept (t' := tk) fun b o e => Heap.get?_push_of_some _ e, turn_range _ lo (hi - lo).toNat, ?_, fun b hb => ?_, q⟩
  · have e1 : lo + ((0 : Nat) : Int) * 1 = lo := by simp
    have e2 : (((hi - lo).toNat : Nat) : Int) - ((0 : Nat) : Int) = Builtin.Range.rangeSize lo hi 1 := by rw [rangeSize_one]; split <;> lia
    show IsRangeIter _ _ (lo + ((0 : Nat) : Int) * 1) ((((hi - lo).toNat : Nat) : Int) - ((0 : Nat) : Int)) 1
    rw [e1, e2]
    exact Heap.get?_push_size _ rfl
  · have e : b = (s.heap.push { cls := .type "range", data := .fields #[.int lo t, .int hi u, .int 1 v] }).objs.size := by simpa using hb
    subst e
    exact I1.fpOk (Nat.le_refl _) (I1.hok.fresh (Nat.le_refl _))
noncomputable def iRng1 (ta : TA) : TI := fun σ H R => ta σ H fun vs H1 => ∃ j : Int, vs = [.int j] ∧ -(2 ^ 62) ≤ j ∧ j < 2 ^ 62 ∧ R (Itr 0 j.toNat) H1
noncomputable def iRng2 (ta : TA) : TI := fun σ H R => ta σ H fun vs H1 => ∃ i j : Int, vs = [.int i, .int j] ∧ (-(2 ^ 62) ≤ i ∧ i < 2 ^ 62 ∧ -(2 ^ 62) ≤ j ∧ j < 2 ^ 62) ∧ R (Itr i (j - i).toNat) H1
theorem pi_range1 {a : Expr} {ta : TA} {p pos : Pos} (hg : Gl X "range") (hm : X.mg "range" = none) (ha : PA X [a] ta) (hs : starEach [a] X.env = [(false, eval a X.env)] := by rfl) : PI X tg (.Call (.Name "range" p) [a] [] pos) (iRng1 ta) := by
  intro pins s σ H R I h
  refine Call_ (ld_blt I hg hm boot_range (PyProof.Rows.callWith_type1 (thn (ha pos pins s σ H _ I h) fun us s1 ⟨vs, H1, I1, r1, q1⟩ => ?_) hs rfl))
  obtain ⟨j, e, q1, q2, q⟩ := q1
  subst e
  cases r1 with
  | cons r rr =>
    cases rr
    obtain ⟨t, rfl⟩ := r
    exact call_range_1 (range_it I1 (by lia) (by lia) q1 q2 (by simpa using q))
theorem pi_range2 {a b : Expr} {ta : TA} {p pos : Pos} (hg : Gl X "range") (hm : X.mg "range" = none) (ha : PA X [a, b] ta) (hs : starEach [a, b] X.env = [(false, eval a X.env), (false, eval b X.env)] := by rfl) (hs2 : starEach [b] X.env = [(false, eval b X.env)] := by rfl) :
    PI X tg (.Call (.Name "range" p) [a, b] [] pos) (iRng2 ta) := by
  intro pins s σ H R I h
  refine Call_ (ld_blt I hg hm boot_range (PyProof.Rows.callWith_type1 (thn (ha pos pins s σ H _ I h) fun us s1 ⟨vs, H1, I1, r1, q1⟩ => ?_) (by rw [hs, hs2]) (by rw [hs2]; rfl)))
  obtain ⟨i, j, e, ⟨q1, q2, q3, q4⟩, q⟩ := q1
  subst e
  cases r1 with
  | cons r rr =>
    cases rr with
    | cons r' rr =>
      cases rr
      obtain ⟨t, rfl⟩ := r
      obtain ⟨t', rfl⟩ := r'
      exact call_range_2 (range_it I1 q1 q2 q3 q4 q)
noncomputable def tFor (wi : TI) (g : TG) (tb : TS) : TS := fun D σ H => wi σ H fun J H1 => ∃ W : Nat → Nat → St → Hp → Prop, (∃ m, W 0 m σ H1) ∧ ∀ i m σ H, W i m σ H →
  (J.stop i H ∧ D.nx σ H) ∨ (J.go i H ∧ ∃ N : St → Hp → Prop, (∀ σ' H', N σ' H' → ∃ m', m' < m ∧ W (i + 1) m' σ' H') ∧ ∀ x H', J.yld i H x H' → g x σ H' fun σ2 H2 => tb { D with nx := N, ct := N, bk := D.nx } σ2 H2)
noncomputable def pinsAt (fp : List Addr) (h : Heap) : List (Addr × Obj) := fp.filterMap fun b => (h.get? b).map fun o => (b, o)
theorem mem_pinsAt {fp : List Addr} {h : Heap} {b : Addr} {o : Obj} (hb : b ∈ fp) (e : h.get? b = some o) : (b, o) ∈ pinsAt fp h := List.mem_filterMap.mpr ⟨b, hb, by rw [e]; rfl⟩
theorem of_pinsAt {fp : List Addr} {h : Heap} {p : Addr × Obj} (hp : p ∈ pinsAt fp h) : p.1 ∈ fp ∧ h.get? p.1 = some p.2 := by
  obtain ⟨b, hb, e⟩ := List.mem_filterMap.mp hp
  cases q : h.get? b with
  | none => rw [q] at e; cases e
  | some o =>
    rw [q] at e
    have e' : (b, o) = p := Option.some.inj e
    subst e'
    exact ⟨hb, q⟩
theorem Inv.pinned {pins : List (Addr × Obj)} {σ : St} {H : Hp} {s : Shared} {fp : List Addr} (I : Inv X pins σ H s) (hf : ∀ b ∈ fp, FpOk X pins H b) (ho : ∀ b ∈ fp, ∃ o, s.heap.get? b = some o ∧ ∀ v, o.data ≠ .cell v) : Inv X (pins ++ pinsAt fp s.heap) σ H s :=
  I.pins_of fun p hp => (List.mem_append.mp hp).elim (fun z => I.pin p (List.mem_append_right _ z)) fun z => by
    obtain ⟨hb, e⟩ := of_pinsAt z
    obtain ⟨f0, f1, f2, _⟩ := hf p.1 hb
    obtain ⟨o, e', d⟩ := ho p.1 hb
    rw [e] at e'; cases e'
    exact ⟨e, f0, f1, f2, d⟩
theorem Inv.unpinned {pins pl : List (Addr × Obj)} {σ : St} {H : Hp} {s : Shared} (I : Inv X (pins ++ pl) σ H s) : Inv X pins σ H s := I.pins_of fun p hp => I.pin p (List.mem_append_right _ (List.mem_append_left _ hp))
theorem ps_for {iter : Expr} {body : List Stmt} {wi : TI} {g : TG} {tb : TS} {pos : Pos} (hp : PassesOwn (model X.prog X.w) X.A X.env X.xe) (hc : X.calm = true) (hi : PI X tg iter wi) (hg : PG X tg g) (hb : PSs X body tb)
    (hs : ∀ x, foldedSetIterable iter X.env x = pure x := by intro _; rfl) : PS X (.For tg iter body [] pos) (tFor wi g tb) := by
  intro pins s σ H D I h
  refine wpAny_For (thn (hi pins s σ H _ I h) fun v s1 h1 => thn h1 fun itv s2 h2 => ?_) hs
  obtain ⟨it, fp, tn, J, H2, e, I2, T, st2, f2, W, ⟨m0, w0⟩, turn⟩ := h2
  subst e
  have stat : ∀ {H' : Hp}, (∀ b ∈ fp, H' b = none) → ∀ b ∈ fp, FpOk X pins H' b := fun hn b hb => ⟨hn b hb, (f2 b hb).2⟩
  refine codeAny_forLoop_any (fun n s' => ∃ i σ' H', Inv X pins σ' H' s' ∧ tn i s'.heap ∧ (∀ b ∈ fp, H' b = none) ∧ W i n σ' H') ?_ m0 ⟨0, σ, H2, I2, st2, fun b hb => (f2 b hb).1, w0⟩
  rintro n s3 ⟨i, σ3, H3, I3, st3, fr3, w3⟩
  rcases turn i n σ3 H3 w3 with ⟨stop, qn⟩ | ⟨go, N, hN, step⟩
  · refine wpAny_passesOwn hp (thn (T.done X rfl rfl rfl hc i pins s3 σ3 H3 X.xe I3 (stat fr3) st3 stop) fun r s4 ⟨hr, I4⟩ => ?_)
    subst hr
    exact wpAny_execs_nil ⟨σ3, H3, I4, qn⟩
  · refine wpAny_passesOwn hp (thn (T.item X rfl rfl rfl hc i pins s3 σ3 H3 X.xe I3 (stat fr3) st3 go) fun r s4 ⟨u, hr, h4⟩ => ?_)
    subst hr
    refine wpAny_passesOwn hp (thn h4 fun _ s5 ⟨x, H5, I5, r5, y5, st5, fr5⟩ => ?_)
    have I5' := I5.pinned (stat fr5) (T.obj _ _ st5)
    refine wpAny_passesOwn hp (thn (hg _ s5 σ3 H5 x u _ I5' r5 (step x H5 y5)) fun _ s6 ⟨σ6, H6, I6, q6⟩ => ?_)
    refine wpAny_passesOwn hp (thn (hb _ s6 σ6 H6 _ I6 q6) fun f s7 q7 => ?_)
    have again : ∀ {σ7 : St} {H7 : Hp}, Inv X (pins ++ pinsAt fp s5.heap) σ7 H7 s7 → N σ7 H7 → ∃ m, m < n ∧ ∃ i σ' H', Inv X pins σ' H' s7 ∧ tn i s7.heap ∧ (∀ b ∈ fp, H' b = none) ∧ W i m σ' H' := fun {σ7 H7} I7 n7 => by
      obtain ⟨m', hm, w7⟩ := hN σ7 H7 n7
      refine ⟨m', hm, i + 1, σ7, H7, I7.unpinned, T.keep _ _ _ st5 fun b hb o e => (I7.pin (b, o) (List.mem_append_right _ (List.mem_append_right _ (mem_pinsAt hb e)))).1, fun b hb => ?_, w7⟩
      obtain ⟨o, e, d⟩ := T.obj _ _ st5 b hb
      exact (I7.pin (b, o) (List.mem_append_right _ (List.mem_append_right _ (mem_pinsAt hb e)))).2.1
    cases f with
    | next => obtain ⟨σ7, H7, I7, n7⟩ := q7; exact again I7 n7
    | cont => obtain ⟨σ7, H7, I7, n7⟩ := q7; exact again I7 n7
    | brk => obtain ⟨σ7, H7, I7, q7⟩ := q7; exact ⟨σ7, H7, I7.unpinned, q7⟩
    | ret v => obtain ⟨x7, σ7, H7, I7, r7, q7⟩ := q7; exact ⟨x7, σ7, H7, I7.unpinned, r7, q7⟩
end
theorem for_range {lo : Int} {n : Nat} {g : TG} {tb : TS} {D : Ends} {σ : St} {H : Hp} (Pv : Nat → St → Hp → Prop) (h0 : Pv 0 σ H)
    (hs : ∀ i σ H, i < n → Pv i σ H → g (.int (lo + i)) σ H fun σ2 H2 => tb { D with nx := Pv (i + 1), ct := Pv (i + 1), bk := D.nx } σ2 H2) (hd : ∀ σ H, Pv n σ H → D.nx σ H) :
    ∃ W : Nat → Nat → St → Hp → Prop, (∃ m, W 0 m σ H) ∧ ∀ i m σ H, W i m σ H →
      ((Itr lo n).stop i H ∧ D.nx σ H) ∨ ((Itr lo n).go i H ∧ ∃ N : St → Hp → Prop, (∀ σ' H', N σ' H' → ∃ m', m' < m ∧ W (i + 1) m' σ' H') ∧ ∀ x H', (Itr lo n).yld i H x H' → g x σ H' fun σ2 H2 => tb { D with nx := N, ct := N, bk := D.nx } σ2 H2) := by
  refine ⟨fun i m σ H => m = n - i ∧ i ≤ n ∧ Pv i σ H, ⟨n, by simp, Nat.zero_le _, h0⟩, ?_⟩
  rintro i m σ H ⟨rfl, hi, p⟩
  by_cases hlt : i < n
  · refine .inr ⟨hlt, Pv (i + 1), fun σ' H' p' => ⟨n - (i + 1), by lia, rfl, hlt, p'⟩, fun x H' y => ?_⟩
    obtain ⟨e, y⟩ := y
    subst e y
    exact hs i σ _ hlt p
  · have e : i = n := by lia
    subst e
    exact .inl ⟨Nat.le_refl _, hd σ H p⟩
end L2
namespace L2
open PySem PySem.Spec PyProof.Rows
noncomputable abbrev R2 := V → V → Hp → VK → Prop
noncomputable def OpR (X : Cx) (f : Value → Value → Sem Value) (r : R2) : Prop :=
  ∀ (pins : List (Addr × Obj)) (s : Shared) (σ : St) (H : Hp) (x y : V) (v u : Value) (Q : VK), Inv X pins σ H s → RelV x v → RelV y u → r x y H Q →
    wpAny (model X.prog X.w) X.A (f v u) (EP X pins σ Q) X.xe s
noncomputable def UnR (X : Cx) (f : Value → Sem Value) (r : V → Hp → VK → Prop) : Prop :=
  ∀ (pins : List (Addr × Obj)) (s : Shared) (σ : St) (H : Hp) (x : V) (v : Value) (Q : VK), Inv X pins σ H s → RelV x v → r x H Q →
    wpAny (model X.prog X.w) X.A (f v) (EP X pins σ Q) X.xe s
noncomputable def CallR (X : Cx) (f : Value) (r : List V → Hp → VK → Prop) : Prop :=
  ∀ (pins : List (Addr × Obj)) (s : Shared) (σ : St) (H : Hp) (xs : List V) (us : List Value) (Q : VK), Inv X pins σ H s → Vals xs us → r xs H Q →
    wpAny (model X.prog X.w) X.A (call f us) (EP X pins σ Q) X.xe s
noncomputable def TruR (X : Cx) (r : V → Hp → (Bool → Hp → Prop) → Prop) : Prop :=
  ∀ (pins : List (Addr × Obj)) (s : Shared) (σ : St) (H : Hp) (x : V) (v : Value) (Q : Bool → Hp → Prop), Inv X pins σ H s → RelV x v → r x H Q →
    wpAny (model X.prog X.w) X.A (truthy v) (TP X pins σ Q) X.xe s
noncomputable def tOp (r : R2) (ta tb : TE) : TE := fun σ H Q => ta σ H fun x H1 => tb σ H1 fun y H2 => r x y H2 Q
noncomputable def tUn (r : V → Hp → VK → Prop) (ta : TE) : TE := fun σ H Q => ta σ H fun x H1 => r x H1 Q
noncomputable def rI (C : Int → Int → Prop) (g : Int → Int → V) : R2 := fun x y H Q => ∃ i j, x = .int i ∧ y = .int j ∧ C i j ∧ Q (g i j) H
noncomputable def rI0 (g : Int → Int → V) : R2 := fun x y H Q => ∃ i j, x = .int i ∧ y = .int j ∧ Q (g i j) H
noncomputable def rU (g : Int → V) : V → Hp → VK → Prop := fun x H Q => ∃ i, x = .int i ∧ Q (g i) H
section
variable {X : Cx} {a b c : Expr} {ta tb tc : TE} {pos : Pos}
theorem binT (ha : PE X a ta) (hb : PE X b tb) {pins : List (Addr × Obj)} {s : Shared} {σ : St} {H : Hp} {R : V → V → Hp → Prop} (I : Inv X pins σ H s)
    (h : ta σ H fun x H1 => tb σ H1 fun y H2 => R x y H2) {Q : Value → Shared → Prop} {f : Value → Value → Sem Value}
    (hf : ∀ v u s2 x y H2, Inv X pins σ H2 s2 → RelV x v → RelV y u → R x y H2 → wpAny (model X.prog X.w) X.A (f v u) Q X.xe s2) :
    wpAny (model X.prog X.w) X.A (eval a X.env) (fun v s₁ => wpAny (model X.prog X.w) X.A (eval b X.env) (fun u s₂ => wpAny (model X.prog X.w) X.A (f v u) Q X.xe s₂) X.xe s₁) X.xe s := by
  refine thn (ha pins s σ H _ I h) fun v s1 ⟨x, H1, I1, r1, q1⟩ => ?_
  refine thn (hb pins s1 σ H1 _ I1 q1) fun u s2 ⟨y, H2, I2, r2, q2⟩ => ?_
  exact hf v u s2 x y H2 I2 r1 r2 q2
theorem pe_op {op : Operator} {r : R2} (ho : OpR X (binaryOp op) r) (ha : PE X a ta) (hb : PE X b tb) : PE X (.BinOp a op b pos) (tOp r ta tb) := by
  intro pins s σ H Q I h
  exact wpAny_BinOp (binT ha hb I h fun v u s2 x y H2 I2 rx ry q => ho pins s2 σ H2 x y v u Q I2 rx ry q)
theorem pe_un {op : UnaryOp} {r : V → Hp → VK → Prop} (ho : UnR X (unaryOp op) r) (ha : PE X a ta) : PE X (.UnaryOp op a pos) (tUn r ta) := by
  intro pins s σ H Q I h
  exact UnaryOp_ (thn (ha pins s σ H _ I h) fun v s1 ⟨x, H1, I1, r1, q1⟩ => ho pins s1 σ H1 x v Q I1 r1 q1)
theorem opI {f : Value → Value → Sem Value} {C : Int → Int → Prop} {g : Int → Int → Int}
    (rule : ∀ (i j : Int) (t u : Tok) (s : Shared) (Q : Value → Shared → Prop) (E : Value → Shared → Prop), C i j → Q (.int (g i j) s.toks) { s with toks := s.toks + 1 } → wpAny (model X.prog X.w) X.A (f (.int i t) (.int j u)) Q E s) :
    OpR X f (rI C fun i j => .int (g i j)) := by
  intro pins s σ H x y v u Q I rx ry h
  obtain ⟨i, j, rfl, rfl, hc, q⟩ := h
  obtain ⟨t, rfl⟩ := rx
  obtain ⟨t', rfl⟩ := ry
  exact rule i j t t' s _ _ hc ⟨.int (g i j), H, I.tok _, ⟨_, rfl⟩, q⟩
theorem opI0 {f : Value → Value → Sem Value} {g : Int → Int → Int}
    (rule : ∀ (i j : Int) (t u : Tok) (s : Shared) (Q : Value → Shared → Prop) (E : Value → Shared → Prop), Q (.int (g i j) s.toks) { s with toks := s.toks + 1 } → wpAny (model X.prog X.w) X.A (f (.int i t) (.int j u)) Q E s) :
    OpR X f (rI0 fun i j => .int (g i j)) := by
  intro pins s σ H x y v u Q I rx ry h
  obtain ⟨i, j, rfl, rfl, q⟩ := h
  obtain ⟨t, rfl⟩ := rx
  obtain ⟨t', rfl⟩ := ry
  exact rule i j t t' s _ _ ⟨.int (g i j), H, I.tok _, ⟨_, rfl⟩, q⟩
theorem opB0 {f : Value → Value → Sem Value} {g : Int → Int → Bool}
    (rule : ∀ (i j : Int) (t u : Tok) (s : Shared) (Q : Value → Shared → Prop) (E : Value → Shared → Prop), Q (.bool (g i j)) s → wpAny (model X.prog X.w) X.A (f (.int i t) (.int j u)) Q E s) :
    OpR X f (rI0 fun i j => .bl (g i j)) := by
  intro pins s σ H x y v u Q I rx ry h
  obtain ⟨i, j, rfl, rfl, q⟩ := h
  obtain ⟨t, rfl⟩ := rx
  obtain ⟨t', rfl⟩ := ry
  exact rule i j t t' s _ _ ⟨.bl (g i j), H, I, rfl, q⟩
noncomputable def CPow (i j : Int) : Prop := 0 ≤ j ∧ j ≤ 1000000 ∧ i.natAbs < 2 ^ 64
theorem op_add : OpR X (binaryOp .Add) (rI0 fun i j => .int (i + j)) := opI0 fun _ _ _ _ _ _ _ q => add_int q
theorem op_sub : OpR X (binaryOp .Sub) (rI0 fun i j => .int (i - j)) := opI0 fun _ _ _ _ _ _ _ q => sub_int q
theorem op_modN : OpR X (binaryOp .Mod) (rI (fun _ j => j ≠ 0) fun i j => .int (i.fmod j)) := opI fun _ _ _ _ _ _ _ hc q => mod_int' hc q
theorem op_pow : OpR X (binaryOp .Pow) (rI CPow fun i j => .int (i ^ j.toNat)) := opI fun _ _ _ _ _ _ _ hc q => pow_int_small hc.1 hc.2.1 hc.2.2 q
theorem unI {f : Value → Sem Value} {g : Int → Int}
    (rule : ∀ (i : Int) (t : Tok) (s : Shared) (Q : Value → Shared → Prop) (E : Value → Shared → Prop), Q (.int (g i) s.toks) { s with toks := s.toks + 1 } → wpAny (model X.prog X.w) X.A (f (.int i t)) Q E s) :
    UnR X f (rU fun i => .int (g i)) := by
  intro pins s σ H x v Q I rx h
  obtain ⟨i, rfl, q⟩ := h
  obtain ⟨t, rfl⟩ := rx
  exact rule i t s _ _ ⟨.int (g i), H, I.tok _, ⟨_, rfl⟩, q⟩
theorem un_neg : UnR X (unaryOp .USub) (rU fun i => .int (-i)) := unI fun _ _ _ _ _ q => neg_int q
end
noncomputable def scal : V → V → Bool
  | .non, .non => true | .non, .int _ => true | .int _, .non => true | .non, .bl _ => true | .bl _, .non => true | .non, .str _ => true | .str _, .non => true
  | .int _, .int _ => true | .bl _, .bl _ => true | .str _, .str _ => true | .byt _, .byt _ => true
  | .int _, .str _ => true | .str _, .int _ => true | .bl _, .str _ => true | .str _, .bl _ => true
  | _, _ => false
noncomputable def rEq : R2 := fun x y H Q => scal x y = true ∧ Q (.bl (decide (x = y))) H
noncomputable def rNe : R2 := fun x y H Q => scal x y = true ∧ Q (.bl (!decide (x = y))) H
theorem dec_int {i j : Int} : decide (V.int i = V.int j) = (i == j) := by
  rw [Bool.eq_iff_iff]
  simp
theorem dec_bl {i j : Bool} : decide (V.bl i = V.bl j) = (i == j) := by
  rw [Bool.eq_iff_iff]
  simp
theorem dec_str {i j : Str} : decide (V.str i = V.str j) = (i == j) := by
  rw [Bool.eq_iff_iff]
  simp
theorem dec_byt {i j : Array UInt8} : decide (V.byt i = V.byt j) = (i.toList == j.toList) := by
  rw [Bool.eq_iff_iff]
  cases i
  cases j
  simp
section
variable {X : Cx} {a b c : Expr} {ta tb tc : TE} {pos : Pos}
theorem fin_bl {pins : List (Addr × Obj)} {σ : St} {H : Hp} {s : Shared} {Q : VK} {k k' : Bool} (I : Inv X pins σ H s) (q : Q (.bl k) H) (e : k = k') : EP X pins σ Q (.bool k') s := by
  subst e
  exact ⟨.bl k, H, I, rfl, q⟩
theorem op_eq : OpR X (compareOp .Eq) rEq := by
  intro pins s σ H x y v u Q I rx ry h
  obtain ⟨hs, q⟩ := h
  cases x with
  | non =>
    cases rx
    cases y with
    | non => cases ry; exact PySem.EqNone.eq_none_none (fin_bl I q (by simp))
    | bl j => cases ry; exact PySem.EqNone.eq_none_bool (fin_bl I q (by simp))
    | int j => obtain ⟨t', rfl⟩ := ry; exact PySem.EqNone.eq_none_int (fin_bl I q (by simp))
    | str j => obtain ⟨t', rfl⟩ := ry; exact PySem.EqNone.eq_none_str (fin_bl I q (by simp))
    | _ => exact absurd (show false = true from hs) Bool.false_ne_true
  | bl i =>
    cases rx
    cases y with
    | non => cases ry; exact PySem.EqNone.eq_bool_none (fin_bl I q (by simp))
    | bl j => cases ry; exact eq_bool (fin_bl I q dec_bl)
    | str j => obtain ⟨t', rfl⟩ := ry; exact PySem.EqMixed.eq_bool_str (fin_bl I q (by simp))
    | _ => exact absurd (show false = true from hs) Bool.false_ne_true
  | int i =>
    obtain ⟨t, rfl⟩ := rx
    cases y with
    | non => cases ry; exact PySem.EqNone.eq_int_none (fin_bl I q (by simp))
    | int j => obtain ⟨t', rfl⟩ := ry; exact eq_int (fin_bl I q dec_int)
    | str j => obtain ⟨t', rfl⟩ := ry; exact PySem.EqMixed.eq_int_str (fin_bl I q (by simp))
    | _ => exact absurd (show false = true from hs) Bool.false_ne_true
  | str i =>
    obtain ⟨t, rfl⟩ := rx
    cases y with
    | non => cases ry; exact PySem.EqNone.eq_str_none (fin_bl I q (by simp))
    | bl j => cases ry; exact PySem.EqMixed.eq_str_bool (fin_bl I q (by simp))
    | int j => obtain ⟨t', rfl⟩ := ry; exact PySem.EqMixed.eq_str_int (fin_bl I q (by simp))
    | str j => obtain ⟨t', rfl⟩ := ry; exact eq_str (fin_bl I q dec_str)
    | _ => exact absurd (show false = true from hs) Bool.false_ne_true
  | byt i =>
    obtain ⟨t, rfl⟩ := rx
    cases y with
    | byt j => obtain ⟨t', rfl⟩ := ry; exact PySem.W.eq_bytes (fin_bl I q dec_byt)
    | _ => exact absurd (show false = true from hs) Bool.false_ne_true
  | _ => cases y <;> exact absurd (show false = true from hs) Bool.false_ne_true
theorem op_ne : OpR X (compareOp .NotEq) rNe := by
  intro pins s σ H x y v u Q I rx ry h
  obtain ⟨hs, q⟩ := h
  cases x with
  | non =>
    cases rx
    cases y with
    | non => cases ry; exact PySem.EqNone.ne_none_none (fin_bl I q (by simp))
    | bl j => cases ry; exact PySem.EqNone.ne_none_bool (fin_bl I q (by simp))
    | int j => obtain ⟨t', rfl⟩ := ry; exact PySem.EqNone.ne_none_int (fin_bl I q (by simp))
    | str j => obtain ⟨t', rfl⟩ := ry; exact PySem.EqNone.ne_none_str (fin_bl I q (by simp))
    | _ => exact absurd (show false = true from hs) Bool.false_ne_true
  | bl i =>
    cases rx
    cases y with
    | non => cases ry; exact PySem.EqNone.ne_bool_none (fin_bl I q (by simp))
    | bl j => cases ry; exact ne_bool (fin_bl I q (congrArg not dec_bl))
    | str j => obtain ⟨t', rfl⟩ := ry; exact PySem.EqMixed.ne_bool_str (fin_bl I q (by simp))
    | _ => exact absurd (show false = true from hs) Bool.false_ne_true
  | int i =>
    obtain ⟨t, rfl⟩ := rx
    cases y with
    | non => cases ry; exact PySem.EqNone.ne_int_none (fin_bl I q (by simp))
    | int j => obtain ⟨t', rfl⟩ := ry; exact ne_int (fin_bl I q (congrArg not dec_int))
    | str j => obtain ⟨t', rfl⟩ := ry; exact PySem.EqMixed.ne_int_str (fin_bl I q (by simp))
    | _ => exact absurd (show false = true from hs) Bool.false_ne_true
  | str i =>
    obtain ⟨t, rfl⟩ := rx
    cases y with
    | non => cases ry; exact PySem.EqNone.ne_str_none (fin_bl I q (by simp))
    | bl j => cases ry; exact PySem.EqMixed.ne_str_bool (fin_bl I q (by simp))
    | int j => obtain ⟨t', rfl⟩ := ry; exact PySem.EqMixed.ne_str_int (fin_bl I q (by simp))
    | str j => obtain ⟨t', rfl⟩ := ry; exact ne_str (fin_bl I q (congrArg not dec_str))
    | _ => exact absurd (show false = true from hs) Bool.false_ne_true
  | byt i =>
    obtain ⟨t, rfl⟩ := rx
    cases y with
    | byt j => obtain ⟨t', rfl⟩ := ry; exact PySem.W.ne_bytes (fin_bl I q (congrArg not dec_byt))
    | _ => exact absurd (show false = true from hs) Bool.false_ne_true
  | _ => cases y <;> exact absurd (show false = true from hs) Bool.false_ne_true
theorem op_lt : OpR X (compareOp .Lt) (rI0 fun i j => .bl (decide (i < j))) := opB0 fun _ _ _ _ _ _ _ q => lt_int q
theorem op_gt : OpR X (compareOp .Gt) (rI0 fun i j => .bl (decide (j < i))) := opB0 fun _ _ _ _ _ _ _ q => gt_int q
theorem op_ge : OpR X (compareOp .GtE) (rI0 fun i j => .bl (decide (j ≤ i))) := opB0 fun _ _ _ _ _ _ _ q => ge_int q
theorem op_isN : OpR X (compareOp .Is) (fun x y H Q => y = .non ∧ Q (.bl (decide (x = .non))) H) := by
  intro pins s σ H x y v u Q I rx ry h
  obtain ⟨rfl, q⟩ := h
  cases ry
  refine is_none_gen (fin_bl I q ?_)
  cases x <;> first
    | (cases rx; rfl)
    | (obtain ⟨t, rfl⟩ := rx; rfl)
theorem op_notN : OpR X (compareOp .IsNot) (fun x y H Q => y = .non ∧ Q (.bl (!decide (x = .non))) H) := by
  intro pins s σ H x y v u Q I rx ry h
  obtain ⟨rfl, q⟩ := h
  cases ry
  refine isnot_none_gen (fin_bl I q ?_)
  cases x <;> first
    | (cases rx; rfl)
    | (obtain ⟨t, rfl⟩ := rx; rfl)
theorem nomark (b : Expr) {op : CmpOp} (h : op ≠ .In := by decide) (h2 : op ≠ .NotIn := by decide) : behindInMarks op b = false := by
  have e1 : (op == CmpOp.In) = false := by cases op <;> first | rfl | exact absurd rfl h
  have e2 : (op == CmpOp.NotIn) = false := by cases op <;> first | rfl | exact absurd rfl h2
  cases b <;> simp [behindInMarks, e1, e2]
theorem pe_cmpR {op : CmpOp} {r : R2} (ho : OpR X (compareOp op) r) (ha : PE X a ta) (hb : PE X b tb) (hm : behindInMarks op b = false) : PE X (.Compare a [op] [b] pos) (tOp r ta tb) := by
  intro pins s σ H Q I h
  exact wpAny_Compare1 (binT ha hb I h fun v u s2 x y H2 I2 rx ry q => ho pins s2 σ H2 x y v u Q I2 rx ry q) hm
noncomputable def tTest (t : TE) : TT := fun σ H Q => t σ H fun x H' => ∃ k, x = .bl k ∧ Q k H'
theorem pt_cmpR {op : CmpOp} {r : R2} (ho : OpR X (compareOp op) r) (ha : PE X a ta) (hb : PE X b tb) (hm : behindInMarks op b = false) : PT X (.Compare a [op] [b] pos) (tTest (tOp r ta tb)) := by
  intro pins s σ H Q I h
  refine wpAny_isTrue_Compare1 (thn (ha pins s σ H _ I h) fun v s1 ⟨x, H1, I1, r1, q1⟩ => thn (hb pins s1 σ H1 _ I1 q1) fun u s2 ⟨y, H2, I2, r2, q2⟩ =>
    thn (ho pins s2 σ H2 x y v u _ I2 r1 r2 q2) fun c s3 ⟨z, H3, I3, r3, k, e, q3⟩ => ?_) hm
  subst e
  cases r3
  exact wpAny_truthy_bool ⟨H3, I3, q3⟩
noncomputable def TruV (K : PySem.W.Frag) (x : V) (H : Hp) (k : Bool) : Prop :=
  match x with
  | .non => k = false
  | .bl b => k = b
  | .int i => k = (i != 0)
  | .str y => y.length ≤ sizeLine ∧ k = ((y.length : Int) != 0)
  | .byt y => y.size ≤ sizeLine ∧ k = ((y.size : Int) != 0)
  | .ref p => (∃ xs, SqL K H p xs ∧ k = !xs.isEmpty) ∨ (∃ xs, SqT K H p xs ∧ k = !xs.isEmpty) ∨ ∃ kvs, H p = some (.dK kvs) ∧ k = !kvs.isEmpty
  | _ => False
theorem isEmpty_kv {κ : Type} {kvs : List (κ × V)} {vs : List (κ × Value)} (r : KV kvs vs) : (!vs.isEmpty) = !kvs.isEmpty := by
  cases r <;> rfl
theorem isEmpty_of {xs : List V} {its : List Value} (r : Vals xs its) : (!its.toArray.isEmpty) = !xs.isEmpty := by
  cases r <;> simp
theorem line63 : (sizeLine : Nat) < 2 ^ 63 := by rw [sizeLine_eq]; decide
theorem tru_ok : TruR X (fun x H Q => ∃ k, TruV X.K x H k ∧ Q k H) := by
  intro pins s σ H x v Q I rx h
  obtain ⟨k, e, q⟩ := h
  have hl := line63
  have hs : sizeLine = 16777216 := sizeLine_eq
  cases x with
  | non =>
    cases rx
    have e' : k = false := e
    subst e'
    exact truthy_none ⟨H, I, q⟩
  | bl b =>
    cases rx
    have e' : k = b := e
    subst e'
    exact wpAny_truthy_bool ⟨H, I, q⟩
  | int i =>
    obtain ⟨t, rfl⟩ := rx
    have e' : k = (i != 0) := e
    subst e'
    exact PySem.P.truthy_int ⟨H, I, q⟩
  | str y =>
    obtain ⟨t, rfl⟩ := rx
    obtain ⟨hy, e'⟩ : y.length ≤ sizeLine ∧ k = ((y.length : Int) != 0) := e
    subst e'
    exact PySem.P.truthy_str (by lia) ⟨H, I.tok _, q⟩
  | byt y =>
    obtain ⟨t, rfl⟩ := rx
    obtain ⟨hy, e'⟩ : y.size ≤ sizeLine ∧ k = ((y.size : Int) != 0) := e
    subst e'
    exact PySem.W.truthy_bytes (by lia) ⟨H, I.tok _, q⟩
  | ref p =>
    cases rx
    have e' : (∃ xs, SqL X.K H p xs ∧ k = !xs.isEmpty) ∨ (∃ xs, SqT X.K H p xs ∧ k = !xs.isEmpty) ∨ ∃ kvs, H p = some (.dK kvs) ∧ k = !kvs.isEmpty := e
    rcases e' with ⟨xs, hx, e'⟩ | ⟨xs, hx, e'⟩ | ⟨kvs, hx, e'⟩
    · subst e'
      obtain ⟨its, r, pl, hz⟩ := I.list hx
      have hlen := r.length
      exact wpAny_truthy_list pl.isList (by simp only [List.size_toArray]; lia) ⟨H, I.tok _, by rw [isEmpty_of r]; exact q⟩
    · subst e'
      obtain ⟨its, r, pl, hz⟩ := I.tuple hx
      have hlen := r.length
      exact truthy_tuple pl (by simp only [List.size_toArray]; lia) ⟨H, I.tok _, by rw [isEmpty_of r]; exact q⟩
    · subst e'
      obtain ⟨hz, hS, vs, r, m⟩ : kvs.length ≤ sizeLine ∧ (p == sysModules) = false ∧ ∃ vs, KV kvs vs ∧ s.heap.DictOf (mixKind X.prog X.w) p vs := I.hok p _ hx
      have hlen : kvs.length = vs.length := Paired.length r
      exact wpAny_truthy_dict hS m (by lia) ⟨H, I.tok _, by rw [isEmpty_kv r]; exact q⟩
  | _ => exact (show False from e).elim
theorem pt_truth (ha : PE X a ta) (he : ∀ whole, isTrue a X.env whole = (do let v ← whole; standAt a.pos; holding [v] (truthy v))) :
    PT X a (fun σ H Q => ta σ H fun x H' => ∃ k, TruV X.K x H' k ∧ Q k H') := by
  intro pins s σ H Q I h
  exact isTrue_plain (thn (ha pins s σ H _ I h) fun v s1 ⟨x, H1, I1, r1, q1⟩ => tru_ok pins s1 σ H1 x v Q I1 r1 q1) (he _)
theorem vals1 {x : V} {us : List Value} (r : Vals [x] us) : ∃ u, us = [u] ∧ RelV x u := by
  cases r with
  | cons r1 r2 => cases r2; exact ⟨_, rfl, r1⟩
theorem vals2 {x y : V} {us : List Value} (r : Vals [x, y] us) : ∃ u w', us = [u, w'] ∧ RelV x u ∧ RelV y w' := by
  cases r with
  | cons r1 r2 =>
    cases r2 with
    | cons r3 r4 => cases r4; exact ⟨_, _, rfl, r1, r3⟩
theorem call_abs : CallR X (.builtin "abs") (fun xs H Q => ∃ i, xs = [.int i] ∧ Q (.int (if i < 0 then -i else i)) H) := by
  intro pins s σ H xs us Q I r h
  obtain ⟨i, rfl, q⟩ := h
  obtain ⟨u, rfl, t, rfl⟩ := vals1 r
  exact call_abs_int fun u tk => ⟨.int (if i < 0 then -i else i), H, I.tok _, ⟨_, rfl⟩, q⟩
theorem call_max2 (hc : X.calm = true) : CallR X (.builtin "max") (fun xs H Q => ∃ i j, xs = [.int i, .int j] ∧ Q (.int (if j > i then j else i)) H) := by
  intro pins s σ H xs us Q I r h
  obtain ⟨i, j, rfl, q⟩ := h
  obtain ⟨u, w', rfl, ⟨t, rfl⟩, ⟨t', rfl⟩⟩ := vals2 r
  refine max_two_ints (I.ok.hd hc) fun h' tk k => ⟨_, H, I.kept k, ?_, q⟩
  by_cases hj : j > i
  · rw [if_pos hj, if_pos hj]; exact ⟨_, rfl⟩
  · rw [if_neg hj, if_neg hj]; exact ⟨_, rfl⟩
theorem call_min2 (hc : X.calm = true) : CallR X (.builtin "min") (fun xs H Q => ∃ i j, xs = [.int i, .int j] ∧ Q (.int (if j < i then j else i)) H) := by
  intro pins s σ H xs us Q I r h
  obtain ⟨i, j, rfl, q⟩ := h
  obtain ⟨u, w', rfl, ⟨t, rfl⟩, ⟨t', rfl⟩⟩ := vals2 r
  refine min_two_ints (I.ok.hd hc) fun h' tk k => ⟨_, H, I.kept k, ?_, q⟩
  by_cases hj : j < i
  · rw [if_pos hj, if_pos hj]; exact ⟨_, rfl⟩
  · rw [if_neg hj, if_neg hj]; exact ⟨_, rfl⟩
theorem call_int1 : CallR X (.type "int") (fun xs H Q => (∃ i, xs = [.int i] ∧ Q (.int i) H) ∨ ∃ k, xs = [.bl k] ∧ Q (.int (if k then 1 else 0)) H) := by
  intro pins s σ H xs us Q I r h
  rcases h with ⟨i, rfl, q⟩ | ⟨k, rfl, q⟩
  · obtain ⟨u, rfl, t, rfl⟩ := vals1 r
    exact call_int_int ⟨.int i, H, I, ⟨_, rfl⟩, q⟩
  · obtain ⟨u, rfl, r1⟩ := vals1 r
    cases r1
    exact call_int_bool ⟨.int (if k then 1 else 0), H, I.tok _, ⟨_, rfl⟩, q⟩
end
end L2
namespace L2
open PySem PySem.Spec PyProof.Rows
structure ObjM (h : Heap) (x dx C : Addr) (mA : Str → Option Value) : Prop where
  obj : h.get? x = some (PySem.W.instObj C dx)
  ns : h.Ns1 dx mA
  ne : dx ≠ x
theorem lookIn_ns {h : Heap} {dx : Addr} {mA : Str → Option Value} (n : h.Ns1 dx mA) : ∃ od, h.get? dx = some od ∧ ∀ name, PySem.W.lookIn name od = some (mA name) := by
  obtain ⟨o, es, ep, ho, hd, hk, _, hm⟩ := n
  refine ⟨o, ho, fun name => ?_⟩
  have e := hm name
  unfold nsFind findBy at e
  rw [← Array.find?_toList] at e
  unfold PySem.W.lookIn
  rw [hd]
  dsimp only
  split
  · rename_i y q
    rw [q] at e
    exact congrArg some e
  · rename_i q
    rw [q] at e
    have a : es.toList.any (·.refKey) = false := by
      rw [List.any_eq_false]
      intro y hy
      obtain ⟨z, t, hkey⟩ := hk y (Array.mem_toList_iff.mp hy)
      simp [DictEntry.refKey, hkey]
    have a' : ¬ es.toList.any (·.refKey) = true := by rw [a]; exact Bool.false_ne_true
    rw [if_neg a']
    exact congrArg some e
theorem ObjM.look {h : Heap} {x dx C : Addr} {mA : Str → Option Value} (I : ObjM h x dx C mA) : ∃ od, PySem.W.InstAt h x (PySem.W.instObj C dx) C (some od) ∧ ∀ name, PySem.W.lookIn name od = some (mA name) :=
  let ⟨od, ho, hl⟩ := lookIn_ns I.ns
  ⟨od, ⟨I.obj, rfl, rfl, ho⟩, hl⟩
section
variable {prog : Program} {w : World} {A : Around} {E : Value → Shared → Prop} {s : Shared} {K : PySem.W.Frag} {x dx C f : Addr} {mA : Str → Option Value} {name : Str} {v : Value}
theorem get_map {expr : Bool} {Q : Value → Shared → Prop} (X : K.In s.heap) (I : ObjM s.heap x dx C mA) (hg : PySem.W.plainGet K C name = true) (hh : PySem.W.hasDictIn K C = true)
    (ha : PySem.W.findIn K (.ref C) name = some none) (hv : mA name = some v) (hv' : PySem.W.handedIn v = true) (h : Q v { s with toks := s.toks + 1 }) :
    wpAny (model prog w) A (getAttr (.ref x) name expr) Q E s := by
  obtain ⟨od, J, hl⟩ := I.look
  exact PySem.W.get_value X J (PySem.W.plainGet_of hg).1 (PySem.W.findObj_own hh ha rfl (by rw [hl, hv])) hv' h
theorem set_map {ns : List Str} {Q : Unit → Shared → Prop} (X : K.In s.heap) (I : ObjM s.heap x dx C mA)
    (hs : PySem.W.findIn K (.ref C) "__setattr__" = some (some (.builtin "object.__setattr__"))) (hp : PySem.W.plainOver K C = true) (ht : PySem.W.takerIn K C name = some none) (hh : PySem.W.hasDictIn K C = true)
    (hw : PySem.Within mA ns) (hsz : ns.length ≤ sizeLine)
    (h : ∀ h', ObjM h' x dx C (fun y => if y = name then some v else mA y) → Heap.SameBut dx s.heap h' → Q () { s with heap := h', toks := s.toks + 2 }) :
    wpAny (model prog w) A (setAttr (.ref x) name v) Q E s := by
  obtain ⟨od, J, hl⟩ := I.look
  refine PySem.W.set_plain X J hs (PySem.W.osa_open (s := { s with toks := s.toks + 1 }) (r := none) X J hp ht fun b => ?_)
  obtain ⟨cd, hc, hd'⟩ := PySem.W.any_some hh
  have hx : s.heap.get? x = some ⟨.ref C, some dx, .plain, #[]⟩ := I.obj
  refine wpAny_bind (wpAny_pure (wpAny_bind (wpAny_bind (wpAny_loadPart hx (wpAny_bind (PySem.W.Looks.here (s := { s with toks := s.toks + 1 }) (PySem.W.looks_clsIn X hc) ?_))))))
  rw [hd']
  refine wpAny_pure (a := some dx) (wpAny_bind (wpAny_pure (wpAny_bind ?_)))
  refine wpAny_nsSet1 (s := { s with toks := s.toks + 1 }) I.ns fun h' hn2 hs2 => ?_
  obtain ⟨oD, esD, epD, hoD, hdD, hcD⟩ := hn2.count (PySem.Within.cons name v hw)
  refine wpAny_bind (wpAny_lookBehind hoD (by rw [hdD]; exact pastItsLine_dict (Nat.le_trans hcD (by rw [List.length_cons]; lia))) ?_)
  exact wpAny_pure (h _ ⟨(hs2.2 _ (Ne.symm I.ne)).trans I.obj, hn2, I.ne⟩ hs2)
theorem make_map {R : Result → Shared → Prop} {vs : List Value} {kw : List (Str × Value)} (X : K.In s.heap) (hm : PySem.W.makesIn K C = true)
    (hi : PySem.W.findIn K (.ref C) "__init__" = some (some (.ref f))) (hf : PySem.W.typeIn K (.ref f) = some (.type "function"))
    (h : codeAny (model prog w) (A.under (.builtin "type.__call__" ⟨.ref C :: vs, kw⟩)) (.call (.ref f) ⟨.ref (s.heap.objs.size + 1) :: vs, kw⟩) (PySem.W.InitBack (s.heap.objs.size + 1) R)
      { s with heap := (s.heap.push PySem.W.emptyDict).push (PySem.W.instObj C s.heap.objs.size) }) :
    codeAny (model prog w) A (.call (.ref C) ⟨vs, kw⟩) R s := by
  obtain ⟨hh, g, d, t, os⟩ := s
  exact PySem.W.make_core (PySem.W.makes_of X hm) (PySem.W.looks_findIn X hi) (fun self => PySem.W.bind_fn X self hf) (.inl rfl) h
end
noncomputable def putF (f : Str) (v : V) : List (Str × V) → List (Str × V)
  | [] => [(f, v)]
  | (g, x) :: r => if g = f then (g, v) :: r else (g, x) :: putF f v r
theorem lookup_putF (f g : Str) (v : V) : ∀ fs : List (Str × V), (putF f v fs).lookup g = if g = f then some v else fs.lookup g
  | [] => by
    show List.lookup g [(f, v)] = _
    by_cases h : g = f
    · have hb : (g == f) = true := beq_iff_eq.mpr h
      simp only [List.lookup, hb, if_pos h]
    · have hb : (g == f) = false := beq_eq_false_iff_ne.mpr h
      simp only [List.lookup, hb, if_neg h]
  | (k, x) :: r => by
    have ih := lookup_putF f g v r
    rw [show putF f v ((k, x) :: r) = (if k = f then (k, v) :: r else (k, x) :: putF f v r) from rfl]
    by_cases hk : k = f
    · rw [if_pos hk]
      by_cases h : g = k
      · have hb : (g == k) = true := beq_iff_eq.mpr h
        simp only [List.lookup, hb, if_pos (h.trans hk)]
      · have hb : (g == k) = false := beq_eq_false_iff_ne.mpr h
        simp only [List.lookup, hb, if_neg (fun e : g = f => h (e.trans hk.symm))]
    · rw [if_neg hk]
      by_cases h : g = k
      · have hb : (g == k) = true := beq_iff_eq.mpr h
        simp only [List.lookup, hb, if_neg (fun e : g = f => hk (h.symm.trans e))]
      · have hb : (g == k) = false := beq_eq_false_iff_ne.mpr h
        simp only [List.lookup, hb]
        exact ih
theorem keys_putF (f : Str) (v : V) : ∀ fs : List (Str × V), f ∈ (putF f v fs).map (·.1) ∧ ∀ g, g ∈ fs.map (·.1) → g ∈ (putF f v fs).map (·.1)
  | [] => ⟨by simp [putF], fun g h => by simp at h⟩
  | (k, x) :: r => by
    obtain ⟨i1, i2⟩ := keys_putF f v r
    rw [show putF f v ((k, x) :: r) = (if k = f then (k, v) :: r else (k, x) :: putF f v r) from rfl]
    by_cases hk : k = f
    · rw [if_pos hk]
      subst hk
      exact ⟨by simp, fun g h => by simpa using h⟩
    · rw [if_neg hk]
      refine ⟨?_, fun g h => ?_⟩
      · rw [List.map_cons]
        exact List.mem_cons_of_mem _ i1
      · rw [List.map_cons] at h ⊢
        rcases List.mem_cons.mp h with e | e
        · exact List.mem_cons.mpr (.inl e)
        · exact List.mem_cons_of_mem _ (i2 g e)
theorem length_putF (f : Str) (v : V) : ∀ fs : List (Str × V), (putF f v fs).length ≤ fs.length + 1
  | [] => by simp [putF]
  | (k, x) :: r => by
    have ih := length_putF f v r
    rw [show putF f v ((k, x) :: r) = (if k = f then (k, v) :: r else (k, x) :: putF f v r) from rfl]
    by_cases hk : k = f
    · rw [if_pos hk, List.length_cons, List.length_cons]; lia
    · rw [if_neg hk, List.length_cons, List.length_cons]; lia
theorem RelO.some_of {v : V} {o : Option Value} (r : RelO (some v) o) : ∃ u, o = some u ∧ RelV v u := by
  cases o with
  | none => exact (show False from r).elim
  | some u => exact ⟨u, rfl, r⟩
theorem handed_of {v : V} {u : Value} (r : RelV v u) : PySem.W.handedIn u = true := by
  cases v with
  | non => cases (show u = Value.none from r); rfl
  | bl b => cases (show u = Value.bool b from r); rfl
  | int i => obtain ⟨t, e⟩ := (show ∃ t, u = Value.int i t from r); cases e; rfl
  | str x => obtain ⟨t, e⟩ := (show ∃ t, u = Value.str x t from r); cases e; rfl
  | byt b => obtain ⟨t, e⟩ := (show ∃ t, u = Value.bytes b t from r); cases e; rfl
  | flt b => obtain ⟨t, e⟩ := (show ∃ t, u = Value.float b t from r); cases e; rfl
  | ref a => cases (show u = Value.ref a from r); rfl
  | ty n => cases (show u = Value.type n from r); rfl
section
variable {P : Program} {w : World} {H H' : Hp} {h h' : Heap} {a C dx : Addr} {fs fs' : List (Str × V)}
theorem ins_get (hok : HOk P w H h) (e : H a = some (.ins C dx fs)) : ∃ mA, ObjM h a dx C mA ∧ (∀ f, RelO (fs.lookup f) (mA f)) ∧ PySem.Within mA (fs.map (·.1)) ∧ fs.length ≤ 1000 ∧ H dx = some (.own a) := by
  obtain ⟨d, z, ne, ob, mA, n, r, q⟩ := (show ObjOk P w H h a (.ins C dx fs) from hok a _ e)
  exact ⟨mA, ⟨ob, n, ne⟩, r, q, z, d⟩
end
structure Cls (K : PySem.W.Frag) (C : Addr) : Prop where
  pg : PySem.W.plainGet K C Str.empty = true
  hd : PySem.W.hasDictIn K C = true
  po : PySem.W.plainOver K C = true
  sa : PySem.W.findIn K (.ref C) "__setattr__" = some (some (.builtin "object.__setattr__"))
theorem Cls.get {K : PySem.W.Frag} {C : Addr} (c : Cls K C) (f : Str) : PySem.W.plainGet K C f = true := c.pg
noncomputable def NoAttr (K : PySem.W.Frag) (C : Addr) (f : Str) : Prop := PySem.W.findIn K (.ref C) f = some none
theorem NoAttr.taker {K : PySem.W.Frag} {C : Addr} {f : Str} (n : NoAttr K C f) : PySem.W.takerIn K C f = some none := by
  unfold PySem.W.takerIn
  rw [show PySem.W.findIn K (.ref C) f = some none from n]
  rfl
structure Con (K : PySem.W.Frag) (C : Addr) (f : Str) (v : V) (u : Value) : Prop where
  at_ : PySem.W.findIn K (.ref C) f = some (some u)
  rel : RelV v u
  get : PySem.W.specialIn K u "__get__" = some none
  cp : PySem.W.copiedNames.contains f = false
structure Meth (K : PySem.W.Frag) (C : Addr) (m : Str) (f : Addr) : Prop where
  at_ : PySem.W.findIn K (.ref C) m = some (some (.ref f))
  fn : PySem.W.isFn K (.ref f) = true
  kp : PySem.W.keepIn K (.ref f) = true
section
variable {X : Cx} {pins : List (Addr × Obj)} {σ : St} {H : Hp} {s : Shared} {a C dx : Addr} {fs : List (Str × V)} {f : Str} {v : V} {A : Around} {E : Value → Shared → Prop}
theorem getattr_ok {b : Bool} {Q : Value → Shared → Prop} (I : Inv X pins σ H s) (e : H a = some (.ins C dx fs)) (c : Cls X.K C) (n : NoAttr X.K C f) (l : fs.lookup f = some v)
    (h : ∀ u s', Inv X pins σ H s' → RelV v u → Q u s') : wpAny (model X.prog X.w) A (getAttr (.ref a) f b) Q E s := by
  obtain ⟨mA, O, r, _, _, _⟩ := ins_get I.hok e
  obtain ⟨u, hu, ru⟩ := RelO.some_of (v := v) (o := mA f) (by rw [← l]; exact r f)
  exact get_map I.kIn O (c.get f) c.hd n hu (handed_of ru) (h u _ (I.tok _) ru)
theorem setattr_ok {y : V} {u : Value} {Q : Unit → Shared → Prop} (I : Inv X pins σ H s) (e : H a = some (.ins C dx fs)) (c : Cls X.K C) (n : NoAttr X.K C f) (hl : fs.length < 1000) (ry : RelV y u)
    (h : ∀ s', Inv X pins σ (upd H a (.ins C dx (putF f y fs))) s' → Q () s') : wpAny (model X.prog X.w) A (setAttr (.ref a) f u) Q E s := by
  obtain ⟨mA, O, r, wi, _, ho⟩ := ins_get I.hok e
  have hz : (fs.map (·.1)).length ≤ sizeLine := by rw [List.length_map, sizeLine_eq]; lia
  refine set_map I.kIn O c.sa c.po n.taker c.hd wi hz fun h' O' sb => h _ ?_
  have hd : ∃ o, h'.get? dx = some o := let ⟨o, _, _, e', _⟩ := O'.ns; ⟨o, e'⟩
  refine I.write (x := a) (e := dx) (by rw [e]; exact True.intro) (.inr ho) (fun b q hb z => (sb.2 b hb).trans z) hd ?_
  refine ⟨by rw [upd_ne O.ne]; exact ho, ?_, O.ne, O'.obj, _, O'.ns, fun g => ?_, fun g hg => ?_⟩
  · have := length_putF f y fs; lia
  · show RelO ((putF f y fs).lookup g) (if g = f then some u else mA g)
    rw [lookup_putF]
    by_cases q : g = f
    · rw [if_pos q, if_pos q]; exact ry
    · rw [if_neg q, if_neg q]; exact r g
  · by_cases q : g = f
    · rw [q]; exact (keys_putF f y fs).1
    · refine (keys_putF f y fs).2 g (wi g fun z => hg ?_)
      show (if g = f then some u else mA g) = none
      rw [if_neg q]; exact z
theorem Inv.made (I : Inv X pins σ H s) : Inv X pins σ (upd (upd H s.heap.objs.size (.own (s.heap.objs.size + 1))) (s.heap.objs.size + 1) (.ins C s.heap.objs.size []))
    { s with heap := (s.heap.push PySem.W.emptyDict).push (PySem.W.instObj C s.heap.objs.size) } := by
  have e1 : (s.heap.push PySem.W.emptyDict).get? s.heap.objs.size = some PySem.W.emptyDict := Heap.get?_push_size s.heap rfl
  have e2 : ((s.heap.push PySem.W.emptyDict).push (PySem.W.instObj C s.heap.objs.size)).get? (s.heap.objs.size + 1) = some (PySem.W.instObj C s.heap.objs.size) := by
    have := Heap.get?_push_size (s.heap.push PySem.W.emptyDict) (o := PySem.W.instObj C s.heap.objs.size) rfl
    rwa [Heap.size_push] at this
  have e3 : (s.heap.push PySem.W.emptyDict).Ns s.heap.objs.size (fun _ => none) := ⟨PySem.W.emptyDict, #[], _, e1, rfl, (fun e he => absurd he (by simp)), fun _ => rfl⟩
  have I1 := I.laid (a := s.heap.objs.size) (o := .own (s.heap.objs.size + 1)) (h' := s.heap.push PySem.W.emptyDict) (t' := s.toks) (fun b u q => Heap.get?_push_of_some _ q) (Nat.le_refl _) ⟨_, e1⟩
  refine I1.laid (a := s.heap.objs.size + 1) (o := .ins C s.heap.objs.size []) (t' := s.toks) (fun b u q => Heap.get?_push_of_some _ q) (Nat.le_of_eq (Heap.size_push _ _)) ?_
  have ne : s.heap.objs.size ≠ s.heap.objs.size + 1 := Nat.ne_of_lt (Nat.lt_succ_self _)
  refine ⟨by rw [upd_ne ne, upd_same], Nat.zero_le _, ne, e2, fun _ => none, (Heap.Ns1.of_empty e3).at fun o q => Heap.get?_push_of_some _ q, fun _ => True.intro, fun y hy => absurd rfl hy⟩
theorem attr_of {prog : Program} {w : World} {env : Env} {e : Expr} {f : Str} {pos : Pos} {s : Shared} {Q : Value → Shared → Prop} (hb : attributeBase e f env (eval e env) = eval e env)
    (h : wpAny (model prog w) A (eval e env) (fun o s₁ => wpAny (model prog w) A (getAttr o f true) Q E s₁) E s) : wpAny (model prog w) A (eval (.Attribute e f pos) env) Q E s :=
  Attribute_any_ h (by rw [arm_eval_Attribute, hb])
end
noncomputable def tFld (K : PySem.W.Frag) (ta : TE) (f : Str) : TE := fun σ H Q => ta σ H fun x H1 => ∃ a C dx fs v, x = .ref a ∧ H1 a = some (.ins C dx fs) ∧ Cls K C ∧ NoAttr K C f ∧ fs.lookup f = some v ∧ Q v H1
noncomputable def sFld (K : PySem.W.Frag) (ta tv : TE) (f : Str) : TS := fun D σ H => tv σ H fun y H1 => ta σ H1 fun x H2 => ∃ a C dx fs, x = .ref a ∧ H2 a = some (.ins C dx fs) ∧ Cls K C ∧ NoAttr K C f ∧ fs.length < 1000 ∧
  D.nx σ (upd H2 a (.ins C dx (putF f y fs)))
section
variable {X : Cx} {o e value : Expr} {f : Str} {pos pos' tpos : Pos} {ta tv : TE}
theorem pe_fld (he : PE X e ta) (hb : attributeBase e f X.env (eval e X.env) = eval e X.env) : PE X (.Attribute e f pos) (tFld X.K ta f) := by
  intro pins s σ H Q I h
  refine attr_of hb (thn (he pins s σ H _ I h) fun u s1 ⟨x, H1, I1, rx, a, C, dx, fs, v, ex, ea, c, n, l, q⟩ => ?_)
  subst ex
  obtain rfl : u = Value.ref a := rx
  exact getattr_ok I1 ea c n l fun u' s2 I2 ru => ⟨v, H1, I2, ru, q⟩
theorem ps_fld (ha : PE X o ta) (hv : PE X value tv) (hs : swapsWith value (some (.Attribute o f pos')) pos.line X.env = pure false) : PS X (.Assign [.Attribute o f pos'] value pos) (sFld X.K ta tv f) := by
  intro pins s σ H D I h
  refine plainObj_wpAny_Assign_Attribute (thn (hv pins s σ H _ I h) fun u s1 ⟨y, H1, I1, ry, q⟩ => thn (ha pins s1 σ H1 _ I1 q) fun ov s2 ⟨x, H2, I2, rx, a, C, dx, fs, ex, ea, c, n, l, q2⟩ => ?_) hs
  subst ex
  obtain rfl : ov = Value.ref a := rx
  exact setattr_ok I2 ea c n l ry fun s3 I3 => ⟨σ, _, I3, q2⟩
end
section
variable {X : Cx} {pins : List (Addr × Obj)} {σ : St} {H : Hp} {s : Shared} {A : Around} {E : Value → Shared → Prop} {Q : Value → Shared → Prop} {c : Value} {b : Bool}
inductive TyOf (K : PySem.W.Frag) (H : Hp) : V → Value → Prop where
  | non : TyOf K H .non (.type "NoneType")
  | bl (x : Bool) : TyOf K H (.bl x) (.type "bool")
  | int (i : Int) : TyOf K H (.int i) (.type "int")
  | str (x : Str) : TyOf K H (.str x) (.type "str")
  | flt (x : UInt64) : TyOf K H (.flt x) (.type "float")
  | lst {a : Addr} {xs : List V} (e : H a = some (.lst xs)) : TyOf K H (.ref a) (.type "list")
  | frz {a : Addr} {o : Obj} {xs : List V} (e : H a = some (.frz o (.lst xs))) : TyOf K H (.ref a) (.type "list")
  | tup {a : Addr} {xs : List V} (e : H a = some (.tup xs)) : TyOf K H (.ref a) (.type "tuple")
  | dK {a : Addr} {kvs : List (Key × V)} (e : H a = some (.dK kvs)) : TyOf K H (.ref a) (.type "dict")
  | dT {a : Addr} {kvs : List (List Key × V)} (e : H a = some (.dT kvs)) : TyOf K H (.ref a) (.type "dict")
  | ins {a C dx : Addr} {fs : List (Str × V)} (e : H a = some (.ins C dx fs)) (cl : Cls K C) (ha : PySem.W.findIn K (.ref C) "__class__" = some (some (.builtin "object.__class__")))
      (hn : PySem.W.specialIn K (.builtin "object.__class__") "__get__" = some (some (.builtin "getset_descriptor.__get__"))) (htk : PySem.W.takesIn K (.builtin "object.__class__") = some true)
      (hm : PySem.W.mroIn K C (.type "object") = some true) : TyOf K H (.ref a) (.ref C)
theorem isinst_ok {x : V} {u t : Value} (I : Inv X pins σ H s) (rx : RelV x u) (ty : TyOf X.K H x t) (e : PySem.W.kitOne X.K t c = some b) (h : ∀ tk, Q (.bool b) { s with toks := tk }) :
    wpAny (model X.prog X.w) A (call (.builtin "isinstance") [u, c]) Q E s := by
  cases ty with
  | non => cases (show u = Value.none from rx); exact PySem.W.kia_one PySem.W.kitx_none I.kIn True.intro e (fun z => nomatch z) h
  | bl y => cases (show u = Value.bool y from rx); exact PySem.W.kia_one PySem.W.kitx_bool I.kIn True.intro e (fun z => nomatch z) h
  | int i => obtain ⟨t, q⟩ := (show ∃ t, u = Value.int i t from rx); cases q; exact PySem.W.kia_one PySem.W.kitx_int I.kIn True.intro e (fun z => nomatch z) h
  | str y => obtain ⟨t, q⟩ := (show ∃ t, u = Value.str y t from rx); cases q; exact PySem.W.kia_one PySem.W.kitx_str I.kIn True.intro e (fun z => nomatch z) h
  | flt y => obtain ⟨t, q⟩ := (show ∃ t, u = Value.float y t from rx); cases q; exact PySem.W.kia_one PySem.W.kitx_float I.kIn True.intro e (fun z => nomatch z) h
  | @lst a xs ea =>
    cases (show u = Value.ref a from rx)
    obtain ⟨_, _, n, _, h1⟩ := (show ObjOk X.prog X.w H s.heap a (.lst xs) from I.hok a _ ea)
    exact PySem.W.kia_one PySem.W.kitx_list I.kIn ⟨_, h1, rfl⟩ e (fun z => nomatch z) h
  | @frz a ob xs ea =>
    cases (show u = Value.ref a from rx)
    obtain ⟨_, _, _, n, _, h1⟩ := (show ObjOk X.prog X.w H s.heap a (.frz ob (.lst xs)) from I.hok a _ ea)
    exact PySem.W.kia_one PySem.W.kitx_list I.kIn ⟨_, h1, rfl⟩ e (fun z => nomatch z) h
  | @tup a xs ea =>
    cases (show u = Value.ref a from rx)
    obtain ⟨_, _, _, p⟩ := (show ObjOk X.prog X.w H s.heap a (.tup xs) from I.hok a _ ea)
    obtain ⟨o, h1, h2, _⟩ := p
    exact PySem.W.kia_one PySem.W.kitx_tuple I.kIn ⟨o, h1, h2⟩ e (fun z => nomatch z) h
  | @dK a kvs ea =>
    cases (show u = Value.ref a from rx)
    obtain ⟨_, _, vs, _, p⟩ := (show ObjOk X.prog X.w H s.heap a (.dK kvs) from I.hok a _ ea)
    obtain ⟨o, es, ep, h1, h2, _⟩ := p
    exact PySem.W.kia_one PySem.W.kitx_dict I.kIn ⟨o, h1, h2.1⟩ e (fun z => nomatch z) h
  | @dT a kvs ea =>
    cases (show u = Value.ref a from rx)
    obtain ⟨_, _, xs, _, o, es, ep, h1, h2, _⟩ := (show ObjOk X.prog X.w H s.heap a (.dT kvs) from I.hok a _ ea)
    exact PySem.W.kia_one PySem.W.kitx_dict I.kIn ⟨o, h1, h2.1⟩ e (fun z => nomatch z) h
  | @ins a C dx fs ea cl ha hn htk hm =>
    cases (show u = Value.ref a from rx)
    obtain ⟨mA, O, _⟩ := ins_get I.hok ea
    obtain ⟨od, J, _⟩ := O.look
    exact PySem.W.kia_one (PySem.W.kitx_own (cl.get _) cl.hd ha hn htk hm) I.kIn J e (fun z => nomatch z) h
end
end L2
namespace L2
open PySem PySem.Spec PyProof.Rows
structure Room (k : Nat) (A : Around) : Prop where
  hd : A.handled = none
  dp : A.depth + 3 * k + 5 < recursionLimit
  un : A.units + 16 * k + 200 < cLine
theorem Room.mono {j k : Nat} {A : Around} (r : Room k A) (h : j ≤ k) : Room j A := ⟨r.hd, by have := r.dp; lia, by have := r.un; lia⟩
theorem Room.deeper {k : Nat} {A : Around} (r : Room (k + 1) A) (env : Env) : Room k (A.deeper env) :=
  ⟨r.hd, by have := r.dp; show A.depth + 1 + 3 * k + 5 < _; lia, by have := r.un; show A.units + 3 + 16 * k + 200 < _; lia⟩
theorem make_depth {A : Around} {C : Addr} {us : List Value} {kw : List (Str × Value)} : (A.under (.builtin "type.__call__" ⟨.ref C :: us, kw⟩)).depth = A.depth + 1 := by
  first | rfl | simp [Around.under, Code.weight, Code.isCreation, Code.isGuard, Code.isCaller, Code.frames, Code.isFrame, guardIds]
theorem make_units {A : Around} {C : Addr} {us : List Value} {kw : List (Str × Value)} : (A.under (.builtin "type.__call__" ⟨.ref C :: us, kw⟩)).units = A.units + 1 := by
  first | rfl | simp [Around.under, Code.cUnits, Code.frames, Code.isFrame]
theorem Room.make {k : Nat} {A : Around} (r : Room (k + 1) A) (C : Addr) (us : List Value) (kw : List (Str × Value)) : Room k (A.under (.builtin "type.__call__" ⟨.ref C :: us, kw⟩)) :=
  ⟨r.hd, by have := r.dp; rw [make_depth]; lia, by have := r.un; rw [make_units]; lia⟩
theorem Room.depth {k : Nat} {A : Around} (r : Room k A) : A.depth < recursionLimit := by have := r.dp; lia
theorem Room.units0 {k : Nat} {A : Around} (r : Room k A) : A.units < cLine := by have := r.un; lia
noncomputable def tNil : TA := fun _ H Q => Q [] H
noncomputable def tCons (ta : TE) (tr : TA) : TA := fun σ H Q => ta σ H fun x H1 => tr σ H1 fun xs H2 => Q (x :: xs) H2
section
variable {X : Cx} {e : Expr} {es : List Expr} {te : TE} {t : TA} {pos : Pos}
theorem pa_nil : PA X [] tNil := fun _ _ _ _ H Q I h => Calls.spliced_nil ⟨[], H, I, .nil, h⟩
theorem pa_cons (ha : PE X e te) (hr : PA X es t) (hs : starEach (e :: es) X.env = (false, eval e X.env) :: starEach es X.env := by rfl) : PA X (e :: es) (tCons te t) := by
  intro pos pins s σ H Q I h
  rw [hs]
  show wpAny _ _ (spliced ((false, eval e X.env) :: backTo pos (starEach es X.env))) _ _ s
  refine Calls.spliced_cons (thn (ha pins s σ H _ I h) fun u s1 ⟨x, H1, I1, r1, q1⟩ => ?_)
  exact thn (hr pos pins s1 σ H1 _ I1 q1) fun us s2 ⟨xs, H2, I2, r2, q2⟩ => ⟨x :: xs, H2, I2, .cons r1 r2, q2⟩
noncomputable def tTup (t : TA) : TE := fun σ H Q => t σ H fun xs H1 => xs.length ≤ sizeLine ∧ ∀ p, H1 p = none → Q (.ref p) (upd H1 p (.tup xs))
noncomputable def tLst (t : TA) : TE := fun σ H Q => t σ H fun xs H1 => xs.length ≤ sizeLine ∧ ∀ p, H1 p = none → Q (.ref p) (upd H1 p (.lst xs))
theorem pe_tup {x1} (h : PA X es t) : PE X (.Tuple es x1 pos) (tTup t) := by
  intro pins s σ H Q I hq
  refine wpAny_Tuple_spliced (thn (h pos pins s σ H _ I hq) fun us s1 ⟨xs, H1, I1, r, z, q⟩ => ⟨by rw [← r.length]; exact z, ?_⟩)
  have hf : H1 s1.heap.objs.size = none := I1.hok.fresh (Nat.le_refl _)
  refine ⟨.ref s1.heap.objs.size, upd H1 s1.heap.objs.size (.tup xs), I1.laid (t' := s1.toks) (fun b u e => Heap.get?_push_of_some _ e) (Nat.le_refl _) ?_, rfl, q _ hf⟩
  exact ⟨z, us, r, ⟨_, Heap.get?_push_size _ rfl, rfl, _, rfl⟩⟩
theorem pe_lst (h : PA X es t) : PE X (.List es pos) (tLst t) := by
  intro pins s σ H Q I hq
  refine wpAny_List_spliced (thn (h pos pins s σ H _ I hq) fun us s1 ⟨xs, H1, I1, r, z, q⟩ => ⟨by rw [← r.length]; exact z, ?_⟩)
  have hf : H1 s1.heap.objs.size = none := I1.hok.fresh (Nat.le_refl _)
  refine ⟨.ref s1.heap.objs.size, upd H1 s1.heap.objs.size (.lst xs), I1.laid (t' := s1.toks) (fun b u e => Heap.get?_push_of_some _ e) (Nat.le_refl _) ?_, rfl, q _ hf⟩
  exact ⟨z, us, 0, r, Heap.get?_push_size _ rfl⟩
end
noncomputable abbrev Sp := List V → Hp → VK → XK → Prop
noncomputable abbrev CXT := List Env → Hp → Shared → XK → Value → Shared → Prop
structure Env0 (P : Program) (w : World) (K : PySem.W.Frag) (mg : Str → Option Value) (base : Heap) (A : Around) (outer : List Env) (s : Shared) (H : Hp) : Prop where
  frames : A.frames = some outer
  mod : Mod K mg base
  bs : ∀ b o, base.get? b = some o → s.heap.get? b = some o ∧ H b = none
  bsz : base.objs.size ≤ s.heap.objs.size
  funs : s.heap.FunFrames base outer
  frf : ∀ b ∈ frs outer, H b = none
  hok : HOk P w H s.heap
  bare : AllBare s.gens
noncomputable def CE (outer : List Env) (P : Program) (w : World) (H : Hp) (s : Shared) (Q : VK) (u : Value) (s' : Shared) : Prop :=
  ∃ v H', s'.os = s.os ∧ AllBare s'.gens ∧ Un (frs outer) [] H H' s.heap s'.heap ∧ HOk P w H' s'.heap ∧ RelV v u ∧ Q v H'
noncomputable def CR (CX : CXT) (outer : List Env) (P : Program) (w : World) (H : Hp) (s : Shared) (Q : VK) (E : XK) (r : Result) (s' : Shared) : Prop :=
  match r with
  | .ok (.ret u) => CE outer P w H s Q u s'
  | .ok _ => False
  | .error e => CX outer H s E e s'
structure FnOk (P : Program) (w : World) (K : PySem.W.Frag) (mg : Str → Option Value) (base : Heap) (CX : CXT) (k : Nat) (f : Addr) (fd : FuncData) (ps : List Str) (sp : Sp) : Prop where
  len : ∀ vs H Q E, sp vs H Q E → vs.length = ps.length
  run : ∀ (A : Around) (outer : List Env) (s : Shared) (H : Hp) (args : Args) (us : List Value) (vs : List V) (Q : VK) (E : XK), Room k A → Env0 P w K mg base A outer s H → BindsTo s fd args (ps.zip us) → Vals vs us → sp vs H Q E →
    codeAny (model P w) A (.call (.ref f) args) (CR CX outer P w H s Q E) s
theorem FnOk.mono {P : Program} {w : World} {K : PySem.W.Frag} {mg : Str → Option Value} {base : Heap} {CX : CXT} {j k : Nat} {f : Addr} {fd : FuncData} {ps : List Str} {sp : Sp} (F : FnOk P w K mg base CX j f fd ps sp) (h : j ≤ k) :
    FnOk P w K mg base CX k f fd ps sp := ⟨F.len, fun A outer s H args us vs Q E hr => F.run A outer s H args us vs Q E (hr.mono h)⟩
theorem FnOk.imp {P : Program} {w : World} {K : PySem.W.Frag} {mg : Str → Option Value} {base : Heap} {CX : CXT} {k : Nat} {f : Addr} {fd : FuncData} {ps : List Str} {sp sp' : Sp} (F : FnOk P w K mg base CX k f fd ps sp)
    (h : ∀ vs H Q E, sp' vs H Q E → sp vs H Q E) : FnOk P w K mg base CX k f fd ps sp' :=
  ⟨fun vs H Q E q => F.len vs H Q E (h _ _ _ _ q), fun A outer s H args us vs Q E hr he hb hv hs => F.run A outer s H args us vs Q E hr he hb hv (h _ _ _ _ hs)⟩
theorem Env0.make {P : Program} {w : World} {K : PySem.W.Frag} {mg : Str → Option Value} {base : Heap} {A : Around} {outer : List Env} {s : Shared} {H : Hp} (e : Env0 P w K mg base A outer s H) (C : Addr) (us : List Value) (kw : List (Str × Value)) :
    Env0 P w K mg base (A.under (.builtin "type.__call__" ⟨.ref C :: us, kw⟩)) outer s H := ⟨by first | exact e.frames | (simpa [Around.under, Code.envs, Code.isFrame, pushEnvs] using e.frames), e.mod, e.bs, e.bsz, e.funs, e.frf, e.hok, e.bare⟩
section
variable {X : Cx} {pins : List (Addr × Obj)} {σ : St} {H : Hp} {s s' : Shared}
theorem Inv.env0 (I : Inv X pins σ H s) : Env0 X.prog X.w X.K X.mg X.base X.A X.stack s H :=
  ⟨I.ok.frames, I.ok.mod, I.bs, Nat.le_trans I.ok.bsz I.sz, I.stack, I.stkFree, I.hok, I.bare⟩
theorem Inv.after {Q : VK} {u : Value} (I : Inv X pins σ H s) (h : CE X.stack X.prog X.w H s Q u s') : EP X pins σ Q u s' := by
  obtain ⟨v, H', os, bare, un, hok, r, q⟩ := h
  obtain ⟨hh, g, d, t, os'⟩ := s'
  obtain rfl : os' = s.os := os
  exact ⟨v, H', I.call (h' := hh) (g' := g) (d' := d) (t' := t) (ch := []) un hok bare (fun b z => absurd z (by simp)), r, q⟩
end
noncomputable def tCall (sp : Sp) (dvs : List V) (E : XK) (t : TA) : TE := fun σ H Q => t σ H fun vs H1 => sp (vs ++ dvs) H1 Q E
noncomputable def tMake (C : Addr) (sp : Sp) (dvs : List V) (E : XK) (t : TA) : TE := fun σ H Q => t σ H fun vs H1 => ∀ x dx, H1 x = none → H1 dx = none → dx ≠ x →
  sp (.ref x :: (vs ++ dvs)) (upd (upd H1 dx (.own x)) x (.ins C dx [])) (fun v H2 => v = .non ∧ Q (.ref x) H2) E
noncomputable def Binds (K : PySem.W.Frag) (fd : FuncData) (ps : List Str) (ds : List Value) : Prop :=
  ∀ (s : Shared) (us : List Value), K.In s.heap → (us ++ ds).length = ps.length → BindsTo s fd ⟨us, []⟩ (ps.zip (us ++ ds))
theorem Binds.all {K : PySem.W.Frag} {fd : FuncData} {ps : List Str} (h : ∀ us : List Value, us.length = ps.length → bindArgs fd ⟨us, []⟩ = pure (ps.zip us)) : Binds K fd ps [] := fun s us _ hl => by
  rw [List.append_nil] at hl ⊢
  exact .of_eq (h us hl)
noncomputable def Passes (CX : CXT) (X : Cx) (E : XK) : Prop := ∀ (pins : List (Addr × Obj)) (σ : St) (H : Hp) (s : Shared) (e : Value) (s' : Shared), Inv X pins σ H s → CX X.stack H s E e s' → X.xe e s'
section
variable {X : Cx} {CX : CXT} {k : Nat} {f C : Addr} {fd : FuncData} {ps : List Str} {sp : Sp} {dvs : List V} {ds : List Value} {E : XK} {x m : Str} {p pos apos : Pos} {e o : Expr} {es : List Expr} {ta : TE} {t : TA}
theorem run_fn {pins : List (Addr × Obj)} {σ : St} {H : Hp} {s : Shared} {Q : VK} {us : List Value} {vs : List V} (F : FnOk X.prog X.w X.K X.mg X.base CX k f fd ps sp) (hr : Room k X.A) (hb : Binds X.K fd ps ds) (hd : Vals dvs ds) (hx : Passes CX X E)
    (I : Inv X pins σ H s) (r : Vals vs us) (h : sp (vs ++ dvs) H Q E) : wpAny (model X.prog X.w) X.A (call (.ref f) us) (EP X pins σ Q) X.xe s := by
  have r2 : Vals (vs ++ dvs) (us ++ ds) := r.append hd
  have hl : (us ++ ds).length = ps.length := by rw [← r2.length]; exact F.len _ _ _ _ h
  refine wpAny_call (codeAny_mono (F.run X.A X.stack s H ⟨us, []⟩ (us ++ ds) (vs ++ dvs) Q E hr I.env0 (hb s us I.kIn hl) r2 h) fun r s' hq => ?_)
  cases r with
  | error e => exact hx pins σ H s e s' I hq
  | ok fl =>
    cases fl with
    | ret u => exact I.after hq
    | next => exact False.elim hq
    | brk => exact False.elim hq
    | cont => exact False.elim hq
theorem pe_call (F : FnOk X.prog X.w X.K X.mg X.base CX k f fd ps sp) (hr : Room k X.A) (hg : Gl X x) (hm : X.mg x = some (.ref f)) (hk : PySem.W.keepIn X.K (.ref f) = true) (hb : Binds X.K fd ps ds) (hd : Vals dvs ds) (hx : Passes CX X E)
    (ha : PA X (e :: es) t) (hdb : (x == ("__debug__" : Str)) = false := by decide) (he : starEach (e :: es) X.env = (false, eval e X.env) :: starEach es X.env := by rfl) (hpl : (backTo pos (starEach es X.env)).any (·.1) = false := by rfl) :
    PE X (.Call (.Name x p) (e :: es) [] pos) (tCall sp dvs E t) := by
  intro pins s σ H Q I h
  refine wpAny_Call_Name_kw (ld_glob I hg hm ?_ hdb)
  refine PySem.W.callWith_K (h₀ := X.base) I.ok.mod.kin hk (thn (ha pos pins s σ H _ I h) fun us s1 ⟨vs, H1, I1, r, q⟩ => ⟨I1.kIn, ?_⟩) he hpl
  exact run_fn F hr hb hd hx I1 r q
structure Mk (K : PySem.W.Frag) (C f : Addr) : Prop where
  makes : PySem.W.makesIn K C = true
  init : PySem.W.findIn K (.ref C) "__init__" = some (some (.ref f))
  fn : PySem.W.isFn K (.ref f) = true
  kp : PySem.W.keepIn K (.ref C) = true
theorem run_make {pins : List (Addr × Obj)} {σ : St} {H : Hp} {s : Shared} {Q : VK} {us : List Value} {vs : List V} (M : Mk X.K C f) (F : FnOk X.prog X.w X.K X.mg X.base CX k f fd ps sp) (hr : Room (k + 1) X.A) (hb : Binds X.K fd ps ds) (hd : Vals dvs ds)
    (hx : Passes CX X E) (I : Inv X pins σ H s) (r : Vals vs us)
    (h : ∀ x dx, H x = none → H dx = none → dx ≠ x → sp (.ref x :: (vs ++ dvs)) (upd (upd H dx (.own x)) x (.ins C dx [])) (fun v H2 => v = .non ∧ Q (.ref x) H2) E) :
    wpAny (model X.prog X.w) X.A (call (.ref C) us) (EP X pins σ Q) X.xe s := by
  have hq := h (s.heap.objs.size + 1) s.heap.objs.size (I.hok.fresh (Nat.le_succ _)) (I.hok.fresh (Nat.le_refl _)) (Nat.ne_of_lt (Nat.lt_succ_self _))
  have I2 := Inv.made (C := C) I
  have r2 : Vals (V.ref (s.heap.objs.size + 1) :: (vs ++ dvs)) (Value.ref (s.heap.objs.size + 1) :: (us ++ ds)) := .cons rfl (r.append hd)
  have hl : (Value.ref (s.heap.objs.size + 1) :: us ++ ds).length = ps.length := by
    have e := r2.length
    rw [F.len _ _ _ _ hq] at e
    exact e.symm
  refine wpAny_call (make_map (f := f) I.kIn M.makes M.init (beq_iff_eq.mp M.fn) (codeAny_mono (F.run _ X.stack _ _ ⟨Value.ref (s.heap.objs.size + 1) :: us, []⟩ (Value.ref (s.heap.objs.size + 1) :: (us ++ ds)) _ _ E (hr.make C us [])
    (I2.env0.make C us []) (hb _ (Value.ref (s.heap.objs.size + 1) :: us) I2.kIn hl) r2 hq) fun r s' hq' => ?_))
  cases r with
  | error e => exact hx pins σ _ _ e s' I2 hq'
  | ok fl =>
    cases fl with
    | ret u =>
      obtain ⟨v, H', I3, rv, ev, q3⟩ := I2.after hq'
      subst ev
      exact ⟨rv, ⟨V.ref (s.heap.objs.size + 1), H', I3, rfl, q3⟩⟩
    | next => exact False.elim hq'
    | brk => exact False.elim hq'
    | cont => exact False.elim hq'
theorem pe_make (M : Mk X.K C f) (F : FnOk X.prog X.w X.K X.mg X.base CX k f fd ps sp) (hr : Room (k + 1) X.A) (hg : Gl X x) (hm : X.mg x = some (.ref C)) (hb : Binds X.K fd ps ds) (hd : Vals dvs ds) (hx : Passes CX X E)
    (ha : PA X (e :: es) t) (hdb : (x == ("__debug__" : Str)) = false := by decide) (he : starEach (e :: es) X.env = (false, eval e X.env) :: starEach es X.env := by rfl) (hpl : (backTo pos (starEach es X.env)).any (·.1) = false := by rfl) :
    PE X (.Call (.Name x p) (e :: es) [] pos) (tMake C sp dvs E t) := by
  intro pins s σ H Q I h
  refine wpAny_Call_Name_kw (ld_glob I hg hm ?_ hdb)
  refine PySem.W.callWith_K (h₀ := X.base) I.ok.mod.kin M.kp (thn (ha pos pins s σ H _ I h) fun us s1 ⟨vs, H1, I1, r, q⟩ => ⟨I1.kIn, ?_⟩) he hpl
  exact run_make M F hr hb hd hx I1 r q
end
section
variable {X : Cx} {CX : CXT} {k : Nat} {f C : Addr} {fd : FuncData} {ps ks : List Str} {sp : Sp} {E : XK} {x m : Str} {p pos apos kpos : Pos} {e o : Expr} {es : List Expr} {kws : List Keyword} {te ta : TE} {t tk : TA} {nm : Option Str}
structure KBinds (K : PySem.W.Frag) (fd : FuncData) (ps ks : List Str) (g : List Value → List Value → List Value) (gV : List V → List V → List V) : Prop where
  to : ∀ (s : Shared) (us ws : List Value), K.In s.heap → (g us ws).length = ps.length → BindsTo s fd ⟨us, ks.zip ws⟩ (ps.zip (g us ws))
  rel : ∀ {vs : List V} {us : List Value} {zs : List V} {ws : List Value}, Vals vs us → Vals zs ws → Vals (gV vs zs) (g us ws)
variable {g : List Value → List Value → List Value} {gV : List V → List V → List V}
end
structure FnScope (N P : List Str) (sc : Scope) : Prop where
  kind : sc.kind = .function
  co : sc.isCoroutine = false
  gen : sc.isGenerator = false
  nd : N.Nodup
  pre : N.take P.length = P
  par : ∀ x ∈ P, sc.names.lookup x = some .local ∨ sc.names.lookup x = some .cell
  nofree : ∀ y ∈ sc.names, y.2 ≠ .free
theorem bindL_out {kindOf : Str → Option NameKind} {x : Str} : ∀ {binds : List (Str × Value)} {m : Str → Option Value}, (∀ v, (x, v) ∉ binds) → bindL kindOf binds m x = m x
  | [], _, _ => rfl
  | (n, v) :: r, m, h => by
    unfold bindL
    rw [bindL_out fun w hw => h w (List.mem_cons_of_mem _ hw)]
    split
    · have : x ≠ n := by rintro rfl; exact h v List.mem_cons_self
      simp [this]
    · rfl
theorem bindC_out {kindOf : Str → Option NameKind} {x : Str} : ∀ {binds : List (Str × Value)} {m : Str → Option Value}, (∀ v, (x, v) ∉ binds) → bindC kindOf binds m x = m x
  | [], _, _ => rfl
  | (n, v) :: r, m, h => by
    unfold bindC
    rw [bindC_out fun w hw => h w (List.mem_cons_of_mem _ hw)]
    split
    · rfl
    · have : x ≠ n := by rintro rfl; exact h v List.mem_cons_self
      simp [this]
theorem bindL_get {kindOf : Str → Option NameKind} {x : Str} {v : Value} : ∀ {P : List Str} {vs : List Value} {i : Nat} {m : Str → Option Value}, P.Nodup → P[i]? = some x → vs[i]? = some v → kindOf x = some .local →
    bindL kindOf (P.zip vs) m x = some v
  | [], _, _, _, _, h, _, _ => by simp at h
  | _ :: _, [], _, _, _, _, h, _ => by simp at h
  | p :: P, w :: vs, 0, m, nd, h1, h2, hk => by
    simp at h1 h2; subst h1; subst h2
    show bindL kindOf ((p, w) :: P.zip vs) m p = _
    unfold bindL
    rw [bindL_out fun v hv => (List.nodup_cons.mp nd).1 (List.of_mem_zip hv).1, if_pos hk]
    simp
  | p :: P, w :: vs, i + 1, m, nd, h1, h2, hk => by
    show bindL kindOf ((p, w) :: P.zip vs) m x = _
    unfold bindL
    exact bindL_get (i := i) (List.nodup_cons.mp nd).2 (by simpa using h1) (by simpa using h2) hk
theorem bindC_get {kindOf : Str → Option NameKind} {x : Str} {v : Value} : ∀ {P : List Str} {vs : List Value} {i : Nat} {m : Str → Option Value}, P.Nodup → P[i]? = some x → vs[i]? = some v → kindOf x ≠ some .local →
    bindC kindOf (P.zip vs) m x = some v
  | [], _, _, _, _, h, _, _ => by simp at h
  | _ :: _, [], _, _, _, _, h, _ => by simp at h
  | p :: P, w :: vs, 0, m, nd, h1, h2, hk => by
    simp at h1 h2; subst h1; subst h2
    show bindC kindOf ((p, w) :: P.zip vs) m p = _
    unfold bindC
    rw [bindC_out fun v hv => (List.nodup_cons.mp nd).1 (List.of_mem_zip hv).1, if_neg hk]
    simp
  | p :: P, w :: vs, i + 1, m, nd, h1, h2, hk => by
    show bindC kindOf ((p, w) :: P.zip vs) m x = _
    unfold bindC
    exact bindC_get (i := i) (List.nodup_cons.mp nd).2 (by simpa using h1) (by simpa using h2) hk
noncomputable def start (N : List Str) (vs : List V) : St := vs.map some ++ List.replicate (N.length - vs.length) none
noncomputable def cxOf (CX : CXT) (P : Program) (w : World) (K : PySem.W.Frag) (mg : Str → Option Value) (base : Heap) (N : List Str) (qual : Str) (scope : Scope) (f : Addr) (cd : Value) (A : Around) (outer : List Env) (s : Shared) (H : Hp) (E : XK) : Cx where
  prog := P
  w := w
  K := K
  mg := mg
  base := base
  A := A.deeper (envOfC qual scope s.heap.objs.size f cd)
  N := N
  s₀ := s
  H₀ := H
  env := envOfC qual scope s.heap.objs.size f cd
  outer := outer
  stack := envOfC qual scope s.heap.objs.size f cd :: outer
  ex := []
  calm := true
  fn := fun _ => true
  pn := []
  xe := fun e s' => wpAny (model P w) (A.deeper (envOfC qual scope s.heap.objs.size f cd)) (leaving (envOfC qual scope s.heap.objs.size f cd) e) (fun _ s'' => CX outer H s E e s'') (fun e' s'' => CX outer H s E e' s'') s'
theorem cell_has {sc : Scope} {n : Nat} {x : Str} (h : sc.names.lookup x = some .cell) : ∃ c, (cellsFrom n sc.names []).lookup x = some c := by
  have q := PySem.W.cellsFrom_some sc.names n [] (.inl h)
  exact Option.isSome_iff_exists.mp q
theorem inv_start {CX : CXT} {P : Program} {w : World} {K : PySem.W.Frag} {mg : Str → Option Value} {base : Heap} {N ps : List Str} {qual : Str} {scope : Scope} {f : Addr} {cd : Value} {A : Around} {outer : List Env} {s s1 : Shared} {H : Hp} {E : XK} {us : List Value} {vs : List V}
    (S : FnScope N ps scope) (hd : A.handled = none) (e0 : Env0 P w K mg base A outer s H) (hl : vs.length = ps.length) (r : Vals vs us)
    (x : InCallC s s.heap.objs.size (bindL (envOfC qual scope s.heap.objs.size f cd).kindOf (ps.zip us) fun _ => none) (cellsFrom (s.heap.objs.size + 1) scope.names []) (bindC (envOfC qual scope s.heap.objs.size f cd).kindOf (ps.zip us) fun _ => none) s1) :
    Inv (cxOf CX P w K mg base N qual scope f cd A outer s H E) [] (start N vs) H s1 := by
  have hpl : ps.length ≤ N.length := by have := congrArg List.length S.pre; rw [List.length_take] at this; lia
  obtain ⟨h1, tk, rfl, hk⟩ := x.done
  have noA : ∀ b : Addr, b ∉ (cxOf CX P w K mg base N qual scope f cd A outer s H E).ex := fun b z => absurd (show b ∈ ([] : List Addr) from z) (by simp)
  refine ⟨⟨e0.mod, S.kind, rfl, rfl, Nat.le_refl _, fun y z c h1 h2 => ?_, fun y hy => ?_, fun y c _ h => ?_, fun _ => hd, Around.frames_deeper e0.frames, .inr ⟨rfl, rfl⟩, fun b z => absurd z (noA b), e0.bs, e0.bsz, fun b _ _ => noA b, fun b z => absurd z (noA b), e0.funs, e0.frf⟩,
    rfl, e0.bare, Un.kept hk, ⟨_, x.toInCall.ns, fun i y v h1 h2 h3 => ?_⟩, fun y c h => ⟨_, x.cell y c h⟩, e0.hok.fresh (Nat.le_refl _), fun y c h => ?_, fun p hp => absurd (show p ∈ ([] : List (Addr × Obj)) from hp) (by simp), e0.hok.kept hk, ?_⟩
  · exact name_of_addr x.apart (PySem.mem_of_lookup h1) (PySem.mem_of_lookup h2)
  · have hy : scope.names.lookup y = some .cell ∨ scope.names.lookup y = some .free := hy
    rcases hy with hy | hy
    · exact cell_has hy
    · exact absurd rfl (S.nofree _ (PySem.mem_of_lookup hy))
  · exact Nat.le_of_lt (x.above y c (PySem.mem_of_lookup h))
  · have hi : i < vs.length := by
      unfold start at h2
      by_cases hi : i < vs.length
      · exact hi
      · rw [List.getElem?_append_right (by simpa using hi)] at h2
        rw [List.getElem?_replicate] at h2
        split at h2 <;> cases h2
    have ha : vs[i]? = some v := by
      unfold start at h2
      rw [List.getElem?_append_left (by simpa using hi), List.getElem?_map] at h2
      cases e : vs[i]? with
      | none => rw [e] at h2; cases h2
      | some a => rw [e] at h2; cases h2; rfl
    obtain ⟨u, hu, rv⟩ := r.get ha
    have hp : ps[i]? = some y := by
      rw [← S.pre, List.getElem?_take_of_lt (by lia)]; exact h1
    have ndP : ps.Nodup := by rw [← S.pre]; exact S.nd.sublist (List.take_sublist _ _)
    refine ⟨u, rv, ?_⟩
    rcases S.par y (List.mem_of_getElem? hp) with k | k
    · exact .inl ⟨k, bindL_get ndP hp hu k⟩
    · obtain ⟨c, e⟩ := cell_has (n := s.heap.objs.size + 1) k
      refine .inr ⟨.inl k, c, e, ?_⟩
      have q := x.cell y c e
      rw [bindC_get ndP hp hu (by show scope.names.lookup y ≠ _; rw [k]; decide)] at q
      exact q
  · exact e0.hok.fresh (Nat.le_of_lt (x.above y c (PySem.mem_of_lookup h)))
  · unfold start
    show _ = N.length
    rw [List.length_append, List.length_map, List.length_replicate]
    lia
theorem fn_of {CX : CXT} {P : Program} {w : World} {K : PySem.W.Frag} {mg : Str → Option Value} {base : Heap} {k : Nat} {f : Addr} {name qual : Str} {params : Arguments} {body : List Stmt} {scope : Scope} {dV kV doc pm cdv ct oc : Value} {an od : Option Addr}
    {osl : Array (Option Value)} {N ps : List Str} {sp : Sp} (lk : K.lookup f = some ⟨oc, od, .func (PySem.W.fnOf name qual params body scope dV kV doc pm an cdv ct), osl⟩) (hcd : PySem.W.codeIn K cdv qual = true) (S : FnScope N ps scope)
    (len : ∀ vs H Q E, sp vs H Q E → vs.length = ps.length)
    (hbody : ∀ (A : Around) (outer : List Env) (s : Shared) (H : Hp) (vs : List V) (Q : VK) (E : XK), Room k (A.deeper (envOfC qual scope s.heap.objs.size f cdv)) → sp vs H Q E →
      ∃ t, PSs (cxOf CX P w K mg base N qual scope f cdv A outer s H E) body t ∧ t { nx := fun _ H' => Q .non H', rt := Q } (start N vs) H) :
    FnOk P w K mg base CX (k + 1) f (PySem.W.fnOf name qual params body scope dV kV doc pm an cdv ct) ps sp := by
  refine ⟨len, fun A outer s H args us vs Q E hr e0 hb r hsp => ?_⟩
  have hl := len _ _ _ _ hsp
  have KX : K.In s.heap := e0.mod.kin.keeps fun b o e => (e0.bs b o e).1
  have lim : s.heap.NoLimit := e0.mod.nolimit.keeps fun b o e => (e0.bs b o e).1
  have hkind : ∀ y ∈ ps.zip us, scope.names.lookup y.1 = some .local ∨ (scope.names.lookup y.1 = some .cell ∧ ((cellsFrom (s.heap.objs.size + 1) scope.names []).lookup y.1).isSome = true) := fun ⟨n, v⟩ hy => by
    rcases S.par n (List.of_mem_zip hy).1 with q | q
    · exact .inl q
    · exact .inr ⟨q, PySem.W.cellsFrom_some _ _ _ (.inl q)⟩
  refine codeAny_call_function hr.depth (KX _ _ lk) rfl S.co S.gen rfl (PySem.W.codeRec_of KX hcd) (hb _ _ _ _ ?_)
  refine wpAny_newFunctionEnv_cells S.kind hkind fun env he s1 x => ?_
  subst he
  refine ⟨lim.keeps x.toInCall.keep, codeAny_func ?_⟩
  obtain ⟨t, ht, hq⟩ := hbody A outer s H vs Q E (hr.deeper _) hsp
  have I : Inv (cxOf CX P w K mg base N qual scope f cdv A outer s H E) [] (start N vs) H s1 := inv_start S hr.hd e0 hl r x
  refine wpAny_mono (ht [] s1 (start N vs) H _ I hq) (fun fl s' hs => ?_) fun e s' hs => hs
  have fin : ∀ {σ' : St} {H' : Hp} {v : V} {u : Value}, Inv (cxOf CX P w K mg base N qual scope f cdv A outer s H E) [] σ' H' s' → RelV v u → Q v H' → CE outer P w H s Q u s' :=
    fun {σ' H' v u} J rv q => ⟨v, H', J.os, J.bare, J.base, J.hok, rv, q⟩
  cases fl with
  | ret u =>
    obtain ⟨v, σ', H', J, rv, q⟩ := hs
    exact fin J rv q
  | next =>
    obtain ⟨σ', H', J, q⟩ := hs
    exact fin (v := V.non) (u := Value.none) J rfl q
  | brk =>
    obtain ⟨_, _, _, q⟩ := hs
    exact False.elim q
  | cont =>
    obtain ⟨_, _, _, q⟩ := hs
    exact False.elim q
end L2
namespace L2
open PySem PySem.Spec PyProof.Rows
section
variable {X : Cx} {x : Str} {p pos : Pos} {e : Expr} {es : List Expr} {t : TA} {id T : String} {r : List V → Hp → VK → Prop}
noncomputable def tCB (r : List V → Hp → VK → Prop) (t : TA) : TE := fun σ H Q => t σ H fun vs H1 => r vs H1 Q
theorem pe_callB (hc : CallR X (.builtin id) r) (hg : Gl X x) (hm : X.mg x = none) (hv : bootBuiltins x = some (.builtin id)) (ha : PA X (e :: es) t) (hn : x ≠ "__name__" := by decide) (hdb : (x == ("__debug__" : Str)) = false := by decide)
    (he : starEach (e :: es) X.env = (false, eval e X.env) :: starEach es X.env := by rfl) (hpl : (backTo pos (starEach es X.env)).any (·.1) = false := by rfl) : PE X (.Call (.Name x p) (e :: es) [] pos) (tCB r t) := by
  intro pins s σ H Q I h
  refine wpAny_Call_Name_kw (ld_blt I hg hm hv ?_ hn hdb)
  exact PyProof.Rows.callWith_builtin1 (thn (ha pos pins s σ H _ I h) fun us s1 ⟨vs, H1, I1, r1, q1⟩ => hc pins s1 σ H1 vs us Q I1 r1 q1) he hpl
theorem pe_callTy (hc : CallR X (.type T) r) (hg : Gl X x) (hm : X.mg x = none) (hv : bootBuiltins x = some (.type T)) (ha : PA X (e :: es) t) (hn : x ≠ "__name__" := by decide) (hdb : (x == ("__debug__" : Str)) = false := by decide)
    (he : starEach (e :: es) X.env = (false, eval e X.env) :: starEach es X.env := by rfl) (hpl : (backTo pos (starEach es X.env)).any (·.1) = false := by rfl) : PE X (.Call (.Name x p) (e :: es) [] pos) (tCB r t) := by
  intro pins s σ H Q I h
  refine wpAny_Call_Name_kw (ld_blt I hg hm hv ?_ hn hdb)
  exact PyProof.Rows.callWith_type1 (thn (ha pos pins s σ H _ I h) fun us s1 ⟨vs, H1, I1, r1, q1⟩ => hc pins s1 σ H1 vs us Q I1 r1 q1) he hpl
end
end L2
namespace HT
open PySem PyProof.Rows
section
open PySem.SeqAt
open PySem.AutoSeq1 (wpAny_loadPart')
open PySem.MeetsSeq PySem.MeetsSeq2 PySem.MeetsSeq3
end
section
variable {prog : Program} {w : World} {A : Around} {E : Value → Shared → Prop} {s : Shared}
noncomputable def sIx (n d : Nat) : Option Int → Nat
  | none => d
  | some v => if v < 0 then (v + (n : Int)).toNat else min v.toNat n
end
end HT
namespace L2
open PySem PySem.Spec PyProof.Rows
noncomputable abbrev TO := St → Hp → (Option Int → Hp → Prop) → Prop
noncomputable def PO (X : Cx) (e : Option Expr) (t : TO) : Prop :=
  ∀ (pins : List (Addr × Obj)) (s : Shared) (σ : St) (H : Hp) (Q : Option Int → Hp → Prop), Inv X pins σ H s → t σ H Q →
    wpAny (model X.prog X.w) X.A (evalPart e X.env) (fun u s' => ∃ o H', Inv X pins σ H' s' ∧ IsPart u o ∧ Q o H') X.xe s
noncomputable def tNoPart : TO := fun _ H Q => Q none H
noncomputable def tPart (t : TE) : TO := fun σ H Q => t σ H fun x H1 => ∃ i, x = .int i ∧ Q (some i) H1
theorem intsAre_of {ns : List Int} : ∀ {us : List Value}, Vals (ns.map V.int) us → IntsAre us ns := by
  induction ns with
  | nil => intro us r; rw [List.map_nil] at r; cases r; exact .nil
  | cons n ns ih =>
    intro us r
    rw [List.map_cons] at r
    cases r with
    | cons r1 r2 =>
      obtain ⟨t, e⟩ := r1
      subst e
      exact .cons n t (ih r2)
section
variable {X : Cx} {e : Expr} {te : TE} {lo hi : Option Expr} {tl th : TO} {pos p2 : Pos}
theorem po_none : PO X none tNoPart := by
  intro pins s σ H Q I h
  rw [evalPart_none]
  exact wpAny_pure ⟨none, H, I, .none, h⟩
theorem po_some (h : PE X e te) : PO X (some e) (tPart te) := by
  intro pins s σ H Q I hw
  rw [evalPart_some]
  refine thn (h pins s σ H _ I hw) fun u s1 ⟨x, H1, I1, r1, q1⟩ => ?_
  obtain ⟨i, rfl, q⟩ := q1
  obtain ⟨t, rfl⟩ := r1
  exact ⟨some i, H1, I1, .int i t, q⟩
noncomputable def SlR (X : Cx) (r : V → Option Int → Option Int → Hp → VK → Prop) : Prop :=
  ∀ (pins : List (Addr × Obj)) (s : Shared) (σ : St) (H : Hp) (x : V) (v vl vu : Value) (lo hi : Option Int) (sl : Addr) (Q : VK), Inv X pins σ H s → RelV x v → s.heap.IsSliceOf sl vl vu .none → IsPart vl lo → IsPart vu hi → r x lo hi H Q →
    ∃ T id, typeLookup (.type T) "__getitem__" = pure (some (.builtin id)) ∧ s.TypeIs v T ∧ wpAny (model X.prog X.w) X.A (getItem v (.ref sl)) (EP X pins σ Q) X.xe s
noncomputable def tSl (r : V → Option Int → Option Int → Hp → VK → Prop) (te : TE) (tl th : TO) : TE := fun σ H Q => te σ H fun x H1 => tl σ H1 fun l H2 => th σ H2 fun u H3 => r x l u H3 Q
theorem pe_slice {r : V → Option Int → Option Int → Hp → VK → Prop} (hr : SlR X r) (he : PE X e te) (hl : PO X lo tl) (hu : PO X hi th) : PE X (.Subscript e (.Slice lo hi none p2) pos) (tSl r te tl th) := by
  intro pins s σ H Q I h
  refine Subscript_ (thn (he pins s σ H _ I h) fun v s1 ⟨x, H1, I1, r1, q1⟩ => ?_)
  refine wpAny_Slice (thn (hl pins s1 σ H1 _ I1 q1) fun vl s2 ⟨l, H2, I2, pl, q2⟩ => thn (hu pins s2 σ H2 _ I2 q2) fun vu s3 ⟨u, H3, I3, pu, q3⟩ => ?_)
  rw [evalPart_none]
  refine wpAny_pure ?_
  have I4 : Inv X pins σ H3 { s3 with heap := s3.heap.push { cls := .type "slice", data := .fields #[vl, vu, .none] } } := I3.kept (t' := s3.toks) fun b ob q => Heap.get?_push_of_some _ q
  obtain ⟨T, id, hT, ht, hg⟩ := hr pins { s3 with heap := s3.heap.push { cls := .type "slice", data := .fields #[vl, vu, .none] } } σ H3 x v vl vu l u s3.heap.objs.size Q I4 r1 (Heap.IsSliceOf.new ..) pl pu q3
  show wpAny (model X.prog X.w) X.A (subscriptTail e (.Slice lo hi none p2) v (.ref s3.heap.objs.size)) (EP X pins σ Q) X.xe { s3 with heap := s3.heap.push { cls := .type "slice", data := .fields #[vl, vu, .none] } }
  exact tail_any (ops := [.ref s3.heap.objs.size, v]) ht hT hg (by with_unfolding_all rfl)
noncomputable def cutV (xs : List V) (lo hi : Option Int) : List V := (xs.drop (HT.sIx xs.length 0 lo)).take (HT.sIx xs.length xs.length hi - HT.sIx xs.length 0 lo)
theorem cutV_length (xs : List V) (lo hi : Option Int) : (cutV xs lo hi).length ≤ xs.length := by
  unfold cutV
  rw [List.length_take, List.length_drop]
  lia
end
end L2
namespace L2
open PySem PySem.Spec PyProof.Rows
noncomputable def ixN (n : Nat) (i : Int) : Option Nat := if 0 ≤ i then (if i < n then some i.toNat else none) else if -(n : Int) ≤ i then some (i + n).toNat else none
noncomputable def atI {α : Type} (xs : List α) (i : Int) : Option α := (ixN xs.length i).bind fun j => xs[j]?
theorem ixN_seq {n : Nat} {i : Int} {j : Nat} (h : ixN n i = some j) : seqIndex? i n = some j ∧ j < n ∧ -(n : Int) ≤ i ∧ i < n := by
  unfold ixN at h
  by_cases h0 : 0 ≤ i
  · rw [if_pos h0] at h
    by_cases h1 : i < n
    · rw [if_pos h1] at h
      have e : i.toNat = j := Option.some.inj h
      exact ⟨by rw [seqIndex_of h0 h1, e], by lia, by lia, h1⟩
    · rw [if_neg h1] at h; cases h
  · rw [if_neg h0] at h
    by_cases h1 : -(n : Int) ≤ i
    · rw [if_pos h1] at h
      have e : (i + n).toNat = j := Option.some.inj h
      exact ⟨by rw [seqIndex_neg (by lia) h1, e], by lia, h1, by lia⟩
    · rw [if_neg h1] at h; cases h
theorem atI_get {α : Type} {xs : List α} {i : Int} {v : α} (h : atI xs i = some v) : ∃ j, seqIndex? i xs.length = some j ∧ xs[j]? = some v ∧ j < xs.length ∧ -(xs.length : Int) ≤ i ∧ i < xs.length := by
  unfold atI at h
  cases e : ixN xs.length i with
  | none => rw [e] at h; cases h
  | some j =>
    rw [e] at h
    obtain ⟨h1, h2, h3, h4⟩ := ixN_seq e
    exact ⟨j, h1, h, h2, h3, h4⟩
theorem atI_nat {α : Type} {xs : List α} {j : Nat} {v : α} (h : xs[j]? = some v) : atI xs (j : Int) = some v := by
  have hj : j < xs.length := (List.getElem?_eq_some_iff.mp h).1
  have e : ixN xs.length (j : Int) = some j := by
    unfold ixN
    rw [if_pos (by lia), if_pos (by lia)]; simp
  unfold atI; rw [e]; exact h
noncomputable def PlainIx (b : Expr) : Prop := ∀ o i, subscripted b false o i = operate [o, i] (getItem o i)
noncomputable def IxR (X : Cx) (r : R2) : Prop :=
  ∀ (value slice : Expr) (pins : List (Addr × Obj)) (s : Shared) (σ : St) (H : Hp) (x y : V) (v u : Value) (Q : VK), Inv X pins σ H s → RelV x v → RelV y u → r x y H Q →
    subscripted slice false v u = operate [v, u] (getItem v u) → wpAny (model X.prog X.w) X.A (subscriptTail value slice v u) (EP X pins σ Q) X.xe s
noncomputable def MtR (X : Cx) (id : String) (r : V → List V → Hp → VK → Prop) : Prop :=
  ∀ (pins : List (Addr × Obj)) (s : Shared) (σ : St) (H : Hp) (x : V) (xs : List V) (v : Value) (us : List Value) (Q : VK), Inv X pins σ H s → RelV x v → Vals xs us → r x xs H Q →
    wpAny (model X.prog X.w) X.A (call (.builtin id) (v :: us)) (EP X pins σ Q) X.xe s
section
variable {X : Cx} {a b : Expr} {ta tb : TE} {pos : Pos}
theorem pe_ix {r : R2} (hr : IxR X r) (ha : PE X a ta) (hb : PE X b tb) (hs : PlainIx b) : PE X (.Subscript a b pos) (tOp r ta tb) := by
  intro pins s σ H Q I h
  exact Subscript_ (binT ha hb I h fun v u s2 x y H2 I2 rx ry q => hr a b pins s2 σ H2 x y v u Q I2 rx ry q (hs _ _))
noncomputable def rIxL (K : PySem.W.Frag) : R2 := fun x y H Q => ∃ p xs i v, x = .ref p ∧ y = .int i ∧ SqL K H p xs ∧ atI xs i = some v ∧ Q v H
noncomputable def rIxT (K : PySem.W.Frag) : R2 := fun x y H Q => ∃ p xs i v, x = .ref p ∧ y = .int i ∧ SqT K H p xs ∧ atI xs i = some v ∧ Q v H
theorem ix_list : IxR X (rIxL X.K) := by
  intro value slice pins s σ H x y v u Q I rx ry h hs
  obtain ⟨p, xs, i, z, rfl, rfl, hq, he, q⟩ := h
  cases rx
  obtain ⟨t, rfl⟩ := ry
  obtain ⟨its, r, pl, hz⟩ := I.list hq
  obtain ⟨j, h1, h2, h3, h4, h5⟩ := atI_get he
  obtain ⟨w, ew, rw'⟩ := r.get h2
  have hl := r.length
  have hn := line63
  have fin : EP X pins σ Q w s := ⟨z, H, I, rw', q⟩
  by_cases h0 : 0 ≤ i
  · have hj : i.toNat = j := by
      rw [seqIndex_of h0 h5] at h1
      exact Option.some.inj h1
    exact item_listR pl.isList h0 (by lia) (by rw [hj]; simpa using ew) fin hs
  · have hj : (i + (its.toArray.size : Int)).toNat = j := by
      rw [seqIndex_neg (by lia) h4] at h1
      rw [List.size_toArray, ← hl]
      exact Option.some.inj h1
    exact subscriptTail_builtinR (x := w) pl.isList.typeIs slot_list_getitem.lookup
      (wpAny_getItem_list_neg (Q := fun r s' => r = w ∧ EP X pins σ Q r s') pl.isList (by lia) (by rw [List.size_toArray] <;> lia) (by lia) (by rw [hj]; simpa using ew) ⟨rfl, fin⟩) hs
theorem ix_tup : IxR X (rIxT X.K) := by
  intro value slice pins s σ H x y v u Q I rx ry h hs
  obtain ⟨p, xs, i, z, rfl, rfl, hq, he, q⟩ := h
  cases rx
  obtain ⟨t, rfl⟩ := ry
  obtain ⟨its, r, pl, hz⟩ := I.tuple hq
  obtain ⟨j, h1, h2, h3, h4, h5⟩ := atI_get he
  obtain ⟨w, ew, rw'⟩ := r.get h2
  have hl := r.length
  have hn := line63
  have fin : EP X pins σ Q w s := ⟨z, H, I, rw', q⟩
  exact subscriptTail_builtinR (x := w) pl.typeIs slot_tuple_getitem.lookup
    (getItem_tuple (j := j) (Q := fun r s' => r = w ∧ EP X pins σ Q r s') pl (by lia) (by lia) (by rw [List.size_toArray, ← hl]; exact h1) (by simpa using ew) ⟨rfl, fin⟩) hs
theorem mapSeq_set (its : List Value) (n j : Nat) (u : Value) : Obj.mapSeq (·.setIfInBounds j u) { cls := .type "list", data := .seq its.toArray n } = { cls := .type "list", data := .seq (its.set j u).toArray n } := by
  simp [Obj.mapSeq]
theorem Inv.lst {pins : List (Addr × Obj)} {σ : St} {H : Hp} {s : Shared} {p : Addr} {xs : List V} (I : Inv X pins σ H s) (h : H p = some (.lst xs)) :
    ∃ (its : List Value) (n : Nat), Vals xs its ∧ s.heap.get? p = some { cls := .type "list", data := .seq its.toArray n } ∧ xs.length ≤ sizeLine := by
  obtain ⟨z, its, n, r, e⟩ := I.hok p _ h
  exact ⟨its, n, r, e, z⟩
theorem Inv.lstUpd {pins : List (Addr × Obj)} {σ : St} {H : Hp} {s : Shared} {p : Addr} {xs ys : List V} {its its' : List Value} {n n' : Nat} {f : Obj → Obj} (I : Inv X pins σ H s) (h : H p = some (.lst xs))
    (ho : s.heap.get? p = some { cls := .type "list", data := .seq its.toArray n }) (hf : f { cls := .type "list", data := .seq its.toArray n } = { cls := .type "list", data := .seq its'.toArray n' }) (r : Vals ys its') (hz : ys.length ≤ sizeLine) (t : Nat) :
    Inv X pins σ (upd H p (.lst ys)) { s with heap := s.heap.update p f, toks := t } := by
  have e : (s.heap.update p f).get? p = some { cls := .type "list", data := .seq its'.toArray n' } := by
    rw [Heap.get?_update_self f ho (by rw [hf] <;> rfl), hf]
  refine I.write (x := p) (e := p) (by rw [h]; trivial) (.inl rfl) (fun b u hb q => (Heap.get?_update_other _ _ (Ne.symm hb)).trans q) ⟨_, e⟩ ?_
  exact ⟨hz, its', n', r, e⟩
noncomputable def rSetL : V → V → V → Hp → (Hp → Prop) → Prop := fun o i v H Q => ∃ p xs k j, o = .ref p ∧ i = .int k ∧ H p = some (.lst xs) ∧ ixN xs.length k = some j ∧ Q (upd H p (.lst (xs.set j v)))
theorem set_list : PSet X rSetL := by
  intro pins s σ H o i v ov iv u Q I ro ri rv h
  obtain ⟨p, xs, k, j, rfl, rfl, hp, hj, q⟩ := h
  cases ro
  obtain ⟨t, rfl⟩ := ri
  obtain ⟨its, n, r, ho, hz⟩ := I.lst hp
  obtain ⟨h1, h2, h3, h4⟩ := ixN_seq hj
  have hl := r.length
  have hn := line63
  have I' : Inv X pins σ (upd H p (.lst (xs.set j v))) { s with heap := s.heap.update p (Obj.mapSeq (·.setIfInBounds j u)) } :=
    I.lstUpd hp ho (mapSeq_set its n j u) (r.set rv j) (by rw [List.length_set]; exact hz) s.toks
  by_cases h0 : 0 ≤ k
  · have hk : k.toNat = j := by
      rw [seqIndex_of h0 h4] at h1
      exact Option.some.inj h1
    exact PySem.W.ki_setAt ho h0 (by lia) (by rw [List.size_toArray, ← hl]; exact h4) (by rw [hk]; exact ⟨_, I', q⟩)
  · have hk : (k + (its.toArray.size : Int)).toNat = j := by
      rw [seqIndex_neg (by lia) h3] at h1
      rw [List.size_toArray, ← hl]
      exact Option.some.inj h1
    exact PySem.W.ki_setBack ho (by lia) (by rw [List.size_toArray, ← hl]; exact h3) (by lia) (by rw [hk]; exact ⟨_, I', q⟩)
theorem slice_bounds (lo hi : Option Int) (n : Nat) : (sliceBounds lo hi none n).1 = ((HT.sIx n 0 lo : Nat) : Int) ∧ (sliceBounds lo hi none n).2.1 = ((HT.sIx n n hi : Nat) : Int) ∧ (sliceBounds lo hi none n).2.2 = 1 := by
  refine ⟨?_, ?_, rfl⟩
  · cases lo with
    | none => simp [sliceBounds, HT.sIx]
    | some i =>
      simp only [sliceBounds, HT.sIx, Option.getD_none, show (1 : Int) > 0 by decide, if_true]
      by_cases h : i < 0
      · simp only [h, if_true] <;> lia
      · simp only [h, if_false] <;> lia
  · cases hi with
    | none => simp [sliceBounds, HT.sIx]
    | some i =>
      simp only [sliceBounds, HT.sIx, Option.getD_none, show (1 : Int) > 0 by decide, if_true]
      by_cases h : i < 0
      · simp only [h, if_true] <;> lia
      · simp only [h, if_false] <;> lia
theorem slicePick_cut (its : List Value) (lo hi : Option Int) : slicePick its.toArray lo hi none = ((its.drop (HT.sIx its.length 0 lo)).take (HT.sIx its.length its.length hi - HT.sIx its.length 0 lo)).toArray := by
  obtain ⟨h1, h2, h3⟩ := slice_bounds lo hi its.toArray.size
  unfold slicePick
  rw [h1, h2, h3]
  simp only [sliceRange_one, pick_run, List.size_toArray] <;> rfl
noncomputable def rSlL (K : PySem.W.Frag) : V → Option Int → Option Int → Hp → VK → Prop := fun x lo hi H Q => ∃ a xs, x = .ref a ∧ SqL K H a xs ∧ ∀ p, H p = none → Q (.ref p) (upd H p (.lst (cutV xs lo hi)))
theorem sl_list : SlR X (rSlL X.K) := by
  intro pins s σ H x v vl vu lo hi sl Q I rx hs pl pu h
  obtain ⟨a, xs, rfl, hx, q⟩ := h
  cases rx
  obtain ⟨its, r, ht, hz⟩ := I.list hx
  have hlen := r.length
  refine ⟨"list", _, slot_list_getitem.lookup, ht.isList.typeIs, ?_⟩
  refine wpAny_getItem_list_slice ht.isList hs pl pu .none (by simp) ?_ (by rw [List.size_toArray] <;> lia)
  rw [slicePick_cut, ← hlen]
  refine ⟨.ref s.heap.objs.size, _, I.laid (t' := s.toks) (o := .lst (cutV xs lo hi)) (fun b ob q => Heap.get?_push_of_some _ q) (Nat.le_refl _) ?_, rfl, q _ (I.hok.fresh (Nat.le_refl _))⟩
  exact ⟨Nat.le_trans (cutV_length xs lo hi) hz, _, 0, (r.drop (HT.sIx xs.length 0 lo)).take (HT.sIx xs.length xs.length hi - HT.sIx xs.length 0 lo), Heap.get?_push_size _ rfl⟩
noncomputable def flatV : V → Bool
  | .non => true
  | .bl _ => true
  | .int _ => true
  | .str _ => true
  | _ => false
noncomputable def eqV : V → V → Bool
  | .non, .non => true
  | .bl a, .bl b => a == b
  | .bl a, .int b => (if a then 1 else 0) == b
  | .int a, .bl b => a == (if b then 1 else 0)
  | .int a, .int b => a == b
  | .str a, .str b => a == b
  | _, _ => false
theorem eqAt_V {A : Around} {s : Shared} {y x : V} {u v : Value} (ry : RelV y u) (rx : RelV x v) (fy : flatV y = true) (fx : flatV x = true) : SeqAt.EqAt A s u v (eqV y x) := by
  cases y with
  | non =>
    cases ry
    cases x with
    | non => cases rx; exact SeqAt.EqAt.same _
    | bl b => cases rx; exact SeqAt.EqAt.none_bool b
    | int b => obtain ⟨t, rfl⟩ := rx; exact SeqAt.EqAt.none_int b t
    | str b => obtain ⟨t, rfl⟩ := rx; exact SeqAt.EqAt.none_str b t
    | _ => exact absurd (show false = true from fx) Bool.false_ne_true
  | bl a =>
    cases ry
    cases x with
    | non => cases rx; exact SeqAt.EqAt.bool_none a
    | bl b => cases rx; exact SeqAt.EqAt.bool_bool a b
    | int b => obtain ⟨t, rfl⟩ := rx; exact SeqAt.EqAt.bool_int a b t
    | str b => obtain ⟨t, rfl⟩ := rx; exact SeqAt.EqAt.bool_str a b t
    | _ => exact absurd (show false = true from fx) Bool.false_ne_true
  | int a =>
    obtain ⟨t', rfl⟩ := ry
    cases x with
    | non => cases rx; exact SeqAt.EqAt.int_none a t'
    | bl b => cases rx; exact SeqAt.EqAt.int_bool a t' b
    | int b => obtain ⟨t, rfl⟩ := rx; exact SeqAt.EqAt.int_int a t' b t
    | str b => obtain ⟨t, rfl⟩ := rx; exact SeqAt.EqAt.int_str a t' b t
    | _ => exact absurd (show false = true from fx) Bool.false_ne_true
  | str a =>
    obtain ⟨t', rfl⟩ := ry
    cases x with
    | non => cases rx; exact SeqAt.EqAt.str_none a t'
    | bl b => cases rx; exact SeqAt.EqAt.str_bool a t' b
    | int b => obtain ⟨t, rfl⟩ := rx; exact SeqAt.EqAt.str_int a t' b t
    | str b => obtain ⟨t, rfl⟩ := rx; exact SeqAt.EqAt.str_str a t' b t
    | _ => exact absurd (show false = true from fx) Bool.false_ne_true
  | _ => exact absurd (show false = true from fy) Bool.false_ne_true
noncomputable def eqU (x : V) (u : Value) : Bool := match u with
  | .none => eqV .non x
  | .bool b => eqV (.bl b) x
  | .int i _ => eqV (.int i) x
  | .str z _ => eqV (.str z) x
  | _ => false
theorem eqU_of {x y : V} {u : Value} (r : RelV y u) (f : flatV y = true) : eqU x u = eqV y x := by
  cases y with
  | non => cases r; rfl
  | bl b => cases r; rfl
  | int i => obtain ⟨t, rfl⟩ := r; rfl
  | str z => obtain ⟨t, rfl⟩ := r; rfl
  | _ => exact absurd (show false = true from f) Bool.false_ne_true
theorem any_eqU {x : V} : ∀ {xs : List V} {us : List Value}, Vals xs us → xs.all flatV = true → us.any (eqU x) = xs.any fun y => eqV y x
  | _, _, .nil, _ => rfl
  | y :: xs, u :: us, .cons r t, f => by
    rw [List.all_cons, Bool.and_eq_true] at f
    rw [List.any_cons, List.any_cons, eqU_of r f.1, any_eqU t f.2]
theorem mem_eqAt {A : Around} {s : Shared} {x : V} {v : Value} (rx : RelV x v) (fx : flatV x = true) : ∀ {xs : List V} {us : List Value}, Vals xs us → xs.all flatV = true → ∀ u ∈ us, SeqAt.EqAt A s u v (eqU x u)
  | _, _, .nil, _ => fun u hu => by cases hu
  | y :: xs, u :: us, .cons r t, f => fun u' hu => by
    rw [List.all_cons, Bool.and_eq_true] at f
    rcases List.mem_cons.mp hu with rfl | hu
    · rw [eqU_of r f.1]; exact eqAt_V r rx f.1 fx
    · exact mem_eqAt rx fx t f.2 u' hu
noncomputable def inV (x : V) (xs : List V) : Bool := xs.any fun y => eqV y x
noncomputable def rIn (K : PySem.W.Frag) (neg : Bool) : R2 := fun x y H Q => ∃ p xs, y = .ref p ∧ (SqL K H p xs ∨ SqT K H p xs) ∧ flatV x = true ∧ xs.all flatV = true ∧ Q (.bl (if neg then !inV x xs else inV x xs)) H
theorem op_in_seq : OpR X (compareOp .In) (rIn X.K false) := by
  intro pins s σ H x y v u Q I rx ry h
  obtain ⟨p, xs, rfl, hq, fx, fs, q⟩ := h
  cases ry
  rcases hq with hq | hq
  · obtain ⟨its, r, pl, hz⟩ := I.list hq
    refine SeqAt.in_listAt (eqU x) pl.isList (fun w hw => mem_eqAt rx fx r fs w (by simpa using hw)) ⟨.bl _, H, I, rfl, ?_⟩
    rw [show its.toArray.any (eqU x) = its.any (eqU x) by simp, any_eqU r fs]
    exact q
  · obtain ⟨its, r, pl, hz⟩ := I.tuple hq
    refine SeqAt.in_tupleAt (eqU x) pl (fun w hw => mem_eqAt rx fx r fs w (by simpa using hw)) ⟨.bl _, H, I, rfl, ?_⟩
    rw [show its.toArray.any (eqU x) = its.any (eqU x) by simp, any_eqU r fs]
    exact q
theorem call_len_seq : CallR X (.builtin "len") (fun xs H Q => ∃ p ys, xs = [.ref p] ∧ (SqL X.K H p ys ∨ SqT X.K H p ys) ∧ Q (.int ys.length) H) := by
  intro pins s σ H xs us Q I r h
  obtain ⟨p, ys, rfl, hq, q⟩ := h
  obtain ⟨u, rfl, rx⟩ := vals1 r
  cases rx
  have hn := line63
  rcases hq with hq | hq
  · obtain ⟨its, r', pl, hz⟩ := I.list hq
    have hlen := r'.length
    exact Calls.call_len_list pl.isList (by simp only [List.size_toArray] <;> lia) ⟨.int ys.length, H, I.tok _, ⟨s.toks + 1, by rw [List.size_toArray, hlen]⟩, q⟩
  · obtain ⟨its, r', pl, hz⟩ := I.tuple hq
    have hlen := r'.length
    exact len_tuple pl (by simp only [List.size_toArray] <;> lia) ⟨.int ys.length, H, I.tok _, ⟨s.toks + 1, by rw [List.size_toArray, hlen]⟩, q⟩
theorem call_list_of : CallR X (.type "list") (fun xs H Q => ∃ p ys, xs = [.ref p] ∧ (SqL X.K H p ys ∨ SqT X.K H p ys) ∧ ∀ l, H l = none → Q (.ref l) (upd H l (.lst ys))) := by
  intro pins s σ H xs us Q I r h
  obtain ⟨p, ys, rfl, hq, q⟩ := h
  obtain ⟨u, rfl, rx⟩ := vals1 r
  cases rx
  have fin : ∀ (its : List Value), Vals ys its → ys.length ≤ sizeLine → ∀ (h' : Heap) (c' : Nat), (∀ b o', s.heap.get? b = some o' → h'.get? b = some o') →
      h'.get? s.heap.objs.size = some { cls := .type "list", dict := none, data := .seq its.toArray c', slots := #[] } → EP X pins σ Q (.ref s.heap.objs.size) { s with heap := h' } := fun its r' hz h' c' kp e =>
    ⟨.ref s.heap.objs.size, _, I.laid (t' := s.toks) kp (Nat.le_refl _) (show ObjOk X.prog X.w _ h' _ (.lst ys) from ⟨hz, its, c', r', e⟩), rfl, q _ (I.hok.fresh (Nat.le_refl _))⟩
  rcases hq with hq | hq
  · obtain ⟨its, r', pl, hz⟩ := I.list hq
    have hlen := r'.length
    obtain ⟨o, ho, hc, n, hd⟩ := pl.isList
    exact call_list_seq p (.inl rfl) ho hc hd (fun h' c' kp e => fin its r' hz h' c' kp e) (by simp only [List.size_toArray] <;> lia)
  · obtain ⟨its, r', pl, hz⟩ := I.tuple hq
    have hlen := r'.length
    obtain ⟨o, ho, hc, n, hd⟩ := pl
    exact call_list_seq p (.inr rfl) ho hc hd (fun h' c' kp e => fin its r' hz h' c' kp e) (by simp only [List.size_toArray] <;> lia)
noncomputable def tyV (K : PySem.W.Frag) (T : String) (x : V) (H : Hp) : Prop := match x with
  | .str _ => T = "str"
  | .int _ => T = "int"
  | .ref p => (T = "list" ∧ ∃ xs, SqL K H p xs) ∨ (T = "tuple" ∧ ∃ o, K.lookup p = some o ∧ o.cls = .type "tuple" ∧ o.dict = none) ∨
      (T = "dict" ∧ ((∃ kvs, H p = some (.dK kvs)) ∨ ∃ kvs, H p = some (.dT kvs))) ∨ (T = "set" ∧ ∃ S n, H p = some (.set S n))
  | _ => False
theorem tyV_is {pins : List (Addr × Obj)} {σ : St} {H : Hp} {s : Shared} {T : String} {x : V} {v : Value} (I : Inv X pins σ H s) (r : RelV x v) (ty : tyV X.K T x H) :
    s.TypeIs v T ∧ ∀ a, v = .ref a → ∃ ob, s.heap.get? a = some ob ∧ ob.dict = none := by
  cases x with
  | str z =>
    obtain ⟨t, rfl⟩ := r
    cases (show T = "str" from ty)
    exact ⟨typeIs_str s z t, fun _ e => nomatch e⟩
  | int i =>
    obtain ⟨t, rfl⟩ := r
    cases (show T = "int" from ty)
    exact ⟨typeIs_int s i t, fun _ e => nomatch e⟩
  | ref p =>
    cases r
    rcases ty with ⟨rfl, xs, hq⟩ | ⟨rfl, o, hk, hc, hd⟩ | ⟨rfl, hk⟩ | ⟨rfl, S, n, hk⟩
    · obtain ⟨its, _, pl, _⟩ := I.list hq
      refine ⟨pl.isList.typeIs, fun a e => ?_⟩
      cases e
      obtain ⟨o, n, e, c, hd, _⟩ := pl
      exact ⟨o, e, hd⟩
    · refine ⟨⟨o, I.kIn p o hk, hc⟩, fun a e => ?_⟩
      cases e
      exact ⟨o, I.kIn _ o hk, hd⟩
    · have z : ∃ o, s.heap.get? p = some o ∧ o.ExactDict := by
        rcases hk with ⟨kvs, hk⟩ | ⟨kvs, hk⟩
        · obtain ⟨_, _, _, _, o, _, _, e, ex, _⟩ := I.hok p _ hk
          exact ⟨o, e, ex⟩
        · obtain ⟨_, _, _, _, o, _, _, e, ex, _⟩ := I.hok p _ hk
          exact ⟨o, e, ex⟩
      obtain ⟨o, e, ex⟩ := z
      refine ⟨⟨o, e, ex.1⟩, fun a e2 => ?_⟩
      cases e2
      exact ⟨o, e, ex.2.1⟩
    · obtain ⟨o, _, _, _, e, ex, _⟩ := I.hok p _ hk
      refine ⟨⟨o, e, ex.1⟩, fun a e2 => ?_⟩
      cases e2
      exact ⟨o, e, ex.2.1⟩
  | _ => exact False.elim ty
noncomputable def tBM0 (K : PySem.W.Frag) (T : String) (r : V → List V → Hp → VK → Prop) (to : TE) : TE := fun σ H Q => to σ H fun x H1 => tyV K T x H1 ∧ r x [] H1 Q
noncomputable def tBM (K : PySem.W.Frag) (T : String) (r : V → List V → Hp → VK → Prop) (to : TE) (t : TA) : TE := fun σ H Q => to σ H fun x H1 => tyV K T x H1 ∧ t σ H1 fun xs H2 => r x xs H2 Q
variable {o e : Expr} {es : List Expr} {to : TE} {t : TA} {name : Str} {apos cpos : Pos} {T id : String} {r : V → List V → Hp → VK → Prop}
theorem pe_bm0 (pa : PlainAttrs T) (slot : Slot T name id) (hty : typeOf (.builtin id) = pure (.type "method_descriptor")) (hm : MtR X id r) (ho : PE X o to)
    (hbase : attributeBase o name X.env (eval o X.env) = eval o X.env := by rfl) (hline : (apos.endLine == cpos.line) = true := by rfl) : PE X (.Call (.Attribute o name apos) [] [] cpos) (tBM0 X.K T r to) := by
  intro pins s σ H Q I h
  refine wpAny_Call_method0_late hbase hline (thn (ho pins s σ H _ I h) fun v s1 ⟨x, H1, I1, r1, ty, q1⟩ => ?_)
  obtain ⟨h1, h2⟩ := tyV_is I1 r1 ty
  exact ⟨T, id, pa, slot, hty, h1, h2, Calls.callWith_builtin rfl (PySem.evalArgs_none (hm pins s1 σ H1 x [] v [] Q I1 r1 .nil q1))⟩
theorem pe_bm (pa : PlainAttrs T) (slot : Slot T name id) (hty : typeOf (.builtin id) = pure (.type "method_descriptor")) (hm : MtR X id r) (ho : PE X o to) (ha : PA X (e :: es) t)
    (hbase : attributeBase o name X.env (eval o X.env) = eval o X.env := by rfl)
    (hfew : ((backTo cpos (starEach (e :: es) X.env)).all (fun x => !x.1) && (backToKw cpos (keywordEach [] X.env)).all (fun x => x.1.isSome)
      && decide ((e :: es).length + ([] : List Keyword).length + (if ([] : List Keyword).isEmpty then 0 else 1) < 30)) = true := by rfl)
    (hline : (apos.endLine == cpos.line) = true := by rfl) (hs : starEach (e :: es) X.env = (false, eval e X.env) :: starEach es X.env := by rfl) (hplain : (backTo cpos (starEach es X.env)).any (·.1) = false := by rfl) :
    PE X (.Call (.Attribute o name apos) (e :: es) [] cpos) (tBM X.K T r to t) := by
  intro pins s σ H Q I h
  refine wpAny_Call_method_late hbase hfew hline rfl (thn (ho pins s σ H _ I h) fun v s1 ⟨x, H1, I1, r1, ty, q1⟩ => ?_)
  obtain ⟨h1, h2⟩ := tyV_is I1 r1 ty
  refine ⟨T, id, pa, slot, hty, h1, h2, ?_⟩
  have hA := ha cpos pins s1 σ H1 _ I1 q1
  rw [hs] at hA ⊢
  refine Calls.callWith_builtin (by show (false || (backTo cpos (starEach es X.env)).any (·.1)) = false; rw [hplain] <;> rfl) (Calls.evalArgs_plain ?_)
  exact thn hA fun us s2 ⟨vs, H2, I2, r2, q2⟩ => hm pins s2 σ H2 x vs v us Q I2 r1 r2 q2
/- xs.append(e), list.index on a module's tuple .. are MtR facts of 06m -/
end
end L2
namespace L2
open PySem PySem.Spec PyProof.Rows
noncomputable def MtM (X : Cx) (id : String) (r : V → List V → Hp → VK → Prop) : Prop :=
  ∀ (pins : List (Addr × Obj)) (s : Shared) (σ : St) (H : Hp) (x : V) (xs : List V) (v : Value) (us : List Value) (Q : VK), Inv X pins σ H s → RelV x v → Vals xs us → r x xs H Q →
    wpAny (model X.prog X.w) X.A (call (.builtin id) (v :: us)) (EP X pins σ Q) X.xe s
theorem Vals.one : ∀ {x : V} {us : List Value}, Vals [x] us → ∃ u, us = [u] ∧ RelV x u
  | _, _, .cons r .nil => ⟨_, rfl, r⟩
theorem Vals.two : ∀ {x y : V} {us : List Value}, Vals [x, y] us → ∃ u v, us = [u, v] ∧ RelV x u ∧ RelV y v
  | _, _, _, .cons r (.cons q .nil) => ⟨_, _, rfl, r, q⟩
theorem Vals.zero : ∀ {us : List Value}, Vals [] us → us = []
  | _, .nil => rfl
theorem Vals.dropLast {xs : List V} {us : List Value} (h : Vals xs us) : Vals xs.dropLast us.dropLast := by
  induction h with
  | nil => exact .nil
  | cons r t ih =>
    cases t with
    | nil => exact .nil
    | cons q t' => exact .cons r ih
theorem Vals.rep {xs : List V} {us : List Value} (h : Vals xs us) : ∀ k : Nat, Vals (List.replicate k xs).flatten (List.replicate k us).flatten
  | 0 => .nil
  | k + 1 => by
    rw [List.replicate_succ, List.replicate_succ, List.flatten_cons, List.flatten_cons]
    exact Vals.append h (Vals.rep h k)
theorem erase_last {α : Type} (l : List α) : l.eraseIdx (l.length - 1) = l.dropLast := by
  induction l with
  | nil => rfl
  | cons a r ih =>
    cases r with
    | nil => rfl
    | cons b r =>
      have e : (a :: b :: r).length - 1 = ((b :: r).length - 1) + 1 := by
        have h1 : (a :: b :: r).length = r.length + 2 := rfl
        have h2 : (b :: r).length = r.length + 1 := rfl
        lia
      rw [e, List.eraseIdx_cons_succ, ih]
      all_goals rfl
theorem foldl_rep (its : List Value) : ∀ (k : Nat) (acc : List Value),
    List.foldl (fun x1 x2 => x1 ++ x2) acc.toArray (List.replicate k its.toArray) = (acc ++ (List.replicate k its).flatten).toArray
  | 0, acc => by simp
  | k + 1, acc => by
    have e : acc.toArray ++ its.toArray = (acc ++ its).toArray := by simp
    have e2 : (acc ++ its) ++ (List.replicate k its).flatten = acc ++ (List.replicate (k + 1) its).flatten := by
      rw [List.replicate_succ, List.flatten_cons, List.append_assoc]
    rw [← e2, ← foldl_rep its k (acc ++ its), ← e, List.replicate_succ, List.foldl_cons]
section
variable {X : Cx} {pins : List (Addr × Obj)} {σ : St} {H : Hp} {s : Shared} {l b : Addr} {xs ys zs : List V}
theorem Inv.lset {its its' : List Value} {n : Nat} {f : Array Value → Array Value} {t' : Nat} (I : Inv X pins σ H s) (hH : H l = some (.lst xs))
    (e : s.heap.get? l = some { cls := .type "list", data := .seq its.toArray n }) (hf : f its.toArray = its'.toArray) (hv : Vals ys its') (hz : ys.length ≤ sizeLine) :
    Inv X pins σ (upd H l (.lst ys)) { s with heap := s.heap.update l (Obj.mapSeq f), toks := t' } := by
  have q := PySem.IsL.update e f
  rw [hf] at q
  refine I.write (x := l) (e := l) (by rw [hH]; exact trivial) (.inl rfl) (fun b' u hb hu => (Heap.get?_update_other s.heap (Obj.mapSeq f) (Ne.symm hb)).trans hu) ⟨_, q⟩ ?_
  exact ⟨hz, its', _, hv, q⟩
theorem Inv.lnew {its : List Value} {t' : Nat} (I : Inv X pins σ H s) (hv : Vals ys its) (hz : ys.length ≤ sizeLine) :
    Inv X pins σ (upd H s.heap.objs.size (.lst ys)) { s with heap := s.heap.push { cls := .type "list", data := .seq its.toArray }, toks := t' } :=
  I.laid (fun _ _ q => Heap.get?_push_of_some _ q) (Nat.le_refl _) ⟨hz, its, 0, hv, Heap.get?_push_size _ rfl⟩
theorem Inv.fresh (I : Inv X pins σ H s) : H s.heap.objs.size = none := I.hok.fresh (Nat.le_refl _)
theorem Inv.lstM (I : Inv X pins σ H s) (hH : H l = some (.lst xs)) : xs.length ≤ sizeLine ∧ ∃ (its : List Value) (n : Nat), Vals xs its ∧ xs.length = its.length ∧ s.heap.get? l = some { cls := .type "list", data := .seq its.toArray n } := by
  obtain ⟨z, its, n, r, e⟩ := I.hok l _ hH
  exact ⟨z, its, n, r, r.length, e⟩
theorem notLongL {n : Nat} (h : n ≤ sizeLine) : Builtin.List.listTooLong n = false := by
  unfold Builtin.List.listTooLong
  exact decide_eq_false (by lia)
end
section
variable {X : Cx}
noncomputable def rAppend : V → List V → Hp → VK → Prop := fun x vs H Q => ∃ l xs y, x = .ref l ∧ vs = [y] ∧ H l = some (.lst xs) ∧ xs.length < sizeLine ∧ Q .non (upd H l (.lst (xs ++ [y])))
theorem mt_append : MtM X "list.append" rAppend := by
  intro pins s σ H x vs v us Q I rx rv h
  obtain ⟨l, xs, y, rfl, rfl, hH, hz, q⟩ := h
  cases rx
  obtain ⟨u, rfl, ru⟩ := rv.one
  obtain ⟨z, its, n, r, hl, e⟩ := I.lstM hH
  refine call_meets F.slot_list_append ⟨_, e, rfl⟩ F.entry_list_append (F.args_list_append_2 _ _) (PySem.list_append l its.toArray n u (by rw [List.size_toArray]; lia)) ⟨e, ?_⟩
  refine ⟨.non, _, I.lset (its' := its ++ [u]) hH e (by simp) (r.append (.cons ru .nil)) ?_, rfl, q⟩
  rw [List.length_append, List.length_singleton]
  lia
noncomputable def rPop : V → List V → Hp → VK → Prop := fun x vs H Q => ∃ l xs y, x = .ref l ∧ vs = [] ∧ H l = some (.lst xs) ∧ xs[xs.length - 1]? = some y ∧ Q y (upd H l (.lst xs.dropLast))
theorem mt_pop : MtM X "list.pop" rPop := by
  intro pins s σ H x vs v us Q I rx rv h
  obtain ⟨l, xs, y, rfl, rfl, hH, hy, q⟩ := h
  cases rx
  have hus := rv.zero
  subst hus
  obtain ⟨z, its, n, r, hl, e⟩ := I.lstM hH
  obtain ⟨u, hu, ru⟩ := r.get hy
  have hy' : its.toArray[its.toArray.size - 1]? = some u := by
    show its.toArray[its.length - 1]? = some u
    rw [← Array.getElem?_toList, ← hl]
    exact hu
  refine call_meets F.slot_list_pop ⟨_, e, rfl⟩ F.entry_list_pop (F.args_list_pop_1 _) (MeetsSeq.list_pop_last l its.toArray n u hy' (by rw [List.size_toArray]; lia)) ⟨e, ?_⟩
  refine ⟨y, _, I.lset (its' := its.dropLast) hH e ?_ r.dropLast ?_, ru, q⟩
  · show its.toArray.eraseIdxIfInBounds (its.toArray.size - 1) = its.dropLast.toArray
    rw [List.size_toArray, List.eraseIdxIfInBounds_toArray, erase_last]
  · rw [List.length_dropLast]
    lia
noncomputable def rCat : R2 := fun x y H Q => ∃ l b xs zs, x = .ref l ∧ y = .ref b ∧ H l = some (.lst xs) ∧ H b = some (.lst zs) ∧ xs.length + zs.length ≤ sizeLine ∧ ∀ p, H p = none → Q (.ref p) (upd H p (.lst (xs ++ zs)))
theorem op_cat : OpR X (binaryOp .Add) rCat := by
  intro pins s σ H x y v u Q I rx ry h
  obtain ⟨l, b, xs, zs, rfl, rfl, hH, hB, hz, q⟩ := h
  cases rx
  cases ry
  obtain ⟨z, its, n, r, hl, e⟩ := I.lstM hH
  obtain ⟨z2, its2, n2, r2, hl2, e2⟩ := I.lstM hB
  refine PySem.P.add_list e e2 ?_ (by rw [List.size_toArray, List.size_toArray]; lia)
  have ea : its.toArray ++ its2.toArray = (its ++ its2).toArray := by simp
  rw [ea]
  exact ⟨.ref _, _, I.lnew (t' := s.toks) (r.append r2) (by rw [List.length_append]; lia), rfl, q _ I.fresh⟩
noncomputable def rRep : R2 := fun x y H Q => ∃ l k xs, x = .ref l ∧ y = .int k ∧ H l = some (.lst xs) ∧ -(2 ^ 63) ≤ k ∧ k < 2 ^ 63 ∧ xs.length * k.toNat ≤ sizeLine ∧
  ∀ p, H p = none → Q (.ref p) (upd H p (.lst (List.replicate k.toNat xs).flatten))
theorem len_rep {α : Type} (xs : List α) (k : Nat) : (List.replicate k xs).flatten.length = k * xs.length := by
  induction k with
  | zero => simp
  | succ k ih => rw [List.replicate_succ, List.flatten_cons, List.length_append, ih, Nat.succ_mul, Nat.add_comm]
theorem op_rep : OpR X (binaryOp .Mult) rRep := by
  intro pins s σ H x y v u Q I rx ry h
  obtain ⟨l, k, xs, rfl, rfl, hH, h1, h2, hz, q⟩ := h
  cases rx
  obtain ⟨t, rfl⟩ := ry
  obtain ⟨z, its, n, r, hl, e⟩ := I.lstM hH
  have hlen : its.toArray.size * k.toNat ≤ sizeLine := by rw [List.size_toArray, ← hl]; exact hz
  have hcap : ¬ its.toArray.size * k.toNat > (2 ^ 63 - 1) / 8 := by
    have : (sizeLine : Nat) ≤ (2 ^ 63 - 1) / 8 := by decide
    lia
  have hfit : ¬ (!Builtin.List.listFitsIndex k) = true := by
    rw [fitsIndex_both h1 h2]
    exact Bool.false_ne_true
  have hlong : ¬ Builtin.List.listTooLong (its.toArray.size * k.toNat) = true := by
    rw [notLongL hlen]
    exact Bool.false_ne_true
  have hnew : List.foldl (fun x1 x2 => x1 ++ x2) #[] (List.replicate (if its.toArray.isEmpty = true then 0 else k.toNat) its.toArray) = (List.replicate k.toNat its).flatten.toArray := by
    have f0 : ∀ m : Nat, List.foldl (fun x1 x2 => x1 ++ x2) #[] (List.replicate m its.toArray) = (List.replicate m its).flatten.toArray := fun m => by
      have := foldl_rep its m []
      rw [List.nil_append] at this
      exact this
    rw [f0]
    cases its with
    | nil => simp
    | cons a r' => rw [if_neg (by simp)]
  refine wpAny_binaryOp_repeat_ref (T := "list") (U := "int") (by decide) ⟨_, e, rfl⟩ (fun s' => typeIs_int s' k t) noFill_list_mul F.fills_int_mul F.slot_int_rmul repeat_list F.slot_int_index.lookup
    (call_meets F.slot_int_rmul (typeIs_int s k t) F.entry_int_rmul (F.args_int_rmul_2 _ _) (int___rmul___int_list k t l its.toArray n)
      ⟨e, rfl, ⟨_, e, rfl⟩, call_meets F.slot_list_mul ⟨_, e, rfl⟩ F.entry_list_mul (F.args_list_mul_2 _ _) (AutoListH.list___mul___list_int_3 l its.toArray n k t hfit hcap hlong) ⟨e, ?_⟩⟩)
  rw [hnew]
  exact ⟨.ref _, _, I.lnew (t' := s.toks) (r.rep k.toNat) (by rw [len_rep, Nat.mul_comm]; exact hz), rfl, q _ I.fresh⟩
end
section
variable {prog : Program} {w : World} {A : Around} {E : Value → Shared → Prop} {s : Shared}
end
section
variable {X : Cx}
end
end L2
namespace Att
open PySem PySem.W PySem.Calls PyProof.Rows
theorem ints_of_wellAll {P : Params} {h : Heap} : ∀ (ns : List Int) (vs : List Value), WellAll P h vs (ns.map WData.int) → IntsAre vs ns := by
  intro ns
  induction ns with
  | nil =>
    intro vs w
    rw [List.map_nil] at w
    cases w
    exact .nil
  | cons n ns ih =>
    intro vs w
    rw [List.map_cons] at w
    cases w with
    | cons a b =>
      cases a
      exact .cons _ _ (ih _ b)
theorem script_of {l : OpenLaw} {n : Nat} (hn : l.most = some n) {P : Params} {h : Heap} {args : List WData} {vals : List Value}
    (hpre : l.row.toRowW.claim.pre args = true) (hwl : WellAll P h vals args) :
    ∃ a vs ns, vals = [Value.ref a] ∧ args = [WData.list (ns.map WData.int)] ∧ h.get? a = some { cls := .type "list", data := .seq vs.toArray } ∧ IntsAre vs ns ∧ ns.length ≤ n := by
  have hsh : WShape.hasAll [] args [.list .int] = true := (pre_splitW hpre).1
  have hc : l.pre.holds [] { args := args } = true := (pre_splitW hpre).2
  obtain ⟨d, r, rfl, h1, h2⟩ := hasAllW_cons hsh
  obtain rfl := hasAllW_nil h2
  obtain ⟨xs, rfl, h3⟩ := hasW_list h1
  obtain ⟨ns, rfl⟩ := items_int h3
  have hlen : ns.length ≤ n := by
    unfold OpenLaw.pre at hc
    have h4 : (WTm.not (.lt (.lit (.int (n : Int))) (.len (.arg 0)))).holds [] { args := [.list (ns.map .int)] } = true := by
      have h4 := (holds_andW hc).1
      rw [hn] at h4
      exact h4
    have h5 := condW_of h4 (w_not (w_lt w_lit (w_len_list (w_arg rfl))))
    rw [List.length_map] at h5
    refine Nat.le_of_not_lt fun q => ?_
    have q' : (n : Int) < ((ns.length : Nat) : Int) := by lia
    first
      | (rw [decide_eq_true q'] at h5; exact absurd h5 (by decide))
      | (simp at h5; lia)
  cases hwl with
  | cons w1 w2 =>
    cases w2
    cases w1 with
    | list ho hall => exact ⟨_, _, ns, rfl, rfl, ho, ints_of_wellAll ns _ hall, hlen⟩
theorem post_true (l : OpenLaw) (args : List WData) : l.row.toRowW.claim.post args (.bool true) args = true :=
  postW_of (r := l.row.toRowW) (X := (true == true))
    (show WShape.has [] (.bool true) .bool = true by first | rfl | decide | simp [WShape.has, WShape.arms, WShape.armsAll])
    (show (WTm.eq .res (.lit (.bool true))).value [] { args := args, res := some (.bool true), after := args } = some (.bool (true == true)) from w_eq_bool (w_res rfl) w_lit) rfl
theorem attach_call {l : OpenLaw} {n : Nat} {q : Program} {loose : List Str} {XP : (Str → Option Value) → Heap → Prop} {YP : World → Heap → Prop} {d : DefRec}
    (hn : l.most = some n) (hdf : d.params.defaults = [])
    (call : ∀ (w : World) (s₀ s₁ : Shared) (mg mb : Str → Option Value) (fa : Addr) (o : Obj) (pm cd doc : Value) (a : Addr) (vs : List Value) (ns : List Int),
      Ground q loose [] XP w s₀ mg mb s₁.heap → YP w s₁.heap →
      s₁.heap.get? fa = some o → o.data = .func (docDef d.name d.params d.body d.scope pm cd doc) → s₁.heap.CodeRec cd d.name → mg d.name = some (.ref fa) →
      s₁.heap.get? a = some { cls := .type "list", data := .seq vs.toArray } → IntsAre vs ns → ns.length ≤ n → s₁.gens = #[] →
      codeAny (model l.prog w) callerA (.call (.ref fa) ⟨[.ref a], []⟩) (fun r s' => r = .ok (.ret (.bool true)) ∧ OldK s₁.heap s'.heap ∧ s'.os = s₁.os ∧ AllBare s'.gens) s₁) :
    WalkO q loose XP YP l.row.toRowW d [] (fun f vs => PySem.call f vs) := by
  intro w s₀ s₁ mg mb G Y fa o pm cd doc dV kV ho hd hcd hD hmg hg args vals as hpre hlay hrd hwl hlo
  obtain rfl : dV = .none := Dflts.none hD hdf
  obtain rfl : kV = .none := Dflts.noKw hD
  obtain ⟨a, vs, ns, rfl, rfl, hobj, hints, hlen⟩ := script_of hn hpre hwl
  refine enter_call (codeAny_mono (call w s₀ s₁ mg mb fa o pm cd doc a vs ns G Y ho (fd_plain hd) hcd hmg hobj hints hlen hg) fun r s' hq => ?_)
  obtain ⟨rfl, h2, h3, h4⟩ := hq
  exact ⟨.inl ⟨.bool true, .bool true, [], rfl, fun _ => rfl, .bool true, post_true l _, fun _ => ⟨List.Pairwise.nil, fun _ hm => (nomatch hm)⟩⟩, h2, h3, h4⟩
section
variable {prog : Program} {w : World} {A : Around} {E : Value → Shared → Prop} {s : Shared} {K : Frag}
end
end Att
namespace L2
open PySem PySem.Spec PyProof.Rows
theorem vals_ints : ∀ {vs : List Value} {ns : List Int}, IntsAre vs ns → Vals (ns.map V.int) vs
  | _, _, .nil => .nil
  | _, _, .cons n t h => .cons ⟨t, rfl⟩ (vals_ints h)
end L2
namespace L2
open PySem PySem.Spec PyProof.Rows
noncomputable abbrev KOf {K : PySem.W.Frag} {h : Heap} (_ : K.In h) : PySem.W.Frag := K
end L2
/- THE LAST THEOREM (shape; LID, My.* are yours):
   My.Adr: a structure of the addresses that your layer names (classes, functions); My.Txt K t: a structure (Prop) of the equations over K;
   My.txt_mk : {K} {implicit addresses ..} (e1 : nsIn K mainGlobals "law" = some (some (.ref f))) (e2 : K.lookup f = some ⟨oc, od, .func (fnOf "law" "law" params body scope dV kV doc pm an cdv ct), sl⟩) (e3 : codeIn K cdv "law" = true) .. : ∃ t, My.Txt K t
set_option maxRecDepth 100000 in
set_option maxHeartbeats 0 in
theorem PySem.Challenge.cw_LID_holds : PySem.Challenge.rw_LID.Holds := by
  w_on; o_law; k_head; (case hw => w_witness2)
  k_fill
  refine L2.walk_of (l := PySem.Challenge.rw_LID) (n := 63) (k := 40) (x := "script") (CX := fun w => ..) (sp := fun _ => My.sp_law) rfl (by decide) rfl ⟨rfl, by decide, by decide⟩ (fun w h Y => PySem.W.kIn_of Y) ?F ?S ?C
  case F =>
    intro w mg fa h KX G hmg
    have T : ∃ t, My.Txt (L2.KOf KX) t := by
      dsimp only [L2.KOf]                          -- K must stand as «<heap const> w.params» for k_is
      refine' My.txt_mk ?e1 ?e2 ?e3 ..
      (case e1 => PySem.W.k_is)                    -- in the order: a name -> its address -> its object -> its parts
      (case e2 => PySem.W.k_is)
      ..
    obtain ⟨t, T⟩ := T
    have e0 := hmg.symm.trans (PySem.W.mg_of KX G T.law)
    cases e0                                       -- fa is the law's own address
    exact ⟨_, fun s u => .of_eq rfl, fun base kb nb => My.law_fn T kb nb⟩     -- if «.of_eq rfl» comes too early: refine' ⟨_, ?b, fun base kb nb => My.law_fn T kb nb⟩; exact fun s u => .of_eq rfl
  case S => exact fun w H a ns hl hO hS => ..
  case C => exact ..
(the tactic k_is has no namespace: write k_is) -/
namespace L2
open PySem PySem.Spec PyProof.Rows
noncomputable def inClass (s : Stmt) (j : Nat) : Stmt := match s with
  | .ClassDef _ _ _ body _ _ _ _ _ _ _ => body.getD j (.Pass ⟨0, 0, 0, 0⟩)
  | _ => .Pass ⟨0, 0, 0, 0⟩
noncomputable def defArgs (s : Stmt) : Arguments := match s with
  | .FunctionDef _ a _ _ _ _ _ _ _ _ => a
  | _ => { posonlyargs := [], args := [], vararg := none, kwonlyargs := [], kw_defaults := [], kwarg := none, defaults := [] }
noncomputable def defBody (s : Stmt) : List Stmt := match s with
  | .FunctionDef _ _ b _ _ _ _ _ _ _ => b
  | _ => []
noncomputable def defScope (s : Stmt) : Scope := match s with
  | .FunctionDef _ _ _ _ _ _ sc _ _ _ => sc
  | _ => { kind := .function, names := [], isGenerator := false, isCoroutine := false }
noncomputable abbrev CX0 : CXT := fun _ _ _ _ _ _ => False
noncomputable abbrev E0 : XK := fun _ _ _ => False
theorem pass0 {X : Cx} : Passes CX0 X E0 := fun _ _ _ _ _ _ _ h => h.elim
structure Fun (K : PySem.W.Frag) (x qual : Str) (st : Stmt) (f : Addr) (fd : FuncData) : Prop where
  ex : ∃ (oc : Value) (od : Option Addr) (kV doc pm : Value) (an : Option Addr) (cdv ct : Value) (osl : Array (Option Value)),
    fd = PySem.W.fnOf x qual (defArgs st) (defBody st) (defScope st) .none kV doc pm an cdv ct ∧ K.lookup f = some ⟨oc, od, .func fd, osl⟩ ∧ PySem.W.codeIn K cdv qual = true
  kp : PySem.W.keepIn K (.ref f) = true
section
variable {P : Program} {w : World} {K : PySem.W.Frag} {mg : Str → Option Value} {base : Heap}
theorem Fun.ok {x qual : Str} {st : Stmt} {f : Addr} {fd : FuncData} {N ps : List Str} {k : Nat} {sp : Sp} (F : Fun K x qual st f fd) (S : FnScope N ps (defScope st)) (len : ∀ vs H Q E, sp vs H Q E → vs.length = ps.length)
    (hbody : ∀ (cdv : Value) (A : Around) (outer : List Env) (s : Shared) (H : Hp) (vs : List V) (Q : VK) (E : XK), Room k (A.deeper (envOfC qual (defScope st) s.heap.objs.size f cdv)) → sp vs H Q E →
      ∃ t, PSs (cxOf CX0 P w K mg base N qual (defScope st) f cdv A outer s H E).nox (defBody st) t ∧ t { nx := fun _ H' => Q .non H', rt := Q } (start N vs) H) : FnOk P w K mg base CX0 (k + 1) f fd ps sp := by
  obtain ⟨oc, od, kV, doc, pm, an, cdv, ct, osl, rfl, lk, hcd⟩ := F.ex
  refine fn_of lk hcd S len fun A outer s H vs Q E hr hsp => ?_
  obtain ⟨t, h, q⟩ := hbody cdv A outer s H vs Q E hr hsp
  exact ⟨t, h.nox, q⟩
theorem Fun.binds {x qual : Str} {st : Stmt} {f : Addr} {fd : FuncData} {ps : List Str} (F : Fun K x qual st f fd)
    (h : ∀ (kV doc pm : Value) (an : Option Addr) (cdv ct : Value) (us : List Value), us.length = ps.length → bindArgs (PySem.W.fnOf x qual (defArgs st) (defBody st) (defScope st) .none kV doc pm an cdv ct) ⟨us, []⟩ = pure (ps.zip us)) : Binds K fd ps [] := by
  obtain ⟨oc, od, kV, doc, pm, an, cdv, ct, osl, rfl, lk, hcd⟩ := F.ex
  exact .all (h kV doc pm an cdv ct)
theorem fun_mk {x qual : Str} {st : Stmt} {f : Addr} {oc : Value} {od an : Option Addr} {osl : Array (Option Value)} {kV doc pm cdv ct : Value} (l : K.lookup f = some ⟨oc, od, .func (PySem.W.fnOf x qual (defArgs st) (defBody st) (defScope st) .none kV doc pm an cdv ct), osl⟩)
    (c : PySem.W.codeIn K cdv qual = true) (k : PySem.W.keepIn K (.ref f) = true) : Fun K x qual st f (PySem.W.fnOf x qual (defArgs st) (defBody st) (defScope st) .none kV doc pm an cdv ct) := ⟨⟨oc, od, kV, doc, pm, an, cdv, ct, osl, rfl, l, c⟩, k⟩
end
theorem small1000 {n : Nat} (h : n ≤ 1000) : n < sizeLine := Nat.lt_of_le_of_lt h (by decide)
section
variable {X : Cx}
theorem pv (i : Nat) {x : Str} {pos : Pos} (hN : X.N[i]? = some x := by rfl) (hv : Vis X.env.scope x := by first | exact Or.inl rfl | exact Or.inr (Or.inl rfl) | exact Or.inr (Or.inr rfl)) (hd : (x == ("__debug__" : Str)) = false := by decide)
    (hcd : (x == ("__classdict__" : Str)) = false := by decide) : PE X (.Name x pos) (tVar i) := pe_var hN hv hd hcd
end
theorem iteF {A B : Prop} (h : B) : if false = true then A else B := by
  rw [if_neg Bool.false_ne_true]
  exact h
theorem iteT {A B : Prop} (h : A) : if true = true then A else B := by
  rw [if_pos rfl]
  exact h
theorem ite2 {c A B : Prop} [Decidable c] (h1 : c → A) (h2 : ¬ c → B) : if c then A else B := by
  by_cases h : c
  · rw [if_pos h]
    exact h1 h
  · rw [if_neg h]
    exact h2 h
noncomputable def Same (H H' : Hp) : Prop := ∀ b o, H b = some o → H' b = some o
theorem Same.refl (H : Hp) : Same H H := fun _ _ h => h
theorem Same.trans {H H1 H2 : Hp} (a : Same H H1) (b : Same H1 H2) : Same H H2 := fun c o h => b c o (a c o h)
theorem Same.seq {K : PySem.W.Frag} {H H' : Hp} {a : Addr} {xs : List V} (e : Same H H') (h : SqL K H a xs) : SqL K H' a xs := by
  rcases h with (h | ⟨o, h⟩) | h
  · exact .inl (.inl (e _ _ h))
  · exact .inl (.inr ⟨o, e _ _ h⟩)
  · exact .inr h
end L2
set_option maxHeartbeats 4000000
namespace L2
open PySem PySem.Spec PyProof.Rows
section
variable {X : Cx} {a b c : Expr} {ta tb tc : TE} {pos : Pos}
theorem op_mulL : OpR X (binaryOp .Mult) (rI (fun i j => IntMulOk i j) fun i j => .int (i * j)) :=
  opI fun _ _ _ _ _ _ _ hc q => mul_int q hc
theorem op_fdivL : OpR X (binaryOp .FloorDiv) (rI (fun _ j => j ≠ 0 ∧ j.natAbs.log2 < 9000) fun i j => .int (i.fdiv j)) :=
  opI fun _ _ _ _ _ _ _ hc q => floordiv_int hc.1 q (.inl (PyProof.noPylong_of_log2 hc.2))
theorem pe_ty {x : Str} {T : String} {pos : Pos} (hg : Gl X x) (hm : X.mg x = none) (hv : bootBuiltins x = some (.type T)) (hn : x ≠ "__name__" := by decide) (hd : (x == ("__debug__" : Str)) = false := by decide) : PE X (.Name x pos) (tC (.ty T)) :=
  pe_bltn (v := V.ty T) hg hm hv rfl hn hd
noncomputable def rIsI (K : PySem.W.Frag) : List V → Hp → VK → Prop := fun xs H Q => ∃ x T t r, xs = [x, .ty T] ∧ TyOf K H x t ∧ PySem.W.kitOne K t (.type T) = some r ∧ Q (.bl r) H
theorem call_isinst : CallR X (.builtin "isinstance") (rIsI X.K) := by
  intro pins s σ H xs us Q I r h
  obtain ⟨x, T, t, bb, rfl, ty, e, q⟩ := h
  obtain ⟨u, w', rfl, rx, ry⟩ := vals2 r
  obtain rfl : w' = Value.type T := ry
  exact isinst_ok I rx ty e fun tk => ⟨.bl bb, H, I.tok _, rfl, q⟩
noncomputable def rEqI (K : PySem.W.Frag) : R2 := fun x y H Q => ∃ (p q : Addr) (xs ys : List Int), x = .ref p ∧ y = .ref q ∧ SqL K H p (xs.map V.int) ∧ SqL K H q (ys.map V.int) ∧ Q (.bl (decide (xs = ys))) H
theorem int_at {xs : List Int} {its : List Value} (r : Vals (xs.map V.int) its) {j : Nat} (h : j < xs.length) (h' : j < its.length) : ∃ t, its[j] = Value.int xs[j] t := by
  have e : (xs.map V.int)[j]? = some (V.int xs[j]) := by rw [List.getElem?_map, List.getElem?_eq_getElem h] <;> rfl
  obtain ⟨u, hu, t, rfl⟩ := r.get e
  rw [List.getElem?_eq_getElem h'] at hu
  exact ⟨t, Option.some.inj hu⟩
theorem all_at (xs ys : List Int) (hl : xs.length = ys.length) : ((List.range xs.length).all fun j => xs.getD j 0 == ys.getD j 0) = decide (xs = ys) := by
  rw [Bool.eq_iff_iff, List.all_eq_true, decide_eq_true_eq]
  constructor
  · intro h
    refine List.ext_getElem hl fun j h1 h2 => ?_
    have := h j (List.mem_range.mpr h1)
    rw [beq_iff_eq, List.getD_eq_getElem?_getD, List.getD_eq_getElem?_getD, List.getElem?_eq_getElem h1, List.getElem?_eq_getElem h2] at this
    exact this
  · rintro rfl j _
    exact beq_self_eq_true _
theorem op_eqI (hu : X.A.units < cLine) : OpR X (compareOp .Eq) (rEqI X.K) := by
  intro pins s σ H x y v u Q I rx ry h
  obtain ⟨p, q, xs, ys, rfl, rfl, hp, hq, h⟩ := h
  cases rx
  cases ry
  obtain ⟨its, r, pl, hz⟩ := I.list hp
  obtain ⟨its2, r2, pl2, hz2⟩ := I.list hq
  have l1 := r.length
  have l2 := r2.length
  rw [List.length_map] at l1 l2
  by_cases hl : xs.length = ys.length
  · refine SeqAt.eq_listAt (e := fun j => xs.getD j 0 == ys.getD j 0) pl.isList pl2.isList (by simp only [List.size_toArray]; lia) hu (fun j h1 h2 => ?_) ?_
    · simp only [List.size_toArray] at h1 h2
      obtain ⟨t, e⟩ := int_at r (j := j) (by lia) h1
      obtain ⟨t', e'⟩ := int_at r2 (j := j) (by lia) h2
      have z : SeqAt.EqAt X.A.in1 s its[j] its2[j] (xs[j] == ys[j]) := by
        rw [e, e']; exact SeqAt.EqAt.int_int _ _ _ _
      rw [List.getD_eq_getElem?_getD, List.getD_eq_getElem?_getD, List.getElem?_eq_getElem (show j < xs.length by lia), List.getElem?_eq_getElem (show j < ys.length by lia)]
      simpa using z
    · have e : (List.range its.toArray.size).all (fun j => xs.getD j 0 == ys.getD j 0) = decide (xs = ys) := by
        rw [← all_at xs ys hl, l1, List.size_toArray]
      rw [e]
      exact ⟨.bl _, H, I, rfl, h⟩
  · have e : decide (xs = ys) = false := decide_eq_false fun z => hl (by rw [z])
    rw [e] at h
    exact SeqAt.eq_list_lengthsAt pl.isList pl2.isList (by simp only [List.size_toArray, bne_iff_ne, ne_eq]; lia) hu ⟨.bl false, H, I, rfl, h⟩
end
noncomputable def Itr3 (lo st : Int) (n : Nat) : It := ⟨fun i _ => i < n, fun i H x H' => H' = H ∧ x = .int (lo + i * st), fun i _ => n ≤ i⟩
theorem turn_range3 {P : Program} {w : World} {K : PySem.W.Frag} {tg : Expr} (it : Addr) (lo st : Int) (n : Nat) :
    Turn P w K tg (Itr3 lo st n) [it] it (fun i h => IsRangeIter h it (lo + (i : Nat) * st) ((n : Int) - (i : Nat)) st) where
  mem := List.mem_singleton.mpr rfl
  obj := fun i h q b hb => by
    obtain rfl := List.mem_singleton.mp hb
    exact ⟨_, q, fun v z => by cases (show Data.fields _ = Data.cell v from z)⟩
  keep := fun i h h' q k => k it (List.mem_singleton.mpr rfl) _ q
  item := by
    intro X e1 e2 e3 hc i pins s σ H E I hf q hg
    subst e1 e2 e3
    obtain ⟨f0, f1, f2, f3, f4, f5⟩ := hf it (List.mem_singleton.mpr rfl)
    refine (Walks.range (prog := X.prog) (w := X.w) (I.ok.hd hc) it lo st n).item i s _ _ hg q fun v h' tk hv q' kk => ?_
    obtain ⟨t, rfl⟩ := hv
    have I1 : Inv X pins σ H { s with heap := h', toks := tk } := I.turned (fun b o hb e => kk b o (fun z => hb (List.mem_singleton.mp z)) e) f0 f1 f3 f4 f5
    exact ⟨_, rfl, go_of (s := { s with heap := h', toks := tk }) (n := "range_iterator") q' rfl rfl (by decide) ⟨.int (lo + i * st), H, I1, ⟨t, rfl⟩, ⟨rfl, rfl⟩, q', fun b hb => (hf b hb).1⟩⟩
  done := by
    intro X e1 e2 e3 hc i pins s σ H E I hf q hg
    subst e1 e2 e3
    obtain ⟨f0, f1, f2, f3, f4, f5⟩ := hf it (List.mem_singleton.mpr rfl)
    exact wpAny_pyNext_range_end (I.ok.hd hc) q (by have : n ≤ i := hg; lia) fun h' eb => ⟨rfl, I.turned (t' := s.toks) (fun b o hb e => eb b o hb e) f0 f1 f3 f4 f5⟩
  self := fun _ _ _ _ _ q h => wpAny_pyIter_rangeiter q h
noncomputable def iRng3 (ta : TA) : TI := fun σ H R => ta σ H fun vs H1 => ∃ (i j k : Int) (n : Nat), vs = [.int i, .int j, .int k] ∧ k ≠ 0 ∧ k.natAbs < 1073741824 ∧ Builtin.Range.small i j k = true ∧ Builtin.Range.rangeSize i j k = n ∧ R (Itr3 i k n) H1
theorem pi_range3 {X : Cx} {tg a b c : Expr} {ta : TA} {p pos : Pos} (hg : Gl X "range") (hm : X.mg "range" = none) (ha : PA X [a, b, c] ta)
    (hs : starEach [a, b, c] X.env = [(false, eval a X.env), (false, eval b X.env), (false, eval c X.env)] := by rfl)
    (hs2 : starEach [b, c] X.env = [(false, eval b X.env), (false, eval c X.env)] := by rfl) : PI X tg (.Call (.Name "range" p) [a, b, c] [] pos) (iRng3 ta) := by
  intro pins s σ H R I h
  refine Call_ (ld_blt I hg hm boot_range (PyProof.Rows.callWith_type1 (thn (ha pos pins s σ H _ I h) fun us s1 q1 => ?_) (by rw [hs, hs2]) (by rw [hs2]; rfl)))
  obtain ⟨vs, H1, I1, r1, i, j, k, n, rfl, hk, hkb, hsm, hn, q⟩ := q1
  cases r1 with
  | cons ra rr =>
    cases rr with
    | cons rb rr =>
      cases rr with
      | cons rc rr =>
        cases rr
        obtain ⟨t, rfl⟩ := ra
        obtain ⟨u, rfl⟩ := rb
        obtain ⟨v, rfl⟩ := rc
        refine call_range_3 hk ?_ (.inl (PyProof.noPylong_small hkb))
        refine wpAny_pyIter_range (IsRange.new ..) hsm ?_
        have I2 : Inv X pins σ H1 { s1 with heap := s1.heap.push { cls := .type "range", data := .fields #[.int i t, .int j u, .int k v] } } := I1.kept (t' := s1.toks) fun b o e => Heap.get?_push_of_some _ e
        refine ⟨_, [_], _, _, H1, rfl, I2.kept (t' := s1.toks) fun b o e => Heap.get?_push_of_some _ e, turn_range3 _ i k n, ?_, fun b hb => ?_, q⟩
        · have e1 : i + ((0 : Nat) : Int) * k = i := by simp
          have e2 : ((n : Nat) : Int) - ((0 : Nat) : Int) = Builtin.Range.rangeSize i j k := by rw [hn]; simp
          show IsRangeIter _ _ (i + ((0 : Nat) : Int) * k) (((n : Nat) : Int) - ((0 : Nat) : Int)) k
          rw [e1, e2]
          exact Heap.get?_push_size _ rfl
        · obtain rfl := List.mem_singleton.mp hb
          exact I2.fpOk (Nat.le_refl _) (I2.hok.fresh (Nat.le_refl _))
structure FnB (P : Program) (w : World) (K : PySem.W.Frag) (mg : Str → Option Value) (base : Heap) (k : Nat) (x : Str) (ps : List Str) (sp : Sp) : Prop where
  ex : ∃ f fd, FnOk P w K mg base CX0 k f fd ps sp ∧ mg x = some (.ref f) ∧ PySem.W.keepIn K (.ref f) = true ∧ Binds K fd ps []
structure DefB (K : PySem.W.Frag) (mg : Str → Option Value) (x : Str) (st : Stmt) (ps : List Str) : Prop where
  ex : ∃ f fd, Fun K x x st f fd ∧ mg x = some (.ref f) ∧ Binds K fd ps []
section
variable {P : Program} {w : World} {K : PySem.W.Frag} {mg : Str → Option Value} {base : Heap} {x : Str} {st : Stmt} {N ps : List Str} {j k : Nat} {sp sp' : Sp}
theorem FnB.mono (F : FnB P w K mg base j x ps sp) (h : j ≤ k) : FnB P w K mg base k x ps sp :=
  let ⟨f, fd, a, b, c, d⟩ := F.ex
  ⟨f, fd, a.mono h, b, c, d⟩
theorem FnB.imp (F : FnB P w K mg base k x ps sp) (h : ∀ vs H Q E, sp' vs H Q E → sp vs H Q E) : FnB P w K mg base k x ps sp' :=
  let ⟨f, fd, a, b, c, d⟩ := F.ex
  ⟨f, fd, a.imp h, b, c, d⟩
theorem DefB.ok (D : DefB K mg x st ps) (S : FnScope N ps (defScope st)) (len : ∀ vs H Q E, sp vs H Q E → vs.length = ps.length)
    (hbody : ∀ (f : Addr) (cdv : Value) (A : Around) (outer : List Env) (s : Shared) (H : Hp) (vs : List V) (Q : VK) (E : XK), Room k (A.deeper (envOfC x (defScope st) s.heap.objs.size f cdv)) → sp vs H Q E →
      ∃ t, PSs (cxOf CX0 P w K mg base N x (defScope st) f cdv A outer s H E).nox (defBody st) t ∧ t { nx := fun _ H' => Q .non H', rt := Q } (start N vs) H) : FnB P w K mg base (k + 1) x ps sp :=
  let ⟨f, fd, a, b, c⟩ := D.ex
  ⟨f, fd, a.ok S len fun cdv A outer s H vs Q E => hbody f cdv A outer s H vs Q E, b, a.kp, c⟩
end
theorem def_of {K : PySem.W.Frag} {h : Heap} {mg : Str → Option Value} {x : Str} {st : Stmt} {ps : List Str} {f : Addr} {od an : Option Addr} {sl : Array (Option Value)} {oc kV doc pm cd ct : Value} (X : K.In h) (G : h.Ns mainGlobals mg)
    (a : PySem.W.nsIn K mainGlobals x = some (some (.ref f))) (l : K.lookup f = some ⟨oc, od, .func (PySem.W.fnOf x x (defArgs st) (defBody st) (defScope st) .none kV doc pm an cd ct), sl⟩)
    (c : PySem.W.codeIn K cd x = true) (k : PySem.W.keepIn K (.ref f) = true)
    (b : ∀ (kV doc pm : Value) (an : Option Addr) (cdv ct : Value) (us : List Value), us.length = ps.length → bindArgs (PySem.W.fnOf x x (defArgs st) (defBody st) (defScope st) .none kV doc pm an cdv ct) ⟨us, []⟩ = pure (ps.zip us)) : DefB K mg x st ps :=
  have F := fun_mk (st := st) l c k
  ⟨_, _, F, PySem.W.mg_of X G a, F.binds b⟩
theorem pe_fn {X : Cx} {k : Nat} {x : Str} {ps : List Str} {sp : Sp} {p pos : Pos} {e : Expr} {es : List Expr} {t : TA} (F : FnB X.prog X.w X.K X.mg X.base k x ps sp) (hr : Room k X.A) (ha : PA X (e :: es) t)
    (hg : Gl X x := by rfl) (hdb : (x == ("__debug__" : Str)) = false := by decide) (he : starEach (e :: es) X.env = (false, eval e X.env) :: starEach es X.env := by rfl)
    (hpl : (backTo pos (starEach es X.env)).any (·.1) = false := by rfl) : PE X (.Call (.Name x p) (e :: es) [] pos) (tCall sp [] E0 t) :=
  let ⟨_, _, a, b, c, d⟩ := F.ex
  pe_call a hr hg b c d .nil pass0 ha hdb he hpl
section
variable {σ : St} {H : Hp} {Q : VK} {D : Ends} {te ta tb : TE} {tr : TA} {ts us : TS} {tt uu : TT} {QB : Bool → Hp → Prop} {QA : List V → Hp → Prop}
theorem r_seq (h : ts { D with nx := us D } σ H) : tSeq ts us D σ H := h
theorem r_set {i : Nat} (h : te σ H fun x H1 => D.nx (σ.set i (some x)) H1) : tAsg te (gName i) D σ H := h
theorem r_asg {g : TG} (h : te σ H fun x H1 => g x σ H1 D.nx) : tAsg te g D σ H := h
theorem r_ret (h : te σ H D.rt) : tRet te D σ H := h
theorem r_drop (h : te σ H fun _ H1 => D.nx σ H1) : tDrop te D σ H := h
theorem r_next (h : D.nx σ H) : tNext D σ H := h
theorem r_var {i : Nat} {v : V} (e : σ[i]? = some (some v)) (h : Q v H) : tVar i σ H Q := ⟨v, e, h⟩
theorem r_for {wi : TI} {g : TG} (h : wi σ H fun J H1 => ∃ W : Nat → Nat → St → Hp → Prop, (∃ m, W 0 m σ H1) ∧ ∀ i m σ H, W i m σ H →
    (J.stop i H ∧ D.nx σ H) ∨ (J.go i H ∧ ∃ N : St → Hp → Prop, (∀ σ' H', N σ' H' → ∃ m', m' < m ∧ W (i + 1) m' σ' H') ∧ ∀ x H', J.yld i H x H' → g x σ H' fun σ2 H2 => ts { D with nx := N, ct := N, bk := D.nx } σ2 H2)) : tFor wi g ts D σ H := h
theorem r_rng3 {R : It → Hp → Prop} (h : tr σ H fun vs H1 => ∃ (i j k : Int) (n : Nat), vs = [.int i, .int j, .int k] ∧ k ≠ 0 ∧ k.natAbs < 1073741824 ∧ Builtin.Range.small i j k = true ∧ Builtin.Range.rangeSize i j k = n ∧ R (Itr3 i k n) H1) : iRng3 tr σ H R := h
theorem r_gname {i : Nat} {v : V} {R : St → Hp → Prop} (h : R (σ.set i (some v)) H) : gName i v σ H R := h
theorem r_gtup {K : PySem.W.Frag} {n : Nat} {t : TGs} {a : Addr} {xs : List V} {R : St → Hp → Prop} (hs : SqT K H a xs) (hl : xs.length = n) (h : t xs σ H R) : gTup K n t (.ref a) σ H R := ⟨a, xs, rfl, hs, hl, h⟩
theorem r_gcons {t : TG} {u : TGs} {v : V} {r : List V} {R : St → Hp → Prop} (h : t v σ H fun σ' H' => u r σ' H' R) : gCons t u (v :: r) σ H R := ⟨v, r, rfl, h⟩
theorem r_gnil {R : St → Hp → Prop} (h : R σ H) : gNil [] σ H R := ⟨rfl, h⟩
theorem r_c {v : V} (h : Q v H) : tC v σ H Q := h
theorem r_op {r : R2} (h : ta σ H fun x H1 => tb σ H1 fun y H2 => r x y H2 Q) : tOp r ta tb σ H Q := h
theorem r_un {r : V → Hp → VK → Prop} (h : ta σ H fun x H1 => r x H1 Q) : tUn r ta σ H Q := h
theorem r_i0 {g : Int → Int → V} {i j : Int} (h : Q (g i j) H) : rI0 g (.int i) (.int j) H Q := ⟨i, j, rfl, rfl, h⟩
theorem r_i {C : Int → Int → Prop} {g : Int → Int → V} {i j : Int} (c : C i j) (h : Q (g i j) H) : rI C g (.int i) (.int j) H Q := ⟨i, j, rfl, rfl, c, h⟩
theorem r_u {g : Int → V} {i : Int} (h : Q (g i) H) : rU g (.int i) H Q := ⟨i, rfl, h⟩
theorem r_test (h : te σ H fun x H' => ∃ k, x = .bl k ∧ QB k H') : tTest te σ H QB := h
theorem r_tb (h : te σ H fun x H' => ∃ k, x = .bl k ∧ QB k H') : tB te σ H QB := h
theorem r_bl {k : Bool} {R : Bool → Prop} (h : R k) : ∃ k', V.bl k = .bl k' ∧ R k' := ⟨k, rfl, h⟩
theorem r_eqi {i j : Int} (h : Q (.bl (decide (i = j))) H) : rEq (.int i) (.int j) H Q := ⟨rfl, by rw [show decide (V.int i = V.int j) = decide (i = j) by rw [Bool.eq_iff_iff]; simp]; exact h⟩
theorem r_nei {i j : Int} (h : Q (.bl (!decide (i = j))) H) : rNe (.int i) (.int j) H Q := ⟨rfl, by rw [show decide (V.int i = V.int j) = decide (i = j) by rw [Bool.eq_iff_iff]; simp]; exact h⟩
theorem r_ifS (h : tt σ H fun b H1 => if b = true then ts D σ H1 else us D σ H1) : tIfS tt ts us D σ H := h
theorem r_ifE (h : tt σ H fun c H1 => if c = true then ta σ H1 Q else tb σ H1 Q) : tIf tt ta tb σ H Q := h
theorem r_and (h : tt σ H fun c H1 => if c = true then uu σ H1 QB else QB false H1) : tAnd tt uu σ H QB := h
theorem r_or (h : tt σ H fun c H1 => if c = true then QB true H1 else uu σ H1 QB) : tOr tt uu σ H QB := h
theorem r_not (h : tt σ H fun c H1 => QB (!c) H1) : tNot tt σ H QB := h
theorem r_andV (h : ta σ H fun x H1 => ∃ c, x = .bl c ∧ if c = true then tb σ H1 Q else Q (.bl false) H1) : tAndV ta tb σ H Q := h
theorem r_orV (h : ta σ H fun x H1 => ∃ c, x = .bl c ∧ if c = true then Q (.bl true) H1 else tb σ H1 Q) : tOrV ta tb σ H Q := h
theorem r_notV (h : ta σ H fun x H1 => ∃ c, x = .bl c ∧ Q (.bl (!c)) H1) : tNotV ta σ H Q := h
theorem r_nil (h : QA [] H) : tNil σ H QA := h
theorem r_cons (h : te σ H fun x H1 => tr σ H1 fun xs H2 => QA (x :: xs) H2) : tCons te tr σ H QA := h
theorem r_call {sp : Sp} {E : XK} (h : tr σ H fun vs H1 => sp (vs ++ []) H1 Q E) : tCall sp [] E tr σ H Q := h
theorem r_cb {r : List V → Hp → VK → Prop} (h : tr σ H fun vs H1 => r vs H1 Q) : tCB r tr σ H Q := h
theorem r_tup (h : tr σ H fun xs H1 => xs.length ≤ sizeLine ∧ ∀ p, H1 p = none → Q (.ref p) (upd H1 p (.tup xs))) : tTup tr σ H Q := h
theorem r_lst (h : tr σ H fun xs H1 => xs.length ≤ sizeLine ∧ ∀ p, H1 p = none → Q (.ref p) (upd H1 p (.lst xs))) : tLst tr σ H Q := h
theorem r_tru {K : PySem.W.Frag} {i : Int} {R : Bool → Prop} (h : R (i != 0)) : ∃ k, TruV K (.int i) H k ∧ R k := ⟨_, rfl, h⟩
theorem r_ixL {K : PySem.W.Frag} {p : Addr} {xs : List V} {i : Int} {v : V} (hs : SqL K H p xs) (he : atI xs i = some v) (h : Q v H) : rIxL K (.ref p) (.int i) H Q := ⟨p, xs, i, v, rfl, rfl, hs, he, h⟩
theorem small4 {n : Nat} (h : n ≤ 1000) : n ≤ sizeLine := Nat.le_of_lt (small1000 h)
theorem Same.tup {K : PySem.W.Frag} {H H' : Hp} {a : Addr} {xs : List V} (e : Same H H') (h : SqT K H a xs) : SqT K H' a xs := by
  rcases h with (h | ⟨o, h⟩) | h
  · exact .inl (.inl (e _ _ h))
  · exact .inl (.inr ⟨o, e _ _ h⟩)
  · exact .inr h
theorem Same.new {H : Hp} {p : Addr} (h : H p = none) (o : HO) : Same H (upd H p o) := fun b u q => by rw [upd_ne (ne_of_none q h)]; exact q
end
end L2
namespace L2
open PySem PySem.Spec PyProof.Rows
noncomputable def Ite (K : PySem.W.Frag) (a : Addr) : It :=
  ⟨fun i H => ∃ xs x, SqL K H a xs ∧ xs[i]? = some x, fun i H x H' => ∃ p y, H p = none ∧ x = .ref p ∧ H' = upd H p (.tup [.int (i : Int), y]) ∧ ∀ xs, SqL K H a xs → xs[i]? = some y, fun i H => ∃ xs, SqL K H a xs ∧ xs.length ≤ i⟩
noncomputable def Itv (K : PySem.W.Frag) (a : Addr) (n : Nat) : It :=
  ⟨fun i H => i < n ∧ ∃ xs x, SqL K H a xs ∧ xs[n - 1 - i]? = some x, fun i H x H' => H' = H ∧ ∀ xs, SqL K H a xs → xs[n - 1 - i]? = some x, fun i _ => i = n⟩
theorem two_mem {b e it : Addr} (h : b ∈ [e, it]) : b = e ∨ b = it := by
  rcases List.mem_cons.mp h with z | z
  · exact .inl z
  · exact .inr (List.mem_singleton.mp z)
theorem turn_enum {P : Program} {w : World} {K : PySem.W.Frag} {es : List Expr} {k : Nat} {tp : Pos} (a e it : Addr) (hne : e ≠ it) :
    Turn P w K (.Tuple es k tp) (Ite K a) [e, it] e (fun i h => ∃ old, IsEnum h e it ((i : Nat) : Int) old ∧ h.IsListIter it a i) where
  mem := List.mem_cons_self
  obj := fun i h q b hb => by
    obtain ⟨old, q1, o, q2, c2, d2⟩ := q
    rcases two_mem hb with rfl | rfl
    · exact ⟨_, q1, fun v z => by cases (show Data.fields _ = Data.cell v from z)⟩
    · exact ⟨o, q2, fun v z => by rw [d2] at z; cases z⟩
  keep := fun i h h' q kk => by
    obtain ⟨old, q1, q2⟩ := q
    exact ⟨old, kk e List.mem_cons_self _ q1, q2.at fun o z => kk it (List.mem_cons_of_mem _ (List.mem_singleton.mpr rfl)) o z⟩
  item := by
    intro X e1 e2 e3 hc i pins s σ H E I hf q hg
    subst e1 e2 e3
    obtain ⟨old, q1, q2⟩ := q
    obtain ⟨xs, x, hq, hx⟩ := hg
    obtain ⟨its, rv, pl, hz⟩ := I.list hq
    obtain ⟨u, hu, ru⟩ := rv.get hx
    obtain ⟨f0, f1, f2, f3, f4, f5⟩ := hf e List.mem_cons_self
    obtain ⟨g0, g1, g2, g3, g4, g5⟩ := hf it (List.mem_cons_of_mem _ (List.mem_singleton.mpr rfl))
    refine wpAny_pyNext_enum_item q1 q2 pl.isList (x := u) (by simpa using hu) hne fun h1 eo it1 tu hsz hk => ?_
    refine ⟨_, rfl, wpAny_letOwnedTupleGo_enum eo fun h2 e2' sb => ?_⟩
    have sb' : Heap.SameBut e h1 h2 := sb
    have hfr : H s.heap.objs.size = none := I.fresh
    have hp : e ≠ s.heap.objs.size := Nat.ne_of_lt (Heap.lt_size q1)
    have kp : ∀ b o, b ≠ e → b ≠ it → s.heap.get? b = some o → h2.get? b = some o := fun b o h3 h4 z => sb'.extBut b o h3 (hk b o h3 h4 z)
    have nte : ∀ b o, H b = some o → b ≠ e ∧ b ≠ it := fun b o z => ⟨ne_of_none z f0, ne_of_none z g0⟩
    have tup2 : IsTup h2 s.heap.objs.size [Value.int (i : Int) s.toks, u].toArray := ⟨_, (sb'.2 _ (Ne.symm hp)).trans tu, rfl, _, rfl⟩
    have rt : Vals [V.int (i : Int), x] [Value.int (i : Int) s.toks, u] := .cons ⟨_, rfl⟩ (.cons ru .nil)
    have hok : HOk X.prog X.w (upd H s.heap.objs.size (.tup [.int (i : Int), x])) h2 := fun b o z => by
      by_cases hb : b = s.heap.objs.size
      · subst hb
        rw [upd_same] at z
        cases z
        exact ⟨by show 2 ≤ sizeLine; decide, _, rt, tup2⟩
      · rw [upd_ne hb] at z
        refine (I.hok b o z).stay (fun c v hc' r => ?_) (fun c r => by rw [upd_ne (ne_of_none r hfr)]; exact r) fun c ys r => by rw [upd_ne (ne_of_none r hfr)]; exact r
        rcases hc' with rfl | hc'
        · exact kp _ _ (nte _ _ z).1 (nte _ _ z).2 r
        · exact kp _ _ (nte _ _ hc').1 (nte _ _ hc').2 r
    have ncm : ∀ {b : Addr}, b ∉ [e, it] → b ≠ e ∧ b ≠ it := fun h3 => ⟨fun z => h3 (by rw [z]; exact List.mem_cons_self), fun z => h3 (by rw [z]; exact List.mem_cons_of_mem _ (List.mem_singleton.mpr rfl))⟩
    have un : Un (frs X.stack) [e, it] H (upd H s.heap.objs.size (.tup [.int (i : Int), x])) s.heap h2 :=
      ⟨fun b o z _ _ h4 => kp b o (ncm h4).1 (ncm h4).2 z, fun b o z _ _ h4 => ⟨o.slots, kp b o (ncm h4).1 (ncm h4).2 z⟩,
        fun b o z n _ => by rw [upd_ne (Nat.ne_of_lt (Heap.lt_size z))]; exact n, fun b o z h4 => ⟨o, kp b o (ncm h4).1 (ncm h4).2 z⟩,
        fun b ys z => by rw [upd_ne (ne_of_none z hfr)]; exact z, fun b o u z => by rw [upd_ne (ne_of_none z hfr)]; exact z, fun b ps z => ⟨#[], by rw [upd_ne (ne_of_none z hfr), z]; simp⟩⟩
    have I2 : Inv X pins σ (upd H s.heap.objs.size (.tup [.int (i : Int), x])) { s with heap := h2, toks := s.toks + 1 } :=
      I.call (g' := s.gens) (d' := s.drawn) (t' := s.toks + 1) (ch := [e, it]) un hok I.bare fun b hb => by
        rcases two_mem hb with rfl | rfl
        · exact ⟨f3, f1, f4, f5⟩
        · exact ⟨g3, g1, g4, g5⟩
    have i2 : h2.IsListIter it a (i + 1) := it1.at fun o z => sb'.extBut it o (Ne.symm hne) z
    refine ⟨.ref s.heap.objs.size, _, I2, rfl, ⟨_, x, hfr, rfl, rfl, fun ys hy => by rw [I.list_inj hy hq]; exact hx⟩, ⟨u, e2', i2⟩, fun b hb => ?_⟩
    rcases two_mem hb with rfl | rfl
    · rw [upd_ne hp]; exact f0
    · obtain ⟨o, z, _⟩ := q2
      rw [upd_ne (Nat.ne_of_lt (Heap.lt_size z))]; exact g0
  done := by
    intro X e1 e2 e3 hc i pins s σ H E I hf q hg
    subst e1 e2 e3
    obtain ⟨old, q1, q2⟩ := q
    obtain ⟨xs, hq, hx⟩ := hg
    obtain ⟨its, rv, pl, hz⟩ := I.list hq
    have hl := rv.length
    obtain ⟨g0, g1, g2, g3, g4, g5⟩ := hf it (List.mem_cons_of_mem _ (List.mem_singleton.mpr rfl))
    exact wpAny_pyNext_enum_end (I.ok.hd hc) q1 q2 pl.isList (by simp; lia) fun h' eb => ⟨rfl, I.turned (t' := s.toks) (fun b o hb z => eb b o hb z) g0 g1 g3 g4 g5⟩
  self := fun _ _ _ _ _ q h => let ⟨_, q1, _⟩ := q; wpAny_pyIter_enum q1 h
noncomputable def iEnum (K : PySem.W.Frag) (ta : TA) : TI := fun σ H R => ta σ H fun vs H1 => ∃ a, vs = [.ref a] ∧ (∃ xs, SqL K H1 a xs) ∧ R (Ite K a) H1
theorem pi_enum {X : Cx} {es : List Expr} {k : Nat} {tp : Pos} {a : Expr} {ta : TA} {p pos : Pos} (hg : Gl X "enumerate") (hm : X.mg "enumerate" = none) (ha : PA X [a] ta) (hs : starEach [a] X.env = [(false, eval a X.env)] := by rfl) :
    PI X (.Tuple es k tp) (.Call (.Name "enumerate" p) [a] [] pos) (iEnum X.K ta) := by
  intro pins s σ H R I h
  refine Call_ (ld_blt I hg hm boot_enumerate (PyProof.Rows.callWith_type1 (thn (ha pos pins s σ H _ I h) fun us s1 q1 => ?_) hs rfl))
  obtain ⟨vs, H1, I1, r1, l, rfl, ⟨xs, hq⟩, q⟩ := q1
  obtain ⟨u, rfl, rx⟩ := vals1 r1
  cases rx
  obtain ⟨its, rv, pl, hz⟩ := I1.list hq
  refine call_enumerate_list pl.isList fun h' he hit hsz hk => ?_
  have I2 : Inv X pins σ H1 { s1 with heap := h' } := I1.kept (t' := s1.toks) hk
  refine wpAny_pyIter_enum he ?_
  have old : ∀ b, s1.heap.objs.size ≤ b → FpOk X pins H1 b := fun b hb => I1.fpOk hb (I1.hok.fresh hb)
  refine ⟨_, [_, _], _, _, H1, rfl, I2, turn_enum l _ _ (Nat.succ_ne_self _), ⟨_, he, hit⟩, fun b hb => ?_, q⟩
  rcases two_mem hb with rfl | rfl
  · exact old _ (Nat.le_succ _)
  · exact old _ (Nat.le_refl _)
theorem turn_rev {P : Program} {w : World} {K : PySem.W.Frag} {tg : Expr} (a it : Addr) (n : Nat) : Turn P w K tg (Itv K a n) [it] it (fun i h => i ≤ n ∧ h.IsRevIter it a ((n : Int) - 1 - (i : Nat))) where
  mem := List.mem_singleton.mpr rfl
  obj := fun i h q b hb => by
    obtain rfl := List.mem_singleton.mp hb
    obtain ⟨_, o, e, c, d⟩ := q
    exact ⟨o, e, fun v z => by rw [d] at z; cases z⟩
  keep := fun i h h' q kk => ⟨q.1, q.2.at fun o z => kk it (List.mem_singleton.mpr rfl) o z⟩
  item := by
    intro X e1 e2 e3 hc i pins s σ H E I hf q hg
    subst e1 e2 e3
    obtain ⟨hin, q⟩ := q
    obtain ⟨hi, xs, x, hq, hx⟩ := hg
    obtain ⟨its, rv, pl, hz⟩ := I.list hq
    obtain ⟨u, hu, ru⟩ := rv.get hx
    obtain ⟨f0, f1, f2, f3, f4, f5⟩ := hf it (List.mem_singleton.mpr rfl)
    have ei : (n : Int) - 1 - (i : Nat) = ((n - 1 - i : Nat) : Int) := by lia
    rw [ei] at q
    refine wpAny_pyNext_rev_item q pl.isList (x := u) (by simpa using hu) fun h' q' sb => ?_
    have I1 : Inv X pins σ H { s with heap := h' } := I.turned (t' := s.toks) (fun b o hb z => sb.extBut b o hb z) f0 f1 f3 f4 f5
    obtain ⟨o, eo, co, do'⟩ := id q'
    refine ⟨u, rfl, go_of (s := { s with heap := h' }) eo co do' (by decide) ⟨x, H, I1, ru, ⟨rfl, fun ys hy => by rw [I.list_inj hy hq]; exact hx⟩, ⟨by lia, ?_⟩, fun b hb => (hf b hb).1⟩⟩
    have e2 : (n : Int) - 1 - ((i + 1 : Nat) : Int) = ((n - 1 - i : Nat) : Int) - 1 := by lia
    show h'.IsRevIter it a ((n : Int) - 1 - ((i + 1 : Nat) : Int))
    rw [e2]
    exact q'
  done := by
    intro X e1 e2 e3 hc i pins s σ H E I hf q hg
    subst e1 e2 e3
    obtain ⟨hin, q⟩ := q
    have hg' : i = n := hg
    subst hg'
    obtain ⟨f0, f1, f2, f3, f4, f5⟩ := hf it (List.mem_singleton.mpr rfl)
    have ei : (i : Int) - 1 - (i : Nat) = -1 := by lia
    rw [ei] at q
    exact wpAny_pyNext_rev_end (I.ok.hd hc) q fun h' eb => ⟨rfl, I.turned (t' := s.toks) (fun b o hb z => eb b o hb z) f0 f1 f3 f4 f5⟩
  self := fun _ _ _ _ _ q h => wpAny_pyIter_revIter q.2 h
noncomputable def iRev (K : PySem.W.Frag) (ta : TA) : TI := fun σ H R => ta σ H fun vs H1 => ∃ a xs, vs = [.ref a] ∧ SqL K H1 a xs ∧ R (Itv K a xs.length) H1
theorem pi_rev {X : Cx} {tg a : Expr} {ta : TA} {p pos : Pos} (hg : Gl X "reversed") (hm : X.mg "reversed" = none) (ha : PA X [a] ta) (hs : starEach [a] X.env = [(false, eval a X.env)] := by rfl) :
    PI X tg (.Call (.Name "reversed" p) [a] [] pos) (iRev X.K ta) := by
  intro pins s σ H R I h
  refine Call_ (ld_blt I hg hm boot_reversed (PyProof.Rows.callWith_type1 (thn (ha pos pins s σ H _ I h) fun us s1 q1 => ?_) hs rfl))
  obtain ⟨vs, H1, I1, r1, l, xs, rfl, hq, q⟩ := q1
  obtain ⟨u, rfl, rx⟩ := vals1 r1
  cases rx
  obtain ⟨its, rv, pl, hz⟩ := I1.list hq
  refine call_reversed_list pl.isList ?_
  have e0 : (its.toArray.size : Int) - 1 = (xs.length : Int) - 1 - ((0 : Nat) : Int) := by rw [List.size_toArray, ← rv.length]; simp
  rw [e0]
  have I2 : Inv X pins σ H1 { s1 with heap := s1.heap.push (revObj l ((xs.length : Int) - 1 - ((0 : Nat) : Int))) } := I1.kept (t' := s1.toks) fun b o e => Heap.get?_push_of_some _ e
  have q0 : (s1.heap.push (revObj l ((xs.length : Int) - 1 - ((0 : Nat) : Int)))).IsRevIter s1.heap.objs.size l ((xs.length : Int) - 1 - ((0 : Nat) : Int)) := ⟨_, Heap.get?_push_size _ rfl, rfl, rfl⟩
  refine wpAny_pyIter_revIter q0 ?_
  refine ⟨_, [_], _, _, H1, rfl, I2, turn_rev l _ xs.length, ⟨Nat.zero_le _, q0⟩, fun b hb => ?_, q⟩
  obtain rfl := List.mem_singleton.mp hb
  exact I1.fpOk (Nat.le_refl _) (I1.hok.fresh (Nat.le_refl _))
end L2
namespace L2
open PySem PySem.Spec PyProof.Rows
section
variable {prog : Program} {w : World} {A : Around} {R : Result → Shared → Prop} {s : Shared}
theorem comp_loop {elt tg it0 : Expr} {sc : Scope} {ps : Pos} {it acc : Value} {en : Env} (J : Nat → Shared → Prop)
    (turn : ∀ n s, J n s → wpAny (model prog w) A (pyNext it) (fun r s1 => match r with
      | none => R (.ok .next) s1
      | some v => wpAny (model prog w) A (letOwnedTupleGo tg it v) (fun _ s2 => wpAny (model prog w) A (assign tg en v) (fun _ s3 => wpAny (model prog w) A (eval elt en) (fun x s4 =>
          wpAny (model prog w) A (call (.builtin "list.append") [acc, x]) (fun _ s5 => ∃ m, m < n ∧ J m s5) (fun _ _ => False) s4) (fun _ _ => False) s3) (fun _ _ => False) s2) (fun _ _ => False) s1) (fun _ _ => False) s)
    (n : Nat) (h : J n s) : codeAny (model prog w) A (.compLoop (.ListComp elt [⟨tg, it0, [], 0⟩] sc ps) 0 it acc en) R s := by
  refine codeAny_loop rfl J (fun n s hJ => ?_) n h
  show wpAny (model prog w) A ((compTurn (.ListComp elt [⟨tg, it0, [], 0⟩] sc ps) 0 it acc en).onRaise (fun x => do noteFrame x en; theTreesLotGoes x)) _ _ s
  refine wpAny_noted ?_
  rw [compTurn_list1]
  have no : ∀ {α : Type} {t : Sem α} {Q : α → Shared → Prop} {E : Value → Shared → Prop} {s : Shared}, wpAny (model prog w) A t Q (fun _ _ => False) s → wpAny (model prog w) A t Q E s :=
    fun h => wpAny_mono h (fun _ _ q => q) fun _ _ z => z.elim
  refine wpAny_bind (wpAny_standAt (wpAny_bind (thn (no (turn n s hJ)) fun r s1 h1 => ?_)))
  cases r with
  | none => exact wpAny_pure h1
  | some v =>
    refine wpAny_bind (thn (no h1) fun _ s2 h2 => ?_)
    refine wpAny_bind (thn (no h2) fun _ s3 h3 => ?_)
    refine wpAny_bind (wpAny_bind (thn (no h3) fun x s4 h4 => ?_))
    refine wpAny_bind (thn (no h4) fun _ s5 h5 => ?_)
    exact wpAny_pure (wpAny_pure ⟨rfl, h5⟩)
end
noncomputable def cxComp (X : Cx) (scope : Scope) (cl : List (Str × Addr)) (C : Addr) (s : Shared) (H : Hp) (M : List Str) (ex : List Addr) (pins : List (Addr × Obj)) : Cx :=
  { X with N := M, s₀ := s, H₀ := H, env := compEnvC scope cl C X.env, outer := X.stack, ex := ex, fn := fun _ => false, pn := X.pn ++ pins, xe := fun _ _ => False }
structure CompOk (X : Cx) (scope : Scope) (cl : List (Str × Addr)) (own : List Str) (fr : List Nat) (M : List Str) : Prop where
  clos : closureFor scope X.env = pure cl
  kind : scope.kind = .function
  names : ∀ x ∈ scope.names, x.2 = .local → scope.names.lookup x.1 = some .local
  nocell : ∀ x ∈ scope.names, x.2 ≠ .cell
  cls : ∀ x c, cl.lookup x = some c → X.env.cells.lookup x = some c
  has : ∀ x, ((relabel scope X.env).names.lookup x = some .cell ∨ (relabel scope X.env).names.lookup x = some .free) → ∃ c, cl.lookup x = some c
  len : M.length = own.length + fr.length
  ownl : ∀ (i : Nat) x, own[i]? = some x → M[i]? = some x
  from_ : ∀ (j i : Nat) x, fr[j]? = some i → M[own.length + j]? = some x → X.N[i]? = some x ∧ X.env.scope.names.lookup x = some .cell ∧ (∃ c, cl.lookup x = some c) ∧ ((relabel scope X.env).names.lookup x = some .cell ∨ (relabel scope X.env).names.lookup x = some .free)
noncomputable def stComp (own : List Str) (fr : List Nat) (σ : St) : St := List.replicate own.length none ++ fr.map fun i => (σ[i]?).join
section
variable {X : Cx} {pins : List (Addr × Obj)} {σ : St} {H : Hp} {s : Shared} {scope : Scope} {cl : List (Str × Addr)} {own : List Str} {fr : List Nat} {M : List Str}
theorem Inv.comp (I : Inv X pins σ H s) (K : CompOk X scope cl own fr M) {fp : List Addr} (hf : ∀ b ∈ fp, FpOk X pins H b) (ho : ∀ b ∈ fp, ∃ o, s.heap.get? b = some o ∧ ∀ v, o.data ≠ .cell v) {h' : Heap} {m : Str → Option Value} {tk : Nat}
    (hn : h'.Ns s.heap.objs.size m) (hk : ∀ b u, s.heap.get? b = some u → h'.get? b = some u) :
    Inv (cxComp X scope cl s.heap.objs.size s H M fp pins) [] (stComp own fr σ) H { s with heap := h', toks := tk } := by
  have hC : H s.heap.objs.size = none := I.hok.fresh (Nat.le_refl _)
  have ltC : ∀ {b o}, s.heap.get? b = some o → b ≠ s.heap.objs.size := fun e => Nat.ne_of_lt (Heap.lt_size e)
  have neC : ∀ x c, X.env.cells.lookup x = some c → c ≠ s.heap.objs.size := fun x c e => by
    obtain ⟨v, o, q, _⟩ := I.cell x c e
    exact ltC q
  have nfs : ∀ b, b ≠ X.env.locals → b ∉ X.fs → b ∉ frs X.stack := fun b h1 h2 z => (List.mem_cons.mp (I.stkSub b z)).elim h1 h2
  refine ⟨⟨I.ok.mod, K.kind, I.ok.glob, I.ok.blt, Nat.le_refl _, fun x y c h1 h2 => I.ok.inj x y c (K.cls x c h1) (K.cls y c h2), fun x hx => K.has x hx, (fun x c h _ => Bool.noConfusion h), I.ok.hd, I.ok.frames, .inl rfl, fun b hb => ?_, I.bs, Nat.le_trans I.ok.bsz I.sz, fun b o e hb => ?_, fun b hb => ?_, I.stack, I.stkFree⟩,
    rfl, I.bare, Un.kept hk, ⟨m, hn, fun i x v h1 h2 h3 => ?_⟩, fun x c h => ?_, hC, fun x c h => I.freeC x c (K.cls x c h), fun p hp => ?_, I.hok.kept hk, ?_⟩
  · obtain ⟨o, e, _⟩ := ho b hb
    exact ⟨ltC e, fun x c h z => (hf b hb).2.2.2.2.1 x c (K.cls x c h) z⟩
  · have := (hf b hb)
    rcases this.2.2.2.1 with z | z
    · exact I.ok.noex b o e z
    · exact absurd (Nat.lt_of_lt_of_le (Heap.lt_size e) (Nat.le_trans I.ok.bsz z)) (Nat.lt_irrefl _)
  · exact nfs b (hf b hb).2.1 (hf b hb).2.2.1
  · unfold stComp at h2
    by_cases hi : i < own.length
    · rw [List.getElem?_append_left (by simpa using hi), List.getElem?_replicate, if_pos hi] at h2
      cases h2
    · obtain ⟨j, rfl⟩ : ∃ j, i = own.length + j := ⟨i - own.length, by lia⟩
      rw [List.getElem?_append_right (by simp), List.length_replicate, Nat.add_sub_cancel_left, List.getElem?_map] at h2
      cases e : fr[j]? with
      | none => rw [e] at h2; cases h2
      | some k =>
        rw [e] at h2
        have h2' : (σ[k]?).join = some v := Option.some.inj h2
        obtain ⟨q1, q2, ⟨c, q3⟩, q4⟩ := K.from_ j k x e h1
        have h5 : σ[k]? = some (some v) := by
          cases z : σ[k]? with
          | none => rw [z] at h2'; cases h2'
          | some y =>
            rw [z] at h2'
            exact congrArg some h2'
        obtain ⟨m0, _, hl⟩ := I.loc
        obtain ⟨u, r, l⟩ := hl k x v q1 h5 (.inr (.inl q2))
        refine ⟨u, r, .inr ⟨q4, c, q3, ?_⟩⟩
        rcases l with ⟨k1, _⟩ | ⟨_, c', e1, z⟩
        · have k1' : X.env.scope.names.lookup x = some .local := k1
          rw [q2] at k1'; cases k1'
        · have e2 := K.cls x c q3
          rw [e1] at e2; cases e2
          obtain ⟨o, eo, ed⟩ := z
          exact ⟨o, hk _ _ eo, ed⟩
  · obtain ⟨v, o, eo, ed⟩ := I.cell x c (K.cls x c h)
    exact ⟨v, o, hk _ _ eo, ed⟩
  · have hp' : p ∈ X.pn ++ pins := by
      rcases List.mem_append.mp hp with z | z
      · exact z
      · cases z
    obtain ⟨e, n, ne, nf, d⟩ := I.pin p hp'
    exact ⟨hk _ _ e, n, ltC e, nfs _ ne nf, d⟩
  · unfold stComp
    rw [List.length_append, List.length_replicate, List.length_map]
    exact K.len.symm
theorem Inv.uncomp {h : Heap} {s' : Shared} {H' : Hp} {σ' : St} {C : Addr} {fp : List Addr} (I : Inv X pins σ H s) (hf : ∀ b ∈ fp, FpOk X pins H b) (I' : Inv (cxComp X scope cl C s H M fp pins) [] σ' H' s') : Inv X pins σ H' s' :=
  I.call' I'.os I'.base I'.hok I'.bare fun b hb => ⟨(hf b hb).2.2.2.1, (hf b hb).2.1, (hf b hb).2.2.2.2.1, (hf b hb).2.2.2.2.2⟩
noncomputable def tComp (own : List Str) (fr : List Nat) (wi : TI) (g : TG) (te : TE) : TE := fun σ H Q => wi σ H fun J H1 => ∀ D, H1 D = none → ∃ W : Nat → Nat → St → Hp → Prop, (∃ m, W 0 m (stComp own fr σ) (upd H1 D (.lst []))) ∧ ∀ i m σ2 H2, W i m σ2 H2 →
  (J.stop i H2 ∧ Q (.ref D) H2) ∨ (J.go i H2 ∧ ∀ x H3, J.yld i H2 x H3 → g x σ2 H3 fun σ4 H4 => te σ4 H4 fun y H5 => ∃ ys, H5 D = some (.lst ys) ∧ ys.length < sizeLine ∧ ∃ m', m' < m ∧ W (i + 1) m' σ4 (upd H5 D (.lst (ys ++ [y]))))
theorem comp_block {elt tg iter : Expr} {ps : Pos} {g : TG} {te : TE} {it D : Addr} {fp : List Addr} {tn : Nat → Heap → Prop} {J : It} {H1 : Hp} {s3 : Shared} {W : Nat → Nat → St → Hp → Prop} {Qz : Hp → Prop} {Rz : Result → Shared → Prop} {C : Addr}
    (hc : X.calm = true) (K : CompOk X scope cl own fr M) (I3 : Inv X pins σ H1 s3) (T : Turn X.prog X.w X.K tg J fp it tn) (st : tn 0 s3.heap) (hf : ∀ b ∈ fp, FpOk X pins H1 b)
    (hg : PG (cxComp X scope cl C s3 H1 M fp pins) tg g) (he : PE (cxComp X scope cl C s3 H1 M fp pins) elt te)
    (w0 : ∃ m, W 0 m (stComp own fr σ) H1)
    (turn : ∀ i m σ2 H2, W i m σ2 H2 → (J.stop i H2 ∧ Qz H2) ∨ (J.go i H2 ∧ ∀ x H3, J.yld i H2 x H3 → g x σ2 H3 fun σ4 H4 => te σ4 H4 fun y H5 => ∃ ys, H5 D = some (.lst ys) ∧ ys.length < sizeLine ∧ ∃ m', m' < m ∧ W (i + 1) m' σ4 (upd H5 D (.lst (ys ++ [y])))))
    {h' : Heap} {m0 : Str → Option Value} {tk : Nat} (hC : C = s3.heap.objs.size) (hn : h'.Ns C m0) (hk : ∀ b u, s3.heap.get? b = some u → h'.get? b = some u)
    (fin : ∀ s' H' m', Inv X pins σ H' s' → H' C = none → s'.heap.Ns C m' → Qz H' → Rz (.ok .next) s') :
    codeAny (model X.prog X.w) X.A (.compStart (.ListComp elt [⟨tg, iter, [], 0⟩] scope ps) 0 (.ref it) (.ref D) (compEnvC scope cl C X.env)) Rz { s3 with heap := h', toks := tk } := by
  subst hC
  have I4 := I3.comp K hf (T.obj _ _ st) (tk := tk) hn hk
  have st4 : tn 0 h' := T.keep _ _ _ st fun b _ o e => hk b o e
  have stat : ∀ {H' : Hp}, (∀ b ∈ fp, H' b = none) → ∀ b ∈ fp, FpOk (cxComp X scope cl s3.heap.objs.size s3 H1 M fp pins) [] H' b := fun {H'} hz b hb => by
    obtain ⟨o, e, _⟩ := T.obj _ _ st b hb
    obtain ⟨_, f1, f2, f3, f4, f5⟩ := hf b hb
    refine ⟨hz b hb, Nat.ne_of_lt (Heap.lt_size e), fun z => (List.mem_cons.mp (I3.stkSub b z)).elim f1 f2, .inl hb, fun x c h => f4 x c (K.cls x c h), fun p hp => f5 p ?_⟩
    rcases List.mem_append.mp hp with z | z
    · exact z
    · cases z
  have loop : codeAny (model X.prog X.w) X.A (.compLoop (.ListComp elt [⟨tg, iter, [], 0⟩] scope ps) 0 (.ref it) (.ref D) (compEnvC scope cl s3.heap.objs.size X.env)) Rz { s3 with heap := h', toks := tk } := by
    obtain ⟨m, w0⟩ := w0
    refine comp_loop (fun n s' => ∃ i σ' H', Inv (cxComp X scope cl s3.heap.objs.size s3 H1 M fp pins) [] σ' H' s' ∧ tn i s'.heap ∧ (∀ b ∈ fp, H' b = none) ∧ W i n σ' H') (fun n s5 hJ => ?_) m ⟨0, _, H1, I4, st4, fun b hb => (hf b hb).1, w0⟩
    obtain ⟨i, σ5, H5, I5, st5, fr5, w5⟩ := hJ
    rcases turn i n σ5 H5 w5 with ⟨stop, qz⟩ | ⟨go, step⟩
    · refine thn (T.done (cxComp X scope cl s3.heap.objs.size s3 H1 M fp pins) rfl rfl rfl hc i [] s5 σ5 H5 _ I5 (stat fr5) st5 stop) fun r s6 q6 => ?_
      obtain ⟨hr, I6⟩ := q6
      subst hr
      obtain ⟨m6, n6, _⟩ := I6.loc
      exact fin s6 H5 m6 (I3.uncomp (h := h') hf I6) I6.free n6 qz
    · refine thn (T.item (cxComp X scope cl s3.heap.objs.size s3 H1 M fp pins) rfl rfl rfl hc i [] s5 σ5 H5 _ I5 (stat fr5) st5 go) fun r s6 q6 => ?_
      obtain ⟨u, hr, h6⟩ := q6
      subst hr
      refine thn h6 fun _ s7 q7 => ?_
      obtain ⟨x, H7, I7, r7, y7, st7, fr7⟩ := q7
      have I7' := I7.pinned (stat fr7) (T.obj _ _ st7)
      refine thn (hg _ s7 σ5 H7 x u _ I7' r7 (step x H7 y7)) fun _ s8 q8 => ?_
      obtain ⟨σ8, H8, I8, q8⟩ := q8
      refine thn (he _ s8 σ8 H8 _ I8 q8) fun v s9 q9 => ?_
      obtain ⟨y, H9, I9, r9, ys, hD, hz, m', hm, w9⟩ := q9
      refine thn (mt_append (X := cxComp X scope cl s3.heap.objs.size s3 H1 M fp pins) _ s9 σ8 H9 (.ref D) [y] (.ref D) [v] (fun v' H' => v' = .non ∧ H' = upd H9 D (.lst (ys ++ [y]))) I9 rfl (.cons r9 .nil) ⟨D, ys, y, rfl, rfl, hD, hz, rfl, rfl⟩) fun v' s10 q10 => ?_
      obtain ⟨v10, H10, I10, _, rfl, rfl⟩ := q10
      refine ⟨m', hm, i + 1, σ8, _, I10.unpinned, T.keep _ _ _ st7 fun b hb o e => (I10.pin (b, o) (List.mem_append_right _ (List.mem_append_right _ (mem_pinsAt hb e)))).1, fun b hb => ?_, w9⟩
      obtain ⟨o, e, _⟩ := T.obj _ _ st7 b hb
      exact (I10.pin (b, o) (List.mem_append_right _ (List.mem_append_right _ (mem_pinsAt hb e)))).2.1
  exact codeAny_compStart_list loop (T.self X.A 0 _ _ _ st4 loop)
theorem pe_comp {elt tg iter : Expr} {ps : Pos} {wi : TI} {g : TG} {te : TE} (hc : X.calm = true) (hx : X.xe = fun _ _ => False) (K : CompOk X scope cl own fr M) (hi : PI X tg iter wi)
    (hg : ∀ C s3 H1 fp pins, PG (cxComp X scope cl C s3 H1 M fp pins) tg g) (he : ∀ C s3 H1 fp pins, PE (cxComp X scope cl C s3 H1 M fp pins) elt te)
    (hs : ∀ x, foldedSetIterable iter X.env x = pure x := by intro _; rfl) : PE X (.ListComp elt [⟨tg, iter, [], 0⟩] scope ps) (tComp own fr wi g te) := by
  intro pins s σ H Q I h
  rw [eval_ListComp]
  refine wpAny_comprehension_free (use := none) rfl hs K.clos K.kind K.names ?_
  show wpAny _ _ (eval iter X.env) _ _ _
  refine thn (hi pins s σ H _ I h) fun v s1 h1 => thn h1 fun itv s2 h2 => ?_
  obtain ⟨it, fp, tn, J, H2, e, I2, T, st2, f2, hW⟩ := h2
  subst e
  refine wpAny_newObj_type (hd := by size_fits) ?_
  have I3 : Inv X pins σ (upd H2 s2.heap.objs.size (.lst [])) { s2 with heap := s2.heap.push { cls := .type "list", dict := none, data := .seq ([] : List Value).toArray } } := I2.lnew (t' := s2.toks) .nil (Nat.zero_le _)
  obtain ⟨W, w0, turn⟩ := hW s2.heap.objs.size I2.fresh
  have st3 : tn 0 (s2.heap.push { cls := .type "list", dict := none, data := .seq ([] : List Value).toArray }) := T.keep _ _ _ st2 fun b _ o e => Heap.get?_push_of_some _ e
  have f3 : ∀ b ∈ fp, FpOk X pins (upd H2 s2.heap.objs.size (.lst [])) b := fun b hb => by
    obtain ⟨o, e, _⟩ := T.obj _ _ st2 b hb
    obtain ⟨f0, f'⟩ := f2 b hb
    exact ⟨by rw [upd_ne (Nat.ne_of_lt (Heap.lt_size e))]; exact f0, f'⟩
  refine wpAny_newFunctionEnv K.nocell (fun y hy => nomatch hy) (fun h' hns hsb => ?_) K.kind
  have hk : ∀ b u, (s2.heap.push { cls := .type "list", dict := none, data := .seq ([] : List Value).toArray }).get? b = some u → h'.get? b = some u := fun b u e =>
    hsb.extBut b u (Nat.ne_of_lt (Heap.lt_size e)) (Heap.get?_push_of_some _ e)
  refine comp_block (g := g) (te := te) (W := W) (Qz := fun H' => Q (.ref s2.heap.objs.size) H') hc K I3 T st3 f3 (hg _ _ _ _ _) (he _ _ _ _ _) w0 turn rfl hns hk fun s' H' m' J1 hCn hnC qz => ?_
  refine ⟨m', hnC, fun h2 sb => ⟨.ref s2.heap.objs.size, H', ?_, rfl, qz⟩⟩
  obtain ⟨_, f1, _, f3', f4, f5⟩ := I3.fpOk (H' := H') (Nat.le_refl _) hCn
  exact J1.turned (t' := s'.toks) (fun b o hb e => sb.extBut b o hb e) hCn f1 f3' f4 f5
theorem ps_comp {i : Nat} {y : Str} {py : Pos} {elt tg iter : Expr} {ps spos : Pos} {wi : TI} {g : TG} {te : TE} (hN : X.N.Nodup) (hi0 : X.N[i]? = some y) (hc : X.calm = true) (hx : X.xe = fun _ _ => False) (K : CompOk X scope cl own fr M) (hi : PI X tg iter wi)
    (hg : ∀ C s3 H1 fp pins, PG (cxComp X scope cl C s3 H1 M fp pins) tg g) (he : ∀ C s3 H1 fp pins, PE (cxComp X scope cl C s3 H1 M fp pins) elt te)
    (hy : X.env.scope.names.lookup y = some .local)
    (hsw : swapsWith (.ListComp elt [⟨tg, iter, [], 0⟩] scope ps) (some (.Name y py)) spos.line X.env = pure true := by rfl)
    (hs : ∀ x, foldedSetIterable iter X.env x = pure x := by intro _; rfl) : PS X (.Assign [.Name y py] (.ListComp elt [⟨tg, iter, [], 0⟩] scope ps) spos) (tAsg (tComp own fr wi g te) (gName i)) := by
  intro pins s σ H D I h
  rw [exec_Assign_Name_used _ _ _ _ hsw]
  refine wpAny_bind (wpAny_standAt (wpAny_bind ?_))
  show wpAny _ _ (do let _ ← comprehension (.ListComp elt [⟨tg, iter, [], 0⟩] scope ps) scope X.env _ (newList []) false (eval iter X.env) (some (assign (.Name y py) X.env))) _ _ s
  refine wpAny_bind (thn (Q := fun _ s' => SP X pins D .next s') (wpAny_comprehension_free (use := some (assign (.Name y py) X.env)) rfl hs K.clos K.kind K.names ?_) fun _ s' q => wpAny_pure (wpAny_pure q))
  refine thn (hi pins s σ H _ I h) fun v s1 h1 => thn h1 fun itv s2 h2 => ?_
  obtain ⟨it, fp, tn, J, H2, e, I2, T, st2, f2, hW⟩ := h2
  subst e
  refine wpAny_newObj_type (hd := by size_fits) ?_
  have I3 : Inv X pins σ (upd H2 s2.heap.objs.size (.lst [])) { s2 with heap := s2.heap.push { cls := .type "list", dict := none, data := .seq ([] : List Value).toArray } } := I2.lnew (t' := s2.toks) .nil (Nat.zero_le _)
  obtain ⟨W, w0, turn⟩ := hW s2.heap.objs.size I2.fresh
  have st3 : tn 0 (s2.heap.push { cls := .type "list", dict := none, data := .seq ([] : List Value).toArray }) := T.keep _ _ _ st2 fun b _ o e => Heap.get?_push_of_some _ e
  have f3 : ∀ b ∈ fp, FpOk X pins (upd H2 s2.heap.objs.size (.lst [])) b := fun b hb => by
    obtain ⟨o, e, _⟩ := T.obj _ _ st2 b hb
    obtain ⟨f0, f'⟩ := f2 b hb
    exact ⟨by rw [upd_ne (Nat.ne_of_lt (Heap.lt_size e))]; exact f0, f'⟩
  refine wpAny_newFunctionEnv K.nocell (fun y hy => nomatch hy) (fun h' hns hsb => ?_) K.kind
  have hk : ∀ b u, (s2.heap.push { cls := .type "list", dict := none, data := .seq ([] : List Value).toArray }).get? b = some u → h'.get? b = some u := fun b u e =>
    hsb.extBut b u (Nat.ne_of_lt (Heap.lt_size e)) (Heap.get?_push_of_some _ e)
  refine comp_block (g := g) (te := te) (W := W) (Qz := fun H' => gName i (.ref s2.heap.objs.size) σ H' D.nx) hc K I3 T st3 f3 (hg _ _ _ _ _) (he _ _ _ _ _) w0 turn rfl hns hk fun s' H' m' J1 hCn hnC qz => ?_
  show wpAny _ _ (assign (.Name y py) X.env (.ref s2.heap.objs.size)) _ _ s'
  obtain ⟨_, f1, _, f3', f4, f5⟩ := I3.fpOk (H' := H') (Nat.le_refl _) hCn
  refine wpAny_assign_Name (store_ok2 J1 hN hi0 (.inl hy) (v := .ref s2.heap.objs.size) rfl (fun s4 J2 sb => ?_) (.inr hy))
  obtain ⟨a, sa, hca⟩ := sb
  have hne : (s2.heap.push { cls := .type "list", dict := none, data := .seq ([] : List Value).toArray }).objs.size ≠ a := by
    rcases hca with z | z
    · rw [z]; exact f1
    · exact fun e => f4 y a z e.symm
  refine ⟨m', hnC.sameBut sa hne, fun h2 sb2 => ⟨_, H', ?_, qz⟩⟩
  exact J2.turned (t' := s4.toks) (fun b o hb e => sb2.extBut b o hb e) hCn f1 f3' f4 f5
end
end L2
namespace L2
open PySem PySem.Spec PyProof.Rows
section
variable {X : Cx}
theorem call_sumI (hc : X.calm = true) : CallR X (.builtin "sum") (fun xs H Q => ∃ (p : Addr) (ns : List Int), xs = [.ref p] ∧ SqL X.K H p (ns.map V.int) ∧ Q (.int ns.sum) H) := by
  intro pins s σ H xs us Q I r h
  obtain ⟨p, ns, rfl, hp, q⟩ := h
  obtain ⟨u, rfl, rx⟩ := vals1 r
  cases rx
  obtain ⟨its, rv, pl, hz⟩ := I.list hp
  have hi : IntsAre its ns := intsAre_of rv
  obtain ⟨ys, hx⟩ := hi.allInts.items
  have hl' : s.heap.IsList p (intItems ys) := hx ▸ pl.isList
  refine sum_intListG (I.ok.hd hc) hl' fun h' tk t' hk => ?_
  have e1 : ns = ys.toList.map (·.1) := by
    rw [← nums_intItems, ← hx]
    exact (show numsOf its.toArray.toList = ns from hi.numsOf).symm
  have e2 : preSum (numAt ys) ys.size = ns.sum := by
    rw [preSum_eq, e1, List.take_of_length_le (by simp)]
  rw [e2]
  exact ⟨.int ns.sum, H, I.kept hk, ⟨t', rfl⟩, q⟩
end
end L2
namespace L2
open PySem PySem.Spec PyProof.Rows
noncomputable def ClOk (env : Env) : List (Str × Addr) → Prop
  | [] => True
  | p :: r => env.cells.lookup p.1 = some p.2 ∧ ClOk env r
noncomputable def FrOk (X : Cx) (scope : Scope) (cl : List (Str × Addr)) : List Nat → List Str → Prop
  | [], [] => True
  | i :: r, x :: y => (X.N[i]? = some x ∧ X.env.scope.names.lookup x = some .cell ∧ (cl.lookup x).isSome = true ∧ ((relabel scope X.env).names.lookup x = some .cell ∨ (relabel scope X.env).names.lookup x = some .free)) ∧ FrOk X scope cl r y
  | _, _ => False
theorem ClOk.get {env : Env} : ∀ {cl : List (Str × Addr)}, ClOk env cl → ∀ x c, cl.lookup x = some c → env.cells.lookup x = some c
  | [], _, x, c, h => by simp at h
  | (y, d) :: r, k, x, c, h => by
    rw [List.lookup_cons] at h
    cases e : x == y with
    | true =>
      rw [e] at h
      have e1 : x = y := eq_of_beq e
      have e2 : d = c := Option.some.inj h
      rw [e1, ← e2]; exact k.1
    | false =>
      rw [e] at h
      exact ClOk.get k.2 x c h
theorem FrOk.len {X : Cx} {scope : Scope} {cl : List (Str × Addr)} : ∀ {fr : List Nat} {fs : List Str}, FrOk X scope cl fr fs → fr.length = fs.length
  | [], [], _ => rfl
  | _ :: r, _ :: y, h => congrArg Nat.succ (FrOk.len (fr := r) (fs := y) h.2)
  | [], _ :: _, h => h.elim
  | _ :: _, [], h => h.elim
theorem FrOk.get {X : Cx} {scope : Scope} {cl : List (Str × Addr)} : ∀ {fr : List Nat} {fs : List Str}, FrOk X scope cl fr fs → ∀ (j i : Nat) x, fr[j]? = some i → fs[j]? = some x →
    X.N[i]? = some x ∧ X.env.scope.names.lookup x = some .cell ∧ (∃ c, cl.lookup x = some c) ∧ ((relabel scope X.env).names.lookup x = some .cell ∨ (relabel scope X.env).names.lookup x = some .free)
  | [], [], _, j, i, x, h, _ => by simp at h
  | k :: r, z :: y, H, 0, i, x, h1, h2 => by
    simp at h1 h2
    subst h1 h2
    exact ⟨H.1.1, H.1.2.1, Option.isSome_iff_exists.mp H.1.2.2.1, H.1.2.2.2⟩
  | k :: r, z :: y, H, j + 1, i, x, h1, h2 => FrOk.get (fr := r) (fs := y) H.2 j i x (by simpa using h1) (by simpa using h2)
  | [], _ :: _, h, _, _, _, _, _ => h.elim
  | _ :: _, [], h, _, _, _, _, _ => h.elim
theorem compOk {X : Cx} {scope : Scope} {cl : List (Str × Addr)} {own fs : List Str} {fr : List Nat} (clos : closureFor scope X.env = pure cl) (kind : scope.kind = .function)
    (names : ∀ x ∈ scope.names, x.2 = .local → scope.names.lookup x.1 = some .local) (nocell : ∀ x ∈ scope.names, x.2 ≠ .cell) (c : ClOk X.env cl)
    (h : ((relabel scope X.env).names.all fun p => !(p.2 == .cell || p.2 == .free) || (cl.lookup p.1).isSome) = true) (f : FrOk X scope cl fr fs) : CompOk X scope cl own fr (own ++ fs) where
  clos := clos
  kind := kind
  names := names
  nocell := nocell
  cls := c.get
  has := fun x hx => by
    have hm : ∃ k, (x, k) ∈ (relabel scope X.env).names ∧ (k = .cell ∨ k = .free) := by
      rcases hx with z | z
      · exact ⟨_, PySem.mem_of_lookup z, .inl rfl⟩
      · exact ⟨_, PySem.mem_of_lookup z, .inr rfl⟩
    obtain ⟨k, hk, hkk⟩ := hm
    have := List.all_eq_true.mp h (x, k) hk
    rcases hkk with rfl | rfl
    · exact Option.isSome_iff_exists.mp (by simpa using this)
    · exact Option.isSome_iff_exists.mp (by simpa using this)
  len := by rw [List.length_append, f.len]
  ownl := fun i x hi => by
    rw [List.getElem?_append_left (List.getElem?_eq_some_iff.mp hi).1]; exact hi
  from_ := fun j i x h1 h2 => by
    rw [List.getElem?_append_right (Nat.le_add_right _ _), Nat.add_sub_cancel_left] at h2
    exact f.get j i x h1 h2
section
variable {own : List Str} {fr : List Nat} {g : TG} {te : TE} {σ : St} {H1 : Hp} {Q : VK}
end
theorem while_go {c : TT} {tb : TS} {D : Ends} {σ : St} {H : Hp} (Pv : Nat → St → Hp → Prop) (h0 : ∃ m, Pv m σ H)
    (hs : ∀ m σ H, Pv m σ H → c σ H fun b H1 => if b = true then ∃ N : St → Hp → Prop, (∀ σ' H', N σ' H' → ∃ m', m' < m ∧ Pv m' σ' H') ∧ tb { D with nx := N, ct := N, bk := D.nx } σ H1 else D.nx σ H1) : tWhile c tb D σ H := ⟨Pv, h0, hs⟩
section
variable {σ : St} {H : Hp} {R : It → Hp → Prop} {tl : TE} {tr : TA} {Q : VK}
theorem r_ilist {K : PySem.W.Frag} (h : tl σ H fun x H1 => ∃ a, x = .ref a ∧ (∃ xs, SqL K H1 a xs) ∧ R (Itl K a) H1) : iList K tl σ H R := h
theorem r_rng1 (h : tr σ H fun vs H1 => ∃ j : Int, vs = [.int j] ∧ -(2 ^ 62) ≤ j ∧ j < 2 ^ 62 ∧ R (Itr 0 j.toNat) H1) : iRng1 tr σ H R := h
theorem r_rng2 (h : tr σ H fun vs H1 => ∃ i j : Int, vs = [.int i, .int j] ∧ (-(2 ^ 62) ≤ i ∧ i < 2 ^ 62 ∧ -(2 ^ 62) ≤ j ∧ j < 2 ^ 62) ∧ R (Itr i (j - i).toNat) H1) : iRng2 tr σ H R := h
theorem r_ienum {K : PySem.W.Frag} (h : tr σ H fun vs H1 => ∃ a, vs = [.ref a] ∧ (∃ xs, SqL K H1 a xs) ∧ R (Ite K a) H1) : iEnum K tr σ H R := h
theorem r_irev {K : PySem.W.Frag} (h : tr σ H fun vs H1 => ∃ a xs, vs = [.ref a] ∧ SqL K H1 a xs ∧ R (Itv K a xs.length) H1) : iRev K tr σ H R := h
theorem r_part {te : TE} {S : Option Int → Hp → Prop} (h : te σ H fun x H1 => ∃ i, x = .int i ∧ S (some i) H1) : tPart te σ H S := h
theorem r_nopart {S : Option Int → Hp → Prop} (h : S none H) : tNoPart σ H S := h
theorem r_slice {r : V → Option Int → Option Int → Hp → VK → Prop} {tlo thi : TO} (h : tl σ H fun x H1 => tlo σ H1 fun l H2 => thi σ H2 fun u H3 => r x l u H3 Q) : tSl r tl tlo thi σ H Q := h
theorem r_sub {to ti : TE} {t : TSet} {v : V} {S : St → Hp → Prop} (h : to σ H fun o H1 => ti σ H1 fun i H2 => t o i v H2 fun H3 => S σ H3) : gSub to ti t v σ H S := h
end
end L2
namespace SF
open Lean.Grind
section
variable {R : Type} [CommRing R]
noncomputable def sumN (f : Nat → R) : Nat → R
  | 0 => 0
  | n + 1 => sumN f n + f n
end
end SF
namespace SF
noncomputable def Bd (n : Nat) (x : Int) : Prop := x.natAbs < 2 ^ n
theorem Bd.log2 {n : Nat} {x : Int} (h : Bd n x) (hn : n ≤ 9000) : x.natAbs.log2 < 9000 := by
  unfold Bd at h
  rcases Nat.eq_zero_or_pos x.natAbs with h0 | hp
  · rw [h0]; decide
  · exact (Nat.log2_lt (Nat.ne_of_gt hp)).mpr (Nat.lt_of_lt_of_le h (Nat.pow_le_pow_right (by decide) hn))
theorem Bd.of_range {n : Nat} {x : Int} (h1 : 0 ≤ x) (h2 : x < 2 ^ n) : Bd n x := by
  unfold Bd
  have e : ((2 : Int) ^ n) = ((2 ^ n : Nat) : Int) := by simp
  rw [e] at h2
  lia
theorem fmod_pos {g l : Int} (hl : 0 < l) : g.fmod l = g % l := Int.fmod_eq_emod_of_nonneg g (by lia)
theorem gcd_turn {g l : Int} (hg : 0 ≤ g) (hl : 0 < l) : Int.gcd l (g % l) = Int.gcd g l := by
  obtain ⟨m, rfl⟩ := Int.eq_ofNat_of_zero_le hg
  obtain ⟨n, rfl⟩ := Int.eq_ofNat_of_zero_le (show 0 ≤ l by lia)
  have e : ((m : Int) % (n : Int)) = ((m % n : Nat) : Int) := by simp
  rw [e]
  show Nat.gcd n (m % n) = Nat.gcd m n
  rw [Nat.gcd_comm m n, Nat.gcd_rec n m, Nat.gcd_comm]
theorem gcd_abs {a b : Int} : Int.gcd (if a < 0 then -a else a) (if b < 0 then -b else b) = Int.gcd a b := by
  split <;> split <;> simp [Int.gcd_neg, Int.neg_gcd]
theorem gcd_end {g : Int} (hg : 0 ≤ g) : ((Int.gcd g 0 : Nat) : Int) = g := by
  rw [Int.gcd_zero_right]; lia
noncomputable def rs (a b : Int) : Int := if b < 0 then -((Int.gcd a b : Nat) : Int) else ((Int.gcd a b : Nat) : Int)
noncomputable def rt (a b : Int) : Int := a.fdiv (rs a b)
noncomputable def ru (a b : Int) : Int := b.fdiv (rs a b)
structure Low (p q a b : Int) : Prop where
  pos : 0 < q
  cross : p * b = a * q
  low : Int.gcd p q = 1
end SF
namespace SF
open Lean.Grind
noncomputable def co (xs : List Int) (i : Nat) : Int := xs.getD i 0
end SF
namespace SF
noncomputable def contN (xs : List Int) : Nat := xs.foldl (fun g x => Int.gcd g x) 0
noncomputable def cont (xs : List Int) : Int := if co xs (xs.length - 1) < 0 then -((contN xs : Nat) : Int) else ((contN xs : Nat) : Int)
noncomputable def hv (t u : Int) (xs : List Int) : Int := sumN (fun i => co xs i * (t ^ i * u ^ (xs.length - 1 - i))) xs.length
end SF
namespace SF
end SF
namespace L2
open PySem PySem.Spec PyProof.Rows
section
variable {X : Cx} {K : PySem.W.Frag} {pos : Pos}
theorem ix_listK (h : X.K = K) : IxR X (rIxL K) := by subst h; exact ix_list
theorem pg_tupK {es : List Expr} {k : Nat} {t : TGs} {n : Nat} (hK : X.K = K) (hc : X.calm = true) (h : PGs X es t)
    (hn : (assignEach es X.env).length = n) (hst : (assignEach es X.env).findIdx? (·.1) = none) : PG X (.Tuple es k pos) (gTup K n t) := by subst hK; exact pg_tup hc h hn hst
end
section
variable {K : PySem.W.Frag} {own : List Str} {fr : List Nat} {g : TG} {te : TE} {σ : St} {H1 : Hp} {Q : VK}
end
end L2
namespace PySem
open Sem (wp)
namespace F
theorem nolen_lri : typeLookup (.type "list_reverseiterator") "__len__" = pure none := by rw [typeLookup_type, builtinLookup_eq_fast]; kernel_rfl
theorem hint_lri : typeLookup (.type "list_reverseiterator") "__length_hint__" = pure (some (.builtin "list_reverseiterator.__length_hint__")) := by rw [typeLookup_type, builtinLookup_eq_fast]; kernel_rfl
end F
section
variable {prog : Program} {w : World} {A : Around} {E : Value → Shared → Prop} {s : Shared}
theorem rev_hint {I : Addr} {Q : Bool → Shared → Prop} (hT : s.TypeIs (.ref I) "list_reverseiterator") (h : Q false s) : wpAny (model prog w) A (Builtin.List.listLengthHint (.ref I)) Q E s := by
  unfold Builtin.List.listLengthHint
  refine wpAny_bind (wpAny_specialOf hT F.nolen_lri ?_)
  show wpAny _ _ (specialOf (Value.ref I) (Str.ofString "__length_hint__") >>= _) _ _ _
  refine wpAny_bind (wpAny_specialOf hT F.hint_lri ?_)
  (generalize hid : ("list_reverseiterator.__length_hint__" : String) = id0; wp_delta; rw [show splitId id0 = some ("list_reverseiterator", "__length_hint__") from by subst hid; decide +kernel]; subst hid)
  refine wpAny_bind (wpAny_isInstance (b := true) hT (by rw [isSubtype_type]; kernel_rfl) ?_)
  exact wpAny_pure h
theorem list_of_rev {I l : Addr} {items : Array Value} {Q : Value → Shared → Prop} (hh : A.handled = none) (hit : s.heap.IsRevIter I l ((items.size : Int) - 1)) (hl : s.heap.IsList l items) (hne : l ≠ I) (hn : items.size ≤ sizeLine)
    (hQ : ∀ h' tk acc' c', (∀ b o, b ≠ I → s.heap.get? b = some o → h'.get? b = some o) → h'.get? s.heap.objs.size = some { cls := .type "list", dict := none, data := .seq acc' c', slots := #[] } →
      ItemsOf (fun i v => items[items.size - 1 - i]? = some v) acc' items.size → Q (.ref s.heap.objs.size) { s with heap := h', toks := tk }) :
    wpAny (model prog w) A (call (.type "list") [.ref I]) Q E s := by
  refine callType_codes (Q₁ := fun obj s₁ => obj = .ref s.heap.objs.size ∧ s₁ = { s with heap := s.heap.push { cls := .type "list", data := .seq #[] } }) PySem.F.called_list (PySem.F.typeCall_list_1 _) PySem.F.entry_list_init
    (code_list_new _ ⟨rfl, rfl⟩) fun obj s₁ h₁ => ?_
  obtain ⟨rfl, rfl⟩ := h₁
  have hS : (s.heap.push { cls := .type "list", data := .seq #[] }).get? s.heap.objs.size = some { cls := .type "list", data := .seq #[] } := Heap.get?_push_size _ rfl
  have hI : I < s.heap.objs.size := let ⟨_, e, _⟩ := hit; Heap.lt_size e
  have hlt : l < s.heap.objs.size := let ⟨_, e, _⟩ := hl; Heap.lt_size e
  refine ⟨⟨_, hS, rfl⟩, PySem.F.args_list_init_2 _ _, ?_⟩
  show wpAny _ _ (do let old ← Builtin.List.listItems (.ref s.heap.objs.size); Builtin.List.listUpdate (.ref s.heap.objs.size) (fun _ => #[]); letGo old.toList.reverse; Builtin.List.listExtendWith (.ref s.heap.objs.size) (.ref I) .none) _ _ _
  generalize hS0 : s.heap.objs.size = S at hS ⊢
  generalize hh1 : s.heap.push { cls := .type "list", data := .seq #[] } = h1 at hS ⊢
  have k1 : ∀ b o, s.heap.get? b = some o → h1.get? b = some o := fun b o e => by rw [← hh1]; exact Heap.get?_push_of_some _ e
  refine wpAny_bind ?_
  unfold Builtin.List.listItems
  refine wpAny_bind (wpAny_seqItems hS rfl (wpAny_pure ?_))
  show wpAny _ _ (updateSeq S (fun _ => #[]) >>= fun _ => letGo (#[] : Array Value).toList.reverse >>= fun _ => Builtin.List.listExtendWith (.ref S) (.ref I) .none) _ _ _
  refine wpAny_bind (wpAny_updateSeq hS rfl ?_)
  have hS₂ := Heap.get?_update_self (Obj.mapSeq (fun _ => (#[] : Array Value))) hS rfl
  have oth : ∀ b o, b ≠ S → h1.get? b = some o → (h1.update S (Obj.mapSeq (fun _ => (#[] : Array Value)))).get? b = some o :=
    fun b o hb e => (Heap.get?_update_other _ _ (Ne.symm hb)).trans e
  refine wpAny_bind (wpAny_letGo ?_)
  have hSI : S ≠ I := fun e => by rw [← e, ← hS0] at hI; exact Nat.lt_irrefl _ hI
  have hSl : S ≠ l := fun e => by rw [← e, ← hS0] at hlt; exact Nat.lt_irrefl _ hlt
  generalize hh2 : h1.update S (Obj.mapSeq (fun _ => (#[] : Array Value))) = h2 at hS₂ oth ⊢
  have hit2 : h2.IsRevIter I l ((items.size : Int) - 1) := hit.at fun o e => oth _ _ hSI.symm (k1 _ _ e)
  have hl2 : h2.IsList l items := hl.at fun o e => oth _ _ hSl.symm (k1 _ _ e)
  have W := Walks.listRev (prog := prog) (w := w) (A := A.in1.in1) hh I l hne items
  have e0 : (items.size : Int) - 1 - ((0 : Nat) : Int) = (items.size : Int) - 1 := by lia
  have st0 : (0 : Nat) ≤ items.size ∧ h2.IsRevIter I l ((items.size : Int) - 1 - ((0 : Nat) : Int)) ∧ h2.IsList l items := by
    rw [e0]; exact ⟨Nat.zero_le _, hit2, hl2⟩
  unfold Builtin.List.listExtendWith
  refine wpAny_bind (wpAny_typeOf (T := "list_reverseiterator") hit2.typeIs ?_)
  have h3 : Builtin.List.listSameRef (.ref S) (.ref I) = false := by simp [Builtin.List.listSameRef, hSI]
  rw [if_neg (by rw [h3]; decide)]
  refine wpAny_bind (wpAny_pyIter_revIter hit2 ?_)
  refine wpAny_bind (wpAny_holding (rev_hint hit2.typeIs ?_))
  rw [if_neg (by decide)]
  refine wpAny_pure ⟨plainId_quiet PySem.F.plain_extend_loop _, ?_⟩
  obtain ⟨c3, hS3⟩ : ∃ c, h2.get? S = some { cls := .type "list", dict := none, data := .seq #[] c, slots := #[] } := ⟨_, hS₂⟩
  refine codeAny_extend_loopS W.toS hn S (by simp only [List.mem_cons, List.not_mem_nil, or_false, not_or]; exact ⟨hSI, hSl⟩) .none items.size 0 { s with heap := h2 } #[] c3 rfl (Nat.zero_le _) st0 hS3 (ItemsOf.nil _) fun s' acc' c' hm hS' hacc => ?_
  rw [Moved.eq_with hm]
  subst hS0
  refine ⟨rfl, hQ s'.heap s'.toks acc' c' (fun b o hb e => hm.heap b o (fun hmem => ?_) (oth b o ?_ (k1 b o e))) hS' hacc⟩
  · rcases List.mem_cons.mp hmem with e' | hmem
    · have := Heap.lt_size e; rw [e'] at this; exact Nat.lt_irrefl _ this
    · exact hb (List.mem_singleton.mp hmem)
  · intro z
    have := Heap.lt_size e; rw [z] at this; exact Nat.lt_irrefl _ this
theorem iter_items {l : Addr} {items : Array Value} {Q : Value → Shared → Prop} (hl : s.heap.IsList l items)
    (h : ∀ s₂ : Shared, s₂ = { s with heap := s.heap.push { cls := .type "list_iterator", data := .fields #[.ref l, .int 0 0] } } →
      (s₂.heap.IsListIter s.heap.objs.size l 0 ∧ s₂.heap.IsList l items) → l ≠ s.heap.objs.size → Q (.ref s.heap.objs.size) s₂) :
    wpAny (model prog w) A (pyIter (.ref l)) Q E s := by
  have hlt : l < s.heap.objs.size := by obtain ⟨_, e, _⟩ := hl; exact Heap.lt_size e
  exact wpAny_pyIter_list hl (h _ rfl ⟨⟨_, Heap.get?_push_size _ rfl, rfl, rfl⟩, hl.push _⟩ (Nat.ne_of_lt hlt))
end
end PySem
namespace L2
open PySem PySem.Spec PyProof.Rows
section
variable {X : Cx}
theorem call_anyI (hc : X.calm = true) : CallR X (.builtin "any") (fun xs H Q => ∃ (p : Addr) (ns : List Int), xs = [.ref p] ∧ SqL X.K H p (ns.map V.int) ∧ Q (.bl (ns.any (· != 0))) H) := by
  intro pins s σ H xs us Q I r h
  obtain ⟨p, ns, rfl, hp, q⟩ := h
  obtain ⟨u, rfl, rx⟩ := vals1 r
  cases rx
  obtain ⟨its, rv, pl, hz⟩ := I.list hp
  have hlen := rv.length
  rw [List.length_map] at hlen
  refine call_any_walk (iter_items pl.isList fun s₂ e st hlI => ?_)
  subst e
  refine ⟨_, _, _, _, _, _, fun i => (ns.getD i 0) != 0, rfl, Walks.list (A := X.A.in1) (I.ok.hd hc) _ p hlI its.toArray, st, ?_, fun h' tk hk => ?_⟩
  · intro i v s' Q' E' hv hQ'
    have hv' : its[i]? = some v := by simpa using hv
    have hi : i < its.length := (List.getElem?_eq_some_iff.mp hv').1
    obtain ⟨t, e⟩ := int_at rv (j := i) (by lia) hi
    rw [List.getElem?_eq_getElem hi, e] at hv'
    cases hv'
    have hQ2 : Q' (ns.getD i 0 != 0) s' := hQ'
    rw [List.getD_eq_getElem?_getD, List.getElem?_eq_getElem (by lia)] at hQ2
    exact truthy_int hQ2
  · have e : (List.range its.toArray.size).any (fun i => (ns.getD i 0) != 0) = ns.any (· != 0) := by
      rw [List.size_toArray, ← hlen, Bool.eq_iff_iff, List.any_eq_true, List.any_eq_true]
      constructor
      · rintro ⟨i, hi, h⟩
        have hi := List.mem_range.mp hi
        rw [List.getD_eq_getElem?_getD, List.getElem?_eq_getElem hi] at h
        exact ⟨_, List.getElem_mem hi, h⟩
      · rintro ⟨x, hx, h⟩
        obtain ⟨i, hi, rfl⟩ := List.getElem_of_mem hx
        refine ⟨i, List.mem_range.mpr hi, ?_⟩
        rw [List.getD_eq_getElem?_getD, List.getElem?_eq_getElem hi]
        exact h
    rw [e]
    exact ⟨.bl _, H, I.kept (old_kept hk), rfl, q⟩
theorem call_maxI (hc : X.calm = true) : CallR X (.builtin "max") (fun xs H Q => ∃ (p : Addr) (ns : List Int), xs = [.ref p] ∧ SqL X.K H p (ns.map V.int) ∧ ns ≠ [] ∧ ∀ m, m ∈ ns → (∀ x ∈ ns, x ≤ m) → Q (.int m) H) := by
  intro pins s σ H xs us Q I r h
  obtain ⟨p, ns, rfl, hp, hne, q⟩ := h
  obtain ⟨u, rfl, rx⟩ := vals1 r
  cases rx
  obtain ⟨its, rv, pl, hz⟩ := I.list hp
  have hi : IntsAre its ns := intsAre_of rv
  obtain ⟨ys, e⟩ := hi.allInts.items
  have hns : ns = ys.toList.map (·.1) := by
    rw [← hi.numsOf, ← nums_intItems, ← e]
  have hsz : 0 < ys.size := by
    have h3 := List.length_pos_iff.mpr hne
    rw [hns, List.length_map, Array.length_toList] at h3; exact h3
  have hl' : s.heap.IsList p (intItems ys) := e ▸ pl.isList
  refine max_intList (I.ok.hd hc) hl' hsz fun v h' tk hv hk => ?_
  obtain ⟨t, rfl⟩ := intItems_at hv
  obtain ⟨h1, h2⟩ := argBest_gt (numAt ys) (ys.size - 1)
  refine ⟨.int _, H, I.kept hk, ⟨t, rfl⟩, q _ ?_ fun a ha => ?_⟩
  · rw [hns, numAt_eq]; exact getD_mem (by rw [List.length_map, Array.length_toList]; lia)
  · rw [hns] at ha
    obtain ⟨j, hj, rfl⟩ := mem_getD ha
    rw [List.length_map, Array.length_toList] at hj
    rw [← numAt_eq]; exact h2 j (by lia)
theorem vals_rev : ∀ {xs : List V} {us : List Value}, Vals xs us → Vals xs.reverse us.reverse
  | _, _, .nil => .nil
  | _, _, .cons a b => by
    rw [List.reverse_cons, List.reverse_cons]
    exact (vals_rev b).append (.cons a .nil)
noncomputable def tRevL (K : PySem.W.Frag) (ta : TA) : TE := fun σ H Q => ta σ H fun vs H1 => ∃ (p : Addr) (ys : List V), vs = [.ref p] ∧ SqL K H1 p ys ∧ ∀ l, H1 l = none → Q (.ref l) (upd H1 l (.lst ys.reverse))
theorem pe_revL {a : Expr} {ta : TA} {p p' pos pos' : Pos} (hc : X.calm = true) (hg : Gl X "reversed") (hm : X.mg "reversed" = none) (hg' : Gl X "list") (hm' : X.mg "list" = none) (ha : PA X [a] ta)
    (hs : starEach [a] X.env = [(false, eval a X.env)] := by rfl) (hs' : starEach [Expr.Call (.Name "reversed" p) [a] [] pos] X.env = [(false, eval (Expr.Call (.Name "reversed" p) [a] [] pos) X.env)] := by rfl) :
    PE X (.Call (.Name "list" p') [.Call (.Name "reversed" p) [a] [] pos] [] pos') (tRevL X.K ta) := by
  intro pins s σ H Q I h
  refine wpAny_Call_Name_kw (ld_blt I hg' hm' boot_list ?_)
  refine PyProof.Rows.callWith_type1 ?_ hs' rfl
  rw [hs']
  show wpAny _ _ (spliced [(false, eval (Expr.Call (.Name "reversed" p) [a] [] pos) X.env)]) _ _ _
  refine Calls.spliced_cons ?_
  refine Call_ (ld_blt I hg hm boot_reversed (PyProof.Rows.callWith_type1 (thn (ha pos pins s σ H _ I h) fun us s1 q1 => ?_) hs rfl))
  obtain ⟨vs, H1, I1, r1, l, ys, rfl, hq, q⟩ := q1
  obtain ⟨u, rfl, rx⟩ := vals1 r1
  cases rx
  obtain ⟨its, rv, pl, hz⟩ := I1.list hq
  have hlen := rv.length
  refine call_reversed_list pl.isList ?_
  refine Calls.spliced_nil ?_
  have hlt : l < s1.heap.objs.size := by obtain ⟨_, e, _⟩ := pl.isList; exact Heap.lt_size e
  have hz2 : its.toArray.size ≤ sizeLine := by rw [List.size_toArray]; lia
  refine list_of_rev (items := its.toArray) (I.ok.hd hc) ⟨_, Heap.get?_push_size _ rfl, rfl, rfl⟩ (pl.isList.push _) (Nat.ne_of_lt hlt) hz2 fun h' tk acc' c' hk hS hacc => ?_
  have hk' : ∀ b o, s1.heap.get? b = some o → h'.get? b = some o := fun b o e => hk b o (Nat.ne_of_lt (Heap.lt_size e)) (Heap.get?_push_of_some _ e)
  have hsz : s1.heap.objs.size ≤ (s1.heap.push (revObj l ((its.toArray.size : Int) - 1))).objs.size := by rw [Heap.size_push]; lia
  have hacc1 : acc'.size = its.toArray.size := hacc.1
  have rr : Vals ys.reverse acc'.toList := by
    have e : acc'.toList = its.reverse := by
      refine List.ext_getElem ?_ fun i h1 h2 => ?_
      · rw [Array.length_toList, hacc1, List.size_toArray, List.length_reverse]
      · have h3 : i < acc'.size := by simpa using h1
        have := hacc.2 i acc'[i] (by simp [h3])
        have h4 : its.toArray.size - 1 - i < its.length := by rw [List.size_toArray]; rw [hacc1, List.size_toArray] at h3; lia
        have h5 : its[its.toArray.size - 1 - i]? = some acc'[i] := by simpa using this
        rw [List.getElem?_eq_getElem h4] at h5
        rw [List.getElem_reverse]
        simp only [Array.getElem_toList]
        rw [← Option.some.inj h5]
        simp
    rw [e]
    exact vals_rev rv
  refine ⟨.ref _, _, I1.laid (t' := tk) hk' hsz (show ObjOk X.prog X.w _ h' _ (.lst ys.reverse) from ⟨by rw [List.length_reverse]; exact hz, acc'.toList, c', rr, by rw [Array.toArray_toList]; exact hS⟩), rfl, q _ (I1.hok.fresh hsz)⟩
end
end L2
namespace L2
open PySem PySem.Spec PyProof.Rows
structure Dv (X : Cx) : Prop where
  tree : X.prog.given.tree = none
  top : ∃ (env : Env) (l : List Env), X.stack = env :: l ∧ env.scope.isGenerator = false ∧ env.scope.isCoroutine = false ∧ env.builtins = builtinsNs ∧ env.globals = mainGlobals
  dp : X.A.depth + 100 < recursionLimit
theorem Room.py {k : Nat} {A : Around} (r : Room (k + 32) A) : A.depth + 100 < recursionLimit := by have := r.dp; lia
theorem op_fdivP {X : Cx} (h : Dv X) : OpR X (binaryOp .FloorDiv) (rI (fun _ j => j ≠ 0) fun i j => .int (i.fdiv j)) := by
  intro pins s σ H x y v u Q I rx ry hh
  obtain ⟨i, j, rfl, rfl, hc, q⟩ := hh
  obtain ⟨t, rfl⟩ := rx
  obtain ⟨t', rfl⟩ := ry
  obtain ⟨env, l, e, h1, h2, h3, h4⟩ := h.top
  refine floordiv_int hc ?_ (.inr (PySem.PylongRoom.of I.nolimit h.dp (PySem.SeerAt.of (I.ok.mod.seer.keeps I.bk) h.tree (by rw [I.ok.frames, e]) h1 h2 h3 h4)))
  exact ⟨.int (i.fdiv j), H, I.tok _, ⟨_, rfl⟩, q⟩
end L2
namespace L2
open PySem PySem.Spec PyProof.Rows
section
variable {X : Cx}
end
end L2
namespace L2
open PySem PySem.Spec PyProof.Rows
inductive IsInts : List Expr → List Int → Prop
  | nil : IsInts [] []
  | pos {n : Int} {j : Nat} {p : Pos} {es : List Expr} {ns : List Int} (h : IsInts es ns) : IsInts (.Constant (.int n) j p :: es) (n :: ns)
  | neg {n : Int} {j : Nat} {p p' : Pos} {es : List Expr} {ns : List Int} (h : IsInts es ns) : IsInts (.UnaryOp .USub (.Constant (.int n) j p) p' :: es) (-n :: ns)
noncomputable def tInts (ns : List Int) : TA := fun _ H Q => Q (ns.map V.int) H
theorem pa_ints {X : Cx} : ∀ {es : List Expr} {ns : List Int}, IsInts es ns → PA X es (tInts ns)
  | _, _, .nil => fun pos pins s σ H Q I h => pa_nil pos pins s σ H Q I h
  | _, _, .pos h => fun pos pins s σ H Q I q => pa_cons pe_int (pa_ints h) rfl pos pins s σ H Q I q
  | _, _, .neg h => fun pos pins s σ H Q I q => pa_cons (pe_un un_neg pe_int) (pa_ints h) rfl pos pins s σ H Q I ⟨_, rfl, q⟩
end L2
namespace L2
open PySem PySem.Spec PyProof.Rows
section
variable {X : Cx}
noncomputable def rEq2 (K : PySem.W.Frag) : R2 := fun x y H Q => ∃ (p q : Addr) (a b c d : Int), x = .ref p ∧ y = .ref q ∧ SqT K H p [.int a, .int b] ∧ SqT K H q [.int c, .int d] ∧ Q (.bl (a == c && b == d)) H
noncomputable def rNe2 (K : PySem.W.Frag) : R2 := fun x y H Q => ∃ (p q : Addr) (a b c d : Int), x = .ref p ∧ y = .ref q ∧ SqT K H p [.int a, .int b] ∧ SqT K H q [.int c, .int d] ∧ Q (.bl (!(a == c && b == d))) H
theorem op_eq2 (hu : X.A.units < cLine) : OpR X (compareOp .Eq) (rEq2 X.K) := by
  intro pins s σ H x y v u Q I rx ry h
  obtain ⟨p, q, a, b, c, d, rfl, rfl, hp, hq, h⟩ := h
  cases rx
  cases ry
  obtain ⟨its, r, pl, hz⟩ := I.tuple hp
  obtain ⟨its2, r2, pl2, hz2⟩ := I.tuple hq
  obtain ⟨u1, u2, rfl, ⟨t1, rfl⟩, ⟨t2, rfl⟩⟩ := vals2 r
  obtain ⟨w1, w2, rfl, ⟨t3, rfl⟩, ⟨t4, rfl⟩⟩ := vals2 r2
  have z := SeqAt.RcAt.tuples (A := X.A) (s := s) (e := fun j => if j = 0 then a == c else b == d) pl pl2 hu (fun j h1 h2 => by
    match j, h1, h2 with
    | 0, _, _ => exact SeqAt.EqAt.int_int _ _ _ _
    | 1, _, _ => exact SeqAt.EqAt.int_int _ _ _ _
    | j + 2, h1, _ => exact absurd h1 (by simp))
  refine z X.prog X.w X.xe _ ?_
  have e3 : ((List.range (min [Value.int a t1, Value.int b t2].toArray.size [Value.int c t3, Value.int d t4].toArray.size)).all (fun j => if j = 0 then a == c else b == d) && [Value.int a t1, Value.int b t2].toArray.size == [Value.int c t3, Value.int d t4].toArray.size) = (a == c && b == d) := by
    show (((a == c) && ((b == d) && true)) && true) = _
    cases (a == c) <;> cases (b == d) <;> rfl
  rw [e3]
  exact ⟨.bl _, H, I, rfl, h⟩
theorem op_ne2 (hu : X.A.units < cLine) : OpR X (compareOp .NotEq) (rNe2 X.K) := by
  intro pins s σ H x y v u Q I rx ry h
  obtain ⟨p, q, a, b, c, d, rfl, rfl, hp, hq, h⟩ := h
  cases rx
  cases ry
  obtain ⟨its, r, pl, hz⟩ := I.tuple hp
  obtain ⟨its2, r2, pl2, hz2⟩ := I.tuple hq
  obtain ⟨u1, u2, rfl, ⟨t1, rfl⟩, ⟨t2, rfl⟩⟩ := vals2 r
  obtain ⟨w1, w2, rfl, ⟨t3, rfl⟩, ⟨t4, rfl⟩⟩ := vals2 r2
  have z := SeqAt.RcNeAt.tuples (A := X.A) (s := s) (e := fun j => if j = 0 then a == c else b == d) pl pl2 hu (fun j h1 h2 => by
    match j, h1, h2 with
    | 0, _, _ => exact SeqAt.EqAt.int_int _ _ _ _
    | 1, _, _ => exact SeqAt.EqAt.int_int _ _ _ _
    | j + 2, h1, _ => exact absurd h1 (by simp))
  refine z X.prog X.w X.xe _ ?_
  have e3 : (!((List.range (min [Value.int a t1, Value.int b t2].toArray.size [Value.int c t3, Value.int d t4].toArray.size)).all (fun j => if j = 0 then a == c else b == d) && [Value.int a t1, Value.int b t2].toArray.size == [Value.int c t3, Value.int d t4].toArray.size)) = !(a == c && b == d) := by
    show (!(((a == c) && ((b == d) && true)) && true)) = _
    cases (a == c) <;> cases (b == d) <;> rfl
  rw [e3]
  exact ⟨.bl _, H, I, rfl, h⟩
end
end L2
namespace L2
open PySem PySem.Spec PyProof.Rows
noncomputable def Itz (K : PySem.W.Frag) (a b : Addr) : It :=
  ⟨fun i H => ∃ xs ys x y, SqL K H a xs ∧ SqL K H b ys ∧ xs[i]? = some x ∧ ys[i]? = some y, fun i H v H' => ∃ p x y, H p = none ∧ v = .ref p ∧ H' = upd H p (.tup [x, y]) ∧ (∀ xs, SqL K H a xs → xs[i]? = some x) ∧ ∀ ys, SqL K H b ys → ys[i]? = some y,
    fun i H => ∃ xs ys, SqL K H a xs ∧ SqL K H b ys ∧ (xs.length ≤ i ∨ ys.length ≤ i)⟩
theorem mem5 {b z TI TO i1 i2 : Addr} (h : b ∈ [z, TI, TO, i1, i2]) : b = z ∨ b = TI ∨ b = TO ∨ b = i1 ∨ b = i2 := by simpa using h
theorem zip_apart {n l1 l2 : Nat} (h1 : l1 < n) (h2 : l2 < n) : ZipApart (n + 4) (n + 2) (n + 3) n (n + 1) l1 l2 := by
  constructor <;> (intro (h : (_ : Nat) = _); lia)
theorem turn_zip {P : Program} {w : World} {K : PySem.W.Frag} {es : List Expr} {k : Nat} {tp : Pos} (l1 l2 z TI TO i1 i2 : Addr) (D : ZipApart z TI TO i1 i2 l1 l2) :
    Turn P w K (.Tuple es k tp) (Itz K l1 l2) [z, TI, TO, i1, i2] z (fun i h => ∃ u v, IsZip h z TI TO .none ∧ IsPair h TI (.ref i1) (.ref i2) ∧ IsPair h TO u v ∧ h.IsListIter i1 l1 i ∧ h.IsListIter i2 l2 i) where
  mem := List.mem_cons_self
  obj := fun i h q b hb => by
    obtain ⟨u, v, q1, q2, q3, ⟨o4, q4, c4, d4⟩, ⟨o5, q5, c5, d5⟩⟩ := q
    rcases mem5 hb with rfl | rfl | rfl | rfl | rfl
    · exact ⟨_, q1, fun v z => by cases (show Data.fields _ = Data.cell v from z)⟩
    · exact ⟨_, q2, fun v z => by cases (show Data.seq _ _ = Data.cell v from z)⟩
    · exact ⟨_, q3, fun v z => by cases (show Data.seq _ _ = Data.cell v from z)⟩
    · exact ⟨o4, q4, fun v z => by rw [d4] at z; cases z⟩
    · exact ⟨o5, q5, fun v z => by rw [d5] at z; cases z⟩
  keep := fun i h h' q kk => by
    obtain ⟨u, v, q1, q2, q3, q4, q5⟩ := q
    exact ⟨u, v, kk z (by simp) _ q1, kk TI (by simp) _ q2, kk TO (by simp) _ q3, q4.at fun o z => kk i1 (by simp) o z, q5.at fun o z => kk i2 (by simp) o z⟩
  item := by
    intro X e1 e2 e3 hc i pins s σ H E I hf q hg
    subst e1 e2 e3
    obtain ⟨u0, v0, q1, q2, q3, q4, q5⟩ := q
    obtain ⟨xs, ys, x, y, hq, hq', hx, hy⟩ := hg
    obtain ⟨its, rv, pl, hz⟩ := I.list hq
    obtain ⟨its', rv', pl', hz'⟩ := I.list hq'
    obtain ⟨u, hu, ru⟩ := rv.get hx
    obtain ⟨u', hu', ru'⟩ := rv'.get hy
    have hfr : H s.heap.objs.size = none := I.fresh
    refine wpAny_pyNext_zip_item D q1 q2 q3 q4 q5 pl.isList pl'.isList (x := u) (y := u') (by simpa using hu) (by simpa using hu') fun h1 z1 z2 z3 z4 z5 z6 hk => ?_
    refine ⟨_, rfl, wpAny_letOwnedTupleGo_zip z1 fun h2 z1' sb => ?_⟩
    have sb' : Heap.SameBut z h1 h2 := sb
    have hp : z ≠ s.heap.objs.size := Nat.ne_of_lt (Heap.lt_size q1)
    have kp : ∀ b o, b ∉ [z, TI, TO, i1, i2] → s.heap.get? b = some o → h2.get? b = some o := fun b o hb e => by
      simp only [List.mem_cons, List.not_mem_nil, or_false, not_or] at hb
      exact sb'.extBut b o hb.1 (hk b o hb.1 hb.2.2.1 hb.2.2.2.1 hb.2.2.2.2 e)
    have nte : ∀ b o, H b = some o → b ∉ [z, TI, TO, i1, i2] := fun b o e m => by
      have := (hf b m).1
      rw [e] at this; cases this
    have tup2 : IsTup h2 s.heap.objs.size [u, u'].toArray := ⟨_, (sb'.2 _ (Ne.symm hp)).trans z5, rfl, _, rfl⟩
    have rt : Vals [x, y] [u, u'] := .cons ru (.cons ru' .nil)
    have hok : HOk X.prog X.w (upd H s.heap.objs.size (.tup [x, y])) h2 := fun b o e => by
      by_cases hb : b = s.heap.objs.size
      · subst hb
        rw [upd_same] at e
        cases e
        exact ⟨by show 2 ≤ sizeLine; decide, _, rt, tup2⟩
      · rw [upd_ne hb] at e
        refine (I.hok b o e).stay (fun c v hc' r => ?_) (fun c r => by rw [upd_ne (ne_of_none r hfr)]; exact r) fun c ys r => by rw [upd_ne (ne_of_none r hfr)]; exact r
        rcases hc' with rfl | hc'
        · exact kp _ _ (nte _ _ e) r
        · exact kp _ _ (nte _ _ hc') r
    have un : Un (frs X.stack) [z, TI, TO, i1, i2] H (upd H s.heap.objs.size (.tup [x, y])) s.heap h2 :=
      ⟨fun b o e _ _ h4 => kp b o h4 e, fun b o e _ _ h4 => ⟨o.slots, kp b o h4 e⟩,
        fun b o e n _ => by rw [upd_ne (Nat.ne_of_lt (Heap.lt_size e))]; exact n, fun b o e h4 => ⟨o, kp b o h4 e⟩,
        fun b ys e => by rw [upd_ne (ne_of_none e hfr)]; exact e, fun b o u e => by rw [upd_ne (ne_of_none e hfr)]; exact e, fun b ps e => ⟨#[], by rw [upd_ne (ne_of_none e hfr), e]; simp⟩⟩
    have I2 : Inv X pins σ (upd H s.heap.objs.size (.tup [x, y])) { s with heap := h2 } :=
      I.call (g' := s.gens) (d' := s.drawn) (t' := s.toks) (ch := [z, TI, TO, i1, i2]) un hok I.bare fun b hb => by
        obtain ⟨f0, f1, f2, f3, f4, f5⟩ := hf b hb
        exact ⟨f3, f1, f4, f5⟩
    refine ⟨.ref s.heap.objs.size, _, I2, rfl, ⟨_, x, y, hfr, rfl, rfl, fun zs hy => by rw [I.list_inj hy hq]; exact hx, fun zs hz => by rw [I.list_inj hz hq']; exact hy⟩, ⟨u, u', z1', ?_, ?_, ?_, ?_⟩, fun b hb => ?_⟩
    · exact sb'.extBut _ _ D.TIz (hk _ _ D.TIz D.TITO D.TIi1 D.TIi2 q2)
    · exact sb'.extBut _ _ D.TOz z2
    · exact z3.at fun o e => sb'.extBut i1 o D.i1z e
    · exact z4.at fun o e => sb'.extBut i2 o D.i2z e
    · have hlt : b ≠ s.heap.objs.size := by
        rcases mem5 hb with rfl | rfl | rfl | rfl | rfl
        · exact hp
        · exact Nat.ne_of_lt (Heap.lt_size q2)
        · exact Nat.ne_of_lt (Heap.lt_size q3)
        · obtain ⟨o, e, _⟩ := q4; exact Nat.ne_of_lt (Heap.lt_size e)
        · obtain ⟨o, e, _⟩ := q5; exact Nat.ne_of_lt (Heap.lt_size e)
      rw [upd_ne hlt]; exact (hf b hb).1
  done := by
    intro X e1 e2 e3 hc i pins s σ H E I hf q hg
    subst e1 e2 e3
    obtain ⟨u0, v0, q1, q2, q3, q4, q5⟩ := q
    obtain ⟨xs, ys, hq, hq', hx⟩ := hg
    obtain ⟨its, rv, pl, hz⟩ := I.list hq
    obtain ⟨its', rv', pl', hz'⟩ := I.list hq'
    have hl := rv.length
    have hl' := rv'.length
    refine wpAny_pyNext_zip_end (I.ok.hd hc) D q1 q2 q3 q4 q5 pl.isList pl'.isList ?_ fun h' eb => ⟨rfl, ?_⟩
    · rcases hx with hx | hx
      · left; simp; lia
      · right; simp; lia
    · have kp : ∀ b o, b ∉ [z, TI, TO, i1, i2] → s.heap.get? b = some o → h'.get? b = some o := fun b o hb e => by
        simp only [List.mem_cons, List.not_mem_nil, or_false, not_or] at hb
        exact eb b o hb.1 hb.2.2.1 hb.2.2.2.1 hb.2.2.2.2 e
      have nte : ∀ b o, H b = some o → b ∉ [z, TI, TO, i1, i2] := fun b o e m => by
        have := (hf b m).1
        rw [e] at this; cases this
      have hok : HOk X.prog X.w H h' := fun b o e =>
        (I.hok b o e).stay (fun c v hc' r => by
          rcases hc' with rfl | hc'
          · exact kp _ _ (nte _ _ e) r
          · exact kp _ _ (nte _ _ hc') r) (fun c r => r) fun c ys r => r
      have un : Un (frs X.stack) [z, TI, TO, i1, i2] H H s.heap h' :=
        ⟨fun b o e _ _ h4 => kp b o h4 e, fun b o e _ _ h4 => ⟨o.slots, kp b o h4 e⟩, fun b o e n _ => n, fun b o e h4 => ⟨o, kp b o h4 e⟩, fun b ys e => e, fun b o u e => e, fun b ps e => ⟨#[], by rw [e]; simp⟩⟩
      exact I.call (g' := s.gens) (d' := s.drawn) (t' := s.toks) (ch := [z, TI, TO, i1, i2]) un hok I.bare fun b hb => by
        obtain ⟨f0, f1, f2, f3, f4, f5⟩ := hf b hb
        exact ⟨f3, f1, f4, f5⟩
  self := fun _ _ _ _ _ q h => let ⟨_, _, q1, _⟩ := q; wpAny_pyIter_zip q1 h
noncomputable def iZip (K : PySem.W.Frag) (ta : TA) : TI := fun σ H R => ta σ H fun vs H1 => ∃ a b, vs = [.ref a, .ref b] ∧ (∃ xs, SqL K H1 a xs) ∧ (∃ ys, SqL K H1 b ys) ∧ R (Itz K a b) H1
theorem pi_zip {X : Cx} {es : List Expr} {k : Nat} {tp : Pos} {a b : Expr} {ta : TA} {p pos : Pos} (hg : Gl X "zip") (hm : X.mg "zip" = none) (ha : PA X [a, b] ta) (hs : starEach [a, b] X.env = [(false, eval a X.env), (false, eval b X.env)] := by rfl) (hs2 : starEach [b] X.env = [(false, eval b X.env)] := by rfl) :
    PI X (.Tuple es k tp) (.Call (.Name "zip" p) [a, b] [] pos) (iZip X.K ta) := by
  intro pins s σ H R I h
  refine Call_ (ld_blt I hg hm boot_zip (PyProof.Rows.callWith_type1 (thn (ha pos pins s σ H _ I h) fun us s1 q1 => ?_) (by rw [hs, hs2]) (by rw [hs2]; rfl)))
  obtain ⟨vs, H1, I1, r1, l1, l2, rfl, ⟨xs, hq⟩, ⟨ys, hq'⟩, q⟩ := q1
  obtain ⟨u, u', rfl, rx, ry⟩ := vals2 r1
  cases rx
  cases ry
  obtain ⟨its, rv, pl, hz⟩ := I1.list hq
  obtain ⟨its', rv', pl', hz'⟩ := I1.list hq'
  have p1 : l1 < s1.heap.objs.size := by obtain ⟨o, n, e, _⟩ := pl; exact Heap.lt_size e
  have p2 : l2 < s1.heap.objs.size := by obtain ⟨o, n, e, _⟩ := pl'; exact Heap.lt_size e
  refine call_zip_2 pl.isList pl'.isList fun h' z1 z2 z3 z4 z5 hsz hk => ?_
  have I2 : Inv X pins σ H1 { s1 with heap := h' } := I1.kept (t' := s1.toks) hk
  refine wpAny_pyIter_zip z1 ?_
  have old : ∀ b, s1.heap.objs.size ≤ b → FpOk X pins H1 b := fun b hb => I1.fpOk hb (I1.hok.fresh hb)
  refine ⟨_, [_, _, _, _, _], _, _, H1, rfl, I2, turn_zip l1 l2 (s1.heap.objs.size + 4) (s1.heap.objs.size + 2) (s1.heap.objs.size + 3) s1.heap.objs.size (s1.heap.objs.size + 1) (zip_apart p1 p2), ⟨_, _, z1, z2, z3, z4, z5⟩, fun b hb => ?_, q⟩
  rcases mem5 hb with rfl | rfl | rfl | rfl | rfl
  · exact old _ (Nat.le_add_right _ _)
  · exact old _ (Nat.le_add_right _ _)
  · exact old _ (Nat.le_add_right _ _)
  · exact old _ (Nat.le_refl _)
  · exact old _ (Nat.le_add_right _ _)
section
variable {X : Cx}
theorem call_minI (hc : X.calm = true) : CallR X (.builtin "min") (fun xs H Q => ∃ (p : Addr) (ns : List Int), xs = [.ref p] ∧ SqL X.K H p (ns.map V.int) ∧ ns ≠ [] ∧ ∀ m, m ∈ ns → (∀ x ∈ ns, m ≤ x) → Q (.int m) H) := by
  intro pins s σ H xs us Q I r h
  obtain ⟨p, ns, rfl, hp, hne, q⟩ := h
  obtain ⟨u, rfl, rx⟩ := vals1 r
  cases rx
  obtain ⟨its, rv, pl, hz⟩ := I.list hp
  have hi : IntsAre its ns := intsAre_of rv
  obtain ⟨ys, e⟩ := hi.allInts.items
  have hns : ns = ys.toList.map (·.1) := by
    rw [← hi.numsOf, ← nums_intItems, ← e]
  have hsz : 0 < ys.size := by
    have h3 := List.length_pos_iff.mpr hne
    rw [hns, List.length_map, Array.length_toList] at h3; exact h3
  have hl' : s.heap.IsList p (intItems ys) := e ▸ pl.isList
  refine min_intList (I.ok.hd hc) hl' hsz fun v h' tk hv hk => ?_
  obtain ⟨t, rfl⟩ := intItems_at hv
  obtain ⟨h1, h2⟩ := argBest_lt (numAt ys) (ys.size - 1)
  refine ⟨.int _, H, I.kept hk, ⟨t, rfl⟩, q _ ?_ fun a ha => ?_⟩
  · rw [hns, numAt_eq]; exact getD_mem (by rw [List.length_map, Array.length_toList]; lia)
  · rw [hns] at ha
    obtain ⟨j, hj, rfl⟩ := mem_getD ha
    rw [List.length_map, Array.length_toList] at hj
    rw [← numAt_eq]; exact h2 j (by lia)
end
end L2
namespace CV
open PySem PySem.Spec PyProof.Rows L2
inductive AV where
  | non | bl (b : Bool) | int (i : Int) | str (s : Str) | tup (xs : List AV) | lst (xs : List AV) | root (p q w : AV)
inductive SV where
  | no | fz (x : AV) | op (xs : List AV)
noncomputable abbrev Sa := List SV
noncomputable abbrev O := Option AV
noncomputable abbrev Ev := Sa → (AV → Sa → O) → O
noncomputable abbrev EvT := Sa → (Bool → Sa → O) → O
noncomputable abbrev EvA := Sa → (List AV → Sa → O) → O
noncomputable abbrev EvS := Sa → (Sa → O) → O
noncomputable abbrev EvG := AV → Sa → (Sa → O) → O
noncomputable def fI (i : Int) (k : Int → O) : O := Int.rec (fun n => Nat.rec (k (.ofNat 0)) (fun m _ => k (.ofNat (Nat.succ m))) n) (fun n => Nat.rec (k (.negSucc 0)) (fun m _ => k (.negSucc (Nat.succ m))) n) i
theorem fI_eq {i : Int} {k : Int → O} : fI i k = k i := by
  cases i with
  | ofNat n => cases n <;> rfl
  | negSucc n => cases n <;> rfl
noncomputable def setF (l : Sa) : Nat → SV → (Sa → O) → O := List.rec (motive := fun _ => Nat → SV → (Sa → O) → O) (fun _ _ k => k []) (fun x xs ih i v k => Nat.rec (k (v :: xs)) (fun j _ => ih j v fun ys => k (x :: ys)) i) l
theorem setF_eq : ∀ {l : Sa} {i : Nat} {v : SV} {k : Sa → O}, setF l i v k = k (l.set i v)
  | [], _, _, _ => rfl
  | _ :: _, 0, _, _ => rfl
  | x :: xs, i + 1, v, k => setF_eq (l := xs) (i := i) (v := v) (k := fun ys => k (x :: ys))
noncomputable def getS (l : Sa) : Nat → SV := List.rec (motive := fun _ => Nat → SV) (fun _ => .no) (fun x _ ih i => Nat.rec x (fun j _ => ih j) i) l
theorem getS_eq : ∀ (l : Sa) (i : Nat), getS l i = (l[i]?).getD .no
  | [], _ => rfl
  | _ :: _, 0 => rfl
  | _ :: xs, i + 1 => by
    show getS xs i = _
    rw [getS_eq xs i, List.getElem?_cons_succ]
theorem getS_set (l : Sa) (i j : Nat) (v : SV) : getS (l.set i v) j = if i = j ∧ i < l.length then v else getS l j := by
  rw [getS_eq, getS_eq, List.getElem?_set]
  by_cases e : i = j
  · subst e
    by_cases h : i < l.length
    · rw [if_pos rfl, if_pos h, if_pos ⟨rfl, h⟩]; rfl
    · rw [if_pos rfl, if_neg h, if_neg (fun z => h z.2), List.getElem?_eq_none (by lia)]
  · rw [if_neg e, if_neg (fun z => e z.1)]
theorem getS_lt {l : Sa} {i : Nat} (h : getS l i ≠ .no) : i < l.length := by
  rw [getS_eq] at h
  by_cases z : i < l.length
  · exact z
  · rw [List.getElem?_eq_none (by lia)] at h; exact absurd rfl h
section
variable (K : PySem.W.Frag) (C : Addr)
mutual
inductive Rl (H : Hp) : AV → V → Prop
  | non : Rl H .non .non
  | bl {b : Bool} : Rl H (.bl b) (.bl b)
  | int {i : Int} : Rl H (.int i) (.int i)
  | str {s : Str} : Rl H (.str s) (.str s)
  | tup {a : Addr} {xs : List AV} {vs : List V} (h : SqT K H a vs) (hs : RlL H xs vs) : Rl H (.tup xs) (.ref a)
  | lst {a : Addr} {xs : List AV} {vs : List V} (h : H a = some (.lst vs)) (hs : RlL H xs vs) : Rl H (.lst xs) (.ref a)
  | root {a dx : Addr} {p q w : AV} {vp vq vw : V} (h : H a = some (.ins C dx [("poly", vp), ("pair", vq), ("weight", vw)])) (hp : Rl H p vp) (hq : Rl H q vq) (hw : Rl H w vw) : Rl H (.root p q w) (.ref a)
inductive RlL (H : Hp) : List AV → List V → Prop
  | nil : RlL H [] []
  | cons {x : AV} {v : V} {xs : List AV} {vs : List V} (h : Rl H x v) (hs : RlL H xs vs) : RlL H (x :: xs) (v :: vs)
end
end
section
variable {K : PySem.W.Frag} {C : Addr}
theorem Rl.mono {H H' : Hp} (s : Same H H') {x : AV} {v : V} (h : Rl K C H x v) : Rl K C H' x v :=
  Rl.rec (motive_1 := fun x v _ => Rl K C H' x v) (motive_2 := fun xs vs _ => RlL K C H' xs vs) .non .bl .int .str (fun h _ ih => .tup (s.tup h) ih) (fun h _ ih => .lst (s _ _ h) ih) (fun h _ _ _ a b c => .root (s _ _ h) a b c) .nil (fun _ _ a b => .cons a b) h
theorem RlL.mono {H H' : Hp} (s : Same H H') {xs : List AV} {vs : List V} (h : RlL K C H xs vs) : RlL K C H' xs vs :=
  RlL.rec (motive_1 := fun x v _ => Rl K C H' x v) (motive_2 := fun xs vs _ => RlL K C H' xs vs) .non .bl .int .str (fun h _ ih => .tup (s.tup h) ih) (fun h _ ih => .lst (s _ _ h) ih) (fun h _ _ _ a b c => .root (s _ _ h) a b c) .nil (fun _ _ a b => .cons a b) h
theorem RlL.length {H : Hp} : ∀ {xs : List AV} {vs : List V}, RlL K C H xs vs → vs.length = xs.length
  | [], _, h => by cases h; rfl
  | _ :: xs, _, h => by
    cases h with
    | cons _ t => rw [List.length_cons, List.length_cons, RlL.length t]
theorem RlL.get {H : Hp} : ∀ {xs : List AV} {vs : List V} {i : Nat} {x : AV}, RlL K C H xs vs → xs[i]? = some x → ∃ v, vs[i]? = some v ∧ Rl K C H x v
  | [], _, _, _, _, e => by simp at e
  | _ :: _, _, 0, _, .cons r _, e => by simp at e; subst e; exact ⟨_, rfl, r⟩
  | _ :: xs, _, i + 1, x, .cons _ t, e => by
    obtain ⟨v, h1, h2⟩ := RlL.get (xs := xs) (i := i) (x := x) t (by simpa using e)
    exact ⟨v, by simpa using h1, h2⟩
theorem RlL.append {H : Hp} : ∀ {xs ys : List AV} {vs ws : List V}, RlL K C H xs vs → RlL K C H ys ws → RlL K C H (xs ++ ys) (vs ++ ws)
  | [], _, _, _, .nil, s => s
  | _ :: _, _, _, _, .cons r t, s => .cons r (RlL.append t s)
theorem RlL.set {H : Hp} {x : AV} {v : V} (r : Rl K C H x v) : ∀ {xs : List AV} {vs : List V} (i : Nat), RlL K C H xs vs → RlL K C H (xs.set i x) (vs.set i v)
  | [], _, _, .nil => .nil
  | _ :: _, _, 0, .cons _ t => .cons r t
  | _ :: _, _, i + 1, .cons q t => .cons q (RlL.set r i t)
theorem RlL.take {H : Hp} : ∀ {xs : List AV} {vs : List V} (n : Nat), RlL K C H xs vs → RlL K C H (xs.take n) (vs.take n)
  | _, _, 0, _ => .nil
  | [], _, _ + 1, .nil => .nil
  | _ :: _, _, n + 1, .cons r t => .cons r (RlL.take n t)
theorem RlL.drop {H : Hp} : ∀ {xs : List AV} {vs : List V} (n : Nat), RlL K C H xs vs → RlL K C H (xs.drop n) (vs.drop n)
  | _, _, 0, r => r
  | [], _, _ + 1, .nil => .nil
  | _ :: _, _, n + 1, .cons _ t => RlL.drop n t
theorem RlL.reverse {H : Hp} : ∀ {xs : List AV} {vs : List V}, RlL K C H xs vs → RlL K C H xs.reverse vs.reverse
  | [], _, .nil => .nil
  | _ :: _, _, .cons r t => by
    rw [List.reverse_cons, List.reverse_cons]
    exact (RlL.reverse t).append (.cons r .nil)
theorem RlL.ints {H : Hp} : ∀ {ns : List Int} {vs : List V}, RlL K C H (ns.map AV.int) vs → vs = ns.map V.int
  | [], _, h => by cases h; rfl
  | n :: ns, _, h => by
    cases h with
    | cons r t =>
      cases r
      rw [RlL.ints (ns := ns) t]; rfl
theorem RlL.ofInts {H : Hp} : ∀ {ns : List Int}, RlL K C H (ns.map AV.int) (ns.map V.int)
  | [] => .nil
  | _ :: _ => .cons .int RlL.ofInts
end
structure Good (K : PySem.W.Frag) (C : Addr) (Fo Hf H : Hp) (σa : Sa) (σ : L2.St) : Prop where
  sub : Same Hf H
  fo : ∀ b o, Fo b = some o → H b = some o ∧ Hf b = none
  len : σ.length = σa.length
  fz : ∀ i x, getS σa i = .fz x → ∃ v, σ[i]? = some (some v) ∧ Rl K C Hf x v
  op : ∀ i xs, getS σa i = .op xs → ∃ a vs, σ[i]? = some (some (.ref a)) ∧ Hf a = none ∧ Fo a = none ∧ H a = some (.lst vs) ∧ RlL K C Hf xs vs
  inj : ∀ i j xs ys a, getS σa i = .op xs → getS σa j = .op ys → σ[i]? = some (some (.ref a)) → σ[j]? = some (some (.ref a)) → i = j
structure OpAt (K : PySem.W.Frag) (C : Addr) (Fo Hf H : Hp) (σa : Sa) (σ : L2.St) (a : Addr) (xs : List AV) (vs : List V) : Prop where
  hf : Hf a = none
  fo : Fo a = none
  at_ : H a = some (.lst vs)
  rl : RlL K C Hf xs vs
  own : ∀ j ys, getS σa j = .op ys → σ[j]? ≠ some (some (.ref a))
section
variable {K : PySem.W.Frag} {C : Addr} {Fo Hf H Hf' H' : Hp} {σa : Sa} {σ : L2.St} {i : Nat} {x : AV} {v : V} {xs : List AV} {vs : List V} {p : Addr}
theorem Same.upd_none {o : HO} (h : Hf p = none) : Same Hf (upd Hf p o) := Same.new h o
theorem Good.nil (g : Good K C Fo Hf H σa σ) (h : H p = none) : Hf p = none ∧ Fo p = none := by
  constructor
  · cases e : Hf p with
    | none => rfl
    | some o => rw [g.sub _ _ e] at h; cases h
  · cases e : Fo p with
    | none => rfl
    | some o => rw [(g.fo _ _ e).1] at h; cases h
theorem Good.new (g : Good K C Fo Hf H σa σ) (h : H p = none) (o : HO) : Good K C Fo (upd Hf p o) (upd H p o) σa σ where
  sub := fun b u e => by
    by_cases z : b = p
    · subst z; rw [upd_same] at e ⊢; exact e
    · rw [upd_ne z] at e ⊢; exact g.sub _ _ e
  fo := fun b u e => by
    have h1 := g.fo b u e
    have z : b ≠ p := ne_of_none h1.1 h
    rw [upd_ne z, upd_ne z]; exact h1
  len := g.len
  fz := fun i x e => by
    obtain ⟨v, a, b⟩ := g.fz i x e
    exact ⟨v, a, b.mono (Same.new (g.nil h).1 o)⟩
  op := fun i xs e => by
    obtain ⟨a, vs, h1, h2, h3, h4, h5⟩ := g.op i xs e
    have z : a ≠ p := ne_of_none h4 h
    exact ⟨a, vs, h1, by rw [upd_ne z]; exact h2, h3, by rw [upd_ne z]; exact h4, h5.mono (Same.new (g.nil h).1 o)⟩
  inj := g.inj
theorem Good.side (g : Good K C Fo Hf H σa σ) (hf : Hf p = none) (fo : Fo p = none) (own : ∀ j ys, getS σa j = .op ys → σ[j]? ≠ some (some (.ref p))) (o : HO) : Good K C Fo Hf (upd H p o) σa σ where
  sub := fun b u e => by
    have z : b ≠ p := ne_of_none e hf
    rw [upd_ne z]; exact g.sub _ _ e
  fo := fun b u e => by
    have z : b ≠ p := ne_of_none e fo
    rw [upd_ne z]; exact g.fo b u e
  len := g.len
  fz := g.fz
  op := fun i xs e => by
    obtain ⟨a, vs, h1, h2, h3, h4, h5⟩ := g.op i xs e
    have z : a ≠ p := fun y => own i xs e (by rw [h1, y])
    exact ⟨a, vs, h1, h2, h3, by rw [upd_ne z]; exact h4, h5⟩
  inj := g.inj
theorem Good.own_new (g : Good K C Fo Hf H σa σ) (h : H p = none) : ∀ j ys, getS σa j = .op ys → σ[j]? ≠ some (some (.ref p)) := fun j ys e z => by
  obtain ⟨a, vs, h1, h2, h3, h4, h5⟩ := g.op j ys e
  rw [h1] at z; cases z
  rw [h4] at h; cases h
theorem Good.call (g : Good K C Fo Hf H σa σ) (s1 : Same H H') (s2 : Same Hf Hf') (s3 : Same Hf' H') (hn : ∀ b, Hf b = none → H b ≠ none → Hf' b = none) : Good K C Fo Hf' H' σa σ where
  sub := s3
  fo := fun b o e => by
    obtain ⟨h1, h2⟩ := g.fo b o e
    exact ⟨s1 _ _ h1, hn b h2 (by rw [h1]; simp)⟩
  len := g.len
  fz := fun i x e => by
    obtain ⟨v, a, b⟩ := g.fz i x e
    exact ⟨v, a, b.mono s2⟩
  op := fun i xs e => by
    obtain ⟨a, vs, h1, h2, h3, h4, h5⟩ := g.op i xs e
    exact ⟨a, vs, h1, hn a h2 (by rw [h4]; simp), h3, s1 _ _ h4, h5.mono s2⟩
  inj := g.inj
theorem slot_set {σ : L2.St} {i j : Nat} {v : V} (h : i < σ.length) : (σ.set i (some v))[j]? = if i = j then some (some v) else σ[j]? := by
  rw [List.getElem?_set]
  by_cases e : i = j
  · rw [if_pos e, if_pos e, if_pos h]
  · rw [if_neg e, if_neg e]
theorem Good.setFz (g : Good K C Fo Hf H σa σ) (r : Rl K C Hf x v) : Good K C Fo Hf H (σa.set i (.fz x)) (σ.set i (some v)) := by
  by_cases h : i < σ.length
  case neg =>
    have h' : σa.length ≤ i := by rw [← g.len]; lia
    rw [List.set_eq_of_length_le h', List.set_eq_of_length_le (by lia)]; exact g
  have h' : i < σa.length := by rw [← g.len]; exact h
  refine ⟨g.sub, g.fo, by rw [List.length_set, List.length_set]; exact g.len, fun j y e => ?_, fun j ys e => ?_, fun j k ys zs a e1 e2 e3 e4 => ?_⟩
  · rw [getS_set] at e
    rw [slot_set h]
    by_cases z : i = j
    · rw [if_pos ⟨z, h'⟩] at e; cases e; rw [if_pos z]; exact ⟨v, rfl, r⟩
    · rw [if_neg (fun q => z q.1)] at e; rw [if_neg z]; exact g.fz j y e
  · rw [getS_set] at e
    rw [slot_set h]
    by_cases z : i = j
    · rw [if_pos ⟨z, h'⟩] at e; cases e
    · rw [if_neg (fun q => z q.1)] at e; rw [if_neg z]; exact g.op j ys e
  · rw [getS_set] at e1 e2
    rw [slot_set h] at e3 e4
    by_cases z : i = j
    · rw [if_pos ⟨z, h'⟩] at e1; cases e1
    · by_cases z2 : i = k
      · rw [if_pos ⟨z2, h'⟩] at e2; cases e2
      · rw [if_neg (fun q => z q.1)] at e1; rw [if_neg (fun q => z2 q.1)] at e2
        rw [if_neg z] at e3; rw [if_neg z2] at e4
        exact g.inj j k ys zs a e1 e2 e3 e4
theorem Good.setOp (g : Good K C Fo Hf H σa σ) (o : OpAt K C Fo Hf H σa σ p xs vs) : Good K C Fo Hf H (σa.set i (.op xs)) (σ.set i (some (.ref p))) := by
  by_cases h : i < σ.length
  case neg =>
    have h' : σa.length ≤ i := by rw [← g.len]; lia
    rw [List.set_eq_of_length_le h', List.set_eq_of_length_le (by lia)]; exact g
  have h' : i < σa.length := by rw [← g.len]; exact h
  refine ⟨g.sub, g.fo, by rw [List.length_set, List.length_set]; exact g.len, fun j y e => ?_, fun j ys e => ?_, fun j k ys zs a e1 e2 e3 e4 => ?_⟩
  · rw [getS_set] at e
    rw [slot_set h]
    by_cases z : i = j
    · rw [if_pos ⟨z, h'⟩] at e; cases e
    · rw [if_neg (fun q => z q.1)] at e; rw [if_neg z]; exact g.fz j y e
  · rw [getS_set] at e
    rw [slot_set h]
    by_cases z : i = j
    · rw [if_pos ⟨z, h'⟩] at e; cases e; rw [if_pos z]; exact ⟨p, vs, rfl, o.hf, o.fo, o.at_, o.rl⟩
    · rw [if_neg (fun q => z q.1)] at e; rw [if_neg z]; exact g.op j ys e
  · rw [getS_set] at e1 e2
    rw [slot_set h] at e3 e4
    by_cases z : i = j
    · rw [if_pos z] at e3
      by_cases z2 : i = k
      · exact z.symm.trans z2
      · rw [if_neg (fun q => z2 q.1)] at e2; rw [if_neg z2] at e4
        cases e3
        exact absurd e4 (o.own k zs e2)
    · rw [if_neg (fun q => z q.1)] at e1; rw [if_neg z] at e3
      by_cases z2 : i = k
      · rw [if_pos z2] at e4; cases e4; exact absurd e3 (o.own j ys e1)
      · rw [if_neg (fun q => z2 q.1)] at e2; rw [if_neg z2] at e4
        exact g.inj j k ys zs a e1 e2 e3 e4
theorem Good.mut (g : Good K C Fo Hf H σa σ) {ys : List AV} {ws : List V} (hi : getS σa i = .op xs) (hs : σ[i]? = some (some (.ref p))) (r : RlL K C Hf ys ws) : Good K C Fo Hf (upd H p (.lst ws)) (σa.set i (.op ys)) σ := by
  have h' : i < σa.length := getS_lt (by rw [hi]; nofun)
  obtain ⟨a, us, q1, q2, q3, q4, q5⟩ := g.op i xs hi
  rw [hs] at q1; cases q1
  refine ⟨fun b u e => ?_, fun b u e => ?_, by rw [List.length_set]; exact g.len, fun j y e => ?_, fun j zs e => ?_, fun j k zs us a e1 e2 e3 e4 => ?_⟩
  · rw [upd_ne (ne_of_none e q2)]; exact g.sub _ _ e
  · rw [upd_ne (ne_of_none e q3)]; exact g.fo _ _ e
  · rw [getS_set] at e
    by_cases z : i = j
    · rw [if_pos ⟨z, h'⟩] at e; cases e
    · rw [if_neg (fun q => z q.1)] at e; exact g.fz j y e
  · rw [getS_set] at e
    by_cases z : i = j
    · rw [if_pos ⟨z, h'⟩] at e; cases e; subst z
      exact ⟨p, ws, hs, q2, q3, upd_same, r⟩
    · rw [if_neg (fun q => z q.1)] at e
      obtain ⟨a, us, h1, h2, h3, h4, h5⟩ := g.op j zs e
      have ne : a ≠ p := fun y => z (g.inj i j xs zs p hi e hs (by rw [h1, y]))
      exact ⟨a, us, h1, h2, h3, by rw [upd_ne ne]; exact h4, h5⟩
  · rw [getS_set] at e1 e2
    have f1 : ∃ zs, getS σa j = .op zs := by
      by_cases z : i = j
      · subst z; exact ⟨_, hi⟩
      · rw [if_neg (fun q => z q.1)] at e1; exact ⟨_, e1⟩
    have f2 : ∃ zs, getS σa k = .op zs := by
      by_cases z : i = k
      · subst z; exact ⟨_, hi⟩
      · rw [if_neg (fun q => z q.1)] at e2; exact ⟨_, e2⟩
    obtain ⟨_, f1⟩ := f1
    obtain ⟨_, f2⟩ := f2
    exact g.inj j k _ _ a f1 f2 e3 e4
theorem Good.freeze (g : Good K C Fo Hf H σa σ) (hi : getS σa i = .op xs) : ∃ a vs, σ[i]? = some (some (.ref a)) ∧ H a = some (.lst vs) ∧ Same Hf (upd Hf a (.lst vs)) ∧ Good K C Fo (upd Hf a (.lst vs)) H (σa.set i (.fz (.lst xs))) σ ∧ Rl K C (upd Hf a (.lst vs)) (.lst xs) (.ref a) := by
  have h' : i < σa.length := getS_lt (by rw [hi]; nofun)
  obtain ⟨a, vs, q1, q2, q3, q4, q5⟩ := g.op i xs hi
  have sm : Same Hf (upd Hf a (.lst vs)) := Same.new q2 _
  have rl : Rl K C (upd Hf a (.lst vs)) (.lst xs) (.ref a) := .lst upd_same (q5.mono sm)
  refine ⟨a, vs, q1, q4, sm, ⟨fun b u e => ?_, fun b u e => ?_, by rw [List.length_set]; exact g.len, fun j y e => ?_, fun j zs e => ?_, fun j k zs us c e1 e2 e3 e4 => ?_⟩, rl⟩
  · by_cases z : b = a
    · subst z; rw [upd_same] at e; cases e; exact q4
    · rw [upd_ne z] at e; exact g.sub _ _ e
  · have z : b ≠ a := ne_of_none e q3
    rw [upd_ne z]; exact g.fo b u e
  · rw [getS_set] at e
    by_cases z : i = j
    · rw [if_pos ⟨z, h'⟩] at e; cases e; subst z; exact ⟨_, q1, rl⟩
    · rw [if_neg (fun q => z q.1)] at e
      obtain ⟨v, a1, b1⟩ := g.fz j y e
      exact ⟨v, a1, b1.mono sm⟩
  · rw [getS_set] at e
    by_cases z : i = j
    · rw [if_pos ⟨z, h'⟩] at e; cases e
    · rw [if_neg (fun q => z q.1)] at e
      obtain ⟨c, us, h1, h2, h3, h4, h5⟩ := g.op j zs e
      have ne : c ≠ a := fun y => z (g.inj i j xs zs a hi e q1 (by rw [h1, y]))
      exact ⟨c, us, h1, by rw [upd_ne ne]; exact h2, h3, h4, h5.mono sm⟩
  · rw [getS_set] at e1 e2
    by_cases z : i = j
    · rw [if_pos ⟨z, h'⟩] at e1; cases e1
    · by_cases z2 : i = k
      · rw [if_pos ⟨z2, h'⟩] at e2; cases e2
      · rw [if_neg (fun q => z q.1)] at e1; rw [if_neg (fun q => z2 q.1)] at e2
        exact g.inj j k zs us c e1 e2 e3 e4
theorem Good.frozen (g : Good K C Fo Hf H σa σ) (o : OpAt K C Fo Hf H σa σ p xs vs) : Same Hf (upd Hf p (.lst vs)) ∧ Good K C Fo (upd Hf p (.lst vs)) H σa σ ∧ Rl K C (upd Hf p (.lst vs)) (.lst xs) (.ref p) := by
  have sm : Same Hf (upd Hf p (.lst vs)) := Same.new o.hf _
  refine ⟨sm, ⟨fun b u e => ?_, fun b u e => ?_, g.len, fun j y e => ?_, fun j zs e => ?_, g.inj⟩, .lst upd_same (o.rl.mono sm)⟩
  · by_cases z : b = p
    · subst z; rw [upd_same] at e; cases e; exact o.at_
    · rw [upd_ne z] at e; exact g.sub _ _ e
  · have z : b ≠ p := ne_of_none e o.fo
    rw [upd_ne z]; exact g.fo b u e
  · obtain ⟨v, a1, b1⟩ := g.fz j y e
    exact ⟨v, a1, b1.mono sm⟩
  · obtain ⟨c, us, h1, h2, h3, h4, h5⟩ := g.op j zs e
    have ne : c ≠ p := fun y => o.own j zs e (by rw [h1, y])
    exact ⟨c, us, h1, by rw [upd_ne ne]; exact h2, h3, h4, h5.mono sm⟩
theorem Good.opNew (g : Good K C Fo Hf H σa σ) (h : H p = none) (r : RlL K C Hf xs vs) : Good K C Fo Hf (upd H p (.lst vs)) σa σ ∧ OpAt K C Fo Hf (upd H p (.lst vs)) σa σ p xs vs :=
  ⟨g.side (g.nil h).1 (g.nil h).2 (g.own_new h) _, (g.nil h).1, (g.nil h).2, upd_same, r, g.own_new h⟩
end
end CV
namespace CV
open PySem PySem.Spec PyProof.Rows L2
section
variable (K : PySem.W.Frag) (C : Addr)
noncomputable def Snd (e : Ev) (t : TE) : Prop := ∀ σa k r, e σa k = some r → ∀ Fo Hf H σ, Good K C Fo Hf H σa σ → ∀ Q : VK,
  (∀ x σa' v Hf' H', k x σa' = some r → Same Hf Hf' → Good K C Fo Hf' H' σa' σ → Rl K C Hf' x v → Q v H') → t σ H Q
noncomputable def SndO (e : EvA) (t : TE) : Prop := ∀ σa k r, e σa k = some r → ∀ Fo Hf H σ, Good K C Fo Hf H σa σ → ∀ Q : VK,
  (∀ xs σa' a vs Hf' H', k xs σa' = some r → Same Hf Hf' → Good K C Fo Hf' H' σa' σ → OpAt K C Fo Hf' H' σa' σ a xs vs → Q (.ref a) H') → t σ H Q
noncomputable def SndA (e : EvA) (t : TA) : Prop := ∀ σa k r, e σa k = some r → ∀ Fo Hf H σ, Good K C Fo Hf H σa σ → ∀ Q : List V → Hp → Prop,
  (∀ xs σa' vs Hf' H', k xs σa' = some r → Same Hf Hf' → Good K C Fo Hf' H' σa' σ → RlL K C Hf' xs vs → Q vs H') → t σ H Q
noncomputable def SndT (e : EvT) (t : TT) : Prop := ∀ σa k r, e σa k = some r → ∀ Fo Hf H σ, Good K C Fo Hf H σa σ → ∀ Q : Bool → Hp → Prop,
  (∀ b σa' Hf' H', k b σa' = some r → Same Hf Hf' → Good K C Fo Hf' H' σa' σ → Q b H') → t σ H Q
noncomputable def FoOk (Fo Hf H : Hp) : Prop := Same Hf H ∧ ∀ b o, Fo b = some o → H b = some o ∧ Hf b = none
noncomputable def SndS (e : EvS) (t : TS) : Prop := ∀ σa nx r, e σa nx = some r → ∀ Fo Hf H σ, Good K C Fo Hf H σa σ → ∀ D : Ends,
  (∀ σa' σ' Hf' H', nx σa' = some r → Same Hf Hf' → Good K C Fo Hf' H' σa' σ' → D.nx σ' H') → (∀ v Hf' H', Same Hf Hf' → FoOk Fo Hf' H' → Rl K C Hf' r v → D.rt v H') → t D σ H
noncomputable def Wk (J : It) (Hf : Hp) (xs : List AV) : Prop := ∀ Hf2 H2, Same Hf Hf2 → Same Hf2 H2 →
  (∀ (i : Nat) (y : AV), xs[i]? = some y → J.go i H2 ∧ ∀ x H3, J.yld i H2 x H3 → (H3 = H2 ∧ Rl K C Hf2 y x) ∨ ∃ p ys vs, H2 p = none ∧ H3 = upd H2 p (.tup vs) ∧ x = .ref p ∧ y = .tup ys ∧ RlL K C Hf2 ys vs) ∧ J.stop xs.length H2
noncomputable def SndI (e : EvA) (t : TI) : Prop := ∀ σa k r, e σa k = some r → ∀ Fo Hf H σ, Good K C Fo Hf H σa σ → ∀ R : It → Hp → Prop,
  (∀ xs σa' J Hf' H', k xs σa' = some r → Same Hf Hf' → Good K C Fo Hf' H' σa' σ → Wk K C J Hf' xs → R J H') → t σ H R
noncomputable def SndG (g : EvG) (t : TG) : Prop := ∀ x σa nx r, g x σa nx = some r → ∀ Fo Hf H σ v, Good K C Fo Hf H σa σ → Rl K C Hf x v → ∀ R : L2.St → Hp → Prop,
  (∀ σa' σ', nx σa' = some r → Good K C Fo Hf H σa' σ' → R σ' H) → t v σ H R
end
theorem Same.refl' (H : Hp) : Same H H := fun _ _ e => e
theorem Same.trans' {H H1 H2 : Hp} (a : Same H H1) (b : Same H1 H2) : Same H H2 := fun x o e => b _ _ (a _ _ e)
noncomputable def eVar (i : Nat) : Ev := fun σ k => SV.rec none (fun x => k x σ) (fun xs => setF σ i (.fz (.lst xs)) fun σ' => k (.lst xs) σ') (getS σ i)
noncomputable def eC (x : AV) : Ev := fun σ k => k x σ
section
variable {K : PySem.W.Frag} {C : Addr}
theorem s_var {i : Nat} : Snd K C (eVar i) (tVar i) := by
  intro σa k r h Fo Hf H σ g Q q
  unfold eVar at h
  cases e : getS σa i with
  | no => rw [e] at h; exact nomatch h
  | fz x =>
    rw [e] at h
    obtain ⟨v, h1, h2⟩ := g.fz i x e
    exact ⟨v, h1, q x σa v Hf H h (Same.refl' _) g h2⟩
  | op xs =>
    rw [e] at h
    have h' : setF σa i (.fz (.lst xs)) (fun σ' => k (.lst xs) σ') = some r := h
    rw [setF_eq] at h'
    obtain ⟨a, vs, h1, h2, s, g', rl⟩ := g.freeze e
    exact ⟨_, h1, q _ _ _ _ _ h' s g' rl⟩
theorem s_c {x : AV} {v : V} (h : ∀ H, Rl K C H x v) : Snd K C (eC x) (tC v) := fun _ _ _ e _ Hf H _ g _ q => q _ _ _ _ _ e (Same.refl' _) g (h Hf)
theorem s_int {n : Int} : Snd K C (eC (.int n)) (tC (.int n)) := s_c fun _ => .int
theorem s_bl {b : Bool} : Snd K C (eC (.bl b)) (tC (.bl b)) := s_c fun _ => .bl
theorem s_non : Snd K C (eC .non) (tC .non) := s_c fun _ => .non
end
noncomputable def asI (x : AV) (k : Int → O) : O := AV.casesOn x none (fun _ => none) (fun i => k i) (fun _ => none) (fun _ => none) (fun _ => none) (fun _ _ _ => none)
noncomputable def asB (x : AV) (k : Bool → O) : O := AV.casesOn x none (fun b => k b) (fun _ => none) (fun _ => none) (fun _ => none) (fun _ => none) (fun _ _ _ => none)
noncomputable def asL (x : AV) (k : List AV → O) : O := AV.casesOn x none (fun _ => none) (fun _ => none) (fun _ => none) (fun _ => none) k (fun _ _ _ => none)
noncomputable def asT (x : AV) (k : List AV → O) : O := AV.casesOn x none (fun _ => none) (fun _ => none) (fun _ => none) k (fun _ => none) (fun _ _ _ => none)
theorem asI_eq {x : AV} {k : Int → O} {r : AV} (h : asI x k = some r) : ∃ i, x = .int i ∧ k i = some r := by
  cases x <;> first | exact ⟨_, rfl, h⟩ | exact nomatch h
theorem asB_eq {x : AV} {k : Bool → O} {r : AV} (h : asB x k = some r) : ∃ i, x = .bl i ∧ k i = some r := by
  cases x <;> first | exact ⟨_, rfl, h⟩ | exact nomatch h
theorem asL_eq {x : AV} {k : List AV → O} {r : AV} (h : asL x k = some r) : ∃ i, x = .lst i ∧ k i = some r := by
  cases x <;> first | exact ⟨_, rfl, h⟩ | exact nomatch h
theorem asT_eq {x : AV} {k : List AV → O} {r : AV} (h : asT x k = some r) : ∃ i, x = .tup i ∧ k i = some r := by
  cases x <;> first | exact ⟨_, rfl, h⟩ | exact nomatch h
noncomputable def ifB (c : Bool) (a b : O) : O := Bool.rec b a c
theorem ifB_some {c : Bool} {a : O} {r : AV} (h : ifB c a none = some r) : c = true ∧ a = some r := by
  cases c
  · exact nomatch h
  · exact ⟨rfl, h⟩
noncomputable def eI2 (f : Int → Int → Int) (a b : Ev) : Ev := fun σ k => a σ fun x σ1 => b σ1 fun y σ2 => asI x fun i => asI y fun j => fI (f i j) fun n => k (.int n) σ2
noncomputable def eI2c (f : Int → Int → Int) (c : Int → Int → Bool) (a b : Ev) : Ev := fun σ k => a σ fun x σ1 => b σ1 fun y σ2 => asI x fun i => asI y fun j => ifB (c i j) (fI (f i j) fun n => k (.int n) σ2) none
noncomputable def eB2 (f : Int → Int → Bool) (a b : Ev) : Ev := fun σ k => a σ fun x σ1 => b σ1 fun y σ2 => asI x fun i => asI y fun j => ifB (f i j) (k (.bl true) σ2) (k (.bl false) σ2)
noncomputable def eI1 (f : Int → Int) (a : Ev) : Ev := fun σ k => a σ fun x σ1 => asI x fun i => fI (f i) fun n => k (.int n) σ1
section
variable {K : PySem.W.Frag} {C : Addr} {a b : Ev} {ta tb : TE}
theorem s_i0 {f : Int → Int → Int} (ha : Snd K C a ta) (hb : Snd K C b tb) : Snd K C (eI2 f a b) (tOp (rI0 fun i j => .int (f i j)) ta tb) := by
  intro σa k r h Fo Hf H σ g Q q
  refine ha _ _ _ h Fo Hf H σ g _ fun x σ1 v Hf1 H1 h1 s1 g1 r1 => hb _ _ _ h1 Fo Hf1 H1 σ g1 _ fun y σ2 u Hf2 H2 h2 s2 g2 r2 => ?_
  obtain ⟨i, rfl, h3⟩ := asI_eq h2
  obtain ⟨j, rfl, h4⟩ := asI_eq h3
  rw [fI_eq] at h4
  cases r1; cases r2
  exact ⟨i, j, rfl, rfl, q _ _ _ _ _ h4 (Same.trans' s1 s2) g2 .int⟩
theorem s_i {f : Int → Int → Int} {c : Int → Int → Bool} {Cd : Int → Int → Prop} (hc : ∀ i j, c i j = true → Cd i j) (ha : Snd K C a ta) (hb : Snd K C b tb) : Snd K C (eI2c f c a b) (tOp (rI Cd fun i j => .int (f i j)) ta tb) := by
  intro σa k r h Fo Hf H σ g Q q
  refine ha _ _ _ h Fo Hf H σ g _ fun x σ1 v Hf1 H1 h1 s1 g1 r1 => hb _ _ _ h1 Fo Hf1 H1 σ g1 _ fun y σ2 u Hf2 H2 h2 s2 g2 r2 => ?_
  obtain ⟨i, rfl, h3⟩ := asI_eq h2
  obtain ⟨j, rfl, h4⟩ := asI_eq h3
  obtain ⟨h5, h6⟩ := ifB_some h4
  rw [fI_eq] at h6
  cases r1; cases r2
  exact ⟨i, j, rfl, rfl, hc i j h5, q _ _ _ _ _ h6 (Same.trans' s1 s2) g2 .int⟩
theorem ifB_val {f : Bool} {k : AV → O} {r : AV} (h : ifB f (k (.bl true)) (k (.bl false)) = some r) : k (.bl f) = some r := by
  cases f <;> exact h
theorem s_b0 {f f' : Int → Int → Bool} (hf : ∀ i j, f i j = f' i j) (ha : Snd K C a ta) (hb : Snd K C b tb) : Snd K C (eB2 f a b) (tOp (rI0 fun i j => .bl (f' i j)) ta tb) := by
  intro σa k r h Fo Hf H σ g Q q
  refine ha _ _ _ h Fo Hf H σ g _ fun x σ1 v Hf1 H1 h1 s1 g1 r1 => hb _ _ _ h1 Fo Hf1 H1 σ g1 _ fun y σ2 u Hf2 H2 h2 s2 g2 r2 => ?_
  obtain ⟨i, rfl, h3⟩ := asI_eq h2
  obtain ⟨j, rfl, h4⟩ := asI_eq h3
  have h5 := ifB_val (k := fun z => k z σ2) h4
  cases r1; cases r2
  refine ⟨i, j, rfl, rfl, ?_⟩
  dsimp only
  rw [← hf]
  exact q _ _ _ _ _ h5 (Same.trans' s1 s2) g2 .bl
theorem s_eqi {f : Int → Int → Bool} (hf : ∀ i j, f i j = decide (i = j)) (ha : Snd K C a ta) (hb : Snd K C b tb) : Snd K C (eB2 f a b) (tOp rEq ta tb) := by
  intro σa k r h Fo Hf H σ g Q q
  refine ha _ _ _ h Fo Hf H σ g _ fun x σ1 v Hf1 H1 h1 s1 g1 r1 => hb _ _ _ h1 Fo Hf1 H1 σ g1 _ fun y σ2 u Hf2 H2 h2 s2 g2 r2 => ?_
  obtain ⟨i, rfl, h3⟩ := asI_eq h2
  obtain ⟨j, rfl, h4⟩ := asI_eq h3
  have h5 := ifB_val (k := fun z => k z σ2) h4
  cases r1; cases r2
  refine r_eqi ?_
  rw [← hf]
  exact q _ _ _ _ _ h5 (Same.trans' s1 s2) g2 .bl
theorem s_nei {f : Int → Int → Bool} (hf : ∀ i j, f i j = !decide (i = j)) (ha : Snd K C a ta) (hb : Snd K C b tb) : Snd K C (eB2 f a b) (tOp rNe ta tb) := by
  intro σa k r h Fo Hf H σ g Q q
  refine ha _ _ _ h Fo Hf H σ g _ fun x σ1 v Hf1 H1 h1 s1 g1 r1 => hb _ _ _ h1 Fo Hf1 H1 σ g1 _ fun y σ2 u Hf2 H2 h2 s2 g2 r2 => ?_
  obtain ⟨i, rfl, h3⟩ := asI_eq h2
  obtain ⟨j, rfl, h4⟩ := asI_eq h3
  have h5 := ifB_val (k := fun z => k z σ2) h4
  cases r1; cases r2
  refine r_nei ?_
  rw [← hf]
  exact q _ _ _ _ _ h5 (Same.trans' s1 s2) g2 .bl
theorem s_neg {f : Int → Int} (hf : ∀ i, f i = -i) (ha : Snd K C a ta) : Snd K C (eI1 f a) (tUn (rU fun i => .int (-i)) ta) := by
  intro σa k r h Fo Hf H σ g Q q
  refine ha _ _ _ h Fo Hf H σ g _ fun x σ1 v Hf1 H1 h1 s1 g1 r1 => ?_
  obtain ⟨i, rfl, h3⟩ := asI_eq h1
  rw [fI_eq] at h3
  cases r1
  refine ⟨i, rfl, ?_⟩
  dsimp only
  rw [← hf]
  exact q _ _ _ _ _ h3 s1 g1 .int
end
noncomputable def is0 (i : Int) : Bool := Int.rec (fun n => Nat.beq n 0) (fun _ => false) i
noncomputable def notB (b : Bool) : Bool := Bool.rec true false b
theorem notB_eq {b : Bool} : notB b = !b := by cases b <;> rfl
theorem is0_eq (i : Int) : is0 i = decide (i = 0) := by
  cases i with
  | ofNat n => cases n with
    | zero => rfl
    | succ n =>
      have h : ¬ (Int.ofNat (n + 1)) = 0 := by simp only [Int.ofNat_eq_natCast]; lia
      rw [decide_eq_false h]; rfl
  | negSucc n => rfl
noncomputable def ne0 (_ j : Int) : Bool := notB (is0 j)
theorem ne0_ok (i j : Int) (h : ne0 i j = true) : j ≠ 0 := by
  unfold ne0 at h
  rw [notB_eq, is0_eq] at h
  simpa using h
noncomputable def nab (i : Int) : Nat := Int.rec (fun n => n) (fun n => Nat.succ n) i
theorem nab_eq (i : Int) : nab i = i.natAbs := by cases i <;> rfl
noncomputable def okM (i j : Int) : Bool := Bool.rec false (Nat.ble (Nat.log2 (nab j)) 100000) (Nat.ble (Nat.log2 (nab i)) 100000)
theorem log2_bd {n m : Nat} (h : Nat.log2 n ≤ m) : n < 2 ^ (m + 1) := by
  by_cases e : n = 0
  · subst e; exact Nat.two_pow_pos _
  · exact (Nat.log2_lt e).mp (by lia)
theorem okM_ok (i j : Int) (h : okM i j = true) : IntMulOk i j := by
  unfold okM at h
  cases e : Nat.ble (Nat.log2 (nab i)) 100000 with
  | false => rw [e] at h; exact nomatch h
  | true =>
    rw [e] at h
    have h1 := Nat.le_of_ble_eq_true e
    have h2 := Nat.le_of_ble_eq_true (h : Nat.ble (Nat.log2 (nab j)) 100000 = true)
    rw [nab_eq] at h1 h2
    exact PySem.IntMulOk.of_le (PySem.intBits_le_iff.mpr (log2_bd h1)) (PySem.intBits_le_iff.mpr (log2_bd h2)) (by lia)
noncomputable def ltI (i j : Int) : Bool := Int.rec (fun m => Int.rec (fun n => Nat.ble (Nat.succ m) n) (fun _ => false) j) (fun m => Int.rec (fun _ => true) (fun n => Nat.ble (Nat.succ n) m) j) i
theorem ltI_eq (i j : Int) : ltI i j = decide (i < j) := by
  cases i with
  | ofNat m => cases j with
    | ofNat n =>
      show Nat.ble (m + 1) n = _
      rw [Bool.eq_iff_iff, Nat.ble_eq, decide_eq_true_eq]
      simp only [Int.ofNat_eq_natCast]; lia
    | negSucc n => rw [decide_eq_false (by simp only [Int.ofNat_eq_natCast]; lia)]; rfl
  | negSucc m => cases j with
    | ofNat n => rw [decide_eq_true (by simp only [Int.ofNat_eq_natCast]; lia)]; rfl
    | negSucc n =>
      show Nat.ble (n + 1) m = _
      rw [Bool.eq_iff_iff, Nat.ble_eq, decide_eq_true_eq]
      lia
noncomputable def gtI (i j : Int) : Bool := ltI j i
theorem gtI_eq (i j : Int) : gtI i j = decide (j < i) := ltI_eq j i
noncomputable def leI (i j : Int) : Bool := notB (ltI j i)
theorem leI_eq (i j : Int) : leI i j = decide (i ≤ j) := by
  unfold leI
  rw [notB_eq, ltI_eq, Bool.eq_iff_iff]
  simp
noncomputable def geI (i j : Int) : Bool := notB (ltI i j)
theorem geI_eq (i j : Int) : geI i j = decide (j ≤ i) := leI_eq j i
noncomputable def eqI (i j : Int) : Bool := Int.rec (fun m => Int.rec (fun n => Nat.beq m n) (fun _ => false) j) (fun m => Int.rec (fun _ => false) (fun n => Nat.beq m n) j) i
theorem eqI_eq (i j : Int) : eqI i j = decide (i = j) := by
  cases i with
  | ofNat m => cases j with
    | ofNat n =>
      show Nat.beq m n = _
      rw [Bool.eq_iff_iff, Nat.beq_eq, decide_eq_true_eq]
      simp only [Int.ofNat_eq_natCast]; lia
    | negSucc n => rw [decide_eq_false (by simp only [Int.ofNat_eq_natCast]; lia)]; rfl
  | negSucc m => cases j with
    | ofNat n => rw [decide_eq_false (by simp only [Int.ofNat_eq_natCast]; lia)]; rfl
    | negSucc n =>
      show Nat.beq m n = _
      rw [Bool.eq_iff_iff, Nat.beq_eq, decide_eq_true_eq]
      lia
noncomputable def neI (i j : Int) : Bool := notB (eqI i j)
theorem neI_eq (i j : Int) : neI i j = !decide (i = j) := by unfold neI; rw [notB_eq, eqI_eq]
noncomputable def ngI (i : Int) : Int := Int.rec (fun n => Nat.rec (.ofNat 0) (fun m _ => .negSucc m) n) (fun n => .ofNat (Nat.succ n)) i
theorem ngI_eq (i : Int) : ngI i = -i := by
  cases i with
  | ofNat n => cases n <;> rfl
  | negSucc n => rfl
noncomputable def abI (i : Int) : Int := Int.rec (fun n => .ofNat n) (fun n => .ofNat (Nat.succ n)) i
theorem abI_eq (i : Int) : abI i = if i < 0 then -i else i := by
  cases i with
  | ofNat n => rw [if_neg (by simp only [Int.ofNat_eq_natCast]; lia)]; rfl
  | negSucc n => rw [if_pos (by lia)]; rfl
noncomputable def okP (i j : Int) : Bool := Bool.rec false (Bool.rec false (Nat.ble (Nat.log2 (nab i)) 60) (leI j 100000)) (leI 0 j)
theorem okP_ok (i j : Int) (h : okP i j = true) : CPow i j := by
  unfold okP at h
  cases e : leI 0 j with
  | false => rw [e] at h; exact nomatch h
  | true =>
    rw [e] at h
    cases e2 : leI j 100000 with
    | false => rw [e2] at h; exact nomatch h
    | true =>
      rw [e2] at h
      have h2 := Nat.le_of_ble_eq_true (h : Nat.ble (Nat.log2 (nab i)) 60 = true)
      rw [leI_eq] at e e2
      rw [nab_eq] at h2
      have h3 := log2_bd h2
      exact ⟨by simpa using e, by have : j ≤ 100000 := by simpa using e2
                                  lia, by lia⟩
section
variable {K : PySem.W.Frag} {C : Addr} {a b : Ev} {ta tb : TE}
theorem s_add (ha : Snd K C a ta) (hb : Snd K C b tb) : Snd K C (eI2 Int.add a b) (tOp (rI0 fun i j => .int (i + j)) ta tb) := s_i0 ha hb
theorem s_sub (ha : Snd K C a ta) (hb : Snd K C b tb) : Snd K C (eI2 Int.sub a b) (tOp (rI0 fun i j => .int (i - j)) ta tb) := s_i0 ha hb
theorem s_mul (ha : Snd K C a ta) (hb : Snd K C b tb) : Snd K C (eI2c Int.mul okM a b) (tOp (rI (fun i j => IntMulOk i j) fun i j => .int (i * j)) ta tb) := s_i okM_ok ha hb
theorem s_div (ha : Snd K C a ta) (hb : Snd K C b tb) : Snd K C (eI2c Int.fdiv ne0 a b) (tOp (rI (fun _ j => j ≠ 0) fun i j => .int (i.fdiv j)) ta tb) := s_i ne0_ok ha hb
theorem s_mod (ha : Snd K C a ta) (hb : Snd K C b tb) : Snd K C (eI2c Int.fmod ne0 a b) (tOp (rI (fun _ j => j ≠ 0) fun i j => .int (i.fmod j)) ta tb) := s_i ne0_ok ha hb
theorem s_pow (ha : Snd K C a ta) (hb : Snd K C b tb) : Snd K C (eI2c (fun i j => i ^ j.toNat) okP a b) (tOp (rI CPow fun i j => .int (i ^ j.toNat)) ta tb) := s_i okP_ok ha hb
theorem s_lt (ha : Snd K C a ta) (hb : Snd K C b tb) : Snd K C (eB2 ltI a b) (tOp (rI0 fun i j => .bl (decide (i < j))) ta tb) := s_b0 ltI_eq ha hb
theorem s_gt (ha : Snd K C a ta) (hb : Snd K C b tb) : Snd K C (eB2 gtI a b) (tOp (rI0 fun i j => .bl (decide (j < i))) ta tb) := s_b0 gtI_eq ha hb
theorem s_ge (ha : Snd K C a ta) (hb : Snd K C b tb) : Snd K C (eB2 geI a b) (tOp (rI0 fun i j => .bl (decide (j ≤ i))) ta tb) := s_b0 geI_eq ha hb
theorem s_eq (ha : Snd K C a ta) (hb : Snd K C b tb) : Snd K C (eB2 eqI a b) (tOp rEq ta tb) := s_eqi eqI_eq ha hb
theorem s_ne (ha : Snd K C a ta) (hb : Snd K C b tb) : Snd K C (eB2 neI a b) (tOp rNe ta tb) := s_nei neI_eq ha hb
theorem s_ng (ha : Snd K C a ta) : Snd K C (eI1 ngI a) (tUn (rU fun i => .int (-i)) ta) := s_neg ngI_eq ha
end
noncomputable def isN (x : AV) : Bool := AV.casesOn x true (fun _ => false) (fun _ => false) (fun _ => false) (fun _ => false) (fun _ => false) (fun _ _ _ => false)
noncomputable def eIsN (a : Ev) : Ev := fun σ k => a σ fun x σ1 => ifB (isN x) (k (.bl true) σ1) (k (.bl false) σ1)
noncomputable def eNotN (a : Ev) : Ev := fun σ k => a σ fun x σ1 => ifB (isN x) (k (.bl false) σ1) (k (.bl true) σ1)
noncomputable def as2 (x : AV) (k : Int → Int → O) : O := asT x fun xs => List.rec none (fun u r _ => List.rec none (fun w s _ => List.rec (asI u fun i => asI w fun j => k i j) (fun _ _ _ => none) s) r) xs
noncomputable def andB (a b : Bool) : Bool := Bool.rec false b a
noncomputable def eEq2 (a b : Ev) : Ev := fun σ k => a σ fun x σ1 => b σ1 fun y σ2 => as2 x fun p q => as2 y fun p' q' => ifB (andB (eqI p p') (eqI q q')) (k (.bl true) σ2) (k (.bl false) σ2)
section
variable {K : PySem.W.Frag} {C : Addr} {a b : Ev} {ta tb : TE}
theorem Rl.isN_eq {H : Hp} {x : AV} {v : V} (h : Rl K C H x v) : isN x = decide (v = .non) := by
  cases h <;> first | rfl | (rw [decide_eq_false (by nofun)]; rfl)
theorem s_isN (ha : Snd K C a ta) : Snd K C (eIsN a) (tOp (fun x y H Q => y = .non ∧ Q (.bl (decide (x = .non))) H) ta (tC .non)) := by
  intro σa k r h Fo Hf H σ g Q q
  refine ha _ _ _ h Fo Hf H σ g _ fun x σ1 v Hf1 H1 h1 s1 g1 r1 => ⟨rfl, ?_⟩
  have h5 := ifB_val (k := fun z => k z σ1) h1
  rw [← r1.isN_eq]
  exact q _ _ _ _ _ h5 s1 g1 .bl
theorem s_notN (ha : Snd K C a ta) : Snd K C (eNotN a) (tOp (fun x y H Q => y = .non ∧ Q (.bl (!decide (x = .non))) H) ta (tC .non)) := by
  intro σa k r h Fo Hf H σ g Q q
  refine ha _ _ _ h Fo Hf H σ g _ fun x σ1 v Hf1 H1 h1 s1 g1 r1 => ⟨rfl, ?_⟩
  rw [← r1.isN_eq]
  have h5 : k (.bl (!isN x)) σ1 = some r := by cases e : isN x <;> rw [e] at h1 <;> exact h1
  exact q _ _ _ _ _ h5 s1 g1 .bl
theorem as2_eq {x : AV} {k : Int → Int → O} {r : AV} (h : as2 x k = some r) : ∃ i j, x = .tup [.int i, .int j] ∧ k i j = some r := by
  obtain ⟨xs, rfl, h⟩ := asT_eq h
  match xs, h with
  | [u, w], h =>
    obtain ⟨i, rfl, h⟩ := asI_eq h
    obtain ⟨j, rfl, h⟩ := asI_eq h
    exact ⟨i, j, rfl, h⟩
theorem Rl.two {H : Hp} {i j : Int} {v : V} (h : Rl K C H (.tup [.int i, .int j]) v) : ∃ a, v = .ref a ∧ SqT K H a [.int i, .int j] := by
  cases h with
  | tup h hs =>
    cases hs with
    | cons h1 hs =>
      cases hs with
      | cons h2 hs =>
        cases hs; cases h1; cases h2
        exact ⟨_, rfl, h⟩
theorem andB_eq {a b : Bool} : andB a b = (a && b) := by cases a <;> rfl
theorem s_eq2 (ha : Snd K C a ta) (hb : Snd K C b tb) : Snd K C (eEq2 a b) (tOp (rEq2 K) ta tb) := by
  intro σa k r h Fo Hf H σ g Q q
  refine ha _ _ _ h Fo Hf H σ g _ fun x σ1 v Hf1 H1 h1 s1 g1 r1 => hb _ _ _ h1 Fo Hf1 H1 σ g1 _ fun y σ2 u Hf2 H2 h2 s2 g2 r2 => ?_
  obtain ⟨p, p2, rfl, h3⟩ := as2_eq h2
  obtain ⟨p', q', rfl, h4⟩ := as2_eq h3
  have h5 := ifB_val (k := fun z => k z σ2) h4
  obtain ⟨a1, rfl, e1⟩ := r1.two
  obtain ⟨a2, rfl, e2⟩ := r2.two
  refine ⟨a1, a2, p, p2, p', q', rfl, rfl, Same.tup g2.sub (Same.tup s2 e1), Same.tup g2.sub e2, ?_⟩
  rw [andB_eq, eqI_eq, eqI_eq] at h5
  have e : (p == p' && p2 == q') = (decide (p = p') && decide (p2 = q')) := rfl
  rw [e]
  exact q _ _ _ _ _ h5 (Same.trans' s1 s2) g2 .bl
end
noncomputable def eT (e : Ev) : EvT := fun σ k => e σ fun x σ1 => asB x fun b => ifB b (k true σ1) (k false σ1)
noncomputable def lemp (xs : List AV) : Bool := List.rec false (fun _ _ _ => true) xs
noncomputable def eTru (e : Ev) : EvT := fun σ k => e σ fun x σ1 => AV.casesOn x none (fun b => ifB b (k true σ1) (k false σ1)) (fun i => ifB (is0 i) (k false σ1) (k true σ1)) (fun _ => none) (fun _ => none) (fun xs => ifB (lemp xs) (k true σ1) (k false σ1)) (fun _ _ _ => none)
noncomputable def eTruO (i : Nat) : EvT := fun σ k => SV.rec none (fun x => asL x fun xs => ifB (lemp xs) (k true σ) (k false σ)) (fun xs => ifB (lemp xs) (k true σ) (k false σ)) (getS σ i)
noncomputable def eAnd (a b : EvT) : EvT := fun σ k => a σ fun c σ1 => ifB c (b σ1 k) (k false σ1)
noncomputable def eOr (a b : EvT) : EvT := fun σ k => a σ fun c σ1 => ifB c (k true σ1) (b σ1 k)
noncomputable def eNot (a : EvT) : EvT := fun σ k => a σ fun c σ1 => ifB c (k false σ1) (k true σ1)
noncomputable def eAndV (a b : Ev) : Ev := fun σ k => a σ fun x σ1 => asB x fun c => ifB c (b σ1 k) (k (.bl false) σ1)
noncomputable def eIf (t : EvT) (a b : Ev) : Ev := fun σ k => t σ fun c σ1 => ifB c (a σ1 k) (b σ1 k)
section
variable {K : PySem.W.Frag} {C : Addr} {a b : Ev} {ta tb : TE} {p q : EvT} {tp tq : TT}
theorem ifB_bool {c : Bool} {k : Bool → O} {r : AV} (h : ifB c (k true) (k false) = some r) : k c = some r := by cases c <;> exact h
theorem s_test (ha : Snd K C a ta) : SndT K C (eT a) (tTest ta) := by
  intro σa k r h Fo Hf H σ g Q q
  refine ha _ _ _ h Fo Hf H σ g _ fun x σ1 v Hf1 H1 h1 s1 g1 r1 => ?_
  obtain ⟨c, rfl, h2⟩ := asB_eq h1
  cases r1
  exact ⟨c, rfl, q _ _ _ _ (ifB_bool (k := fun c => k c σ1) h2) s1 g1⟩
theorem s_tB (ha : Snd K C a ta) : SndT K C (eT a) (tB ta) := by
  intro σa k r h Fo Hf H σ g Q q
  refine ha _ _ _ h Fo Hf H σ g _ fun x σ1 v Hf1 H1 h1 s1 g1 r1 => ?_
  obtain ⟨c, rfl, h2⟩ := asB_eq h1
  cases r1
  exact ⟨c, rfl, q _ _ _ _ (ifB_bool (k := fun c => k c σ1) h2) s1 g1⟩
theorem lemp_eq {xs : List AV} {vs : List V} {H : Hp} (h : RlL K C H xs vs) : lemp xs = !vs.isEmpty := by cases h <;> rfl
theorem s_tru (ha : Snd K C a ta) : SndT K C (eTru a) (fun σ H Q => ta σ H fun x H' => ∃ k, TruV K x H' k ∧ Q k H') := by
  intro σa k r h Fo Hf H σ g Q q
  refine ha _ _ _ h Fo Hf H σ g _ fun x σ1 v Hf1 H1 h1 s1 g1 r1 => ?_
  cases r1 with
  | bl => exact ⟨_, rfl, q _ _ _ _ (ifB_bool (k := fun c => k c σ1) h1) s1 g1⟩
  | int =>
    rename_i i
    refine ⟨_, rfl, q _ _ _ _ ?_ s1 g1⟩
    have h2 : ifB (is0 i) (k false σ1) (k true σ1) = some r := h1
    rw [is0_eq] at h2
    have e : (i != 0) = !decide (i = 0) := rfl
    rw [e]
    cases z : decide (i = 0) <;> rw [z] at h2 <;> exact h2
  | lst hl hs =>
    refine ⟨_, .inl ⟨_, .inl (.inl (g1.sub _ _ hl)), rfl⟩, q _ _ _ _ ?_ s1 g1⟩
    rw [← lemp_eq hs]
    exact ifB_bool (k := fun c => k c σ1) h1
  | non => exact nomatch h1
  | str => exact nomatch h1
  | tup _ _ => exact nomatch h1
  | root _ _ _ _ => exact nomatch h1
theorem slotL {σa : Sa} {σ : L2.St} {Fo Hf H : Hp} {i : Nat} {k : List AV → O} {r : AV} (g : Good K C Fo Hf H σa σ) (h : (SV.rec none (fun x => asL x k) (fun xs => k xs) (getS σa i) : O) = some r) : ∃ xs a vs, σ[i]? = some (some (.ref a)) ∧ H a = some (.lst vs) ∧ RlL K C Hf xs vs ∧ k xs = some r := by
  cases e : getS σa i with
  | no => rw [e] at h; exact nomatch h
  | fz x =>
    rw [e] at h
    obtain ⟨xs, rfl, h⟩ := asL_eq h
    obtain ⟨v, h1, h2⟩ := g.fz i _ e
    cases h2 with
    | lst h3 h4 => exact ⟨xs, _, _, h1, g.sub _ _ h3, h4, h⟩
  | op xs =>
    rw [e] at h
    obtain ⟨a, vs, h1, h2, h3, h4, h5⟩ := g.op i xs e
    exact ⟨xs, a, vs, h1, h4, h5, h⟩
theorem s_truO {i : Nat} : SndT K C (eTruO i) (fun σ H Q => tVar i σ H fun x H' => ∃ k, TruV K x H' k ∧ Q k H') := by
  intro σa k r h Fo Hf H σ g Q q
  obtain ⟨xs, a, vs, h1, h2, h3, h4⟩ := slotL (k := fun xs => ifB (lemp xs) (k true σa) (k false σa)) g h
  refine ⟨_, h1, _, .inl ⟨_, .inl (.inl h2), rfl⟩, q _ _ _ _ ?_ (Same.refl' _) g⟩
  rw [← lemp_eq h3]
  exact ifB_bool (k := fun c => k c σa) h4
theorem s_and (hp : SndT K C p tp) (hq : SndT K C q tq) : SndT K C (eAnd p q) (tAnd tp tq) := by
  intro σa k r h Fo Hf H σ g Q z
  refine hp _ _ _ h Fo Hf H σ g _ fun c σ1 Hf1 H1 h1 s1 g1 => ?_
  cases c with
  | true => rw [if_pos rfl]; exact hq _ _ _ h1 Fo Hf1 H1 σ g1 _ fun b σ2 Hf2 H2 h2 s2 g2 => z _ _ _ _ h2 (Same.trans' s1 s2) g2
  | false => rw [if_neg (by decide)]; exact z _ _ _ _ h1 s1 g1
theorem s_or (hp : SndT K C p tp) (hq : SndT K C q tq) : SndT K C (eOr p q) (tOr tp tq) := by
  intro σa k r h Fo Hf H σ g Q z
  refine hp _ _ _ h Fo Hf H σ g _ fun c σ1 Hf1 H1 h1 s1 g1 => ?_
  cases c with
  | false => rw [if_neg (by decide)]; exact hq _ _ _ h1 Fo Hf1 H1 σ g1 _ fun b σ2 Hf2 H2 h2 s2 g2 => z _ _ _ _ h2 (Same.trans' s1 s2) g2
  | true => rw [if_pos rfl]; exact z _ _ _ _ h1 s1 g1
theorem s_not (hp : SndT K C p tp) : SndT K C (eNot p) (tNot tp) := by
  intro σa k r h Fo Hf H σ g Q z
  refine hp _ _ _ h Fo Hf H σ g _ fun c σ1 Hf1 H1 h1 s1 g1 => z _ _ _ _ ?_ s1 g1
  cases c <;> exact h1
theorem s_andV (ha : Snd K C a ta) (hb : Snd K C b tb) : Snd K C (eAndV a b) (tAndV ta tb) := by
  intro σa k r h Fo Hf H σ g Q z
  refine ha _ _ _ h Fo Hf H σ g _ fun x σ1 v Hf1 H1 h1 s1 g1 r1 => ?_
  obtain ⟨c, rfl, h2⟩ := asB_eq h1
  cases r1
  refine ⟨c, rfl, ?_⟩
  cases c with
  | true => rw [if_pos rfl]; exact hb _ _ _ h2 Fo Hf1 H1 σ g1 _ fun y σ2 u Hf2 H2 h3 s2 g2 r2 => z _ _ _ _ _ h3 (Same.trans' s1 s2) g2 r2
  | false => rw [if_neg (by decide)]; exact z _ _ _ _ _ h2 s1 g1 .bl
theorem s_if (hp : SndT K C p tp) (ha : Snd K C a ta) (hb : Snd K C b tb) : Snd K C (eIf p a b) (tIf tp ta tb) := by
  intro σa k r h Fo Hf H σ g Q z
  refine hp _ _ _ h Fo Hf H σ g _ fun c σ1 Hf1 H1 h1 s1 g1 => ?_
  cases c with
  | true => rw [if_pos rfl]; exact ha _ _ _ h1 Fo Hf1 H1 σ g1 _ fun y σ2 u Hf2 H2 h3 s2 g2 r2 => z _ _ _ _ _ h3 (Same.trans' s1 s2) g2 r2
  | false => rw [if_neg (by decide)]; exact hb _ _ _ h1 Fo Hf1 H1 σ g1 _ fun y σ2 u Hf2 H2 h3 s2 g2 r2 => z _ _ _ _ _ h3 (Same.trans' s1 s2) g2 r2
end
end CV
namespace CV
open PySem PySem.Spec PyProof.Rows L2
noncomputable def lenF (xs : List AV) : Nat := List.rec 0 (fun _ _ ih => Nat.succ ih) xs
theorem lenF_eq : ∀ xs : List AV, lenF xs = xs.length
  | [] => rfl
  | _ :: xs => congrArg Nat.succ (lenF_eq xs)
noncomputable def nthF (k : AV → O) (xs : List AV) : Nat → O := List.rec (motive := fun _ => Nat → O) (fun _ => none) (fun x _ ih n => Nat.rec (k x) (fun m _ => ih m) n) xs
theorem nthF_eq {k : AV → O} {r : AV} : ∀ {xs : List AV} {n : Nat}, nthF k xs n = some r → ∃ x, xs[n]? = some x ∧ k x = some r
  | [], _, h => nomatch h
  | x :: _, 0, h => ⟨x, rfl, h⟩
  | _ :: xs, n + 1, h => by
    obtain ⟨x, h1, h2⟩ := nthF_eq (xs := xs) (n := n) h
    exact ⟨x, by rw [List.getElem?_cons_succ]; exact h1, h2⟩
noncomputable def ixF (xs : List AV) (i : Int) (k : AV → O) : O := Int.rec (fun n => nthF k xs n) (fun m => ifB (Nat.ble (Nat.succ m) (lenF xs)) (nthF k xs (Nat.sub (lenF xs) (Nat.succ m))) none) i
section
variable {K : PySem.W.Frag} {C : Addr}
theorem ixF_eq {H : Hp} {xs : List AV} {vs : List V} {i : Int} {k : AV → O} {r : AV} (rl : RlL K C H xs vs) (h : ixF xs i k = some r) : ∃ x v, atI vs i = some v ∧ Rl K C H x v ∧ k x = some r := by
  have hl := rl.length
  cases i with
  | ofNat n =>
    obtain ⟨x, h1, h2⟩ := nthF_eq h
    obtain ⟨v, h3, h4⟩ := rl.get h1
    exact ⟨x, v, atI_nat h3, h4, h2⟩
  | negSucc m =>
    obtain ⟨h0, h⟩ := ifB_some (c := Nat.ble (Nat.succ m) (lenF xs)) h
    have hb := Nat.le_of_ble_eq_true h0
    rw [lenF_eq] at hb
    obtain ⟨x, h1, h2⟩ := nthF_eq h
    rw [lenF_eq] at h1
    obtain ⟨v, h3, h4⟩ := rl.get h1
    refine ⟨x, v, ?_, h4, h2⟩
    unfold atI
    have e : ixN vs.length (Int.negSucc m) = some (xs.length - (m + 1)) := by
      unfold ixN
      rw [if_neg (by lia), if_pos (by lia)]
      congr 1
      lia
    rw [e]
    exact h3
end
noncomputable def hasS (σ : Sa) (i : Nat) (a : O) : O := SV.rec none (fun _ => a) (fun _ => a) (getS σ i)
noncomputable def eIxL (a b : Ev) : Ev := fun σ k => a σ fun x σ1 => b σ1 fun y σ2 => asL x fun xs => asI y fun i => ixF xs i fun z => k z σ2
noncomputable def eIxT (a b : Ev) : Ev := fun σ k => a σ fun x σ1 => b σ1 fun y σ2 => asT x fun xs => asI y fun i => ixF xs i fun z => k z σ2
noncomputable def slL (σ : Sa) (i : Nat) (k : List AV → O) : O := SV.rec none (fun x => asL x k) (fun xs => k xs) (getS σ i)
noncomputable def eIxO (i : Nat) (b : Ev) : Ev := fun σ k => hasS σ i (b σ fun y σ2 => asI y fun n => slL σ2 i fun xs => ixF xs n fun z => k z σ2)
section
variable {K : PySem.W.Frag} {C : Addr} {a b : Ev} {ta tb : TE}
theorem Rl.lst' {H : Hp} {xs : List AV} {v : V} (h : Rl K C H (.lst xs) v) : ∃ a vs, v = .ref a ∧ H a = some (.lst vs) ∧ RlL K C H xs vs := by
  cases h with
  | lst h hs => exact ⟨_, _, rfl, h, hs⟩
theorem Rl.tup' {H : Hp} {xs : List AV} {v : V} (h : Rl K C H (.tup xs) v) : ∃ a vs, v = .ref a ∧ SqT K H a vs ∧ RlL K C H xs vs := by
  cases h with
  | tup h hs => exact ⟨_, _, rfl, h, hs⟩
theorem s_ixL (ha : Snd K C a ta) (hb : Snd K C b tb) : Snd K C (eIxL a b) (tOp (rIxL K) ta tb) := by
  intro σa k r h Fo Hf H σ g Q q
  refine ha _ _ _ h Fo Hf H σ g _ fun x σ1 v Hf1 H1 h1 s1 g1 r1 => hb _ _ _ h1 Fo Hf1 H1 σ g1 _ fun y σ2 u Hf2 H2 h2 s2 g2 r2 => ?_
  obtain ⟨xs, rfl, h3⟩ := asL_eq h2
  obtain ⟨i, rfl, h4⟩ := asI_eq h3
  obtain ⟨p, vs, rfl, e1, e2⟩ := (r1.mono s2).lst'
  cases r2
  obtain ⟨z, w, e3, e4, h5⟩ := ixF_eq e2 h4
  exact ⟨p, vs, i, w, rfl, rfl, .inl (.inl (g2.sub _ _ e1)), e3, q _ _ _ _ _ h5 (Same.trans' s1 s2) g2 e4⟩
theorem s_ixT (ha : Snd K C a ta) (hb : Snd K C b tb) : Snd K C (eIxT a b) (tOp (rIxT K) ta tb) := by
  intro σa k r h Fo Hf H σ g Q q
  refine ha _ _ _ h Fo Hf H σ g _ fun x σ1 v Hf1 H1 h1 s1 g1 r1 => hb _ _ _ h1 Fo Hf1 H1 σ g1 _ fun y σ2 u Hf2 H2 h2 s2 g2 r2 => ?_
  obtain ⟨xs, rfl, h3⟩ := asT_eq h2
  obtain ⟨i, rfl, h4⟩ := asI_eq h3
  obtain ⟨p, vs, rfl, e1, e2⟩ := (r1.mono s2).tup'
  cases r2
  obtain ⟨z, w, e3, e4, h5⟩ := ixF_eq e2 h4
  exact ⟨p, vs, i, w, rfl, rfl, Same.tup g2.sub e1, e3, q _ _ _ _ _ h5 (Same.trans' s1 s2) g2 e4⟩
theorem hasS_eq {σa : Sa} {σ : L2.St} {Fo Hf H : Hp} {i : Nat} {o : O} {r : AV} (g : Good K C Fo Hf H σa σ) (h : hasS σa i o = some r) : (∃ v, σ[i]? = some (some v)) ∧ o = some r := by
  unfold hasS at h
  cases e : getS σa i with
  | no => rw [e] at h; exact nomatch h
  | fz x =>
    rw [e] at h
    obtain ⟨v, h1, _⟩ := g.fz i x e
    exact ⟨⟨v, h1⟩, h⟩
  | op xs =>
    rw [e] at h
    obtain ⟨v, _, h1, _⟩ := g.op i xs e
    exact ⟨⟨_, h1⟩, h⟩
theorem slL_eq {σa : Sa} {σ : L2.St} {Fo Hf H : Hp} {i : Nat} {k : List AV → O} {r : AV} (g : Good K C Fo Hf H σa σ) (h : slL σa i k = some r) : ∃ xs a vs, σ[i]? = some (some (.ref a)) ∧ H a = some (.lst vs) ∧ RlL K C Hf xs vs ∧ k xs = some r := slotL g h
theorem s_ixO {i : Nat} (hb : Snd K C b tb) : Snd K C (eIxO i b) (tOp (rIxL K) (tVar i) tb) := by
  intro σa k r h Fo Hf H σ g Q q
  obtain ⟨⟨v, hv⟩, h⟩ := hasS_eq g h
  refine ⟨v, hv, hb _ _ _ h Fo Hf H σ g _ fun y σ2 u Hf2 H2 h2 s2 g2 r2 => ?_⟩
  obtain ⟨n, rfl, h4⟩ := asI_eq h2
  cases r2
  obtain ⟨xs, p, vs, e1, e2, e3, h5⟩ := slL_eq g2 h4
  rw [hv] at e1; cases e1
  obtain ⟨z, w, e4, e5, h6⟩ := ixF_eq e3 h5
  exact ⟨p, vs, n, w, rfl, rfl, .inl (.inl e2), e4, q _ _ _ _ _ h6 s2 g2 e5⟩
end
noncomputable def aNil : EvA := fun σ k => k [] σ
noncomputable def aCons (a : Ev) (r : EvA) : EvA := fun σ k => a σ fun x σ1 => r σ1 fun xs σ2 => k (x :: xs) σ2
section
variable {K : PySem.W.Frag} {C : Addr} {a b : Ev} {ta tb : TE} {ar : EvA} {tr : TA}
theorem s_nil : SndA K C aNil tNil := fun _ _ _ e _ Hf H _ g _ q => q _ _ _ _ _ e (Same.refl' _) g .nil
theorem s_cons (ha : Snd K C a ta) (hr : SndA K C ar tr) : SndA K C (aCons a ar) (tCons ta tr) := by
  intro σa k r h Fo Hf H σ g Q q
  refine ha _ _ _ h Fo Hf H σ g _ fun x σ1 v Hf1 H1 h1 s1 g1 r1 => hr _ _ _ h1 Fo Hf1 H1 σ g1 _ fun xs σ2 vs Hf2 H2 h2 s2 g2 r2 => ?_
  exact q _ _ _ _ _ h2 (Same.trans' s1 s2) g2 (.cons (r1.mono s2) r2)
end
noncomputable def len4 (xs : List AV) (a : O) : O := ifB (Nat.ble (lenF xs) 1000) a none
theorem len4_eq {xs : List AV} {a : O} {r : AV} (h : len4 xs a = some r) : xs.length ≤ 1000 ∧ a = some r := by
  obtain ⟨h1, h2⟩ := ifB_some h
  have := Nat.le_of_ble_eq_true h1
  rw [lenF_eq] at this
  exact ⟨this, h2⟩
noncomputable def eFz (e : EvA) : Ev := fun σ k => e σ fun xs σ1 => k (.lst xs) σ1
noncomputable def oLst (a : EvA) : EvA := fun σ k => a σ fun xs σ1 => len4 xs (k xs σ1)
noncomputable def eTup (a : EvA) : Ev := fun σ k => a σ fun xs σ1 => len4 xs (k (.tup xs) σ1)
noncomputable def appF (xs : List AV) (ys : List AV) : (List AV → O) → O := List.rec (motive := fun _ => (List AV → O) → O) (fun k => k ys) (fun x _ ih k => ih fun zs => k (x :: zs)) xs
theorem appF_eq {ys : List AV} : ∀ {xs : List AV} {k : List AV → O}, appF xs ys k = k (xs ++ ys)
  | [], _ => rfl
  | x :: xs, k => appF_eq (xs := xs) (k := fun zs => k (x :: zs))
noncomputable def oCat (a b : Ev) : EvA := fun σ k => a σ fun x σ1 => b σ1 fun y σ2 => asL x fun xs => asL y fun ys => appF xs ys fun zs => len4 zs (k zs σ2)
noncomputable def repF (x : AV) (n : Nat) : (List AV → O) → O := Nat.rec (motive := fun _ => (List AV → O) → O) (fun k => k []) (fun _ ih k => ih fun zs => k (x :: zs)) n
theorem repF_eq {x : AV} : ∀ {n : Nat} {k : List AV → O}, repF x n k = k (List.replicate n x)
  | 0, _ => rfl
  | n + 1, k => repF_eq (n := n) (k := fun zs => k (x :: zs))
noncomputable def tnI (i : Int) : Nat := Int.rec (fun n => n) (fun _ => 0) i
theorem tnI_eq (i : Int) : tnI i = i.toNat := by cases i <;> rfl
noncomputable def one (xs : List AV) (k : AV → O) : O := List.rec none (fun x r _ => List.rec (k x) (fun _ _ _ => none) r) xs
theorem one_eq {xs : List AV} {k : AV → O} {r : AV} (h : one xs k = some r) : ∃ x, xs = [x] ∧ k x = some r := by
  match xs, h with
  | [x], h => exact ⟨x, rfl, h⟩
noncomputable def two (xs : List AV) (k : AV → AV → O) : O := List.rec none (fun x r _ => one r fun y => k x y) xs
theorem two_eq {xs : List AV} {k : AV → AV → O} {r : AV} (h : two xs k = some r) : ∃ x y, xs = [x, y] ∧ k x y = some r := by
  match xs, h with
  | x :: rest, h =>
    obtain ⟨y, rfl, h⟩ := one_eq (xs := rest) (k := fun y => k x y) h
    exact ⟨x, y, rfl, h⟩
noncomputable def oRep (a b : Ev) : EvA := fun σ k => a σ fun x σ1 => b σ1 fun y σ2 => asL x fun xs => one xs fun z => asI y fun n => ifB (leI n 1000) (ifB (leI (-1000) n) (repF z (tnI n) fun zs => k zs σ2) none) none
section
variable {K : PySem.W.Frag} {C : Addr} {a b : Ev} {ta tb : TE} {ar : EvA} {tr : TA} {oe : EvA} {te : TE}
theorem s_fz (h : SndO K C oe te) : Snd K C (eFz oe) te := by
  intro σa k r e Fo Hf H σ g Q q
  refine h _ _ _ e Fo Hf H σ g _ fun xs σ1 p vs Hf1 H1 h1 s1 g1 o1 => ?_
  obtain ⟨s2, g2, r2⟩ := g1.frozen o1
  exact q _ _ _ _ _ h1 (Same.trans' s1 s2) g2 r2
theorem s_lst (ha : SndA K C ar tr) : SndO K C (oLst ar) (tLst tr) := by
  intro σa k r h Fo Hf H σ g Q q
  refine ha _ _ _ h Fo Hf H σ g _ fun xs σ1 vs Hf1 H1 h1 s1 g1 r1 => ?_
  obtain ⟨hl, h2⟩ := len4_eq h1
  refine ⟨small4 (by rw [r1.length]; exact hl), fun p hp => ?_⟩
  obtain ⟨g2, o2⟩ := g1.opNew hp r1
  exact q _ _ _ _ _ _ h2 s1 g2 o2
theorem s_tup (ha : SndA K C ar tr) : Snd K C (eTup ar) (tTup tr) := by
  intro σa k r h Fo Hf H σ g Q q
  refine ha _ _ _ h Fo Hf H σ g _ fun xs σ1 vs Hf1 H1 h1 s1 g1 r1 => ?_
  obtain ⟨hl, h2⟩ := len4_eq h1
  refine ⟨small4 (by rw [r1.length]; exact hl), fun p hp => ?_⟩
  have sm : Same Hf1 (upd Hf1 p (.tup vs)) := Same.new (g1.nil hp).1 _
  exact q _ _ _ _ _ h2 (Same.trans' s1 sm) (g1.new hp _) (.tup (.inl (.inl upd_same)) (r1.mono sm))
theorem s_cat (ha : Snd K C a ta) (hb : Snd K C b tb) : SndO K C (oCat a b) (tOp rCat ta tb) := by
  intro σa k r h Fo Hf H σ g Q q
  refine ha _ _ _ h Fo Hf H σ g _ fun x σ1 v Hf1 H1 h1 s1 g1 r1 => hb _ _ _ h1 Fo Hf1 H1 σ g1 _ fun y σ2 u Hf2 H2 h2 s2 g2 r2 => ?_
  obtain ⟨xs, rfl, h3⟩ := asL_eq h2
  obtain ⟨ys, rfl, h4⟩ := asL_eq h3
  rw [appF_eq] at h4
  obtain ⟨hl, h5⟩ := len4_eq h4
  obtain ⟨p, vs, rfl, e1, e2⟩ := (r1.mono s2).lst'
  obtain ⟨p', ws, rfl, e3, e4⟩ := r2.lst'
  have rl := e2.append e4
  refine ⟨p, p', vs, ws, rfl, rfl, g2.sub _ _ e1, g2.sub _ _ e3, small4 ?_, fun l hl' => ?_⟩
  · rw [e2.length, e4.length, ← List.length_append]; exact hl
  · obtain ⟨g3, o3⟩ := g2.opNew hl' rl
    exact q _ _ _ _ _ _ h5 (Same.trans' s1 s2) g3 o3
theorem RlL.rep {H : Hp} {x : AV} {v : V} (r : Rl K C H x v) : ∀ n : Nat, RlL K C H (List.replicate n x) (List.replicate n v)
  | 0 => .nil
  | n + 1 => .cons r (RlL.rep r n)
theorem rep_flat' {α : Type} (x : α) : ∀ n : Nat, (List.replicate n [x]).flatten = List.replicate n x
  | 0 => rfl
  | n + 1 => by
    rw [List.replicate_succ, List.flatten_cons, rep_flat' x n, List.replicate_succ]; rfl
theorem s_rep (ha : Snd K C a ta) (hb : Snd K C b tb) : SndO K C (oRep a b) (tOp rRep ta tb) := by
  intro σa k r h Fo Hf H σ g Q q
  refine ha _ _ _ h Fo Hf H σ g _ fun x σ1 v Hf1 H1 h1 s1 g1 r1 => hb _ _ _ h1 Fo Hf1 H1 σ g1 _ fun y σ2 u Hf2 H2 h2 s2 g2 r2 => ?_
  obtain ⟨xs, rfl, h3⟩ := asL_eq h2
  obtain ⟨z, rfl, h4⟩ := one_eq h3
  obtain ⟨n, rfl, h5⟩ := asI_eq h4
  obtain ⟨c1, h6⟩ := ifB_some h5
  obtain ⟨c2, h7⟩ := ifB_some h6
  rw [repF_eq, tnI_eq] at h7
  rw [leI_eq] at c1 c2
  have c1 : n ≤ 1000 := by simpa using c1
  have c2 : -1000 ≤ n := by simpa using c2
  obtain ⟨p, vs, rfl, e1, e2⟩ := (r1.mono s2).lst'
  cases r2
  cases e2 with
  | cons e3 e4 =>
    cases e4
    refine ⟨p, n, _, rfl, rfl, g2.sub _ _ e1, by lia, by lia, small4 (by rw [List.length_singleton]; lia), fun l hl => ?_⟩
    rw [rep_flat']
    obtain ⟨g3, o3⟩ := g2.opNew hl (RlL.rep e3 n.toNat)
    exact q _ _ _ _ _ _ h7 (Same.trans' s1 s2) g3 o3
end
noncomputable abbrev EvP := Sa → (Option Int → Sa → O) → O
noncomputable def pNo : EvP := fun σ k => k none σ
noncomputable def pAt (e : Ev) : EvP := fun σ k => e σ fun x σ1 => asI x fun i => k (some i) σ1
noncomputable def dropF (xs : List AV) : Nat → List AV := List.rec (motive := fun _ => Nat → List AV) (fun _ => []) (fun x r ih n => Nat.rec (x :: r) (fun m _ => ih m) n) xs
theorem dropF_eq : ∀ (xs : List AV) (n : Nat), dropF xs n = xs.drop n
  | [], n => by rw [List.drop_nil]; rfl
  | _ :: _, 0 => rfl
  | _ :: xs, n + 1 => dropF_eq xs n
noncomputable def takeF (xs : List AV) : Nat → (List AV → O) → O := List.rec (motive := fun _ => Nat → (List AV → O) → O) (fun _ k => k []) (fun x _ ih n k => Nat.rec (k []) (fun m _ => ih m fun ys => k (x :: ys)) n) xs
theorem takeF_eq : ∀ {xs : List AV} {n : Nat} {k : List AV → O}, takeF xs n k = k (xs.take n)
  | [], n, k => by rw [List.take_nil]; rfl
  | _ :: _, 0, _ => rfl
  | x :: xs, n + 1, k => takeF_eq (xs := xs) (n := n) (k := fun ys => k (x :: ys))
noncomputable def oSl (a : Ev) (lo hi : EvP) : EvA := fun σ k => a σ fun x σ1 => lo σ1 fun l σ2 => hi σ2 fun u σ3 => asL x fun xs => takeF (dropF xs (HT.sIx (lenF xs) 0 l)) (Nat.sub (HT.sIx (lenF xs) (lenF xs) u) (HT.sIx (lenF xs) 0 l)) fun ys => k ys σ3
noncomputable def SndP (K : PySem.W.Frag) (C : Addr) (e : EvP) (t : TO) : Prop := ∀ σa k r, e σa k = some r → ∀ Fo Hf H σ, Good K C Fo Hf H σa σ → ∀ Q : Option Int → Hp → Prop,
  (∀ i σa' Hf' H', k i σa' = some r → Same Hf Hf' → Good K C Fo Hf' H' σa' σ → Q i H') → t σ H Q
section
variable {K : PySem.W.Frag} {C : Addr} {a b : Ev} {ta tb : TE} {lo hi : EvP} {tl th : TO} {ar : EvA} {tr : TA}
theorem s_pno : SndP K C pNo tNoPart := fun _ _ _ e _ Hf H _ g _ q => q _ _ _ _ e (Same.refl' _) g
theorem s_pat (ha : Snd K C a ta) : SndP K C (pAt a) (tPart ta) := by
  intro σa k r h Fo Hf H σ g Q q
  refine ha _ _ _ h Fo Hf H σ g _ fun x σ1 v Hf1 H1 h1 s1 g1 r1 => ?_
  obtain ⟨i, rfl, h2⟩ := asI_eq h1
  cases r1
  exact ⟨i, rfl, q _ _ _ _ h2 s1 g1⟩
theorem s_sl (ha : Snd K C a ta) (hl : SndP K C lo tl) (hh : SndP K C hi th) : SndO K C (oSl a lo hi) (tSl (rSlL K) ta tl th) := by
  intro σa k r h Fo Hf H σ g Q q
  refine ha _ _ _ h Fo Hf H σ g _ fun x σ1 v Hf1 H1 h1 s1 g1 r1 => hl _ _ _ h1 Fo Hf1 H1 σ g1 _ fun l σ2 Hf2 H2 h2 s2 g2 => hh _ _ _ h2 Fo Hf2 H2 σ g2 _ fun u σ3 Hf3 H3 h3 s3 g3 => ?_
  obtain ⟨xs, rfl, h4⟩ := asL_eq h3
  have s23 := Same.trans' s2 s3
  obtain ⟨p, vs, rfl, e1, e2⟩ := (r1.mono s23).lst'
  rw [takeF_eq, dropF_eq, lenF_eq] at h4
  refine ⟨p, vs, rfl, .inl (.inl (g3.sub _ _ e1)), fun z hz => ?_⟩
  have rl : RlL K C Hf3 ((xs.drop (HT.sIx xs.length 0 l)).take (HT.sIx xs.length xs.length u - HT.sIx xs.length 0 l)) (cutV vs l u) := by
    unfold cutV
    rw [e2.length]
    exact (e2.drop _).take _
  obtain ⟨g4, o4⟩ := g3.opNew hz rl
  exact q _ _ _ _ _ _ h4 (Same.trans' s1 s23) g4 o4
end
noncomputable def asQ (x : AV) (k : List AV → O) : O := AV.casesOn x none (fun _ => none) (fun _ => none) (fun _ => none) k k (fun _ _ _ => none)
noncomputable def eLen (ar : EvA) : Ev := fun σ k => ar σ fun as σ1 => one as fun x => asQ x fun xs => fI (.ofNat (lenF xs)) fun n => k (.int n) σ1
noncomputable def eLenO (i : Nat) : Ev := fun σ k => slL σ i fun xs => fI (.ofNat (lenF xs)) fun n => k (.int n) σ
noncomputable def eAbs (ar : EvA) : Ev := fun σ k => ar σ fun as σ1 => one as fun x => asI x fun i => fI (abI i) fun n => k (.int n) σ1
noncomputable def eMin2 (ar : EvA) : Ev := fun σ k => ar σ fun as σ1 => two as fun x y => asI x fun i => asI y fun j => ifB (ltI j i) (k (.int j) σ1) (k (.int i) σ1)
noncomputable def oList (ar : EvA) : EvA := fun σ k => ar σ fun as σ1 => one as fun x => asQ x fun xs => k xs σ1
noncomputable def revF (xs : List AV) : List AV → List AV := List.rec (motive := fun _ => List AV → List AV) (fun ys => ys) (fun x _ ih ys => ih (x :: ys)) xs
theorem revF_eq : ∀ (xs ys : List AV), revF xs ys = xs.reverse ++ ys
  | [], _ => rfl
  | x :: xs, ys => by
    show revF xs (x :: ys) = _
    rw [revF_eq xs, List.reverse_cons, List.append_assoc]; rfl
noncomputable def oRev (ar : EvA) : EvA := fun σ k => ar σ fun as σ1 => one as fun x => asL x fun xs => k (revF xs []) σ1
noncomputable def intsF (xs : List AV) : (List Int → O) → O := List.rec (motive := fun _ => (List Int → O) → O) (fun k => k []) (fun x _ ih k => asI x fun i => ih fun ns => k (i :: ns)) xs
theorem intsF_eq {r : AV} : ∀ {xs : List AV} {k : List Int → O}, intsF xs k = some r → ∃ ns : List Int, xs = ns.map .int ∧ k ns = some r
  | [], _, h => ⟨[], rfl, h⟩
  | x :: xs, k, h => by
    obtain ⟨i, e1, h1⟩ := asI_eq (x := x) h
    obtain ⟨ns, e2, h2⟩ := intsF_eq (xs := xs) (k := fun ns => k (i :: ns)) h1
    exact ⟨i :: ns, by rw [e1, e2]; rfl, h2⟩
noncomputable def sumF (ns : List Int) : Int := List.rec 0 (fun x _ ih => Int.add x ih) ns
theorem sumF_eq : ∀ ns : List Int, sumF ns = ns.sum
  | [] => rfl
  | x :: ns => by
    show x + sumF ns = _
    rw [sumF_eq ns, List.sum_cons]
noncomputable def anyF (ns : List Int) : Bool := List.rec false (fun x _ ih => Bool.rec true ih (is0 x)) ns
theorem anyF_eq : ∀ ns : List Int, anyF ns = ns.any (· != 0)
  | [] => rfl
  | x :: ns => by
    show (Bool.rec true (anyF ns) (is0 x) : Bool) = _
    rw [anyF_eq ns, is0_eq, List.any_cons]
    have e : (x != 0) = !decide (x = 0) := rfl
    rw [e]
    cases decide (x = 0) <;> rfl
noncomputable def maxF (m : Int) (ns : List Int) : Int := List.rec (motive := fun _ => Int → Int) (fun m => m) (fun x _ ih m => Bool.rec (ih m) (ih x) (ltI m x)) ns m
theorem maxF_mem : ∀ (ns : List Int) (m : Int), (maxF m ns = m ∨ maxF m ns ∈ ns) ∧ m ≤ maxF m ns ∧ ∀ x ∈ ns, x ≤ maxF m ns
  | [], m => ⟨.inl rfl, Int.le_refl _, nofun⟩
  | y :: ns, m => by
    have e : maxF m (y :: ns) = if m < y then maxF y ns else maxF m ns := by
      show (Bool.rec (maxF m ns) (maxF y ns) (ltI m y) : Int) = _
      rw [ltI_eq]
      by_cases z : m < y
      · rw [decide_eq_true z, if_pos z]
      · rw [decide_eq_false z, if_neg z]
    obtain ⟨a1, a2, a3⟩ := maxF_mem ns y
    obtain ⟨b1, b2, b3⟩ := maxF_mem ns m
    rw [e]
    by_cases z : m < y
    · rw [if_pos z]
      refine ⟨.inr ?_, by lia, fun x hx => ?_⟩
      · rcases a1 with q | q
        · rw [q]; exact List.mem_cons_self
        · exact List.mem_cons_of_mem _ q
      · rcases List.mem_cons.mp hx with rfl | q
        · exact a2
        · exact a3 x q
    · rw [if_neg z]
      refine ⟨?_, b2, fun x hx => ?_⟩
      · rcases b1 with q | q
        · exact .inl q
        · exact .inr (List.mem_cons_of_mem _ q)
      · rcases List.mem_cons.mp hx with rfl | q
        · lia
        · exact b3 x q
noncomputable def minF (m : Int) (ns : List Int) : Int := List.rec (motive := fun _ => Int → Int) (fun m => m) (fun x _ ih m => Bool.rec (ih m) (ih x) (ltI x m)) ns m
theorem minF_mem : ∀ (ns : List Int) (m : Int), (minF m ns = m ∨ minF m ns ∈ ns) ∧ minF m ns ≤ m ∧ ∀ x ∈ ns, minF m ns ≤ x
  | [], m => ⟨.inl rfl, Int.le_refl _, nofun⟩
  | y :: ns, m => by
    have e : minF m (y :: ns) = if y < m then minF y ns else minF m ns := by
      show (Bool.rec (minF m ns) (minF y ns) (ltI y m) : Int) = _
      rw [ltI_eq]
      by_cases z : y < m
      · rw [decide_eq_true z, if_pos z]
      · rw [decide_eq_false z, if_neg z]
    obtain ⟨a1, a2, a3⟩ := minF_mem ns y
    obtain ⟨b1, b2, b3⟩ := minF_mem ns m
    rw [e]
    by_cases z : y < m
    · rw [if_pos z]
      refine ⟨.inr ?_, by lia, fun x hx => ?_⟩
      · rcases a1 with q | q
        · rw [q]; exact List.mem_cons_self
        · exact List.mem_cons_of_mem _ q
      · rcases List.mem_cons.mp hx with rfl | q
        · exact a2
        · exact a3 x q
    · rw [if_neg z]
      refine ⟨?_, b2, fun x hx => ?_⟩
      · rcases b1 with q | q
        · exact .inl q
        · exact .inr (List.mem_cons_of_mem _ q)
      · rcases List.mem_cons.mp hx with rfl | q
        · lia
        · exact b3 x q
noncomputable def eSum (ar : EvA) : Ev := fun σ k => ar σ fun as σ1 => one as fun x => asL x fun xs => intsF xs fun ns => fI (sumF ns) fun n => k (.int n) σ1
noncomputable def eAny (ar : EvA) : Ev := fun σ k => ar σ fun as σ1 => one as fun x => asL x fun xs => intsF xs fun ns => ifB (anyF ns) (k (.bl true) σ1) (k (.bl false) σ1)
noncomputable def eMaxL (ar : EvA) : Ev := fun σ k => ar σ fun as σ1 => one as fun x => asL x fun xs => intsF xs fun ns => List.rec none (fun m r _ => fI (maxF m r) fun n => k (.int n) σ1) ns
noncomputable def eMinL (ar : EvA) : Ev := fun σ k => ar σ fun as σ1 => one as fun x => asL x fun xs => intsF xs fun ns => List.rec none (fun m r _ => fI (minF m r) fun n => k (.int n) σ1) ns
section
variable {K : PySem.W.Frag} {C : Addr} {a b : Ev} {ta tb : TE} {ar : EvA} {tr : TA}
theorem asQ_eq {H : Hp} {x : AV} {v : V} {k : List AV → O} {r : AV} (rl : Rl K C H x v) (h : asQ x k = some r) : ∃ xs p vs, v = .ref p ∧ (H p = some (.lst vs) ∨ SqT K H p vs) ∧ RlL K C H xs vs ∧ k xs = some r := by
  cases rl with
  | tup h1 h2 => exact ⟨_, _, _, rfl, .inr h1, h2, h⟩
  | lst h1 h2 => exact ⟨_, _, _, rfl, .inl h1, h2, h⟩
  | non => exact nomatch h
  | bl => exact nomatch h
  | int => exact nomatch h
  | str => exact nomatch h
  | root _ _ _ _ => exact nomatch h
theorem sq_of {Hf H : Hp} {p : Addr} {vs : List V} (s : Same Hf H) (h : Hf p = some (.lst vs) ∨ SqT K Hf p vs) : SqL K H p vs ∨ SqT K H p vs := by
  rcases h with h | h
  · exact .inl (.inl (.inl (s _ _ h)))
  · exact .inr (Same.tup s h)
theorem RlL.one {H : Hp} {x : AV} {vs : List V} (h : RlL K C H [x] vs) : ∃ v, vs = [v] ∧ Rl K C H x v := by
  cases h with
  | cons h t => cases t; exact ⟨_, rfl, h⟩
theorem RlL.two {H : Hp} {x y : AV} {vs : List V} (h : RlL K C H [x, y] vs) : ∃ v w, vs = [v, w] ∧ Rl K C H x v ∧ Rl K C H y w := by
  cases h with
  | cons h t =>
    obtain ⟨w, rfl, h2⟩ := RlL.one t
    exact ⟨_, _, rfl, h, h2⟩
theorem s_len (ha : SndA K C ar tr) : Snd K C (eLen ar) (tCB (fun xs H Q => ∃ p ys, xs = [.ref p] ∧ (SqL K H p ys ∨ SqT K H p ys) ∧ Q (.int ys.length) H) tr) := by
  intro σa k r h Fo Hf H σ g Q q
  refine ha _ _ _ h Fo Hf H σ g _ fun as σ1 vs Hf1 H1 h1 s1 g1 r1 => ?_
  obtain ⟨x, rfl, h2⟩ := one_eq h1
  obtain ⟨v, rfl, r2⟩ := r1.one
  obtain ⟨xs, p, ws, rfl, e1, e2, h3⟩ := asQ_eq r2 h2
  rw [fI_eq, lenF_eq] at h3
  refine ⟨p, ws, rfl, sq_of g1.sub e1, ?_⟩
  rw [e2.length]
  exact q _ _ _ _ _ h3 s1 g1 .int
theorem s_lenO {i : Nat} : Snd K C (eLenO i) (tCB (fun xs H Q => ∃ p ys, xs = [.ref p] ∧ (SqL K H p ys ∨ SqT K H p ys) ∧ Q (.int ys.length) H) (tCons (tVar i) tNil)) := by
  intro σa k r h Fo Hf H σ g Q q
  obtain ⟨xs, p, vs, e1, e2, e3, h5⟩ := slL_eq g h
  rw [fI_eq, lenF_eq] at h5
  refine ⟨_, e1, p, vs, rfl, .inl (.inl (.inl e2)), ?_⟩
  rw [e3.length]
  exact q _ _ _ _ _ h5 (Same.refl' _) g .int
theorem s_abs (ha : SndA K C ar tr) : Snd K C (eAbs ar) (tCB (fun xs H Q => ∃ i, xs = [.int i] ∧ Q (.int (if i < 0 then -i else i)) H) tr) := by
  intro σa k r h Fo Hf H σ g Q q
  refine ha _ _ _ h Fo Hf H σ g _ fun as σ1 vs Hf1 H1 h1 s1 g1 r1 => ?_
  obtain ⟨x, rfl, h2⟩ := one_eq h1
  obtain ⟨v, rfl, r2⟩ := r1.one
  obtain ⟨i, rfl, h3⟩ := asI_eq h2
  rw [fI_eq, abI_eq] at h3
  cases r2
  exact ⟨i, rfl, q _ _ _ _ _ h3 s1 g1 .int⟩
theorem s_min2 (ha : SndA K C ar tr) : Snd K C (eMin2 ar) (tCB (fun xs H Q => ∃ i j, xs = [.int i, .int j] ∧ Q (.int (if j < i then j else i)) H) tr) := by
  intro σa k r h Fo Hf H σ g Q q
  refine ha _ _ _ h Fo Hf H σ g _ fun as σ1 vs Hf1 H1 h1 s1 g1 r1 => ?_
  obtain ⟨x, y, rfl, h2⟩ := two_eq h1
  obtain ⟨v, w, rfl, r2, r3⟩ := r1.two
  obtain ⟨i, rfl, h3⟩ := asI_eq h2
  obtain ⟨j, rfl, h4⟩ := asI_eq h3
  rw [ltI_eq] at h4
  cases r2; cases r3
  refine ⟨i, j, rfl, ?_⟩
  by_cases z : j < i
  · rw [if_pos z]; rw [decide_eq_true z] at h4; exact q _ _ _ _ _ h4 s1 g1 .int
  · rw [if_neg z]; rw [decide_eq_false z] at h4; exact q _ _ _ _ _ h4 s1 g1 .int
theorem s_list (ha : SndA K C ar tr) : SndO K C (oList ar) (tCB (fun xs H Q => ∃ p ys, xs = [.ref p] ∧ (SqL K H p ys ∨ SqT K H p ys) ∧ ∀ l, H l = none → Q (.ref l) (upd H l (.lst ys))) tr) := by
  intro σa k r h Fo Hf H σ g Q q
  refine ha _ _ _ h Fo Hf H σ g _ fun as σ1 vs Hf1 H1 h1 s1 g1 r1 => ?_
  obtain ⟨x, rfl, h2⟩ := one_eq h1
  obtain ⟨v, rfl, r2⟩ := r1.one
  obtain ⟨xs, p, ws, rfl, e1, e2, h3⟩ := asQ_eq r2 h2
  refine ⟨p, ws, rfl, sq_of g1.sub e1, fun l hl => ?_⟩
  obtain ⟨g2, o2⟩ := g1.opNew hl e2
  exact q _ _ _ _ _ _ h3 s1 g2 o2
theorem s_rev (ha : SndA K C ar tr) : SndO K C (oRev ar) (tRevL K tr) := by
  intro σa k r h Fo Hf H σ g Q q
  refine ha _ _ _ h Fo Hf H σ g _ fun as σ1 vs Hf1 H1 h1 s1 g1 r1 => ?_
  obtain ⟨x, rfl, h2⟩ := one_eq h1
  obtain ⟨v, rfl, r2⟩ := r1.one
  obtain ⟨xs, rfl, h3⟩ := asL_eq h2
  obtain ⟨p, ws, rfl, e1, e2⟩ := r2.lst'
  rw [revF_eq, List.append_nil] at h3
  refine ⟨p, ws, rfl, .inl (.inl (g1.sub _ _ e1)), fun l hl => ?_⟩
  obtain ⟨g2, o2⟩ := g1.opNew hl e2.reverse
  exact q _ _ _ _ _ _ h3 s1 g2 o2
theorem listI {Hf H : Hp} {x : AV} {v : V} {k : List Int → O} {r : AV} (s : Same Hf H) (rl : Rl K C Hf x v) (h : asL x (fun xs => intsF xs k) = some r) : ∃ p ns, v = .ref p ∧ SqL K H p (ns.map V.int) ∧ k ns = some r := by
  obtain ⟨xs, rfl, h3⟩ := asL_eq h
  obtain ⟨ns, rfl, h4⟩ := intsF_eq h3
  obtain ⟨p, ws, rfl, e1, e2⟩ := rl.lst'
  rw [e2.ints] at e1
  exact ⟨p, ns, rfl, .inl (.inl (s _ _ e1)), h4⟩
theorem s_sum (ha : SndA K C ar tr) : Snd K C (eSum ar) (tCB (fun xs H Q => ∃ (p : Addr) (ns : List Int), xs = [.ref p] ∧ SqL K H p (ns.map V.int) ∧ Q (.int ns.sum) H) tr) := by
  intro σa k r h Fo Hf H σ g Q q
  refine ha _ _ _ h Fo Hf H σ g _ fun as σ1 vs Hf1 H1 h1 s1 g1 r1 => ?_
  obtain ⟨x, rfl, h2⟩ := one_eq h1
  obtain ⟨v, rfl, r2⟩ := r1.one
  obtain ⟨p, ns, rfl, e1, h3⟩ := listI g1.sub r2 h2
  rw [fI_eq, sumF_eq] at h3
  exact ⟨p, ns, rfl, e1, q _ _ _ _ _ h3 s1 g1 .int⟩
theorem s_any (ha : SndA K C ar tr) : Snd K C (eAny ar) (tCB (fun xs H Q => ∃ (p : Addr) (ns : List Int), xs = [.ref p] ∧ SqL K H p (ns.map V.int) ∧ Q (.bl (ns.any (· != 0))) H) tr) := by
  intro σa k r h Fo Hf H σ g Q q
  refine ha _ _ _ h Fo Hf H σ g _ fun as σ1 vs Hf1 H1 h1 s1 g1 r1 => ?_
  obtain ⟨x, rfl, h2⟩ := one_eq h1
  obtain ⟨v, rfl, r2⟩ := r1.one
  obtain ⟨p, ns, rfl, e1, h3⟩ := listI g1.sub r2 h2
  have h5 := ifB_val (k := fun z => k z σ1) h3
  rw [anyF_eq] at h5
  exact ⟨p, ns, rfl, e1, q _ _ _ _ _ h5 s1 g1 .bl⟩
theorem s_maxL (ha : SndA K C ar tr) : Snd K C (eMaxL ar) (tCB (fun xs H Q => ∃ (p : Addr) (ns : List Int), xs = [.ref p] ∧ SqL K H p (ns.map V.int) ∧ ns ≠ [] ∧ ∀ m, m ∈ ns → (∀ x ∈ ns, x ≤ m) → Q (.int m) H) tr) := by
  intro σa k r h Fo Hf H σ g Q q
  refine ha _ _ _ h Fo Hf H σ g _ fun as σ1 vs Hf1 H1 h1 s1 g1 r1 => ?_
  obtain ⟨x, rfl, h2⟩ := one_eq h1
  obtain ⟨v, rfl, r2⟩ := r1.one
  obtain ⟨p, ns, rfl, e1, h3⟩ := listI g1.sub r2 h2
  cases ns with
  | nil => exact nomatch h3
  | cons y ns =>
    have h4 : fI (maxF y ns) (fun n => k (.int n) σ1) = some r := h3
    rw [fI_eq] at h4
    refine ⟨p, y :: ns, rfl, e1, nofun, fun m hm hx => ?_⟩
    obtain ⟨a1, a2, a3⟩ := maxF_mem ns y
    have e : m = maxF y ns := by
      apply Int.le_antisymm
      · rcases List.mem_cons.mp hm with rfl | z
        · exact a2
        · exact a3 m z
      · rcases a1 with z | z
        · rw [z]; exact hx y List.mem_cons_self
        · exact hx _ (List.mem_cons_of_mem _ z)
    rw [e]
    exact q _ _ _ _ _ h4 s1 g1 .int
theorem s_minL (ha : SndA K C ar tr) : Snd K C (eMinL ar) (tCB (fun xs H Q => ∃ (p : Addr) (ns : List Int), xs = [.ref p] ∧ SqL K H p (ns.map V.int) ∧ ns ≠ [] ∧ ∀ m, m ∈ ns → (∀ x ∈ ns, m ≤ x) → Q (.int m) H) tr) := by
  intro σa k r h Fo Hf H σ g Q q
  refine ha _ _ _ h Fo Hf H σ g _ fun as σ1 vs Hf1 H1 h1 s1 g1 r1 => ?_
  obtain ⟨x, rfl, h2⟩ := one_eq h1
  obtain ⟨v, rfl, r2⟩ := r1.one
  obtain ⟨p, ns, rfl, e1, h3⟩ := listI g1.sub r2 h2
  cases ns with
  | nil => exact nomatch h3
  | cons y ns =>
    have h4 : fI (minF y ns) (fun n => k (.int n) σ1) = some r := h3
    rw [fI_eq] at h4
    refine ⟨p, y :: ns, rfl, e1, nofun, fun m hm hx => ?_⟩
    obtain ⟨a1, a2, a3⟩ := minF_mem ns y
    have e : m = minF y ns := by
      apply Int.le_antisymm
      · rcases a1 with z | z
        · rw [z]; exact hx y List.mem_cons_self
        · exact hx _ (List.mem_cons_of_mem _ z)
      · rcases List.mem_cons.mp hm with rfl | z
        · exact a2
        · exact a3 m z
    rw [e]
    exact q _ _ _ _ _ h4 s1 g1 .int
end
end CV
namespace CV
open PySem PySem.Spec PyProof.Rows L2
noncomputable def iLst (a : Ev) : EvA := fun σ k => a σ fun x σ1 => asL x fun xs => k xs σ1
noncomputable def enF (xs : List AV) : Nat → (List AV → O) → O := List.rec (motive := fun _ => Nat → (List AV → O) → O) (fun _ k => k []) (fun x _ ih n k => ih (Nat.succ n) fun ys => k (.tup [.int (.ofNat n), x] :: ys)) xs
noncomputable def enL : List AV → Nat → List AV
  | [], _ => []
  | x :: xs, n => .tup [.int (.ofNat n), x] :: enL xs (n + 1)
theorem enF_eq : ∀ {xs : List AV} {n : Nat} {k : List AV → O}, enF xs n k = k (enL xs n)
  | [], _, _ => rfl
  | x :: xs, n, k => enF_eq (xs := xs) (n := n + 1) (k := fun ys => k (.tup [.int (.ofNat n), x] :: ys))
theorem enL_get : ∀ {xs : List AV} {n i : Nat} {y : AV}, (enL xs n)[i]? = some y → ∃ x, xs[i]? = some x ∧ y = .tup [.int ((n + i : Nat) : Int), x]
  | [], _, _, _, h => by simp [enL] at h
  | x :: xs, n, 0, y, h => by simp [enL] at h; exact ⟨x, rfl, h.symm⟩
  | x :: xs, n, i + 1, y, h => by
    have h' : (enL xs (n + 1))[i]? = some y := by simpa [enL] using h
    obtain ⟨z, h1, h2⟩ := enL_get (xs := xs) h'
    refine ⟨z, by simpa using h1, ?_⟩
    have e : n + 1 + i = n + (i + 1) := by lia
    rw [← e]; exact h2
theorem enL_len : ∀ (xs : List AV) (n : Nat), (enL xs n).length = xs.length
  | [], _ => rfl
  | _ :: xs, n => congrArg Nat.succ (enL_len xs (n + 1))
noncomputable def iEn (ar : EvA) : EvA := fun σ k => ar σ fun as σ1 => one as fun x => asL x fun xs => enF xs 0 fun ys => k ys σ1
noncomputable def iRv (ar : EvA) : EvA := fun σ k => ar σ fun as σ1 => one as fun x => asL x fun xs => k (revF xs []) σ1
noncomputable def rgF (st : Int) (n : Nat) : Int → (List AV → O) → O := Nat.rec (motive := fun _ => Int → (List AV → O) → O) (fun _ k => k []) (fun _ ih lo k => fI (Int.add lo st) fun hi => ih hi fun ys => k (.int lo :: ys)) n
noncomputable def rgL (st : Int) : Nat → Int → List AV
  | 0, _ => []
  | n + 1, lo => .int lo :: rgL st n (lo + st)
theorem rgF_eq {st : Int} : ∀ {n : Nat} {lo : Int} {k : List AV → O}, rgF st n lo k = k (rgL st n lo)
  | 0, _, _ => rfl
  | n + 1, lo, k => by
    show fI (lo + st) (fun hi => rgF st n hi fun ys => k (.int lo :: ys)) = _
    rw [fI_eq, rgF_eq]; rfl
theorem rgL_get {st : Int} : ∀ {n i : Nat} {lo : Int} {y : AV}, (rgL st n lo)[i]? = some y → i < n ∧ y = .int (lo + i * st)
  | 0, _, _, _, h => by simp [rgL] at h
  | n + 1, 0, lo, y, h => by
    simp [rgL] at h
    exact ⟨by lia, by rw [← h]; simp⟩
  | n + 1, i + 1, lo, y, h => by
    have h' : (rgL st n (lo + st))[i]? = some y := by simpa [rgL] using h
    obtain ⟨h1, h2⟩ := rgL_get h'
    refine ⟨by lia, ?_⟩
    rw [h2]
    congr 1
    have e : ((i + 1 : Nat) : Int) * st = (i : Int) * st + st := by rw [Int.natCast_add, Int.add_mul]; simp
    rw [e]; lia
theorem rgL_len {st : Int} : ∀ {n : Nat} {lo : Int}, (rgL st n lo).length = n
  | 0, _ => rfl
  | n + 1, lo => congrArg Nat.succ (rgL_len (n := n) (lo := lo + st))
noncomputable def zpF (xs : List AV) : List AV → (List AV → O) → O := List.rec (motive := fun _ => List AV → (List AV → O) → O) (fun _ k => k []) (fun x _ ih ys k => List.rec (k []) (fun y r _ => ih r fun zs => k (.tup [x, y] :: zs)) ys) xs
noncomputable def zpL : List AV → List AV → List AV
  | x :: xs, y :: ys => .tup [x, y] :: zpL xs ys
  | _, _ => []
theorem zpF_eq : ∀ {xs ys : List AV} {k : List AV → O}, zpF xs ys k = k (zpL xs ys)
  | [], ys, k => by cases ys <;> rfl
  | _ :: _, [], _ => rfl
  | x :: xs, y :: ys, k => zpF_eq (xs := xs) (ys := ys) (k := fun zs => k (.tup [x, y] :: zs))
noncomputable def iZp (ar : EvA) : EvA := fun σ k => ar σ fun as σ1 => two as fun x y => asL x fun xs => asL y fun ys => zpF xs ys fun zs => k zs σ1
noncomputable def smallI (i : Int) : Bool := Nat.ble (Nat.log2 (nab i)) 28
theorem smallI_ok {i : Int} (h : smallI i = true) : -536870912 < i ∧ i < 536870912 := by
  have h1 := log2_bd (Nat.le_of_ble_eq_true h)
  rw [nab_eq] at h1
  lia
noncomputable def iR1 (ar : EvA) : EvA := fun σ k => ar σ fun as σ1 => one as fun x => asI x fun j => ifB (smallI j) (rgF 1 (tnI j) 0 fun ys => k ys σ1) none
noncomputable def iR2 (ar : EvA) : EvA := fun σ k => ar σ fun as σ1 => two as fun x y => asI x fun i => asI y fun j => ifB (smallI i) (ifB (smallI j) (rgF 1 (tnI (Int.sub j i)) i fun ys => k ys σ1) none) none
noncomputable def iR3 (ar : EvA) : EvA := fun σ k => ar σ fun as σ1 => List.rec none (fun x r _ => CV.two r fun y z => asI x fun i => asI y fun j => asI z fun st => ifB (eqI st (-1)) (ifB (eqI j (-1)) (Int.rec (fun d => ifB (Nat.ble d 60) (rgF (-1) (Nat.succ d) (.ofNat d) fun ys => k ys σ1) none) (fun _ => none) i) none) none) as
section
variable {K : PySem.W.Frag} {C : Addr} {a b : Ev} {ta tb : TE} {ar : EvA} {tr : TA}
theorem wk_list {Hf : Hp} {p : Addr} {xs : List AV} {vs : List V} (h : Hf p = some (.lst vs)) (rl : RlL K C Hf xs vs) : Wk K C (Itl K p) Hf xs := by
  intro Hf2 H2 s1 s2
  have e : SqL K H2 p vs := .inl (.inl (s2 _ _ (s1 _ _ h)))
  refine ⟨fun i y hy => ?_, ⟨vs, e, by rw [rl.length]; exact Nat.le_refl _⟩⟩
  obtain ⟨v, h1, h2⟩ := rl.get hy
  refine ⟨⟨vs, v, e, h1⟩, fun x H3 ⟨h3, h4⟩ => .inl ⟨h3, ?_⟩⟩
  have := h4 vs e
  rw [h1] at this; cases this
  exact h2.mono s1
theorem si_lst (ha : Snd K C a ta) : SndI K C (iLst a) (iList K ta) := by
  intro σa k r h Fo Hf H σ g R q
  refine ha _ _ _ h Fo Hf H σ g _ fun x σ1 v Hf1 H1 h1 s1 g1 r1 => ?_
  obtain ⟨xs, rfl, h2⟩ := asL_eq h1
  obtain ⟨p, vs, rfl, e1, e2⟩ := r1.lst'
  exact ⟨p, rfl, ⟨vs, .inl (.inl (g1.sub _ _ e1))⟩, q _ _ _ _ _ h2 s1 g1 (wk_list e1 e2)⟩
theorem si_en (ha : SndA K C ar tr) : SndI K C (iEn ar) (iEnum K tr) := by
  intro σa k r h Fo Hf H σ g R q
  refine ha _ _ _ h Fo Hf H σ g _ fun as σ1 vs Hf1 H1 h1 s1 g1 r1 => ?_
  obtain ⟨x, rfl, h2⟩ := one_eq h1
  obtain ⟨v, rfl, r2⟩ := r1.one
  obtain ⟨xs, rfl, h3⟩ := asL_eq h2
  obtain ⟨p, ws, rfl, e1, e2⟩ := r2.lst'
  rw [enF_eq] at h3
  refine ⟨p, rfl, ⟨ws, .inl (.inl (g1.sub _ _ e1))⟩, q _ _ _ _ _ h3 s1 g1 fun Hf2 H2 s2 s3 => ?_⟩
  have e : SqL K H2 p ws := .inl (.inl (s3 _ _ (s2 _ _ e1)))
  refine ⟨fun i y hy => ?_, ⟨ws, e, by rw [e2.length, enL_len]; exact Nat.le_refl _⟩⟩
  obtain ⟨z, h4, rfl⟩ := enL_get hy
  obtain ⟨u, h5, h6⟩ := e2.get h4
  refine ⟨⟨ws, u, e, h5⟩, fun x H3 ⟨p', y', h7, h8, h9, h10⟩ => .inr ⟨p', _, _, h7, h9, h8, rfl, ?_⟩⟩
  have := h10 ws e
  rw [h5] at this; cases this
  rw [Nat.zero_add]
  exact .cons .int (.cons (h6.mono s2) .nil)
theorem si_rv (ha : SndA K C ar tr) : SndI K C (iRv ar) (iRev K tr) := by
  intro σa k r h Fo Hf H σ g R q
  refine ha _ _ _ h Fo Hf H σ g _ fun as σ1 vs Hf1 H1 h1 s1 g1 r1 => ?_
  obtain ⟨x, rfl, h2⟩ := one_eq h1
  obtain ⟨v, rfl, r2⟩ := r1.one
  obtain ⟨xs, rfl, h3⟩ := asL_eq h2
  obtain ⟨p, ws, rfl, e1, e2⟩ := r2.lst'
  rw [revF_eq, List.append_nil] at h3
  refine ⟨p, ws, rfl, .inl (.inl (g1.sub _ _ e1)), q _ _ _ _ _ h3 s1 g1 fun Hf2 H2 s2 s3 => ?_⟩
  have e : SqL K H2 p ws := .inl (.inl (s3 _ _ (s2 _ _ e1)))
  have el := e2.length
  refine ⟨fun i y hy => ?_, ?_⟩
  · have hi : i < xs.length := by
      have := (List.getElem?_eq_some_iff.mp hy).1
      rwa [List.length_reverse] at this
    have hy' : xs[ws.length - 1 - i]? = some y := by
      rw [List.getElem?_reverse hi] at hy; rw [el]; exact hy
    obtain ⟨u, h5, h6⟩ := e2.get hy'
    refine ⟨⟨by lia, ws, u, e, h5⟩, fun x H3 ⟨h7, h8⟩ => .inl ⟨h7, ?_⟩⟩
    have := h8 ws e
    rw [h5] at this; cases this
    exact h6.mono s2
  · show xs.reverse.length = ws.length
    rw [List.length_reverse, el]
theorem wk_range {Hf : Hp} {lo : Int} {n : Nat} : Wk K C (Itr lo n) Hf (rgL 1 n lo) := fun Hf2 H2 s2 s3 => by
  refine ⟨fun i y hy => ?_, Nat.le_of_eq rgL_len.symm⟩
  obtain ⟨h1, rfl⟩ := rgL_get hy
  refine ⟨h1, fun x H3 ⟨h3, h4⟩ => .inl ⟨h3, ?_⟩⟩
  rw [h4, Int.mul_one]
  exact .int
theorem si_r1 (ha : SndA K C ar tr) : SndI K C (iR1 ar) (iRng1 tr) := by
  intro σa k r h Fo Hf H σ g R q
  refine ha _ _ _ h Fo Hf H σ g _ fun as σ1 vs Hf1 H1 h1 s1 g1 r1 => ?_
  obtain ⟨x, rfl, h2⟩ := one_eq h1
  obtain ⟨v, rfl, r2⟩ := r1.one
  obtain ⟨j, rfl, h3⟩ := asI_eq h2
  obtain ⟨c, h4⟩ := ifB_some h3
  have c := smallI_ok c
  rw [rgF_eq, tnI_eq] at h4
  cases r2
  exact ⟨j, rfl, by lia, by lia, q _ _ _ _ _ h4 s1 g1 wk_range⟩
theorem si_r2 (ha : SndA K C ar tr) : SndI K C (iR2 ar) (iRng2 tr) := by
  intro σa k r h Fo Hf H σ g R q
  refine ha _ _ _ h Fo Hf H σ g _ fun as σ1 vs Hf1 H1 h1 s1 g1 r1 => ?_
  obtain ⟨x, y, rfl, h2⟩ := two_eq h1
  obtain ⟨v, w, rfl, r2, r3⟩ := r1.two
  obtain ⟨i, rfl, h3⟩ := asI_eq h2
  obtain ⟨j, rfl, h3⟩ := asI_eq h3
  obtain ⟨c, h4⟩ := ifB_some h3
  obtain ⟨c', h5⟩ := ifB_some h4
  have c := smallI_ok c
  have c' := smallI_ok c'
  rw [rgF_eq, tnI_eq] at h5
  cases r2; cases r3
  exact ⟨i, j, rfl, ⟨by lia, by lia, by lia, by lia⟩, q _ _ _ _ _ h5 s1 g1 wk_range⟩
theorem small_dn : ∀ d : Nat, d ≤ 60 → Builtin.Range.small (d : Int) (-1) (-1) = true := by decide +kernel
theorem size_dn : ∀ d : Nat, d ≤ 60 → Builtin.Range.rangeSize (d : Int) (-1) (-1) = ((d + 1 : Nat) : Int) := by decide +kernel
theorem si_r3 (ha : SndA K C ar tr) : SndI K C (iR3 ar) (iRng3 tr) := by
  intro σa k r h Fo Hf H σ g R q
  refine ha _ _ _ h Fo Hf H σ g _ fun as σ1 vs Hf1 H1 h1 s1 g1 r1 => ?_
  match as, h1, r1 with
  | x :: rest, h1, r1 =>
    obtain ⟨y, z, rfl, h2⟩ := two_eq (xs := rest) h1
    cases r1 with
    | cons rx rt =>
      obtain ⟨vy, vz, rfl, ry, rz⟩ := rt.two
      obtain ⟨i, rfl, h3⟩ := asI_eq h2
      obtain ⟨j, rfl, h4⟩ := asI_eq h3
      obtain ⟨st, rfl, h5⟩ := asI_eq h4
      obtain ⟨c1, h6⟩ := ifB_some h5
      obtain ⟨c2, h7⟩ := ifB_some h6
      rw [eqI_eq] at c1 c2
      have c1 : st = -1 := by simpa using c1
      have c2 : j = -1 := by simpa using c2
      subst c1 c2
      cases rx; cases ry; cases rz
      cases i with
      | negSucc m => exact nomatch h7
      | ofNat d =>
        have h8 : ifB (Nat.ble d 60) (rgF (-1) (Nat.succ d) (.ofNat d) fun ys => k ys σ1) none = some r := h7
        obtain ⟨c3, h9⟩ := ifB_some h8
        have c3 := Nat.le_of_ble_eq_true c3
        rw [rgF_eq] at h9
        refine ⟨(d : Int), -1, -1, d + 1, rfl, by decide, by decide, small_dn d c3, size_dn d c3, q _ _ _ _ _ h9 s1 g1 fun Hf2 H2 s2 s3 => ⟨fun i y hy => ?_, Nat.le_of_eq rgL_len.symm⟩⟩
        obtain ⟨e1, rfl⟩ := rgL_get hy
        refine ⟨e1, fun x H3 ⟨h3, h4⟩ => .inl ⟨h3, ?_⟩⟩
        rw [h4]
        exact .int
end
noncomputable def gN (i : Nat) : EvG := fun x σ nx => setF σ i (.fz x) nx
noncomputable def gT2 (i j : Nat) : EvG := fun x σ nx => asT x fun xs => two xs fun u w => setF σ i (.fz u) fun σ1 => setF σ1 j (.fz w) nx
section
variable {K : PySem.W.Frag} {C : Addr} {a b : Ev} {ta tb : TE} {ar : EvA} {tr : TA}
theorem sg_n {i : Nat} : SndG K C (gN i) (gName i) := fun x σa nx r h Fo Hf H σ v g rl R q => by
  unfold gN at h
  rw [setF_eq] at h
  exact q _ _ h (g.setFz rl)
theorem sg_t2 {i j : Nat} : SndG K C (gT2 i j) (gTup K 2 (gCons (gName i) (gCons (gName j) gNil))) := fun x σa nx r h Fo Hf H σ v g rl R q => by
  unfold gT2 at h
  obtain ⟨xs, rfl, h1⟩ := asT_eq h
  obtain ⟨u, w, rfl, h2⟩ := two_eq h1
  rw [setF_eq, setF_eq] at h2
  obtain ⟨p, vs, rfl, e1, e2⟩ := rl.tup'
  obtain ⟨v1, v2, rfl, e3, e4⟩ := e2.two
  exact ⟨p, _, rfl, Same.tup g.sub e1, rfl, _, _, rfl, _, _, rfl, rfl, q _ _ h2 ((g.setFz e3).setFz e4)⟩
end
noncomputable def sSeq (a b : EvS) : EvS := fun σ nx => a σ fun σ1 => b σ1 nx
noncomputable def sSet (i : Nat) (e : Ev) : EvS := fun σ nx => e σ fun x σ1 => setF σ1 i (.fz x) nx
noncomputable def sOpn (i : Nat) (e : EvA) : EvS := fun σ nx => e σ fun xs σ1 => setF σ1 i (.op xs) nx
noncomputable def sRet (e : Ev) : EvS := fun σ _ => e σ fun x _ => some x
noncomputable def sIf (t : EvT) (a b : EvS) : EvS := fun σ nx => t σ fun c σ1 => ifB c (a σ1 nx) (b σ1 nx)
noncomputable def sNx : EvS := fun σ nx => nx σ
noncomputable def sNo : EvS := fun _ _ => none
noncomputable def whF (t : EvT) (b : EvS) (nx : Sa → O) (n : Nat) : Sa → O := Nat.rec (motive := fun _ => Sa → O) (fun _ => none) (fun _ ih σ => t σ fun c σ1 => ifB c (b σ1 ih) (nx σ1)) n
noncomputable def sWh (t : EvT) (b : EvS) : EvS := fun σ nx => whF t b nx 100000 σ
noncomputable def foF (g : EvG) (b : EvS) (nx : Sa → O) (xs : List AV) : Sa → O := List.rec (motive := fun _ => Sa → O) nx (fun x _ ih σ => g x σ fun σ1 => b σ1 ih) xs
noncomputable def sFor (i : EvA) (g : EvG) (b : EvS) : EvS := fun σ nx => i σ fun xs σ1 => foF g b nx xs σ1
noncomputable def opG (σ : Sa) (i : Nat) (k : List AV → O) : O := SV.rec none (fun _ => none) k (getS σ i)
noncomputable def lastF (xs : List AV) : (AV → List AV → O) → O := List.rec (motive := fun _ => (AV → List AV → O) → O) (fun _ => none) (fun x r ih k => List.rec (k x []) (fun _ _ _ => ih fun y zs => k y (x :: zs)) r) xs
noncomputable def ePop (i : Nat) : Ev := fun σ k => opG σ i fun xs => lastF xs fun y zs => setF σ i (.op zs) fun σ1 => k y σ1
noncomputable def putF (xs : List AV) (v : AV) : Nat → (List AV → O) → O := List.rec (motive := fun _ => Nat → (List AV → O) → O) (fun _ _ => none) (fun x r ih n k => Nat.rec (k (v :: r)) (fun m _ => ih m fun zs => k (x :: zs)) n) xs
section
variable {K : PySem.W.Frag} {C : Addr} {a b : Ev} {ta tb : TE} {ar : EvA} {tr : TA} {p q : EvS} {tp tq : TS} {c : EvT} {tc : TT} {oe : EvA} {te : TE}
theorem ss_seq (hp : SndS K C p tp) (hq : SndS K C q tq) : SndS K C (sSeq p q) (tSeq tp tq) := by
  intro σa nx r h Fo Hf H σ g D n t
  exact hp _ _ _ h Fo Hf H σ g _ (fun σa1 σ1 Hf1 H1 h1 s1 g1 => hq _ _ _ h1 Fo Hf1 H1 σ1 g1 D (fun σa2 σ2 Hf2 H2 h2 s2 g2 => n _ _ _ _ h2 (Same.trans' s1 s2) g2) fun v Hf2 H2 s2 f2 r2 => t v Hf2 H2 (Same.trans' s1 s2) f2 r2) t
theorem ss_set {i : Nat} (ha : Snd K C a ta) : SndS K C (sSet i a) (tAsg ta (gName i)) := by
  intro σa nx r h Fo Hf H σ g D n t
  refine ha _ _ _ h Fo Hf H σ g _ fun x σ1 v Hf1 H1 h1 s1 g1 r1 => ?_
  rw [setF_eq] at h1
  exact n _ _ _ _ h1 s1 (g1.setFz r1)
theorem ss_opn {i : Nat} (ha : SndO K C oe te) : SndS K C (sOpn i oe) (tAsg te (gName i)) := by
  intro σa nx r h Fo Hf H σ g D n t
  refine ha _ _ _ h Fo Hf H σ g _ fun xs σ1 p vs Hf1 H1 h1 s1 g1 o1 => ?_
  rw [setF_eq] at h1
  exact n _ _ _ _ h1 s1 (g1.setOp o1)
theorem Good.foOk {Fo Hf H : Hp} {σa : Sa} {σ : L2.St} (g : Good K C Fo Hf H σa σ) : FoOk Fo Hf H := ⟨g.sub, g.fo⟩
theorem ss_ret (ha : Snd K C a ta) : SndS K C (sRet a) (tRet ta) := by
  intro σa nx r h Fo Hf H σ g D n t
  refine ha _ _ _ h Fo Hf H σ g _ fun x σ1 v Hf1 H1 h1 s1 g1 r1 => ?_
  cases h1
  exact t _ _ _ s1 g1.foOk r1
theorem ss_if (hc : SndT K C c tc) (hp : SndS K C p tp) (hq : SndS K C q tq) : SndS K C (sIf c p q) (tIfS tc tp tq) := by
  intro σa nx r h Fo Hf H σ g D n t
  refine hc _ _ _ h Fo Hf H σ g _ fun k σ1 Hf1 H1 h1 s1 g1 => ?_
  cases k with
  | true => rw [if_pos rfl]; exact hp _ _ _ h1 Fo Hf1 H1 σ g1 D (fun σa2 σ2 Hf2 H2 h2 s2 g2 => n _ _ _ _ h2 (Same.trans' s1 s2) g2) fun v Hf2 H2 s2 f2 r2 => t v Hf2 H2 (Same.trans' s1 s2) f2 r2
  | false => rw [if_neg (by decide)]; exact hq _ _ _ h1 Fo Hf1 H1 σ g1 D (fun σa2 σ2 Hf2 H2 h2 s2 g2 => n _ _ _ _ h2 (Same.trans' s1 s2) g2) fun v Hf2 H2 s2 f2 r2 => t v Hf2 H2 (Same.trans' s1 s2) f2 r2
theorem ss_nx : SndS K C sNx tNext := fun _ _ _ h _ Hf H _ g _ n _ => n _ _ _ _ h (Same.refl' _) g
theorem ss_no {t : TS} : SndS K C sNo t := fun _ _ _ h => nomatch h
theorem ss_wh (hc : SndT K C c tc) (hp : SndS K C p tp) : SndS K C (sWh c p) (tWhile tc tp) := by
  intro σa nx r h Fo Hf H σ g D n t
  refine ⟨fun m σ' H' => ∃ σa' Hf', Same Hf Hf' ∧ Good K C Fo Hf' H' σa' σ' ∧ whF c p nx m σa' = some r, ⟨_, σa, Hf, Same.refl' _, g, h⟩, ?_⟩
  rintro m σ1 H1 ⟨σa1, Hf1, s1, g1, h1⟩
  cases m with
  | zero => exact nomatch h1
  | succ m =>
    refine hc _ _ _ h1 Fo Hf1 H1 σ1 g1 _ fun k σa2 Hf2 H2 h2 s2 g2 => ?_
    have s12 := Same.trans' s1 s2
    cases k with
    | true =>
      rw [if_pos rfl]
      refine ⟨fun σ' H' => ∃ σa' Hf', Same Hf Hf' ∧ Good K C Fo Hf' H' σa' σ' ∧ whF c p nx m σa' = some r, fun σ' H' z => ⟨m, Nat.lt_succ_self m, z⟩, ?_⟩
      exact hp _ _ _ h2 Fo Hf2 H2 σ1 g2 _ (fun σa3 σ3 Hf3 H3 h3 s3 g3 => ⟨σa3, Hf3, Same.trans' s12 s3, g3, h3⟩) fun v Hf3 H3 s3 f3 r3 => t v Hf3 H3 (Same.trans' s12 s3) f3 r3
    | false =>
      rw [if_neg (by decide)]
      exact n _ _ _ _ h2 s12 g2
theorem ss_for {ie : EvA} {ti : TI} {ge : EvG} {tg : TG} (hi : SndI K C ie ti) (hg : SndG K C ge tg) (hp : SndS K C p tp) : SndS K C (sFor ie ge p) (tFor ti tg tp) := by
  intro σa nx r h Fo Hf H σ g D n t
  refine hi _ _ _ h Fo Hf H σ g _ fun xs σa0 J Hf0 H0 h0 s0 g0 wk => ?_
  refine ⟨fun i m σ' H' => ∃ σa' Hf', m = xs.length - i ∧ i ≤ xs.length ∧ Same Hf0 Hf' ∧ Good K C Fo Hf' H' σa' σ' ∧ foF ge p nx (xs.drop i) σa' = some r, ⟨_, σa0, Hf0, rfl, Nat.zero_le _, Same.refl' _, g0, h0⟩, ?_⟩
  rintro i m σ1 H1 ⟨σa1, Hf1, rfl, hi1, s1, g1, h1⟩
  obtain ⟨w1, w2⟩ := wk Hf1 H1 s1 g1.sub
  by_cases hlt : i < xs.length
  · obtain ⟨go, yl⟩ := w1 i xs[i] (List.getElem?_eq_getElem hlt)
    rw [List.drop_eq_getElem_cons hlt] at h1
    refine .inr ⟨go, fun σ' H' => ∃ σa' Hf', Same Hf0 Hf' ∧ Good K C Fo Hf' H' σa' σ' ∧ foF ge p nx (xs.drop (i + 1)) σa' = some r, fun σ' H' ⟨a, b, c, d, e⟩ => ⟨xs.length - (i + 1), by lia, a, b, rfl, hlt, c, d, e⟩, fun x H3 y => ?_⟩
    have key : ∃ Hf3, Same Hf1 Hf3 ∧ Good K C Fo Hf3 H3 σa1 σ1 ∧ Rl K C Hf3 xs[i] x := by
      rcases yl x H3 y with ⟨rfl, rl⟩ | ⟨p', ys, vs, e1, e2, e3, e4, e5⟩
      · exact ⟨Hf1, Same.refl' _, g1, rl⟩
      · subst e2 e3
        rw [e4]
        have sm : Same Hf1 (upd Hf1 p' (.tup vs)) := Same.new (g1.nil e1).1 _
        exact ⟨_, sm, g1.new e1 _, .tup (.inl (.inl upd_same)) (e5.mono sm)⟩
    obtain ⟨Hf3, s3, g3, rl⟩ := key
    have s13 := Same.trans' s1 s3
    refine hg _ _ _ _ h1 Fo Hf3 H3 σ1 x g3 rl _ fun σa4 σ4 h4 g4 => ?_
    exact hp _ _ _ h4 Fo Hf3 H3 σ4 g4 _ (fun σa5 σ5 Hf5 H5 h5 s5 g5 => ⟨σa5, Hf5, Same.trans' s13 s5, g5, h5⟩) fun v Hf5 H5 s5 f5 r5 => t v Hf5 H5 (Same.trans' s0 (Same.trans' s13 s5)) f5 r5
  · obtain rfl : i = xs.length := by lia
    rw [List.drop_length] at h1
    exact .inl ⟨w2, n _ _ _ _ h1 (Same.trans' s0 s1) g1⟩
theorem opG_eq {σa : Sa} {i : Nat} {k : List AV → O} {r : AV} (h : opG σa i k = some r) : ∃ xs, getS σa i = .op xs ∧ k xs = some r := by
  unfold opG at h
  cases e : getS σa i with
  | no => rw [e] at h; exact nomatch h
  | fz x => rw [e] at h; exact nomatch h
  | op xs => rw [e] at h; exact ⟨xs, rfl, h⟩
noncomputable def hasO (σ : Sa) (i : Nat) (a : O) : O := SV.rec none (fun _ => none) (fun _ => a) (getS σ i)
theorem hasO_eq {σa : Sa} {σ : L2.St} {Fo Hf H : Hp} {i : Nat} {o : O} {r : AV} (g : Good K C Fo Hf H σa σ) (h : hasO σa i o = some r) : (∃ a vs, σ[i]? = some (some (.ref a)) ∧ H a = some (.lst vs)) ∧ o = some r := by
  unfold hasO at h
  cases e : getS σa i with
  | no => rw [e] at h; exact nomatch h
  | fz x => rw [e] at h; exact nomatch h
  | op xs =>
    rw [e] at h
    obtain ⟨a, vs, h1, h2, h3, h4, h5⟩ := g.op i xs e
    exact ⟨⟨a, vs, h1, h4⟩, h⟩
end
noncomputable def sApp (i : Nat) (e : EvA) : EvS := fun σ nx => hasO σ i (e σ fun as σ1 => one as fun y => opG σ1 i fun xs => appF xs [y] fun zs => len4 zs (setF σ1 i (.op zs) nx))
noncomputable def sPut (i : Nat) (b : Ev) (e : Ev) : EvS := fun σ nx => e σ fun v σ1 => hasO σ1 i (b σ1 fun y σ2 => asI y fun n => Int.rec (fun m => opG σ2 i fun xs => putF xs v m fun zs => setF σ2 i (.op zs) nx) (fun _ => none) n)
theorem lastF_eq {r : AV} : ∀ {xs : List AV} {k : AV → List AV → O}, lastF xs k = some r → ∃ y zs, xs = zs ++ [y] ∧ k y zs = some r
  | [], _, h => nomatch h
  | [x], _, h => ⟨x, [], rfl, h⟩
  | x :: y :: xs, k, h => by
    obtain ⟨z, zs, e, h⟩ := lastF_eq (xs := y :: xs) (k := fun y zs => k y (x :: zs)) h
    exact ⟨z, x :: zs, by rw [e]; rfl, h⟩
theorem putF_eq {v r : AV} : ∀ {xs : List AV} {n : Nat} {k : List AV → O}, putF xs v n k = some r → n < xs.length ∧ k (xs.set n v) = some r
  | [], _, _, h => nomatch h
  | _ :: _, 0, _, h => ⟨Nat.zero_lt_succ _, h⟩
  | x :: xs, n + 1, k, h => by
    obtain ⟨h1, h2⟩ := putF_eq (xs := xs) (n := n) (k := fun zs => k (x :: zs)) h
    exact ⟨Nat.succ_lt_succ h1, h2⟩
section
variable {K : PySem.W.Frag} {C : Addr} {a b : Ev} {ta tb : TE} {ar : EvA} {tr : TA} {p q : EvS} {tp tq : TS} {c : EvT} {tc : TT} {oe : EvA} {te : TE}
theorem ss_app {i : Nat} (ha : SndA K C ar tr) : SndS K C (sApp i ar) (tDrop (tBM K "list" rAppend (tVar i) tr)) := by
  intro σa nx r h Fo Hf H σ g D n t
  obtain ⟨⟨l, vs0, e1, e2⟩, h⟩ := hasO_eq g h
  refine ⟨_, e1, .inl ⟨rfl, vs0, .inl (.inl e2)⟩, ?_⟩
  refine ha _ _ _ h Fo Hf H σ g _ fun as σ1 vs Hf1 H1 h1 s1 g1 r1 => ?_
  obtain ⟨y, rfl, h2⟩ := one_eq h1
  obtain ⟨v, rfl, r2⟩ := r1.one
  obtain ⟨xs, e3, h3⟩ := opG_eq h2
  rw [appF_eq] at h3
  obtain ⟨hl, h4⟩ := len4_eq h3
  rw [setF_eq] at h4
  obtain ⟨l', ws, f1, f2, f3, f4, f5⟩ := g1.op i xs e3
  rw [e1] at f1; cases f1
  rw [List.length_append, List.length_singleton] at hl
  refine ⟨l, ws, v, rfl, rfl, f4, Nat.lt_of_lt_of_le (by rw [f5.length]; lia : ws.length < 1000) (small4 (Nat.le_refl _)), ?_⟩
  exact n _ _ _ _ h4 s1 (g1.mut e3 e1 (f5.append (.cons r2 .nil)))
theorem s_pop {i : Nat} : Snd K C (ePop i) (tBM0 K "list" rPop (tVar i)) := by
  intro σa k r h Fo Hf H σ g Q q
  obtain ⟨xs, e3, h3⟩ := opG_eq h
  obtain ⟨y, zs, rfl, h4⟩ := lastF_eq h3
  rw [setF_eq] at h4
  obtain ⟨l, ws, f1, f2, f3, f4, f5⟩ := g.op i _ e3
  have el := f5.length
  rw [List.length_append, List.length_singleton] at el
  obtain ⟨v, e5, e6⟩ := f5.get (i := ws.length - 1) (x := y) (by rw [el, Nat.add_sub_cancel]; simp)
  refine ⟨_, f1, .inl ⟨rfl, ws, .inl (.inl f4)⟩, l, ws, v, rfl, rfl, f4, e5, ?_⟩
  refine q _ _ _ _ _ h4 (Same.refl' _) (g.mut e3 f1 ?_) e6
  have := f5.take zs.length
  rw [List.take_left] at this
  rw [List.dropLast_eq_take, el, Nat.add_sub_cancel]
  exact this
theorem ss_put {i : Nat} (hb : Snd K C b tb) (ha : Snd K C a ta) : SndS K C (sPut i b a) (tAsg ta (gSub (tVar i) tb rSetL)) := by
  intro σa nx r h Fo Hf H σ g D n t
  refine ha _ _ _ h Fo Hf H σ g _ fun x σ1 v Hf1 H1 h1 s1 g1 r1 => ?_
  obtain ⟨⟨l, vs0, e1, e2⟩, h1⟩ := hasO_eq g1 h1
  refine ⟨_, e1, hb _ _ _ h1 Fo Hf1 H1 σ g1 _ fun y σ2 u Hf2 H2 h2 s2 g2 r2 => ?_⟩
  obtain ⟨j, rfl, h3⟩ := asI_eq h2
  cases r2
  cases j with
  | negSucc m => exact nomatch h3
  | ofNat m =>
    have h3' : opG σ2 i (fun xs => putF xs x m fun zs => setF σ2 i (.op zs) nx) = some r := h3
    obtain ⟨xs, e3, h4⟩ := opG_eq h3'
    obtain ⟨hm, h5⟩ := putF_eq h4
    rw [setF_eq] at h5
    obtain ⟨l', ws, f1, f2, f3, f4, f5⟩ := g2.op i xs e3
    rw [e1] at f1; cases f1
    refine ⟨l, ws, _, m, rfl, rfl, f4, ?_, ?_⟩
    · unfold ixN
      rw [if_pos (by simp only [Int.ofNat_eq_natCast]; lia), if_pos (by rw [f5.length]; simp only [Int.ofNat_eq_natCast]; lia)]
      rfl
    · exact n _ _ _ _ h5 (Same.trans' s1 s2) (g2.mut e3 e1 (f5.set (r1.mono s2) m))
end
end CV
namespace CV
open PySem PySem.Spec PyProof.Rows L2
noncomputable def noOp (s : Sa) : Bool := List.rec true (fun x _ ih => SV.rec ih (fun _ => ih) (fun _ => false) x) s
theorem noOp_eq : ∀ {s : Sa}, noOp s = true → ∀ i xs, getS s i ≠ .op xs
  | [], _, _, _ => nofun
  | .no :: s, h, 0, _ => nofun
  | .no :: s, h, i + 1, xs => noOp_eq (s := s) h i xs
  | .fz _ :: s, h, 0, _ => nofun
  | .fz _ :: s, h, i + 1, xs => noOp_eq (s := s) h i xs
  | .op _ :: s, h, _, _ => nomatch h
noncomputable def compF (g : EvG) (e : Ev) (xs : List AV) : Sa → (List AV → O) → O := List.rec (motive := fun _ => Sa → (List AV → O) → O) (fun _ k => k []) (fun x _ ih s k => g x s fun s1 => e s1 fun y s2 => ifB (noOp s2) (ih s2 fun ys => k (y :: ys)) none) xs
noncomputable def capF (fr : List Nat) : Sa → (Sa → O) → O := List.rec (motive := fun _ => Sa → (Sa → O) → O) (fun _ k => k []) (fun i _ ih σ k => ih σ fun s => SV.rec (k (.no :: s)) (fun x => k (.fz x :: s)) (fun _ => none) (getS σ i)) fr
noncomputable def preS (n : Nat) (s : Sa) : Sa := Nat.rec s (fun _ ih => .no :: ih) n
noncomputable def oComp (n : Nat) (fr : List Nat) (ie : EvA) (g : EvG) (e : Ev) : EvA := fun σ k => ie σ fun xs σ1 => len4 xs (capF fr σ1 fun s => compF g e xs (preS n s) fun ys => k ys σ1)
theorem preS_eq : ∀ (n : Nat) (s : Sa), preS n s = List.replicate n .no ++ s
  | 0, _ => rfl
  | n + 1, s => congrArg (SV.no :: ·) (preS_eq n s)
theorem capF_eq {r : AV} {σ : Sa} : ∀ {fr : List Nat} {k : Sa → O}, capF fr σ k = some r → ∃ s, s = fr.map (getS σ) ∧ noOp s = true ∧ k s = some r
  | [], _, h => ⟨[], rfl, rfl, h⟩
  | i :: fr, k, h => by
    have h' : capF fr σ (fun s => (SV.rec (k (.no :: s)) (fun x => k (.fz x :: s)) (fun _ => none) (getS σ i) : O)) = some r := h
    obtain ⟨s, e, h1, h2⟩ := capF_eq (fr := fr) h'
    cases z : getS σ i with
    | no =>
      rw [z] at h2
      exact ⟨.no :: s, by rw [List.map_cons, z, e], h1, h2⟩
    | fz x =>
      rw [z] at h2
      exact ⟨.fz x :: s, by rw [List.map_cons, z, e], h1, h2⟩
    | op xs => rw [z] at h2; exact nomatch h2
theorem noOp_pre : ∀ {n : Nat} {s : Sa}, noOp s = true → noOp (preS n s) = true
  | 0, _, h => h
  | n + 1, s, h => noOp_pre (n := n) h
section
variable {K : PySem.W.Frag} {C : Addr}
theorem good_in {Fo Hf H : Hp} {s : Sa} {σ : L2.St} (hs : Same Hf H) (fo : ∀ b o, Fo b = some o → H b = some o ∧ Hf b = none) (hl : σ.length = s.length) (hn : noOp s = true) (hf : ∀ i x, getS s i = .fz x → ∃ v, σ[i]? = some (some v) ∧ Rl K C Hf x v) : Good K C Fo Hf H s σ :=
  ⟨hs, fo, hl, hf, fun i xs e => absurd e (noOp_eq hn i xs), fun i _ xs _ _ e => absurd e (noOp_eq hn i xs)⟩
noncomputable def FoOf (Hf H : Hp) : Hp := fun b => match Hf b with
  | none => H b
  | some _ => none
theorem foOf_ok {Hf H : Hp} : ∀ b o, FoOf Hf H b = some o → H b = some o ∧ Hf b = none := fun b o h => by
  unfold FoOf at h
  cases e : Hf b with
  | none => rw [e] at h; exact ⟨h, rfl⟩
  | some u => rw [e] at h; exact nomatch h
theorem foOf_at {Hf H : Hp} {b : Addr} (e : Hf b = none) : FoOf Hf H b = H b := by unfold FoOf; rw [e]
theorem foOf_keep {Hf H Hf' H' : Hp} (hs : Same Hf H) (s1 : Same Hf Hf') (s2 : Same Hf' H') (h : ∀ b o, FoOf Hf H b = some o → H' b = some o ∧ Hf' b = none) : Same H H' ∧ ∀ b, Hf b = none → H b ≠ none → Hf' b = none := by
  refine ⟨fun b o e => ?_, fun b e n => ?_⟩
  · cases z : Hf b with
    | none => exact (h b o (by rw [foOf_at z]; exact e)).1
    | some u =>
      have := hs _ _ z
      rw [e] at this; cases this
      exact s2 _ _ (s1 _ _ z)
  · cases z : H b with
    | none => exact absurd z n
    | some o => exact (h b o (by rw [foOf_at e]; exact z)).2
theorem s_comp {own : List Str} {n : Nat} {fr : List Nat} {ie : EvA} {ti : TI} {ge : EvG} {tg : TG} {e : Ev} {te : TE} (hn : n = own.length) (hi : SndI K C ie ti) (hg : SndG K C ge tg) (he : Snd K C e te) : SndO K C (oComp n fr ie ge e) (tComp own fr ti tg te) := by
  intro σa k r h Fo Hf H σ g Q q
  refine hi _ _ _ h Fo Hf H σ g _ fun xs σa1 J Hf1 H1 h1 s1 g1 wk => ?_
  obtain ⟨hxl, h1⟩ := len4_eq h1
  obtain ⟨s, hs, hno, h2⟩ := capF_eq h1
  intro D hD
  obtain ⟨d1, d2⟩ := g1.nil hD
  have d3 := g1.own_new hD
  refine ⟨fun i m σ2 H2 => ∃ s2 Hf2 pre pvs, m = xs.length - i ∧ i ≤ xs.length ∧ Same Hf1 Hf2 ∧ Good K C Fo Hf2 H2 σa1 σ ∧ Hf2 D = none ∧ H2 D = some (.lst pvs) ∧ RlL K C Hf2 pre pvs ∧ pre.length = i ∧
      σ2.length = s2.length ∧ noOp s2 = true ∧ (∀ j x, getS s2 j = .fz x → ∃ v, σ2[j]? = some (some v) ∧ Rl K C Hf2 x v) ∧ compF ge e (xs.drop i) s2 (fun ys => k (pre ++ ys) σa1) = some r,
    ⟨_, preS n s, Hf1, [], [], rfl, Nat.zero_le _, Same.refl' _, g1.side d1 d2 d3 _, d1, upd_same, .nil, rfl, ?_, noOp_pre hno, fun j x ej => ?_, h2⟩, ?_⟩
  · rw [preS_eq, hs]
    unfold stComp
    rw [List.length_append, List.length_append, List.length_replicate, List.length_replicate, List.length_map, List.length_map, hn]
  · rw [preS_eq, hs, getS_eq] at ej
    by_cases hj : j < n
    · rw [List.getElem?_append_left (by rw [List.length_replicate]; exact hj), List.getElem?_replicate, if_pos hj] at ej
      exact nomatch ej
    · rw [List.getElem?_append_right (by rw [List.length_replicate]; lia), List.length_replicate, List.getElem?_map] at ej
      cases z : fr[j - n]? with
      | none => rw [z] at ej; exact nomatch ej
      | some i =>
        rw [z] at ej
        obtain ⟨v, e1, e2⟩ := g1.fz i x ej
        refine ⟨v, ?_, e2⟩
        unfold stComp
        rw [List.getElem?_append_right (by rw [List.length_replicate]; lia), List.length_replicate, List.getElem?_map, ← hn, z]
        show some ((σ[i]?).join) = _
        rw [e1]; rfl
  · rintro i m σ2 H2 ⟨s2, Hf2, pre, pvs, rfl, hi1, sm1, g2, d4, d5, rl, hpl, hl2, hno2, hf2, h3⟩
    obtain ⟨w1, w2⟩ := wk Hf2 H2 sm1 g2.sub
    by_cases hlt : i < xs.length
    · obtain ⟨go, yl⟩ := w1 i xs[i] (List.getElem?_eq_getElem hlt)
      rw [List.drop_eq_getElem_cons hlt] at h3
      refine .inr ⟨go, fun x H3 y => ?_⟩
      have key : ∃ Hf3, Same Hf2 Hf3 ∧ Good K C Fo Hf3 H3 σa1 σ ∧ Rl K C Hf3 xs[i] x ∧ Hf3 D = none ∧ H3 D = some (.lst pvs) := by
        rcases yl x H3 y with ⟨rfl, rl⟩ | ⟨p', ys, vs, e1, e2, e3, e4, e5⟩
        · exact ⟨Hf2, Same.refl' _, g2, rl, d4, d5⟩
        · subst e2 e3
          rw [e4]
          have sm : Same Hf2 (upd Hf2 p' (.tup vs)) := Same.new (g2.nil e1).1 _
          have ne : D ≠ p' := ne_of_none d5 e1
          exact ⟨_, sm, g2.new e1 _, .tup (.inl (.inl upd_same)) (e5.mono sm), by rw [upd_ne ne]; exact d4, by rw [upd_ne ne]; exact d5⟩
      obtain ⟨Hf3, sm3, g3, rlx, d6, d7⟩ := key
      have gi : Good K C (FoOf Hf3 H3) Hf3 H3 s2 σ2 := good_in g3.sub foOf_ok hl2 hno2 fun j z ej => by
        obtain ⟨v, a1, a2⟩ := hf2 j z ej
        exact ⟨v, a1, a2.mono sm3⟩
      refine hg _ _ _ _ h3 _ Hf3 H3 σ2 x gi rlx _ fun s4 σ4 h4 g4 => ?_
      refine he _ _ _ h4 _ Hf3 H3 σ4 g4 _ fun y s5 v Hf5 H5 h5 sm5 g5 rly => ?_
      obtain ⟨c5, h6⟩ := ifB_some h5
      have hD5 : H5 D = some (.lst pvs) ∧ Hf5 D = none := g5.fo D _ (by rw [foOf_at d6]; exact d7)
      obtain ⟨k1, k2⟩ := foOf_keep g3.sub sm5 g5.sub g5.fo
      have g6 : Good K C Fo Hf5 H5 σa1 σ := g3.call k1 sm5 g5.sub k2
      have rl5 := rl.mono (Same.trans' sm3 sm5)
      refine ⟨pvs, hD5.1, Nat.lt_of_lt_of_le (by rw [rl.length]; lia : pvs.length < 1000) (small4 (Nat.le_refl _)), xs.length - (i + 1), by lia, s5, Hf5, pre ++ [y], _, rfl, hlt, Same.trans' sm1 (Same.trans' sm3 sm5), g6.side hD5.2 d2 d3 _, hD5.2, upd_same, rl5.append (.cons rly .nil), by rw [List.length_append, List.length_singleton, hpl], g5.len, c5, g5.fz, ?_⟩
      have e : (fun ys => k (pre ++ [y] ++ ys) σa1) = fun ys => k (pre ++ y :: ys) σa1 := by
        funext ys
        rw [List.append_assoc]; rfl
      rw [e]; exact h6
    · obtain rfl : i = xs.length := by lia
      rw [List.drop_length] at h3
      have h3' : k (pre ++ []) σa1 = some r := h3
      rw [List.append_nil] at h3'
      exact .inl ⟨w2, q _ _ _ _ _ _ h3' (Same.trans' s1 sm1) g2 ⟨d4, d2, d5, rl, d3⟩⟩
end
noncomputable def asR (x : AV) (k : AV → AV → AV → O) : O := AV.casesOn x none (fun _ => none) (fun _ => none) (fun _ => none) (fun _ => none) (fun _ => none) k
theorem asR_eq {x : AV} {k : AV → AV → AV → O} {r : AV} (h : asR x k = some r) : ∃ p q w, x = .root p q w ∧ k p q w = some r := by
  cases x <;> first | exact ⟨_, _, _, rfl, h⟩ | exact nomatch h
noncomputable def eFp (a : Ev) : Ev := fun σ k => a σ fun x σ1 => asR x fun p _ _ => k p σ1
noncomputable def eFq (a : Ev) : Ev := fun σ k => a σ fun x σ1 => asR x fun _ q _ => k q σ1
noncomputable def eFw (a : Ev) : Ev := fun σ k => a σ fun x σ1 => asR x fun _ _ w => k w σ1
noncomputable def three (xs : List AV) (k : AV → AV → AV → O) : O := List.rec none (fun x r _ => CV.two r fun y z => k x y z) xs
theorem three_eq {xs : List AV} {k : AV → AV → AV → O} {r : AV} (h : three xs k = some r) : ∃ x y z, xs = [x, y, z] ∧ k x y z = some r := by
  match xs, h with
  | x :: rest, h =>
    obtain ⟨y, z, rfl, h⟩ := two_eq (xs := rest) (k := fun y z => k x y z) h
    exact ⟨x, y, z, rfl, h⟩
noncomputable def eMk (ar : EvA) : Ev := fun σ k => ar σ fun as σ1 => three as fun p q w => k (.root p q w) σ1
noncomputable def spIn (C : Addr) : Sp := fun vs H Q _ => ∃ (x dx : Addr) (v1 v2 v3 : V), vs = [.ref x, v1, v2, v3] ∧ H x = some (.ins C dx []) ∧ ∀ H', (∀ c, c ≠ x → H' c = H c) → H' x = some (.ins C dx [("poly", v1), ("pair", v2), ("weight", v3)]) → Q .non H'
section
variable {K : PySem.W.Frag} {C : Addr} {a b : Ev} {ta tb : TE} {ar : EvA} {tr : TA}
theorem RlL.three {H : Hp} {x y z : AV} {vs : List V} (h : RlL K C H [x, y, z] vs) : ∃ v w u, vs = [v, w, u] ∧ Rl K C H x v ∧ Rl K C H y w ∧ Rl K C H z u := by
  cases h with
  | cons h t =>
    obtain ⟨w, u, rfl, h2, h3⟩ := RlL.two t
    exact ⟨_, _, _, rfl, h, h2, h3⟩
theorem s_poly (hc : Cls K C) (hn : NoAttr K C "poly") (ha : Snd K C a ta) : Snd K C (eFp a) (tFld K ta "poly") := by
  intro σa k r h Fo Hf H σ g Q q
  refine ha _ _ _ h Fo Hf H σ g _ fun x σ1 v Hf1 H1 h1 s1 g1 r1 => ?_
  obtain ⟨p, p2, w, rfl, h2⟩ := asR_eq h1
  cases r1 with
  | root e1 e2 e3 e4 => exact ⟨_, C, _, _, _, rfl, g1.sub _ _ e1, hc, hn, rfl, q _ _ _ _ _ h2 s1 g1 e2⟩
theorem s_pair (hc : Cls K C) (hn : NoAttr K C "pair") (ha : Snd K C a ta) : Snd K C (eFq a) (tFld K ta "pair") := by
  intro σa k r h Fo Hf H σ g Q q
  refine ha _ _ _ h Fo Hf H σ g _ fun x σ1 v Hf1 H1 h1 s1 g1 r1 => ?_
  obtain ⟨p, p2, w, rfl, h2⟩ := asR_eq h1
  cases r1 with
  | root e1 e2 e3 e4 => exact ⟨_, C, _, _, _, rfl, g1.sub _ _ e1, hc, hn, rfl, q _ _ _ _ _ h2 s1 g1 e3⟩
theorem s_weight (hc : Cls K C) (hn : NoAttr K C "weight") (ha : Snd K C a ta) : Snd K C (eFw a) (tFld K ta "weight") := by
  intro σa k r h Fo Hf H σ g Q q
  refine ha _ _ _ h Fo Hf H σ g _ fun x σ1 v Hf1 H1 h1 s1 g1 r1 => ?_
  obtain ⟨p, p2, w, rfl, h2⟩ := asR_eq h1
  cases r1 with
  | root e1 e2 e3 e4 => exact ⟨_, C, _, _, _, rfl, g1.sub _ _ e1, hc, hn, rfl, q _ _ _ _ _ h2 s1 g1 e4⟩
theorem s_make {E : XK} (ha : SndA K C ar tr) : Snd K C (eMk ar) (tMake C (spIn C) [] E tr) := by
  intro σa k r h Fo Hf H σ g Q q
  refine ha _ _ _ h Fo Hf H σ g _ fun as σ1 vs Hf1 H1 h1 s1 g1 r1 => ?_
  obtain ⟨p, p2, w, rfl, h2⟩ := three_eq h1
  obtain ⟨v1, v2, v3, rfl, f1, f2, f3⟩ := r1.three
  intro x dx hx hdx hne
  refine ⟨x, dx, v1, v2, v3, rfl, upd_same, fun H' k1 k2 => ⟨rfl, ?_⟩⟩
  have eH : H' = upd (upd H1 dx (.own x)) x (.ins C dx [("poly", v1), ("pair", v2), ("weight", v3)]) := by
    funext c
    by_cases z : c = x
    · subst z; rw [upd_same]; exact k2
    · rw [upd_ne z, k1 c z, upd_ne z]
  subst eH
  have g2 := g1.new hdx (.own x)
  have hx2 : upd H1 dx (.own x) x = none := by rw [upd_ne hne.symm]; exact hx
  have g3 := g2.new hx2 (.ins C dx [("poly", v1), ("pair", v2), ("weight", v3)])
  have sa : Same Hf1 (upd Hf1 dx (.own x)) := Same.new (g1.nil hdx).1 _
  have sb := Same.trans' sa (Same.new (g2.nil hx2).1 (.ins C dx [("poly", v1), ("pair", v2), ("weight", v3)]))
  exact q _ _ _ _ _ h2 (Same.trans' s1 sb) g3 (.root upd_same (f1.mono sb) (f2.mono sb) (f3.mono sb))
end
noncomputable abbrev Fn := List AV → O
noncomputable def spEv (K : PySem.W.Frag) (C : Addr) (F : Fn) (m : Nat) : Sp := fun vs H Q _ => ∃ Hf as r, Same Hf H ∧ RlL K C Hf as vs ∧ as.length = m ∧ F as = some r ∧
  ∀ v Hf' H', Same H H' → Same Hf Hf' → Same Hf' H' → (∀ b, Hf b = none → H b ≠ none → Hf' b = none) → Rl K C Hf' r v → Q v H'
noncomputable def eCall (F : Fn) (m : Nat) (ar : EvA) : Ev := fun σ k => ar σ fun as σ1 => ifB (Nat.beq (lenF as) m) (Option.rec none (fun r => k r σ1) (F as)) none
noncomputable def inS (n : Nat) (as : List AV) : Sa := List.rec (Nat.rec [] (fun _ ih => .no :: ih) n) (fun x _ ih => .fz x :: ih) as
noncomputable def runF (n : Nat) (s : EvS) : Fn := fun as => s (inS n as) fun _ => some .non
theorem inS_eq : ∀ (n : Nat) (as : List AV), inS n as = as.map .fz ++ List.replicate n .no
  | 0, [] => rfl
  | n + 1, [] => congrArg (SV.no :: ·) (inS_eq n [])
  | n, x :: as => congrArg (SV.fz x :: ·) (inS_eq n as)
section
variable {K : PySem.W.Frag} {C : Addr} {a b : Ev} {ta tb : TE} {ar : EvA} {tr : TA}
theorem s_call {F : Fn} {m : Nat} {E : XK} (ha : SndA K C ar tr) : Snd K C (eCall F m ar) (tCall (spEv K C F m) [] E tr) := by
  intro σa k r h Fo Hf H σ g Q q
  refine ha _ _ _ h Fo Hf H σ g _ fun as σ1 vs Hf1 H1 h1 s1 g1 r1 => ?_
  obtain ⟨c, h2⟩ := ifB_some h1
  have c := Nat.eq_of_beq_eq_true c
  rw [lenF_eq] at c
  cases e : F as with
  | none => rw [e] at h2; exact nomatch h2
  | some y =>
    rw [e] at h2
    rw [List.append_nil]
    exact ⟨Hf1, as, y, g1.sub, r1, c, e, fun v Hf' H' k1 k2 k3 k4 rl => q _ _ _ _ _ h2 (Same.trans' s1 k2) (g1.call k1 k2 k3 k4) rl⟩
theorem run_ok {s : EvS} {t : TS} {m n : Nat} {N : List Str} (hs : SndS K C s t) (hN : N.length = m + n) {vs : List V} {H : Hp} {Q : VK} {E : XK} (h : spEv K C (runF n s) m vs H Q E) : t { nx := fun _ H' => Q .non H', rt := Q } (L2.start N vs) H := by
  obtain ⟨Hf, as, r, h1, h2, h3, h4, q⟩ := h
  have hvl := h2.length
  have g : Good K C (FoOf Hf H) Hf H (inS n as) (L2.start N vs) := by
    refine ⟨h1, foOf_ok, ?_, fun i x e => ?_, fun i xs e => ?_, fun i j xs ys a e => ?_⟩
    · rw [inS_eq]
      unfold L2.start
      rw [List.length_append, List.length_append, List.length_map, List.length_map, List.length_replicate, List.length_replicate]; lia
    · rw [inS_eq, getS_eq] at e
      by_cases hi : i < as.length
      · rw [List.getElem?_append_left (by rw [List.length_map]; exact hi), List.getElem?_map, List.getElem?_eq_getElem hi] at e
        cases e
        obtain ⟨v, e1, e2⟩ := h2.get (List.getElem?_eq_getElem hi)
        refine ⟨v, ?_, e2⟩
        unfold L2.start
        rw [List.getElem?_append_left (by rw [List.length_map]; lia), List.getElem?_map, e1]; rfl
      · rw [List.getElem?_append_right (by rw [List.length_map]; lia), List.length_map, List.getElem?_replicate] at e
        split at e <;> exact nomatch e
    all_goals
      rw [inS_eq, getS_eq] at e
      by_cases hi : i < as.length
      · rw [List.getElem?_append_left (by rw [List.length_map]; exact hi), List.getElem?_map, List.getElem?_eq_getElem hi] at e
        exact nomatch e
      · rw [List.getElem?_append_right (by rw [List.length_map]; lia), List.length_map, List.getElem?_replicate] at e
        split at e <;> exact nomatch e
  refine hs _ _ _ h4 _ Hf H _ g _ (fun σa' σ' Hf' H' e s1 g1 => ?_) fun v Hf' H' s1 f1 rl => ?_
  · cases e
    obtain ⟨k1, k2⟩ := foOf_keep h1 s1 g1.sub g1.fo
    exact q _ _ _ k1 s1 g1.sub k2 .non
  · obtain ⟨k1, k2⟩ := foOf_keep h1 s1 f1.1 f1.2
    exact q _ _ _ k1 s1 f1.1 k2 rl
theorem spEv_len {F : Fn} {m : Nat} {vs : List V} {H : Hp} {Q : VK} {E : XK} (h : spEv K C F m vs H Q E) : vs.length = m := by
  obtain ⟨Hf, as, r, h1, h2, h3, _⟩ := h
  rw [h2.length, h3]
end
end CV
namespace CV
open PySem PySem.Spec PyProof.Rows L2
theorem zpL_get : ∀ {xs ys : List AV} {i : Nat} {v : AV}, (zpL xs ys)[i]? = some v → ∃ x y, xs[i]? = some x ∧ ys[i]? = some y ∧ v = .tup [x, y]
  | [], _, _, _, h => by simp [zpL] at h
  | _ :: _, [], _, _, h => by simp [zpL] at h
  | x :: xs, y :: ys, 0, v, h => by simp [zpL] at h; exact ⟨x, y, rfl, rfl, h.symm⟩
  | x :: xs, y :: ys, i + 1, v, h => by
    obtain ⟨a, b, h1, h2, h3⟩ := zpL_get (xs := xs) (ys := ys) (i := i) (v := v) (by simpa [zpL] using h)
    exact ⟨a, b, by simpa using h1, by simpa using h2, h3⟩
theorem zpL_len : ∀ (xs ys : List AV), (zpL xs ys).length = min xs.length ys.length
  | [], ys => by simp [zpL]
  | _ :: _, [] => by simp [zpL]
  | x :: xs, y :: ys => by
    show (zpL xs ys).length + 1 = _
    rw [zpL_len xs ys, List.length_cons, List.length_cons]; lia
section
variable {K : PySem.W.Frag} {C : Addr} {ar : EvA} {tr : TA}
theorem si_zp (ha : SndA K C ar tr) : SndI K C (iZp ar) (iZip K tr) := by
  intro σa k r h Fo Hf H σ g R q
  refine ha _ _ _ h Fo Hf H σ g _ fun as σ1 vs Hf1 H1 h1 s1 g1 r1 => ?_
  obtain ⟨x, y, rfl, h2⟩ := two_eq h1
  obtain ⟨v, w, rfl, r2, r3⟩ := r1.two
  obtain ⟨xs, rfl, h3⟩ := asL_eq h2
  obtain ⟨ys, rfl, h4⟩ := asL_eq h3
  obtain ⟨p, ws, rfl, e1, e2⟩ := r2.lst'
  obtain ⟨p', ws', rfl, e3, e4⟩ := r3.lst'
  rw [zpF_eq] at h4
  refine ⟨p, p', rfl, ⟨ws, .inl (.inl (g1.sub _ _ e1))⟩, ⟨ws', .inl (.inl (g1.sub _ _ e3))⟩, q _ _ _ _ _ h4 s1 g1 fun Hf2 H2 s2 s3 => ?_⟩
  have f1 : SqL K H2 p ws := .inl (.inl (s3 _ _ (s2 _ _ e1)))
  have f2 : SqL K H2 p' ws' := .inl (.inl (s3 _ _ (s2 _ _ e3)))
  refine ⟨fun i v hv => ?_, ⟨ws, ws', f1, f2, ?_⟩⟩
  · obtain ⟨x, y, k1, k2, rfl⟩ := zpL_get hv
    obtain ⟨u, h5, h6⟩ := e2.get k1
    obtain ⟨u', h5', h6'⟩ := e4.get k2
    refine ⟨⟨ws, ws', u, u', f1, f2, h5, h5'⟩, fun x H3 ⟨p2, y1, y2, h7, h8, h9, h10, h11⟩ => .inr ⟨p2, _, _, h7, h9, h8, rfl, ?_⟩⟩
    have t1 := h10 ws f1
    have t2 := h11 ws' f2
    rw [h5] at t1; cases t1
    rw [h5'] at t2; cases t2
    exact .cons (h6.mono s2) (.cons (h6'.mono s2) .nil)
  · rw [e2.length, e4.length, zpL_len]; lia
end
noncomputable def f_common_divisor : Fn := fun as => two as fun x y => asI x fun i => asI y fun j => fI (.ofNat (Nat.gcd (nab i) (nab j))) fun n => some (.int n)
theorem gcd_sp {K : PySem.W.Frag} {C : Addr} {vs : List V} {H : Hp} {Q : VK} {E : XK} (h : spEv K C f_common_divisor 2 vs H Q E) : ∃ a b : Int, vs = [.int a, .int b] ∧ Q (.int ((Int.gcd a b : Nat) : Int)) H := by
  obtain ⟨Hf, as, r, h1, h2, h3, h4, q⟩ := h
  obtain ⟨x, y, rfl, h5⟩ := two_eq h4
  obtain ⟨v, w, rfl, r2, r3⟩ := h2.two
  obtain ⟨i, rfl, h6⟩ := asI_eq h5
  obtain ⟨j, rfl, h7⟩ := asI_eq h6
  rw [fI_eq, nab_eq, nab_eq] at h7
  cases r2; cases r3; cases h7
  exact ⟨i, j, rfl, q _ Hf H (Same.refl' _) (Same.refl' _) h1 (fun b e _ => e) .int⟩
end CV
namespace L2
open PySem PySem.Spec PyProof.Rows
section
variable {X : Cx}
end
end L2
namespace SF
open PySem
noncomputable abbrev S (l : List Nat) : Str := ⟨l.toArray⟩
end SF
namespace L2
open PySem PySem.Spec PyProof.Rows
section
variable {X : Cx}
end
end L2
namespace SF
open PySem
end SF
namespace SF
open PySem PySem.Spec PyProof.Rows L2 PySem.W
section
variable {P : Program} {w : World} {H H' : Hp} {h h' : Heap} {a : Addr} {o : HO}
theorem objok_get (x : ObjOk P w H h a o) : ∃ ob, h.get? a = some ob := by
  cases o with
  | lst xs => obtain ⟨_, _, _, _, e⟩ := x; exact ⟨_, e⟩
  | tup xs => obtain ⟨_, _, _, ob, e, _⟩ := x; exact ⟨_, e⟩
  | dK kvs => obtain ⟨_, _, _, _, o, _, _, e, _⟩ := x; exact ⟨_, e⟩
  | dT kvs => obtain ⟨_, _, _, _, o, _, _, e, _⟩ := x; exact ⟨_, e⟩
  | set S n => obtain ⟨o, _, _, _, e, _⟩ := x; exact ⟨_, e⟩
  | ins C dx fs => obtain ⟨_, _, _, e, _⟩ := x; exact ⟨_, e⟩
  | own y => obtain ⟨_, e⟩ := x; exact ⟨_, e⟩
  | xd fs => obtain ⟨_, ⟨_, _, _, e, _⟩, _⟩ := x; exact ⟨_, e⟩
  | rng lo hi => obtain ⟨_, _, _, e⟩ := x; exact ⟨_, e⟩
  | frz ob u => obtain ⟨e, _⟩ := x; exact ⟨_, e⟩
  | tbl ps => exact ⟨_, (show h.get? a = some _ from x)⟩
  | met f y => exact ⟨_, (show h.get? a = some _ from x)⟩
  | ext φ => obtain ⟨_, ⟨_, e⟩, _⟩ := x; exact ⟨_, e⟩
theorem hok_none (x : HOk P w H h) (e : h.get? a = none) : H a = none := by
  cases q : H a with
  | none => rfl
  | some u =>
    obtain ⟨ob, z⟩ := objok_get (x a u q)
    rw [e] at z; cases z
theorem un_more {fs ex : List Addr} (x : HOk P w H h) (k : ∀ b u, h.get? b = some u → h'.get? b = some u) (q : ∀ b u, h.get? b = some u → H' b = H b) : Un fs ex H H' h h' where
  keep := fun b u e _ _ _ => k b u e
  slot := fun b u e _ _ _ => ⟨u.slots, k b u e⟩
  free := fun b u e n _ => (q b u e).trans n
  there := fun b u e _ => ⟨u, k b u e⟩
  tups := fun b xs e => by obtain ⟨ob, z⟩ := objok_get (x b _ e); rw [q b ob z]; exact e
  frzs := fun b u xs e => by obtain ⟨ob, z⟩ := objok_get (x b _ e); rw [q b ob z]; exact e
  tbls := fun b ps e => by obtain ⟨ob, z⟩ := objok_get (x b _ e); exact ⟨#[], by rw [q b ob z, e]; simp⟩
theorem hok_more (x : HOk P w H h) (k : ∀ b u, h.get? b = some u → h'.get? b = some u) (q : ∀ b u, h.get? b = some u → H' b = H b) (new : ∀ b o, h.get? b = none → H' b = some o → ObjOk P w H' h' b o) : HOk P w H' h' := fun b o e => by
  cases z : h.get? b with
  | none => exact new b o z e
  | some u =>
    rw [q b u z] at e
    refine (x b o e).stay (fun c v _ e => k c v e) (fun c r => ?_) fun c xs r => ?_
    · obtain ⟨ob, z⟩ := objok_get (x c _ r); rw [q c ob z]; exact r
    · obtain ⟨ob, z⟩ := objok_get (x c _ r); rw [q c ob z]; exact r
end
theorem Inv_more {X : Cx} {pins : List (Addr × Obj)} {σ : L2.St} {H H' : Hp} {s : Shared} {h' : Heap} {t' : Nat} (I : Inv X pins σ H s) (k : ∀ b u, s.heap.get? b = some u → h'.get? b = some u) (q : ∀ b u, s.heap.get? b = some u → H' b = H b)
    (new : ∀ b o, s.heap.get? b = none → H' b = some o → ObjOk X.prog X.w H' h' b o) : Inv X pins σ H' { s with heap := h', toks := t' } := I.un (un_more I.hok k q) (hok_more I.hok k q new)
noncomputable def excO (a C t : Addr) (tb : Value) (d : Option Addr) : HO := .ext fun h => ∃ o vs, h.get? a = some o ∧ o.cls = .ref C ∧ o.dict = d ∧ o.data = .fields vs ∧ vs.size = 6 ∧ vs[0]? = some (.ref t) ∧ vs[1]? = some tb
theorem exc_stay {a C t : Addr} {tb : Value} {d : Option Addr} {P : Program} {w : World} {H : Hp} {h : Heap} {o : Obj} {vs : Array Value} (e : h.get? a = some o) (hc : o.cls = .ref C) (hd : o.dict = d) (hf : o.data = .fields vs) (h6 : vs.size = 6) (h0 : vs[0]? = some (.ref t)) (h1 : vs[1]? = some tb) :
    ObjOk P w H h a (excO a C t tb d) :=
  ⟨⟨o, vs, e, hc, hd, hf, h6, h0, h1⟩, ⟨o, e⟩, fun _ _ ⟨o, vs, e, r⟩ k => ⟨o, vs, k o e, r⟩⟩
noncomputable def bmV : List Value := [.type "ValueError", .type "Exception", .type "BaseException", .type "object"]
noncomputable def XCls (K : Frag) (C : Addr) : Prop := excIn K C bmV "ValueError.__new__" = true
section
variable {X : Cx} {C : Addr}
theorem exc_obj {K : Frag} {h : Heap} (XK : K.In h) (q : XCls K C) : ∃ bm N nm qn bs hdct sn sub ab col dd k0 k1 k2 k3 k5 mN, h.get? C = some (excClassObj nm qn C N bs bm hdct sn sub ab col dd k0 k1 k2 k3 k5 "ValueError.__new__") ∧ h.Ns N mN ∧ mN "__init__" = none ∧ OwnTail h bmV bm := by
  unfold XCls excIn at q
  split at q
  · rename_i dd cd sl ho
    split at q
    · rename_i C' bm k0 k1 k2 k3 n k5 hm hs
      simp only [Bool.and_eq_true, beq_iff_eq, Bool.not_eq_true'] at q
      obtain ⟨⟨⟨⟨⟨rfl, rfl⟩, hdel⟩, ht⟩, hok⟩, hni⟩ := q
      obtain ⟨nm, bs, mro, ns, qn, hd, sn, sub, ab, col, del⟩ := cd
      dsimp only at hm hdel hok hni
      subst hm hdel
      have hsl : sl = #[k0, k1, k2, k3, some (.builtin "ValueError.__new__"), k5] := by
        obtain ⟨l⟩ := sl
        simp only at hs
        rw [hs]
      subst hsl
      exact ⟨bm, ns, nm, qn, bs, hd, sn, sub, ab, col, dd, k0, k1, k2, k3, k5, _, XK _ _ ho, .of_isNs (isNs_of_in XK hok), nsMap_none_of_in XK hok hni, tail_of_in XK ht⟩
    · cases q
  · cases q
theorem made_inv {pins : List (Addr × Obj)} {σ : L2.St} {H : Hp} {s : Shared} {h' : Heap} {e : Addr} {us : List Value} {vs : List V} {Q : VK} (I : Inv X pins σ H s) (r : Vals vs us) (hl : vs.length ≤ 1000) (hm : Heap.MadeExcOf s.heap h' e (.ref C) us)
    (q : ∀ x tp, H x = none → H tp = none → x ≠ tp → Q (.ref x) (upd (upd H tp (.tup vs)) x (excO x C tp .none none))) : EP X pins σ Q (.ref e) { s with heap := h' } := by
  obtain ⟨t, he, htn, ht⟩ := hm.there
  have hne : e ≠ t := fun z => by subst z; rw [he] at ht; cases ht
  refine ⟨.ref e, _, Inv_more (t' := s.toks) I hm.keeps (fun b u z => ?_) (fun b o z zz => ?_), rfl, q e t (hok_none I.hok hm.new) (hok_none I.hok htn) hne⟩
  · rw [upd_ne (fun y => by subst y; rw [hm.new] at z; cases z), upd_ne (fun y => by subst y; rw [htn] at z; cases z)]
  · by_cases hb : b = e
    · subst hb
      rw [upd_same] at zz; cases zz
      exact exc_stay he rfl rfl rfl rfl rfl rfl
    · rw [upd_ne hb] at zz
      by_cases hb2 : b = t
      · subst hb2
        rw [upd_same] at zz; cases zz
        exact ⟨small4 hl, us, r, _, ht, rfl, _, rfl⟩
      · rw [upd_ne hb2] at zz
        rw [hok_none I.hok z] at zz; cases zz
end
end SF
namespace SF
open PySem PySem.Spec PyProof.Rows L2 PySem.W
section
variable {prog : Program} {w : World} {A : Around} {E : Value → Shared → Prop} {s : Shared} {K : Frag} {x C : Addr} {ox : Obj} {od : Option Obj} {name : Str} {tk : Tok}
theorem xga_kind : builtinKind "BaseException.__getattribute__" = some .slot := by decide +kernel
theorem xga_split : splitId "BaseException.__getattribute__" = some ("BaseException", "__getattribute__") := by decide +kernel
theorem xga_code {R : Result → Shared → Prop} (XK : K.In s.heap) (I : InstAt s.heap x ox C od) (hb : subIn K (.ref C) (.type "BaseException") = some true)
    (h : wpAny (model prog w) A.in1 (Builtin.«object.__getattribute__» ⟨[.ref x, .str name tk], []⟩) (fun fin s' => match fin with | .done f => R (.ok f) s' | .again c' => c'.quiet = true ∧ codeAny (model prog w) A c' R s') (fun e s' => R (.error e) s') s) :
    codeAny (model prog w) A (.call (.builtin "BaseException.__getattribute__") ⟨[.ref x, .str name tk], []⟩) R s := by
  have sub : Looks (model prog w) s.heap (isInstance (.ref x) (.type "BaseException")) true := I.type.andThen (looks_subIn XK hb)
  exact codeAny_call_builtin PySem.F.attr_ValueError.ga.plain PySem.F.entry_bexc_ga (@check_slot (model prog w) _ _ s "BaseException.__getattribute__" "BaseException" "__getattribute__" (.ref x) [.str name tk] [] _ xga_kind xga_split sub (PySem.F.args_bexc_ga (.ref x) (.str name tk)) h)
theorem xga_class {Q : Fin → Shared → Prop} (XK : K.In s.heap) (I : InstAt s.heap x ox C od) (hf : findObj K C od "__class__" = some (.bind (.builtin "getset_descriptor.__get__") (.builtin "object.__class__"))) (hm : mroIn K C (.type "object") = some true) (h : Q (.done (.ret (.ref C))) s) :
    wpAny (model prog w) A (Builtin.«object.__getattribute__» ⟨[.ref x, .str "__class__" tk], []⟩) Q E s := by
  have L0 := I.type (M := model prog w)
  have L1 := looks_find (M := model prog w) XK I hf
  refine wpAny_bind (wpAny_pure (wpAny_bind (wpAny_pure (wpAny_bind (L0.here (wpAny_bind (L1.here ?_)))))))
  show wpAny _ _ (holding [.builtin "object.__class__"] (call (.builtin "getset_descriptor.__get__") [.builtin "object.__class__", .ref x, .ref C]) >>= ret) _ _ _
  exact wpAny_bind (wpAny_holding (wpAny_call (class_get XK I hm (wpAny_pure h))))
theorem xga_ne : (Value.builtin "BaseException.__getattribute__" == Value.builtin "object.__getattribute__") = false := by decide +kernel
theorem xby {fill expr : Bool} {Q : Value → Shared → Prop} (XK : K.In s.heap) (I : InstAt s.heap x ox C od) (hga : findIn K (.ref C) "__getattribute__" = some (some (.builtin "BaseException.__getattribute__"))) (hgk : findIn K (.ref C) "__getattr__" = some none)
    (hb : subIn K (.ref C) (.type "BaseException") = some true)
    (h : ∀ A' E', wpAny (model prog w) A' (Builtin.«object.__getattribute__» ⟨[.ref x, .str name tk], []⟩) (fun fin s' => ∃ v, fin = .done (.ret v) ∧ handedIn v = true ∧ Q v s') E' s) :
    wpAny (model prog w) A (getAttrBy (.ref x) (.str name tk) fill expr) Q E s := by
  have L0 := I.type (M := model prog w)
  have L1 := looks_findIn (M := model prog w) XK hga
  have L2 := looks_findIn (M := model prog w) XK hgk
  have hx0 : (expr && onTheHeap (Value.builtin "BaseException.__getattribute__")) = false := by cases expr <;> rfl
  have hx1 : (onTheHeap (Value.ref C) && Value.builtin "BaseException.__getattribute__" == Value.builtin "object.__getattribute__") = false := by rw [xga_ne]; rfl
  unfold getAttrBy
  refine wpAny_holding (wpAny_bind (L0.here (wpAny_bind (L1.here ?_))))
  show wpAny _ _ (if (onTheHeap (Value.ref C) && Value.builtin "BaseException.__getattribute__" == Value.builtin "object.__getattribute__") = true then _ else _) _ _ _
  rw [hx1, if_neg (by decide)]
  unfold getAttrByItsOwn
  refine wpAny_bind ?_
  show wpAny _ _ (typeLookup (.ref C) "__getattr__") _ _ _
  refine L2.here (wpAny_bind (wpAny_attempt (wpAny_holding ?_)))
  unfold callGetattribute
  rw [hx0, if_neg (by decide)]
  unfold boundAndCalled
  rw [PySem.F.attr_ValueError.ga.bind (.ref x)]
  refine wpAny_bind (wpAny_pure (wpAny_call (xga_code XK I hb (wpAny_mono (h _ _) (fun fin s' z => ?_) fun _ _ z => z))))
  obtain ⟨v, rfl, hh, q⟩ := z
  show wpAny _ _ (handedOut v) _ _ _
  rw [handedOut_of hh]
  exact wpAny_pure q
end
end SF
namespace SF
open PySem PySem.Spec PyProof.Rows L2 PySem.W
structure XAsk (K : Frag) (D : Addr) : Prop where
  ga : findIn K (.ref D) "__getattribute__" = some (some (.builtin "BaseException.__getattribute__"))
  gk : findIn K (.ref D) "__getattr__" = some none
  base : subIn K (.ref D) (.type "BaseException") = some true
  cls : findIn K (.ref D) "__class__" = some (some (.builtin "object.__class__"))
  cget : specialIn K (.builtin "object.__class__") "__get__" = some (some (.builtin "getset_descriptor.__get__"))
  ctake : takesIn K (.builtin "object.__class__") = some true
  obj : mroIn K D (.type "object") = some true
  dct : hasDictIn K D = true
  str : findIn K (.ref D) "__str__" = some (some (.builtin "BaseException.__str__"))
section
variable {prog : Program} {w : World} {A : Around} {E : Value → Shared → Prop} {s : Shared} {K : Frag} {x C D : Addr} {ox : Obj} {od : Option Obj} {name : Str} {tk : Tok}
theorem kitx_exc (F : XAsk K D) : KitX K (.ref x) (.ref D) (fun h => ∃ ox od, InstAt h x ox D od) where
  ty := fun _ _ _ ⟨_, _, I⟩ => I.type
  it := fun _ _ X _ => by
    obtain ⟨cdD, hcD, _⟩ := any_some F.dct
    unfold clsIn at hcD
    split at hcD
    · rename_i c' d' cd' sl' ho
      intro A' Q' E' s' k q
      unfold isType loadHead
      exact wpAny_bind (wpAny_loadPart (k _ _ (X _ _ ho)) (wpAny_pure q))
    · cases hcD
  ne := fun h tp dd its n sl X htp => by
    obtain ⟨cdD, hcD, _⟩ := any_some F.dct
    refine Bool.eq_false_iff.mpr fun q => ?_
    have e : D = tp := Value.ref.inj (beq_iff_eq.mp q)
    subst e
    unfold clsIn at hcD
    split at hcD
    · rename_i c' d' cd' sl' ho
      have z := (X _ _ ho).symm.trans htp
      cases z
    · cases hcD
  ca := fun {prog w A E Q s} X ⟨ox, od, I⟩ k => by
    have hf : findObj K D od "__class__" = some (.bind (.builtin "getset_descriptor.__get__") (.builtin "object.__class__")) := by
      obtain ⟨cd, hc, _⟩ := any_some F.dct
      unfold findObj
      simp only [hc, F.cls, F.cget, F.ctake, Option.bind_some]
    unfold getAttr? getAttrBy?
    refine wpAny_bind (wpAny_mkText (wpAny_bind (wpAny_attempt ?_)))
    refine xby (s := { s with toks := s.toks + 1 }) X I F.ga F.gk F.base fun A' E' => ?_
    refine xga_class (s := { s with toks := s.toks + 1 }) X I hf F.obj ⟨_, rfl, rfl, ?_⟩
    exact wpAny_pure k
end
end SF
namespace SF
open PySem PySem.Spec PyProof.Rows L2 PySem.W
noncomputable def tbO (T : Addr) (fl : Value) : HO := .ext fun h => ∃ o ts, h.get? T = some o ∧ o.data = .fields ts ∧ ts[3]? = some fl
theorem tb_ok {T : Addr} {fl : Value} {P : Program} {w : World} {H : Hp} {h : Heap} {o : Obj} {ts : Array Value} (e : h.get? T = some o) (hd : o.data = .fields ts) (h3 : ts[3]? = some fl) : ObjOk P w H h T (tbO T fl) :=
  ⟨⟨o, ts, e, hd, h3⟩, ⟨o, e⟩, fun _ _ ⟨o, ts, e, r⟩ k => ⟨o, ts, k o e, r⟩⟩
section
variable {M : Model} {A : Around} {E : Value → Shared → Prop} {s : Shared} {base : Heap} {env : Env} {outer : List Env} {L e : Addr} {oe : Obj} {vs : Array Value} {head : Value} {Q : Unit → Shared → Prop}
structure Noted (fs : List Addr) (e : Addr) (oe : Obj) (fl : Value) (h h' : Heap) (T : Addr) : Prop where
  new : h.get? T = none
  ent : ∃ oT ts, h'.get? T = some oT ∧ oT.data = .fields ts ∧ ts[3]? = some fl
  ne : T ≠ e
  exc : h'.get? e = some (Obj.mapFields (·.setIfInBounds 1 (.ref T)) oe)
  keep : ∀ b o, b ≠ e → b ∉ fs → h.get? b = some o → h'.get? b = some o
  slot : ∀ b o, b ≠ e → h.get? b = some o → ∃ sl, h'.get? b = some { o with slots := sl }
theorem entry_raw {hadNext : Bool} (hfr : A.frames = some (env :: outer)) (hl : s.heap.FunFrames base (env :: outer)) (hf : env.frame = some L) (he : s.heap.get? e = some oe) (hd : oe.data = .fields vs) (hsz : 1 < vs.size)
    (h : ∀ h' T, Noted (frs (env :: outer)) e oe (rawInt L) s.heap h' T → Q () { s with heap := h' }) :
    wpAny M A (do let a ← frameOf env; let pl ← entryPlaceOf L hadNext; let b ← EntryCells.newEntry head a .none (rawInt L) .none pl; setField (.ref e) 1 b) Q E s := by
  have hene : e ∉ (env :: outer).filterMap (·.frame) := fun hm => by
    obtain ⟨_, o, ho, hnf⟩ := hl.mem hm
    rw [he] at ho; injection ho with ho; subst ho; exact hnf vs hd
  refine wpAny_bind (wpAny_frameOf_fun hfr hl hf fun h₁ hs₁ => ?_)
  refine wpAny_bind (wpAny_entryPlaceOf fun pl hpl => ?_)
  unfold EntryCells.newEntry newFields
  refine wpAny_bind (wpAny_newObj_type ?_ (hpl.sizeOk5 _ _ _ _ _))
  have he₁ : h₁.get? e = some oe := (hs₁.2.1 e hene).trans he
  generalize hoT : ({ cls := .type "traceback", dict := none, data := .fields ([head, .ref L, .none, rawInt L, .none] ++ (if pl.isEmpty then List.replicate 6 Value.none else pl)).toArray } : Obj) = oT
  have he₂ := Heap.get?_push_of_some (h := h₁) oT he₁
  refine wpAny_setField he₂ hd hsz ?_
  have hTe : h₁.objs.size ≠ e := Nat.ne_of_gt (Heap.lt_size he₁)
  have hd₃ := Obj.data_mapFields hd (·.setIfInBounds 1 (Value.ref h₁.objs.size))
  have he₃ := Heap.get?_update_self (Obj.mapFields (·.setIfInBounds 1 (Value.ref h₁.objs.size))) he₂ (Obj.isFreed_of_fields hd₃)
  have hT₃ := (Heap.get?_update_other (h₁.push oT) (Obj.mapFields (·.setIfInBounds 1 (Value.ref h₁.objs.size))) (Ne.symm hTe)).trans (Heap.get?_push_size h₁ (by subst hoT; rfl))
  have keep : ∀ b o, b ≠ e → h₁.get? b = some o → ((h₁.push oT).update e (Obj.mapFields (·.setIfInBounds 1 (Value.ref h₁.objs.size)))).get? b = some o := fun b o hbe hb => by
    rw [Heap.get?_update_other _ _ (Ne.symm hbe)]
    exact Heap.get?_push_of_some _ hb
  refine h _ h₁.objs.size ⟨Heap.get?_none_of_le (by rw [hs₁.1]; exact Nat.le_refl _), ⟨oT, _, hT₃, by subst hoT; rfl, by first | (simp; done) | (rcases hpl with rfl | ⟨_, _, _, _, _, _, _, rfl⟩ <;> simp)⟩, hTe, he₃, fun b o hbe hbf hb => keep b o hbe ((hs₁.2.1 b hbf).trans hb), fun b o hbe hb => ?_⟩
  obtain ⟨sl, q⟩ := hs₁.2.2 b o hb
  exact ⟨sl, keep b _ hbe q⟩
theorem same_field {o : Obj} {ts : Array Value} {i : Nat} {x : Value} (hd : o.data = .fields ts) (h3 : ts[i]? = some x) : Obj.mapFields (·.setIfInBounds i x) o = o := by
  obtain ⟨c, d, dt, sl⟩ := o
  subst hd
  have : ts.setIfInBounds i x = ts := by
    apply Array.ext_getElem?
    intro j
    rw [Array.getElem?_setIfInBounds]
    by_cases q : i = j
    · subst q
      rw [if_pos rfl, h3]
      have := (Array.getElem?_eq_some_iff.mp h3).1
      simp [this]
    · rw [if_neg q]
  simp only [Obj.mapFields, this]
theorem note_raw (hfr : A.frames = some (env :: outer)) (hl : s.heap.FunFrames base (env :: outer)) (hf : env.frame = some L) (he : s.heap.get? e = some oe) (hd : oe.data = .fields vs) (h1 : vs[1]? = some head)
    (hh : head = .none ∨ ∃ T oT ts, head = .ref T ∧ T ≠ e ∧ s.heap.get? T = some oT ∧ oT.data = .fields ts ∧ ts[3]? = some .none)
    (h : ∀ h' T, Noted (frs (env :: outer)) e oe (rawInt L) s.heap h' T → Q () { s with heap := h' }) : wpAny M A (noteFrame (.ref e) env) Q E s := by
  have hsz : 1 < vs.size := (Array.getElem?_eq_some_iff.mp h1).1
  unfold noteFrame
  simp only [hf]
  refine wpAny_bind (wpAny_field he hd h1 ?_)
  rcases hh with rfl | ⟨T, oT, ts, rfl, hTe, hT, hdT, h3⟩
  · rw [if_neg (by decide)]
    exact entry_raw hfr hl hf he hd hsz h
  · rw [if_pos (show (Value.ref T != Value.none) = true from by simp)]
    refine wpAny_bind (wpAny_field hT hdT h3 ?_)
    rw [if_neg (show ¬ ((Value.none == rawInt L) = true) from by simp [rawInt])]
    refine wpAny_bind (wpAny_setField hT hdT (Array.getElem?_eq_some_iff.mp h3).1 ?_)
    have same : ∀ b, (s.heap.update T (Obj.mapFields (·.setIfInBounds 3 Value.none))).get? b = s.heap.get? b := fun b => by
      by_cases q : b = T
      · subst q
        rw [Heap.get?_update_self _ hT (Obj.isFreed_of_fields (Obj.data_mapFields hdT _)), hT, same_field hdT h3]
      · exact Heap.get?_update_other _ _ (Ne.symm q)
    refine entry_raw (base := base) hfr (hl.of_keeps fun b o hb _ => ⟨o, (same b).trans hb, rfl⟩) hf ((same e).trans he) hd hsz fun h' T' N => h h' T' ?_
    exact ⟨(same _).symm.trans N.new, N.ent, N.ne, N.exc, fun b o hbe hbf hb => N.keep b o hbe hbf ((same b).trans hb), fun b o hbe hb => N.slot b o hbe ((same b).trans hb)⟩
theorem flight_raw {T : Addr} {oT : Obj} {ts : Array Value} {fl : Value} (he : s.heap.get? e = some oe) (hd : oe.data = .fields vs) (h1 : vs[1]? = some (.ref T)) (hT : s.heap.get? T = some oT) (hdT : oT.data = .fields ts) (h3 : ts[3]? = some fl)
    (h : ∀ h', (∃ oT' ts', h'.get? T = some oT' ∧ oT'.data = .fields ts' ∧ ts'[3]? = some .none) → (∀ b, b ≠ T → h'.get? b = s.heap.get? b) → Q () { s with heap := h' }) : wpAny M A (setFlight (.ref e) none) Q E s := by
  have hsz := (Array.getElem?_eq_some_iff.mp h3).1
  unfold setFlight
  refine wpAny_bind (wpAny_field he hd h1 ?_)
  rw [if_pos (show (Value.ref T != Value.none) = true from by simp)]
  refine wpAny_setField hT hdT hsz (h _ ⟨_, _, Heap.get?_update_self _ hT (Obj.isFreed_of_fields (Obj.data_mapFields hdT _)), Obj.data_mapFields hdT _, by simp [hsz]⟩ fun b hb => Heap.get?_update_other _ _ (Ne.symm hb))
end
noncomputable def TbOk (H : Hp) (a : Addr) (tb : Value) : Prop := tb = .none ∨ ∃ T, tb = .ref T ∧ T ≠ a ∧ H T = some (tbO T .none)
noncomputable def Sub (a : Addr) (H1 H' : Hp) : Prop := ∀ b o, b ≠ a → H1 b = some o → H' b = some o
theorem Sub.refl {a : Addr} {H : Hp} : Sub a H H := fun _ _ _ e => e
theorem Sub.trans {a : Addr} {H1 H2 H3 : Hp} (x : Sub a H1 H2) (y : Sub a H2 H3) : Sub a H1 H3 := fun b o n e => y b o n (x b o n e)
section
variable {X : Cx} {pins : List (Addr × Obj)} {σ : L2.St} {H : Hp} {s : Shared} {a C t T : Addr} {tb fl : Value} {d : Option Addr} {E : Value → Shared → Prop} {Q : Unit → Shared → Prop}
theorem exc_get {P : Program} {w : World} {h : Heap} (x : HOk P w H h) (ha : H a = some (excO a C t tb d)) : ∃ o vs, h.get? a = some o ∧ o.cls = .ref C ∧ o.dict = d ∧ o.data = .fields vs ∧ vs.size = 6 ∧ vs[0]? = some (.ref t) ∧ vs[1]? = some tb := (x a _ ha).1
theorem tb_get {P : Program} {w : World} {h : Heap} (x : HOk P w H h) (ha : H T = some (tbO T fl)) : ∃ o ts, h.get? T = some o ∧ o.data = .fields ts ∧ ts[3]? = some fl := (x T _ ha).1
theorem note_inv (hst : X.stack = X.env :: X.outer) (hfr : X.env.frame = some X.env.locals) (I : Inv X pins σ H s) (ha : H a = some (excO a C t tb d)) (ht : TbOk H a tb)
    (k : ∀ s' T, H T = none → T ≠ a → Inv X pins σ (upd (upd H a (excO a C t (.ref T) d)) T (tbO T (rawInt X.env.locals))) s' → Q () s') : wpAny (model X.prog X.w) X.A (noteFrame (.ref a) X.env) Q E s := by
  obtain ⟨o, vs, e, hc, hd, hf, h6, h0, h1⟩ := exc_get I.hok ha
  have hfrs : X.A.frames = some (X.env :: X.outer) := by rw [← hst]; exact I.ok.frames
  have hfun : s.heap.FunFrames X.base (X.env :: X.outer) := by rw [← hst]; exact I.stack
  have free : ∀ b ∈ frs (X.env :: X.outer), H b = none := by rw [← hst]; exact I.stkFree
  refine note_raw hfrs hfun hfr e hf h1 ?_ fun h' T N => ?_
  · rcases ht with rfl | ⟨T, rfl, n, q⟩
    · exact .inl rfl
    · obtain ⟨oT, ts, x, y, z⟩ := tb_get I.hok q
      exact .inr ⟨T, oT, ts, rfl, n, x, y, z⟩
  · have hTn : H T = none := hok_none I.hok N.new
    obtain ⟨oT, ts, x1, x2, x3⟩ := N.ent
    have nea : ∀ b u, H b = some u → (∀ φ, u ≠ .ext φ) → b ≠ a := fun b u q n z => by subst z; rw [ha] at q; cases q; exact n _ rfl
    have neT : ∀ b u, H b = some u → b ≠ T := fun b u q z => by subst z; rw [hTn] at q; cases q
    have nea0 : ∀ b, H b = none → b ≠ a := fun b q z => by subst z; rw [ha] at q; cases q
    have un : Un (frs X.stack) [] H (upd (upd H a (excO a C t (.ref T) d)) T (tbO T (rawInt X.env.locals))) s.heap h' := by
      rw [hst]
      exact ⟨fun b ob q n hb _ => N.keep b ob (nea0 b n) hb q, fun b ob q n _ _ => N.slot b ob (nea0 b n) q, fun b ob q n _ => by rw [upd_ne (fun z => by subst z; rw [N.new] at q; cases q), upd_ne (nea0 b n)]; exact n,
        fun b ob q _ => by
          by_cases z : b = a
          · subst z; exact ⟨_, N.exc⟩
          · obtain ⟨sl, q⟩ := N.slot b ob z q; exact ⟨_, q⟩,
        fun b xs q => by rw [upd_ne (neT b _ q), upd_ne (nea b _ q (fun _ z => nomatch z))]; exact q, fun b u xs q => by rw [upd_ne (neT b _ q), upd_ne (nea b _ q (fun _ z => nomatch z))]; exact q,
        fun b ps q => ⟨#[], by rw [upd_ne (neT b _ q), upd_ne (nea b _ q (fun _ z => nomatch z)), q]; simp⟩⟩
    have hok : HOk X.prog X.w (upd (upd H a (excO a C t (.ref T) d)) T (tbO T (rawInt X.env.locals))) h' := fun b u q => by
      by_cases hbT : b = T
      · subst hbT; rw [upd_same] at q; cases q
        exact tb_ok x1 x2 x3
      · rw [upd_ne hbT] at q
        by_cases hba : b = a
        · subst hba; rw [upd_same] at q; cases q
          refine exc_stay N.exc ((Obj.cls_mapFields _ _).trans hc) ?_ (Obj.data_mapFields hf _) (by simp [h6]) (by rw [Array.getElem?_setIfInBounds_ne (by decide)]; exact h0) (by simp [h6])
          obtain ⟨cc, dd, dt, sl⟩ := o
          simp only at hf
          subst hf
          exact hd
        · rw [upd_ne hba] at q
          refine (I.hok b u q).stay (fun c v hc e => ?_) (fun c r => by rw [upd_ne (neT c _ r), upd_ne (nea c _ r (fun _ z => nomatch z))]; exact r) fun c xs r => by rw [upd_ne (neT c _ r), upd_ne (nea c _ r (fun _ z => nomatch z))]; exact r
          refine N.keep c v ?_ (fun z => ?_) e
          · rcases hc with rfl | hc
            · exact hba
            · exact nea c _ hc (fun _ z => nomatch z)
          · have := free c z
            rcases hc with rfl | hc
            · rw [this] at q; cases q
            · rw [this] at hc; cases hc
    exact k _ T hTn N.ne (I.call (g' := s.gens) (d' := s.drawn) (t' := s.toks) (ch := []) un hok I.bare (fun b z => absurd z (by simp)))
theorem tb_mut : Mut (some (tbO T fl)) := trivial
theorem land_inv (I : Inv X pins σ H s) (ha : H a = some (excO a C t (.ref T) d)) (hT : H T = some (tbO T fl)) (k : ∀ s', Inv X pins σ (upd H T (tbO T .none)) s' → Q () s') {A : Around} : wpAny (model X.prog X.w) A (setFlight (.ref a) none) Q E s := by
  obtain ⟨o, vs, e, hc, hd, hf, h6, h0, h1⟩ := exc_get I.hok ha
  obtain ⟨oT, ts, x, y, z⟩ := tb_get I.hok hT
  refine flight_raw e hf h1 x y z fun h' ⟨oT', ts', p, q, r⟩ other => ?_
  have keep : ∀ b u, b ≠ T → s.heap.get? b = some u → h'.get? b = some u := fun b u n e => (other b n).trans e
  have mu : Mut (H T) := by rw [hT]; exact tb_mut
  exact k _ (I.un (t' := s.toks) (Un.write mu (.inl rfl) keep ⟨_, p⟩) (I.hok.write mu (.inl rfl) keep ⟨_, p⟩ (tb_ok p q r)))
theorem leave_inv (hst : X.stack = X.env :: X.outer) (hfr : X.env.frame = some X.env.locals) (I : Inv X pins σ H s) (ha : H a = some (excO a C t tb d)) (ht : TbOk H a tb)
    (k : ∀ s' H' T, Inv X pins σ H' s' → H' a = some (excO a C t (.ref T) d) → TbOk H' a (.ref T) → Sub a H H' → Q () s') : wpAny (model X.prog X.w) X.A (leaving X.env (.ref a)) Q E s := by
  unfold leaving
  refine wpAny_bind (note_inv hst hfr I ha ht fun s1 T hTn hne I1 => ?_)
  refine land_inv (T := T) (fl := rawInt X.env.locals) (C := C) (t := t) (d := d) I1 (by rw [upd_ne (Ne.symm hne), upd_same]) (by rw [upd_same]) fun s2 I2 => ?_
  rw [upd_upd] at I2
  refine k s2 _ T I2 (by rw [upd_ne (Ne.symm hne), upd_same]) (.inr ⟨T, rfl, hne, by rw [upd_same]⟩) fun b o n e => ?_
  rw [upd_ne (fun z => by subst z; rw [hTn] at e; cases e), upd_ne n]; exact e
end
noncomputable def CXF (P : Program) (w : World) : CXT := fun outer H s E e s' => ∃ a C t tb d H1 H' tb0, e = .ref a ∧ s'.os = s.os ∧ AllBare s'.gens ∧ Un (frs outer) [] H H' s.heap s'.heap ∧ HOk P w H' s'.heap ∧
  H' a = some (excO a C t tb d) ∧ TbOk H' a tb ∧ Sub a H1 H' ∧ H1 a = some (excO a C t tb0 d) ∧ E (.ref C) d H1
noncomputable def LeavesTo (X : Cx) (E : XK) : Prop := ∀ pins σ H' s' a C t tb d H1 tb0, Inv X pins σ H' s' → H' a = some (excO a C t tb d) → TbOk H' a tb → Sub a H1 H' → H1 a = some (excO a C t tb0 d) → E (.ref C) d H1 → X.xe (.ref a) s'
theorem LeavesTo.passes {X : Cx} {E : XK} (h : LeavesTo X E) : Passes (CXF X.prog X.w) X E := fun pins σ H s e s' I ⟨a, C, t, tb, d, H1, H', tb0, r, os, bare, un, hok, ha, ht, hs, h1, hE⟩ => by
  subst r
  exact h pins σ H' s' a C t tb d H1 tb0 (I.call' (ch := []) os un hok bare fun b z => absurd z (by simp)) ha ht hs h1 hE
noncomputable def tRaise (C : Addr) (E : XK) (t : TA) : TS := fun _ σ H => t σ H fun vs H1 => vs.length ≤ 1000 ∧ ∀ x tp, H1 x = none → H1 tp = none → x ≠ tp → E (.ref C) none (upd (upd H1 tp (.tup vs)) x (excO x C tp .none none))
theorem made_inv' {X : Cx} {C : Addr} {pins : List (Addr × Obj)} {σ : L2.St} {H : Hp} {s : Shared} {h' : Heap} {e : Addr} {us : List Value} {vs : List V} (I : Inv X pins σ H s) (r : Vals vs us) (hl : vs.length ≤ 1000) (hm : Heap.MadeExcOf s.heap h' e (.ref C) us) :
    ∃ tp, H e = none ∧ H tp = none ∧ e ≠ tp ∧ Inv X pins σ (upd (upd H tp (.tup vs)) e (excO e C tp .none none)) { s with heap := h' } := by
  obtain ⟨v, H', I', rv, x, tp, e1, e2, e3, rfl, e4⟩ := made_inv (Q := fun v H' => ∃ x tp, H x = none ∧ H tp = none ∧ x ≠ tp ∧ v = .ref x ∧ H' = upd (upd H tp (.tup vs)) x (excO x C tp .none none)) I r hl hm fun x tp a b c => ⟨x, tp, a, b, c, rfl, rfl⟩
  have : e = x := Value.ref.inj rv
  subst this e4
  exact ⟨tp, e1, e2, e3, I'⟩
theorem ps_raise {X : Cx} {C : Addr} {E : XK} {x : Str} {p cpos pos : Pos} {e : Expr} {es : List Expr} {t : TA} (hE : LeavesTo X E) (hcalm : X.calm = true) (hg : Gl X x) (hm : X.mg x = some (.ref C)) (hc : XCls X.K C) (ha : PA X (e :: es) t)
    (hdb : (x == ("__debug__" : Str)) = false := by decide) (he : starEach (e :: es) X.env = (false, eval e X.env) :: starEach es X.env := by rfl) (hpl : (backTo cpos (starEach (e :: es) X.env)).any (·.1) = false := by rfl) :
    L2.PS X (.Raise (some (.Call (.Name x p) (e :: es) [] cpos)) none pos) (tRaise C E t) := by
  intro pins s σ H D I h
  obtain ⟨bm, N, nm, qn, bs, hdct, sn, sub, ab, col, dd, k0, k1, k2, k3, k5, mN, hC, hN, hni, TL⟩ := exc_obj I.ok.mod.kin hc
  refine wpAny_Raise_call_subU (N := N) (bm := bm) (nm := nm) (q := qn) (bs := bs) (hdct := hdct) (sn := sn) (sub := sub) (ab := ab) (col := col) (dd := dd) (k0 := k0) (k1 := k1) (k2 := k2) (k3 := k3) (k5 := k5) (C := C) (mN := mN) PySem.F.excBase_ValueError (by decide) PySem.F.excBase_ValueError (TL.hasType (by decide)) (I.ok.hd hcalm) hpl hni
    (ld_glob I hg hm ⟨rfl, ?_⟩ hdb)
  rw [he]
  refine Calls.evalArgs_plain ?_
  have hpa := ha cpos pins s σ H _ I h
  rw [he] at hpa
  refine thn hpa fun us s1 ⟨vs, H1, I1, r, hl, q⟩ => ?_
  have lus : us.length ≤ 1000 := by rw [← r.length]; exact hl
  refine ⟨rfl, small4 lus, I1.bk _ _ hC, hN.keeps I1.bk, TL.keeps I1.bk, fun h' x hm => ?_⟩
  obtain ⟨tp, e1, e2, e3, I2⟩ := made_inv' I1 r hl hm
  exact hE pins σ _ _ x C tp .none none _ .none I2 (by rw [upd_same]) (.inl rfl) Sub.refl (by rw [upd_same]) (q x tp e1 e2 e3)
end SF
namespace SF
open PySem PySem.Spec PyProof.Rows L2 PySem.W
structure RoomG (cm : Bool) (k : Nat) (A : Around) : Prop where
  hd : cm = true → A.handled = none
  dp : A.depth + 3 * k + 5 < recursionLimit
  un : A.units + 16 * k + 200 < cLine
section
variable {cm : Bool} {j k : Nat} {A : Around}
theorem roomG (r : Room k A) : RoomG cm k A := ⟨fun _ => r.hd, r.dp, r.un⟩
theorem RoomG.calm (r : RoomG true k A) : Room k A := ⟨r.hd rfl, r.dp, r.un⟩
theorem RoomG.deeper (r : RoomG cm (k + 1) A) (env : Env) : RoomG cm k (A.deeper env) :=
  ⟨r.hd, by have := r.dp; show A.depth + 1 + 3 * k + 5 < _; lia, by have := r.un; show A.units + 3 + 16 * k + 200 < _; lia⟩
theorem RoomG.mono (r : RoomG cm k A) (h : j ≤ k) : RoomG cm j A := ⟨r.hd, by have := r.dp; lia, by have := r.un; lia⟩
theorem RoomG.mark {v : Option Value} (r : RoomG cm k A) : RoomG false k (A.mark v) := ⟨nofun, r.dp, r.un⟩
theorem RoomG.depth (r : RoomG cm k A) : A.depth < recursionLimit := by have := r.dp; lia
end
section
variable {X : Cx} {pins : List (Addr × Obj)} {σ : L2.St} {H : Hp} {s : Shared}
noncomputable abbrev reC (X : Cx) (A : Around) (cm : Bool) (E : Value → Shared → Prop) : Cx := { X with A := A, calm := cm, xe := E }
theorem inv_re {A : Around} {cm : Bool} {E : Value → Shared → Prop} (I : Inv X pins σ H s) (hf : A.frames = some X.stack) (hh : cm = true → A.handled = none) : Inv (reC X A cm E) pins σ H s :=
  ⟨⟨I.ok.mod, I.ok.kind, I.ok.glob, I.ok.blt, I.ok.above, I.ok.inj, I.ok.has, I.ok.cab, hh, hf, I.ok.stk, I.ok.exf, I.ok.bs, I.ok.bsz, I.ok.noex, I.ok.exfs, I.ok.funs, I.ok.frf⟩, I.os, I.bare, I.base, I.loc, I.cell, I.free, I.freeC, I.pin, I.hok, I.len⟩
theorem inv_back {A : Around} {cm : Bool} {E : Value → Shared → Prop} (ok : X.Ok) (I : Inv (reC X A cm E) pins σ H s) : Inv X pins σ H s := ⟨ok, I.os, I.bare, I.base, I.loc, I.cell, I.free, I.freeC, I.pin, I.hok, I.len⟩
noncomputable abbrev inTry (X : Cx) (pins : List (Addr × Obj)) (E : XK) : Cx := { X with pn := X.pn ++ pins, xe := fun e s' => ∃ a C t tb d σ H1 H' tb0, e = .ref a ∧ Inv X pins σ H' s' ∧ H' a = some (excO a C t tb d) ∧ TbOk H' a tb ∧ Sub a H1 H' ∧ H1 a = some (excO a C t tb0 d) ∧ E (.ref C) d H1 }
theorem un_try {E : XK} {pins' : List (Addr × Obj)} (I : Inv (inTry X pins E) pins' σ H s) : Inv X pins σ H s :=
  ⟨⟨I.ok.mod, I.ok.kind, I.ok.glob, I.ok.blt, I.ok.above, I.ok.inj, I.ok.has, I.ok.cab, I.ok.hd, I.ok.frames, I.ok.stk, I.ok.exf, I.ok.bs, I.ok.bsz, I.ok.noex, I.ok.exfs, I.ok.funs, I.ok.frf⟩, I.os, I.bare, I.base, I.loc, I.cell, I.free, I.freeC,
    fun p hp => I.pin p (List.mem_append_left _ hp), I.hok, I.len⟩
theorem to_try {E : XK} (I : Inv X pins σ H s) : Inv (inTry X pins E) [] σ H s :=
  ⟨⟨I.ok.mod, I.ok.kind, I.ok.glob, I.ok.blt, I.ok.above, I.ok.inj, I.ok.has, I.ok.cab, I.ok.hd, I.ok.frames, I.ok.stk, I.ok.exf, I.ok.bs, I.ok.bsz, I.ok.noex, I.ok.exfs, I.ok.funs, I.ok.frf⟩, I.os, I.bare, I.base, I.loc, I.cell, I.free, I.freeC,
    fun p hp => I.pin p (by rcases List.mem_append.mp hp with z | z; exact z; cases z), I.hok, I.len⟩
theorem leaves_try {E : XK} : LeavesTo (inTry X pins E) E := fun _ σ H' _ a C t tb d H1 tb0 I ha ht hs h1 hE => ⟨a, C, t, tb, d, σ, H1, H', tb0, rfl, un_try I, ha, ht, hs, h1, hE⟩
noncomputable abbrev inSuite (X : Cx) (a : Addr) : Cx := reC X (X.A.mark (some (.ref a))) false fun _ _ => False
theorem in_suite {a : Addr} (I : Inv X pins σ H s) : Inv (inSuite X a) pins σ H s := inv_re I I.ok.frames nofun
theorem inv_gone {i : Nat} {n : Str} {h' : Heap} {v : Option Value} {m : Str → Option Value} {tk : Nat} (I : Inv X pins σ H s) (hN : X.N.Nodup) (hi : X.N[i]? = some n) (hl : X.env.kindOf n = some .local)
    (hm : ∀ (j : Nat) (x : Str) (v : V), X.N[j]? = some x → σ[j]? = some (some v) → Vis X.env.scope x → ∃ u, RelV v u ∧ Look X.env s.heap m x u)
    (hn : h'.Ns X.env.locals (fun x => if x = n then v else m x)) (hs : Heap.SameBut X.env.locals s.heap h') : Inv X pins (σ.set i none) H { s with heap := h', toks := tk } := by
  have hiσ : i < σ.length := by rw [I.len]; exact (List.getElem?_eq_some_iff.mp hi).1
  have old : ∀ b o, X.s₀.heap.get? b = some o → b ≠ X.env.locals := fun b o e => Nat.ne_of_lt (Nat.lt_of_lt_of_le (Heap.lt_size e) I.ok.above)
  refine ⟨I.ok, I.os, I.bare, ⟨fun b o e n hb hx => (hs.2 b (old b o e)).trans (I.base.keep b o e n hb hx), fun b o e n hb hx => ?_, I.base.free, fun b o e hx => ?_, I.base.tups, I.base.frzs, I.base.tbls⟩, ⟨_, hn, fun j y v' e1 e2 e3 => ?_⟩, fun y c e => ?_, I.free, I.freeC, fun p hp => ?_, fun b o e => ?_, by simpa using I.len⟩
  · obtain ⟨sl, e1⟩ := I.base.slot b o e n hb hx
    exact ⟨sl, (hs.2 b (old b o e)).trans e1⟩
  · obtain ⟨o', e1⟩ := I.base.there b o e hx
    exact ⟨o', (hs.2 b (old b o e)).trans e1⟩
  · by_cases hj : j = i
    · subst hj
      rw [List.getElem?_set_self hiσ] at e2
      cases e2
    · rw [List.getElem?_set_ne (Ne.symm hj)] at e2
      obtain ⟨u', r', q⟩ := hm j y v' e1 e2 e3
      refine ⟨u', r', ?_⟩
      rcases q with ⟨k, e⟩ | ⟨k, c, e, z⟩
      · have ne : y ≠ n := fun e => hj (nodup_ix hN e1 (e ▸ hi))
        exact .inl ⟨k, (show (if y = n then v else m y) = some u' from (if_neg ne).trans e)⟩
      · exact .inr ⟨k, c, e, z.sameBut hs (I.cne y c e)⟩
  · obtain ⟨w', z⟩ := I.cell y c e
    exact ⟨w', z.sameBut hs (I.cne y c e)⟩
  · obtain ⟨e, n, ne, nf, d⟩ := I.pin p hp
    exact ⟨(hs.2 p.1 ne).trans e, n, ne, nf, d⟩
  · refine (I.hok b o e).stay (fun c v hc q => (hs.2 c ?_).trans q) (fun _ q => q) fun _ _ q => q
    rintro rfl
    rcases hc with z | z
    · rw [← z, I.free] at e; cases e
    · rw [I.free] at z; cases z
theorem name_goes {M : Model} {A : Around} {E : Value → Shared → Prop} {i : Nat} {n : Str} {pos : Pos} {Q : Unit → Shared → Prop} (I : Inv X pins σ H s) (hN : X.N.Nodup) (hi : X.N[i]? = some n) (hl : X.env.kindOf n = some .local) (h : ∀ s', Inv X pins (σ.set i none) H s' → Q () s') :
    wpAny M A (do bindName X.env n .none; unbindBehindTheSuite X.env n pos) Q E s := by
  obtain ⟨m, hn, hm⟩ := id I.loc
  have hcls : (X.env.scope.kind == .class || (X.env.scope.kind == .module && X.env.locals != X.env.globals)) = false := by rw [I.ok.kind]; rfl
  exact wpAny_nameGoes_keeps hl hn hcls fun h' v hn' hs => h _ (inv_gone I hN hi hl hm hn' hs)
end
noncomputable def tTry (E : XK) (i : Nat) (tb ts : TS) : TS := fun D σ H => tb D σ H ∧ ∀ (σ' : L2.St) (H' : Hp) (a C t : Addr) (tb : Value) (d : Option Addr) (H1 : Hp) (tb0 : Value), σ'.length = σ.length → H' a = some (excO a C t tb d) → Sub a H1 H' → H1 a = some (excO a C t tb0 d) → E (.ref C) d H1 →
  ts { nx := fun σ2 H2 => D.nx (σ2.set i none) H2, rt := D.rt, bk := fun σ2 H2 => D.bk (σ2.set i none) H2, ct := fun σ2 H2 => D.ct (σ2.set i none) H2 } (σ'.set i (some (.ref a))) H'
theorem ps_try {X : Cx} {E : XK} {body suite : List Stmt} {b₀ : Stmt} {tb ts : TS} {c : Addr} {x n : Str} {i : Nat} {p hp pos : Pos} (hst : X.stack = X.env :: X.outer) (hfr : X.env.frame = some X.env.locals)
    (hb : ∀ pins, PSs (inTry X pins E) body tb) (hs : ∀ a, PSs (inSuite X a) (b₀ :: suite) ts) (hg : Gl X x) (hm : X.mg x = some (.ref c)) (hE : ∀ C d H, E (.ref C) d H → exmOne X.K (.ref C) (.ref c) = some true)
    (hN : X.N.Nodup) (hi : X.N[i]? = some n) (hl : X.env.kindOf n = some .local) (hdb : (x == ("__debug__" : Str)) = false := by decide) :
    L2.PS X (.Try body [.ExceptHandler (some (.Name x p)) (some n) (b₀ :: suite) hp] [] [] pos) (tTry E i tb ts) := by
  intro pins s σ H D I h
  refine wpAny_Try_except (wpAny_mono (hb pins [] s σ H D (to_try I) h.1) (fun f s1 q => ?_) fun e s1 q => ?_)
  · cases f with
    | next => obtain ⟨σ', H', J, q⟩ := q; exact wpAny_execs_nil ⟨σ', H', un_try J, q⟩
    | brk => obtain ⟨σ', H', J, q⟩ := q; exact ⟨σ', H', un_try J, q⟩
    | cont => obtain ⟨σ', H', J, q⟩ := q; exact ⟨σ', H', un_try J, q⟩
    | ret u => obtain ⟨v, σ', H', J, r, q⟩ := q; exact ⟨v, σ', H', un_try J, r, q⟩
  · obtain ⟨a, C, t, tbv, d, σ', H1, H', tb0, rfl, J, ha, ht, hsub, h1a, hEa⟩ := q
    refine note_inv hst hfr J ha ht fun s2 T hTn hne J2 => ?_
    have ha2 : upd (upd H' a (excO a C t (.ref T) d)) T (tbO T (rawInt X.env.locals)) a = some (excO a C t (.ref T) d) := by rw [upd_ne (Ne.symm hne), upd_same]
    refine land_inv (T := T) (fl := rawInt X.env.locals) (C := C) (t := t) (d := d) J2 ha2 (by rw [upd_same]) fun s3 J3 => ?_
    rw [upd_upd] at J3
    have ha3 : upd (upd H' a (excO a C t (.ref T) d)) T (tbO T .none) a = some (excO a C t (.ref T) d) := by rw [upd_ne (Ne.symm hne), upd_same]
    have hT3 : upd (upd H' a (excO a C t (.ref T) d)) T (tbO T .none) T = some (tbO T .none) := by rw [upd_same]
    have hs3 : Sub a H1 (upd (upd H' a (excO a C t (.ref T) d)) T (tbO T .none)) := hsub.trans fun b o n e => by
      rw [upd_ne (fun z => by subst z; rw [hTn] at e; cases e), upd_ne n]; exact e
    generalize upd (upd H' a (excO a C t (.ref T) d)) T (tbO T .none) = H3 at J3 ha3 hT3 hs3
    have K3 : Inv (inSuite X a) pins σ' H3 s3 := in_suite J3
    refine wpAny_handleBy_cons (codeAny_handlers_test ?_) (by intro q; cases q)
    refine ld_glob (X := inSuite X a) K3 hg hm ?_ hdb
    obtain ⟨o, vs, e, hc, hd, hf, h6, h0, h1⟩ := exc_get J3.hok ha3
    have LT : Looks (model X.prog X.w) s3.heap (typeOf (.ref a)) (.ref C) := fun A' Q' E' s' k q => by
      unfold typeOf
      dsimp only
      exact wpAny_bind (wpAny_loadPart (k _ _ e) (wpAny_pure (by rw [hc]; exact q)))
    refine (exm_one J3.kIn LT (hE _ _ _ hEa)).here ?_
    refine codeAny_handlers_suite_as (land_inv (X := inSuite X a) (T := T) (fl := .none) (C := C) (t := t) (d := d) K3 ha3 hT3 fun s4 K4 => ?_)
    have e4 : upd H3 T (tbO T .none) = H3 := by
      funext b; unfold upd; by_cases z : b = T
      · rw [if_pos z, z, hT3]
      · rw [if_neg z]
    rw [e4] at K4
    refine store_ok (X := inSuite X a) (v := .ref a) K4 hN hi (.inl hl) rfl (fun s5 K5 => ?_) (.inr hl)
    have hlen : σ'.length = σ.length := by rw [J.len, I.len]
    refine wpAny_mono (hs a pins s5 _ H3 _ K5 (h.2 σ' H3 a C t (.ref T) d H1 tb0 hlen ha3 hs3 h1a hEa)) (fun f s6 q => ?_) fun _ _ z => z.elim
    cases f with
    | next => obtain ⟨σ6, H6, K6, q⟩ := q; exact name_goes (inv_back J.ok K6) hN hi hl fun s7 K7 => ⟨_, H6, K7, q⟩
    | brk => obtain ⟨σ6, H6, K6, q⟩ := q; exact name_goes (inv_back J.ok K6) hN hi hl fun s7 K7 => ⟨_, H6, K7, q⟩
    | cont => obtain ⟨σ6, H6, K6, q⟩ := q; exact name_goes (inv_back J.ok K6) hN hi hl fun s7 K7 => ⟨_, H6, K7, q⟩
    | ret u => obtain ⟨v, σ6, H6, K6, r, q⟩ := q; exact name_goes (inv_back J.ok K6) hN hi hl fun s7 K7 => ⟨v, _, H6, K7, r, q⟩
structure FnG (P : Program) (w : World) (K : Frag) (mg : Str → Option Value) (base : Heap) (CX : CXT) (cm : Bool) (k : Nat) (f : Addr) (fd : FuncData) (ps : List Str) (sp : Shared → Sp) : Prop where
  len : ∀ s vs H Q E, sp s vs H Q E → vs.length = ps.length
  run : ∀ (A : Around) (outer : List Env) (s : Shared) (H : Hp) (args : Args) (us : List Value) (vs : List V) (Q : VK) (E : XK), RoomG cm k A → Env0 P w K mg base A outer s H → BindsTo s fd args (ps.zip us) → Vals vs us → sp s vs H Q E →
    codeAny (model P w) A (.call (.ref f) args) (CR CX outer P w H s Q E) s
noncomputable abbrev cxG (CX : CXT) (cm : Bool) (P : Program) (w : World) (K : Frag) (mg : Str → Option Value) (base : Heap) (N : List Str) (qual : Str) (scope : Scope) (f : Addr) (cd : Value) (A : Around) (outer : List Env) (s : Shared) (H : Hp) (E : XK) : Cx :=
  { cxOf CX P w K mg base N qual scope f cd A outer s H E with calm := cm }
section
variable {P : Program} {w : World} {K : Frag} {mg : Str → Option Value} {base : Heap} {CX : CXT} {cm : Bool} {k : Nat}
theorem inv_startG {N ps : List Str} {qual : Str} {scope : Scope} {f : Addr} {cd : Value} {A : Around} {outer : List Env} {s s1 : Shared} {H : Hp} {E : XK} {us : List Value} {vs : List V}
    (S : FnScope N ps scope) (hd : cm = true → A.handled = none) (e0 : Env0 P w K mg base A outer s H) (hl : vs.length = ps.length) (r : Vals vs us)
    (x : InCallC s s.heap.objs.size (bindL (envOfC qual scope s.heap.objs.size f cd).kindOf (ps.zip us) fun _ => none) (cellsFrom (s.heap.objs.size + 1) scope.names []) (bindC (envOfC qual scope s.heap.objs.size f cd).kindOf (ps.zip us) fun _ => none) s1) :
    Inv (cxG CX cm P w K mg base N qual scope f cd A outer s H E) [] (start N vs) H s1 := by
  have e1 : Env0 P w K mg base { A with handled := none } outer s H := ⟨e0.frames, e0.mod, e0.bs, e0.bsz, e0.funs, e0.frf, e0.hok, e0.bare⟩
  have I := inv_start (CX := CX) (E := E) S (A := { A with handled := none }) rfl e1 hl r x
  exact inv_re (X := cxOf CX P w K mg base N qual scope f cd { A with handled := none } outer s H E) (A := A.deeper (envOfC qual scope s.heap.objs.size f cd)) (cm := cm) (E := (cxOf CX P w K mg base N qual scope f cd A outer s H E).xe) I (Around.frames_deeper e0.frames) hd
theorem _root_.L2.Fun.okG {x qual : Str} {st : Stmt} {f : Addr} {fd : FuncData} {N ps : List Str} {sp : Shared → Sp} (F : Fun K x qual st f fd) (S : FnScope N ps (defScope st)) (len : ∀ s vs H Q E, sp s vs H Q E → vs.length = ps.length)
    (hbody : ∀ (cdv : Value) (A : Around) (outer : List Env) (s : Shared) (H : Hp) (vs : List V) (Q : VK) (E : XK), codeIn K cdv qual = true → fd.code = cdv → RoomG cm k (A.deeper (envOfC qual (defScope st) s.heap.objs.size f cdv)) → sp s vs H Q E →
      ∃ t, PSs (cxG CX cm P w K mg base N qual (defScope st) f cdv A outer s H E) (defBody st) t ∧ t { nx := fun _ H' => Q .non H', rt := Q } (start N vs) H) : FnG P w K mg base CX cm (k + 1) f fd ps sp := by
  obtain ⟨oc, od, kV, doc, pm, an, cdv, ct, osl, rfl, lk, hcd⟩ := F.ex
  refine ⟨len, fun A outer s H args us vs Q E hr e0 hb r hsp => ?_⟩
  have KX : K.In s.heap := e0.mod.kin.keeps fun b o e => (e0.bs b o e).1
  have lim : s.heap.NoLimit := e0.mod.nolimit.keeps fun b o e => (e0.bs b o e).1
  refine codeAny_call_function hr.depth (KX _ _ lk) rfl S.co S.gen rfl (codeRec_of KX hcd) (hb _ _ _ _ ?_)
  refine wpAny_newFunctionEnv_cells S.kind (fun ⟨n, v⟩ hy => ?_) fun env he s1 x => ?_
  · rcases S.par n (List.of_mem_zip hy).1 with q | q
    · exact .inl q
    · exact .inr ⟨q, cellsFrom_some _ _ _ (.inl q)⟩
  · subst he
    refine ⟨lim.keeps x.toInCall.keep, codeAny_func ?_⟩
    obtain ⟨t, ht, hq⟩ := hbody cdv A outer s H vs Q E hcd rfl (hr.deeper _) hsp
    have I : Inv (cxG CX cm P w K mg base N qual (defScope st) f cdv A outer s H E) [] (start N vs) H s1 := inv_startG S hr.hd e0 (len _ _ _ _ _ hsp) r x
    refine wpAny_mono (ht [] s1 _ H _ I hq) (fun fl s' hs => ?_) fun e s' hs => hs
    cases fl with
    | ret u => obtain ⟨v, σ', H', J, rv, q⟩ := hs; exact ⟨v, H', J.os, J.bare, J.base, J.hok, rv, q⟩
    | next => obtain ⟨σ', H', J, q⟩ := hs; exact ⟨.non, H', J.os, J.bare, J.base, J.hok, rfl, q⟩
    | brk => obtain ⟨_, _, _, q⟩ := hs; exact q.elim
    | cont => obtain ⟨_, _, _, q⟩ := hs; exact q.elim
end
structure FnGB (P : Program) (w : World) (K : Frag) (mg : Str → Option Value) (base : Heap) (CX : CXT) (cm : Bool) (k : Nat) (x : Str) (ps : List Str) (sp : Shared → Sp) : Prop where
  ex : ∃ f fd, FnG P w K mg base CX cm k f fd ps sp ∧ mg x = some (.ref f) ∧ keepIn K (.ref f) = true ∧ Binds K fd ps []
theorem _root_.L2.DefB.okG {P : Program} {w : World} {K : Frag} {mg : Str → Option Value} {base : Heap} {CX : CXT} {cm : Bool} {k : Nat} {x : Str} {st : Stmt} {N ps : List Str} {sp : Shared → Sp} (D : DefB K mg x st ps) (S : FnScope N ps (defScope st)) (len : ∀ s vs H Q E, sp s vs H Q E → vs.length = ps.length)
    (hbody : ∀ (f : Addr) (cdv : Value) (A : Around) (outer : List Env) (s : Shared) (H : Hp) (vs : List V) (Q : VK) (E : XK), codeIn K cdv x = true → RoomG cm k (A.deeper (envOfC x (defScope st) s.heap.objs.size f cdv)) → sp s vs H Q E →
      ∃ t, PSs (cxG CX cm P w K mg base N x (defScope st) f cdv A outer s H E) (defBody st) t ∧ t { nx := fun _ H' => Q .non H', rt := Q } (start N vs) H) : FnGB P w K mg base CX cm (k + 1) x ps sp :=
  let ⟨f, fd, a, b, c⟩ := D.ex
  ⟨f, fd, a.okG S len fun cdv A outer s H vs Q E hc _ => hbody f cdv A outer s H vs Q E hc, b, a.kp, c⟩
theorem leaves_cxG {cm : Bool} {P : Program} {w : World} {K : Frag} {mg : Str → Option Value} {base : Heap} {N : List Str} {qual : Str} {scope : Scope} {f : Addr} {cd : Value} {A : Around} {outer : List Env} {s : Shared} {H : Hp} {E : XK} :
    LeavesTo (cxG (CXF P w) cm P w K mg base N qual scope f cd A outer s H E) E := fun pins σ H' s' a C t tb d H1 tb0 I ha ht hs h1 hE => by
  show wpAny _ _ (leaving _ _) _ _ _
  exact leave_inv (X := cxG (CXF P w) cm P w K mg base N qual scope f cd A outer s H E) rfl rfl I ha ht fun s2 H2 T J ha2 ht2 hs2 =>
    ⟨a, C, t, _, d, H1, H2, tb0, rfl, J.os, J.bare, J.base, J.hok, ha2, ht2, hs.trans hs2, h1, hE⟩
section
variable {X : Cx} {CX : CXT} {cm : Bool} {k : Nat} {f : Addr} {fd : FuncData} {ps : List Str} {E : XK} {x : Str} {p pos : Pos} {e : Expr} {es : List Expr} {t : TA}
theorem run_fnG {sp : Shared → Sp} {pins : List (Addr × Obj)} {σ : L2.St} {H : Hp} {s : Shared} {Q : VK} {us : List Value} {vs : List V} (F : FnG X.prog X.w X.K X.mg X.base CX cm k f fd ps sp) (hr : RoomG cm k X.A) (hb : Binds X.K fd ps []) (hx : Passes CX X E)
    (I : Inv X pins σ H s) (r : Vals vs us) (h : sp s vs H Q E) : wpAny (model X.prog X.w) X.A (call (.ref f) us) (EP X pins σ Q) X.xe s := by
  have hl : us.length = ps.length := by rw [← r.length]; exact F.len _ _ _ _ _ h
  have hbb : BindsTo s fd ⟨us, []⟩ (ps.zip us) := by
    have := hb s us I.kIn (by rw [List.append_nil]; exact hl)
    rw [List.append_nil] at this
    exact this
  refine wpAny_call (codeAny_mono (F.run X.A X.stack s H ⟨us, []⟩ us vs Q E hr I.env0 hbb r h) fun r s' hq => ?_)
  cases r with
  | error e => exact hx pins σ H s e s' I hq
  | ok fl =>
    cases fl with
    | ret u => exact I.after hq
    | next => exact False.elim hq
    | brk => exact False.elim hq
    | cont => exact False.elim hq
theorem pe_fnG {sp : Sp} (F : FnGB X.prog X.w X.K X.mg X.base CX cm k x ps fun _ => sp) (hr : RoomG cm k X.A) (hx : Passes CX X E) (ha : PA X (e :: es) t)
    (hg : Gl X x := by rfl) (hdb : (x == ("__debug__" : Str)) = false := by decide) (he : starEach (e :: es) X.env = (false, eval e X.env) :: starEach es X.env := by rfl)
    (hpl : (backTo pos (starEach es X.env)).any (·.1) = false := by rfl) : PE X (.Call (.Name x p) (e :: es) [] pos) (tCall sp [] E t) := by
  obtain ⟨f, fd, a, b, c, d⟩ := F.ex
  intro pins s σ H Q I h
  refine wpAny_Call_Name_kw (ld_glob I hg b ?_ hdb)
  refine callWith_K (h₀ := X.base) I.ok.mod.kin c (thn (ha pos pins s σ H _ I h) fun us s1 ⟨vs, H1, I1, r, q⟩ => ⟨I1.kIn, ?_⟩) he hpl
  have q' : sp (vs ++ []) H1 Q E := q
  rw [List.append_nil] at q'
  exact run_fnG a hr d hx I1 r q'
end
end SF
namespace SF
open PySem PySem.Spec PyProof.Rows L2 PySem.W
noncomputable def lamO (f : Addr) (name qual : Str) (params : Arguments) (body : Expr) (scope : Scope) (cl : List (Str × Addr)) (c' : Addr) : HO := .ext fun h => ∃ pm ctv, h.get? f = some (kla_obj name qual params body scope cl pm c' ctv)
noncomputable def BMain (base : Heap) (mg : Str → Option Value) : Prop := ∃ bm ob, mg "__builtins__" = some (.ref bm) ∧ bm ≠ builtinsNs ∧ bm ≠ mainGlobals ∧ base.get? bm = some ob ∧ ob.cls = .type "module" ∧ ob.dict = some builtinsNs ∧ ob.data = .plain
structure LamScope (N ps : List Str) (sc : Scope) : Prop where
  kind : sc.kind = .function
  co : sc.isCoroutine = false
  gen : sc.isGenerator = false
  par : ∀ x ∈ ps, sc.names.lookup x = some .local
  nocell : ∀ y ∈ sc.names, y.2 ≠ .cell
noncomputable def cxL (CX : CXT) (cm : Bool) (P : Program) (w : World) (K : Frag) (mg : Str → Option Value) (base : Heap) (N : List Str) (qual : Str) (scope : Scope) (f : Addr) (cd : Value) (cl : List (Str × Addr)) (A : Around) (outer : List Env) (s : Shared) (H : Hp) (E : XK) : Cx where
  prog := P
  w := w
  K := K
  mg := mg
  base := base
  A := A.deeper (envX qual scope s.heap.objs.size f cd cl)
  N := N
  s₀ := s
  H₀ := H
  env := envX qual scope s.heap.objs.size f cd cl
  outer := outer
  stack := envX qual scope s.heap.objs.size f cd cl :: outer
  ex := []
  calm := cm
  fn := fun _ => false
  pn := []
  xe := fun e s' => wpAny (model P w) (A.deeper (envX qual scope s.heap.objs.size f cd cl)) (leaving (envX qual scope s.heap.objs.size f cd cl) e) (fun _ s'' => CX outer H s E e s'') (fun e' s'' => CX outer H s E e' s'') s'
section
variable {P : Program} {w : World} {K : Frag} {mg : Str → Option Value} {base : Heap} {CX : CXT} {cm : Bool} {k : Nat} {N ps : List Str} {name qual : Str} {params : Arguments} {body : Expr} {scope : Scope} {f c' : Addr} {cl : List (Str × Addr)} {A : Around} {outer : List Env} {s : Shared} {H : Hp} {E : XK} {Q : VK} {pm ctv : Value}
theorem leaves_cxL {cd : Value} : LeavesTo (cxL (CXF P w) cm P w K mg base N qual scope f cd cl A outer s H E) E := fun pins σ H' s' a C t tb d H1 tb0 I ha ht hs h1 hE => by
  show wpAny _ _ (leaving _ _) _ _ _
  exact leave_inv (X := cxL (CXF P w) cm P w K mg base N qual scope f cd cl A outer s H E) rfl rfl I ha ht fun s2 H2 T J ha2 ht2 hs2 =>
    ⟨a, C, t, _, d, H1, H2, tb0, rfl, J.os, J.bare, J.base, J.hok, ha2, ht2, hs.trans hs2, h1, hE⟩
theorem lam_run {args : Args} {us : List Value} (S : LamScope N ps scope) (ho : s.heap.get? f = some (kla_obj name qual params body scope cl pm c' ctv)) (hcd : s.heap.CodeRec (.ref c') qual) (e0 : Env0 P w K mg base A outer s H) (hr : RoomG cm (k + 1) A)
    (hbind : bindArgs (kla_fn name qual params body scope cl pm (.ref c') ctv) args = pure (ps.zip us))
    (hcl : ∀ x c, cl.lookup x = some c → (∃ v, s.heap.IsCell c v) ∧ H c = none) (hinj : ∀ x y c, cl.lookup x = some c → cl.lookup y = some c → x = y) (hhas : ∀ x, scope.names.lookup x = some .free → ∃ c, cl.lookup x = some c)
    {σ : L2.St} (hσ : σ.length = N.length)
    (hv : ∀ (i : Nat) (x : Str) (v : V), N[i]? = some x → σ[i]? = some (some v) → (scope.names.lookup x = some .local ∧ ∃ u, RelV v u ∧ (ps.zip us).reverse.lookup x = some u) ∨ (scope.names.lookup x = some .free ∧ ∃ c u, cl.lookup x = some c ∧ s.heap.IsCell c (some u) ∧ RelV v u))
    (hbody : RoomG cm k (A.deeper (envX qual scope s.heap.objs.size f (.ref c') cl)) → ∃ t, PE (cxL CX cm P w K mg base N qual scope f (.ref c') cl A outer s H E) body t ∧ t σ H Q) :
    codeAny (model P w) A (.call (.ref f) args) (CR CX outer P w H s Q E) s := by
  have lim : s.heap.NoLimit := e0.mod.nolimit.keeps fun b o e => (e0.bs b o e).1
  refine kla_callFunE hr.depth ho rfl S.co S.gen rfl hcd ?_
  rw [hbind]
  refine wpAny_pure (wpAny_newFunctionEnv S.nocell (fun x hx => S.par _ (List.of_mem_zip (show (x.1, x.2) ∈ ps.zip us from hx)).1) (fun h₁ hns hsb => ⟨lim.fresh _ hsb, ?_⟩) S.kind)
  show codeAny _ _ (.expr body (envX qual scope s.heap.objs.size f (.ref c') cl)) _ _
  have hk₁ : ∀ b o, s.heap.get? b = some o → h₁.get? b = some o := fun b o e => hsb.extBut b o (Nat.ne_of_lt (Heap.lt_size e)) (Heap.get?_push_of_some _ e)
  obtain ⟨t, ht, hq⟩ := hbody (hr.deeper _)
  have cK : ∀ c v, s.heap.IsCell c v → h₁.IsCell c v := fun c v ⟨o, e, d⟩ => ⟨o, hk₁ _ _ e, d⟩
  have I : Inv (cxL CX cm P w K mg base N qual scope f (.ref c') cl A outer s H E) [] σ H { s with heap := h₁, toks := s.toks + (ps.zip us).length } := by
    have noA : ∀ b : Addr, b ∉ (cxL CX cm P w K mg base N qual scope f (.ref c') cl A outer s H E).ex := fun b z => absurd (show b ∈ ([] : List Addr) from z) (by simp)
    refine ⟨⟨e0.mod, S.kind, rfl, rfl, Nat.le_refl _, hinj, fun y hy => ?_, fun y c z => Bool.noConfusion (show false = true from z), hr.hd, Around.frames_deeper e0.frames, .inr ⟨rfl, rfl⟩, fun b z => absurd z (noA b), e0.bs, e0.bsz, fun b _ _ => noA b, fun b z => absurd z (noA b), e0.funs, e0.frf⟩,
      rfl, e0.bare, Un.kept hk₁, ⟨_, hns, fun i x v h1 h2 h3 => ?_⟩, fun y c e => ?_, e0.hok.fresh (Nat.le_refl _), fun y c e => (hcl y c e).2, fun p hp => absurd (show p ∈ ([] : List (Addr × Obj)) from hp) (by simp), e0.hok.kept hk₁, hσ⟩
    · have hy : scope.names.lookup y = some .cell ∨ scope.names.lookup y = some .free := hy
      rcases hy with hy | hy
      · exact absurd rfl (S.nocell _ (PySem.mem_of_lookup hy))
      · exact hhas y hy
    · rcases hv i x v h1 h2 with ⟨k, u, r, e⟩ | ⟨k, c, u, e, z, r⟩
      · exact ⟨u, r, .inl ⟨k, e⟩⟩
      · exact ⟨u, r, .inr ⟨.inr k, c, e, cK _ _ z⟩⟩
    · obtain ⟨v, z⟩ := (hcl y c e).1
      exact ⟨v, cK _ _ z⟩
  refine kla_codeExpr (wpAny_mono (ht [] _ σ H Q I hq) (fun u s' ⟨v, H', J, rv, q⟩ => ⟨v, H', J.os, J.bare, J.base, J.hok, rv, q⟩) fun e s' hs => hs)
end
noncomputable def tRun (i : Nat) (R : Addr → Hp → VK → Prop) : TE := fun σ H Q => ∃ f, σ[i]? = some (some (.ref f)) ∧ R f H Q
theorem pe_run {X : Cx} {CX : CXT} {E : XK} {i : Nat} {x : Str} {p pos : Pos} {R : Addr → Hp → VK → Prop} (hN : X.N[i]? = some x) (hv : Vis X.env.scope x) (hx : Passes CX X E)
    (hR : ∀ pins σ H s f Q, Inv X pins σ H s → R f H Q → FnAt f s.heap ∧ codeAny (model X.prog X.w) X.A (.call (.ref f) ⟨[], []⟩) (CR CX X.stack X.prog X.w H s Q E) s)
    (hd : (x == ("__debug__" : Str)) = false := by decide) (hcd : (x == ("__classdict__" : Str)) = false := by decide) : PE X (.Call (.Name x p) [] [] pos) (tRun i R) := by
  intro pins s σ H Q I ⟨f, e, h⟩
  refine wpAny_Call_Name_kw (thn (pe_var (X := X) (pos := p) hN hv hd hcd pins s σ H (fun v H1 => v = .ref f ∧ H1 = H) I ⟨_, e, rfl, rfl⟩) fun u s1 ⟨v, H1, I1, r, ev, eh⟩ => ?_)
  subst ev eh
  cases r
  obtain ⟨a, b⟩ := hR pins σ _ s1 f Q I1 h
  refine callWith_F0 a (wpAny_call (codeAny_mono b fun r s' hq => ?_))
  cases r with
  | error e => exact hx pins σ _ s1 e s' I1 hq
  | ok fl =>
    cases fl with
    | ret u => exact I1.after hq
    | next => exact False.elim hq
    | brk => exact False.elim hq
    | cont => exact False.elim hq
end SF
namespace SF
open PySem PySem.Spec PyProof.Rows L2 PySem.W
noncomputable def DctOk (H : Hp) (d : Option Addr) : Prop := d = none ∨ ∃ dx fs, d = some dx ∧ H dx = some (.xd fs)
theorem DctOk.same {H H' : Hp} {d : Option Addr} (h : DctOk H d) (s : Same H H') : DctOk H' d := by
  rcases h with rfl | ⟨dx, fs, rfl, e⟩
  · exact .inl rfl
  · exact .inr ⟨dx, fs, rfl, s _ _ e⟩
noncomputable def cvOf : V → Value
  | .ref a => .ref a
  | .ty n => .type n
  | _ => .none
theorem inst_exc {P : Program} {w : World} {H : Hp} {h : Heap} {a C t : Addr} {tb : Value} {d : Option Addr} (x : HOk P w H h) (ha : H a = some (excO a C t tb d)) (hd : DctOk H d) : ∃ ox od vs, InstAt h a ox C od ∧ ox.dict = d ∧ ox.data = .fields vs ∧ vs[0]? = some (.ref t) := by
  obtain ⟨o, vs, e, hc, hd', hf, h6, h0, h1⟩ := exc_get x ha
  have no : notCls o = true := by
    obtain ⟨cc, dd, dt, sl⟩ := o
    simp only at hf
    subst hf
    rfl
  rcases hd with rfl | ⟨dx, fs, rfl, hx⟩
  · exact ⟨o, none, vs, ⟨e, hc, no, by rw [hd']; trivial⟩, hd', hf, h0⟩
  · obtain ⟨mA, ⟨od, es, ep, e2, r⟩, _⟩ := (show ObjOk P w H h dx (.xd fs) from x dx _ hx)
    exact ⟨o, some od, vs, ⟨e, hc, no, by rw [hd']; exact e2⟩, hd', hf, h0⟩
section
variable {X : Cx}
noncomputable def rIsX (K : Frag) : List V → Hp → VK → Prop := fun xs H Q => ∃ a C t tb d c b, xs = [.ref a, c] ∧ H a = some (excO a C t tb d) ∧ DctOk H d ∧ XAsk K C ∧ cvOf c ≠ .none ∧ kitOne K (.ref C) (cvOf c) = some b ∧ Q (.bl b) H
theorem call_isx : CallR X (.builtin "isinstance") (rIsX X.K) := by
  intro pins s σ H xs us Q I r h
  obtain ⟨a, C, t, tb, d, c, b, rfl, ha, hd, F, hc, e, q⟩ := h
  obtain ⟨u, v, rfl, ru, rv⟩ := Vals.two r
  cases ru
  have ev : v = cvOf c := by
    cases c <;> first | exact rv | exact absurd rfl hc
  subst ev
  obtain ⟨ox, od, vs, J, _⟩ := inst_exc I.hok ha hd
  exact kia_one (kitx_exc F) I.kIn ⟨ox, od, J⟩ e (fun z => nomatch z) fun tk => ⟨.bl b, H, I.tok _, rfl, q⟩
theorem bools_eq (k : Bool) : ∀ {bs : List Bool} {us : List Value}, Vals (bs.map V.bl) us → ∀ y, y ∈ us → ∀ (A : Around) (s : Shared), SeqAt.EqAt A s y (.bool k) (isBoolOf k y)
  | [], _, .nil, _, hy, _, _ => absurd hy (by simp)
  | b :: bs, _, .cons r t, y, hy, A, s => by
    rcases List.mem_cons.mp hy with e | hy
    · subst e
      cases r
      exact SeqAt.EqAt.bool_bool b k
    · exact bools_eq k t y hy A s
theorem bools_count (k : Bool) : ∀ {bs : List Bool} {us : List Value}, Vals (bs.map V.bl) us → us.countP (isBoolOf k) = bs.countP (· == k)
  | [], _, .nil => rfl
  | b :: bs, _, .cons r t => by
    cases r
    rw [List.countP_cons, List.countP_cons, bools_count k t]
    rfl
theorem bools_get (k : Bool) : ∀ {bs : List Bool} {us : List Value} (i : Nat) (h : i < us.length), Vals (bs.map V.bl) us → isBoolOf k us[i] = (bs.getD i (!k) == k)
  | [], _, i, h, .nil => absurd h (by simp)
  | _ :: _, _, 0, _, .cons r t => by cases r; rfl
  | b :: bs, _ :: us, i + 1, h, .cons r t => by
    have := bools_get k (bs := bs) i (Nat.lt_of_succ_lt_succ h) t
    simpa using this
noncomputable def rCntB (K : Frag) : V → List V → Hp → VK → Prop := fun x vs H Q => ∃ (p : Addr) (bs : List Bool) (k : Bool), x = .ref p ∧ vs = [.bl k] ∧ SqL K H p (bs.map V.bl) ∧ Q (.int (bs.countP (· == k) : Nat)) H
theorem mt_cntB : MtM X "list.count" (rCntB X.K) := by
  intro pins s σ H x xs v us Q I rx r h
  obtain ⟨p, bs, k, rfl, rfl, hs, q⟩ := h
  cases rx
  obtain ⟨u, rfl, ru⟩ := Vals.one r
  cases ru
  obtain ⟨its, rv, ⟨o, n, e1, e2, e3, e4⟩, hz⟩ := I.list hs
  obtain ⟨cls, dd, data, sl⟩ := o
  simp only at e2 e3 e4
  subst e2 e3 e4
  refine call_meets PySem.F.slot_list_count ⟨_, e1, rfl⟩ PySem.F.entry_list_count (PySem.F.args_list_count_2 _ _) (SeqAt.list_countAt p its.toArray n none sl (.bool k) (isBoolOf k)) ⟨e1, fun y hy => bools_eq k rv y (by simpa using hy) _ _, ?_⟩
  rw [show its.toArray.toList = its from rfl, bools_count k rv]
  exact ⟨.int _, H, I.tok _, ⟨_, rfl⟩, q⟩
noncomputable def rIdxB (K : Frag) : V → List V → Hp → VK → Prop := fun x vs H Q => ∃ (p : Addr) (bs : List Bool) (k : Bool) (i : Nat), x = .ref p ∧ vs = [.bl k] ∧ SqL K H p (bs.map V.bl) ∧ i < bs.length ∧ bs.getD i (!k) = k ∧ (∀ j, j < i → bs.getD j (!k) = (!k)) ∧ Q (.int (i : Nat)) H
theorem mt_idxB : MtM X "list.index" (rIdxB X.K) := by
  intro pins s σ H x xs v us Q I rx r h
  obtain ⟨p, bs, k, i, rfl, rfl, hs, hi, hh, hno, q⟩ := h
  cases rx
  obtain ⟨u, rfl, ru⟩ := Vals.one r
  cases ru
  obtain ⟨its, rv, ⟨o, n, e1, e2, e3, e4⟩, hz⟩ := I.list hs
  obtain ⟨cls, dd, data, sl⟩ := o
  simp only at e2 e3 e4
  subst e2 e3 e4
  have hl : its.length = bs.length := by rw [← rv.length]; simp
  have hz' : bs.length ≤ sizeLine := by simpa using hz
  have hsz : sizeLine < 2 ^ 62 := by decide
  refine call_meets PySem.F.slot_list_index ⟨_, e1, rfl⟩ PySem.F.entry_list_index (PySem.F.args_list_index_2 _ _) (SeqAt.list_indexAt p its.toArray n none sl (.bool k) (isBoolOf k) i (by simpa [hl] using hi) (by lia) ?_ fun m hm hmi => ?_) ⟨e1, fun y hy => bools_eq k rv y (by simpa using hy) _ _, ?_⟩
  · have := bools_get k i (by rw [hl]; exact hi) rv
    rw [hh] at this
    simpa using this
  · have := bools_get k m (by simpa using hm) rv
    rw [hno m hmi] at this
    simp only [List.getElem_toArray]
    rw [this]
    cases k <;> rfl
  · exact ⟨.int _, H, I.tok _, ⟨_, rfl⟩, q⟩
end
end SF
namespace SF
open PySem PySem.W PySem.Builtin PySem.Builtin.ObjectAttr
section
variable {prog : Program} {w : World} {A : Around} {E : Value → Shared → Prop} {h : Heap} {g : Array GenState} {d : Drawn} {t : Nat} {os : OsState}
variable {nm q : Str} {C N : Addr} {bs bm bmB : List Value} {hdct : Bool} {sn : List Str} {sub : List Value} {ab : Bool} {col : Option Bool} {dd : Option Addr} {k0 k1 k2 k3 k5 : Option Value} {B Bn newId nid initId inN : String} {bmN : List Value}
end
section
variable {prog : Program} {w : World} {A : Around} {E : Value → Shared → Prop} {s : Shared} {K : Frag} {x C : Addr} {ox : Obj} {vs : Array Value} {name : Str} {v : Value} {Q : Unit → Shared → Prop}
end
end SF
namespace SF
open PySem PySem.Spec PyProof.Rows L2 PySem.W
section
variable {X : Cx} {C fI : Addr}
end
end SF
namespace SF
open PySem PySem.Spec PyProof.Rows L2 PySem.W
end SF
namespace SF
open PySem PySem.Spec PyProof.Rows L2 PySem.W
section
variable {M : Model} {A : Around} {E : Value → Shared → Prop} {env : Env}
variable {nm q : Str} {C N : Addr} {bs bm : List Value} {hdct : Bool} {sn : List Str} {sub : List Value} {ab : Bool} {col : Option Bool} {dd : Option Addr} {k0 k1 k2 k3 k5 : Option Value} {newId : String}
end
noncomputable def CdO (oc : Obj) (q : Str) : Prop := ∃ vs t, oc.data = .fields vs ∧ vs[1]? = some (.str q t)
noncomputable def tLamF (P : Addr) (pos : Pos) (qual : Str) (params : Arguments) (body : Expr) (scope : Scope) (cl : List (Str × Addr)) : TE := fun _ H Q => ∃ ps, H P = some (.tbl ps) ∧ TriplesOk ps.toList ∧ codeAmong pos ps.toList = none ∧
  ∀ f c' oc, CdO oc qual → H f = none → H c' = none → f ≠ c' → Q (.ref f) (upd (upd (upd H P (.tbl (ps ++ #[rawInt pos.line, rawInt pos.col, .ref c']))) c' (.frz oc (.own 0))) f (lamO f "<lambda>" qual params body scope cl c'))
theorem pe_lamF {X : Cx} {params : Arguments} {body : Expr} {scope : Scope} {pos : Pos} {c P : Addr} {cl : List (Str × Addr)} (hcode : X.env.code = .ref c) (C : CodeHd X.base c P) (hcl : closureFor scope X.env = pure cl) (hdef : defaultsOf params X.env = ([], [])) (B : BMain X.base X.mg) :
    PE X (.Lambda params body scope pos) (tLamF P pos (X.env.qual ++ "<lambda>") params body scope cl) := by
  intro pins s σ H Q I h
  obtain ⟨ps, hP, ht, hn, q⟩ := h
  have hPs : s.heap.get? P = some (tabObj ps) := I.hok P _ hP
  have hg := I.mod.glob.keeps I.bk
  have neP : ∀ b o, X.base.get? b = some o → b ≠ P := fun b o e z => by subst z; have := (I.bs b o e).2; rw [hP] at this; cases this
  have hgP : mainGlobals ≠ P := by obtain ⟨o, _, _, e, _⟩ := I.mod.glob; exact neP _ o e
  obtain ⟨bm, ob, b1, b2, b3, b4, b5, b6, b7⟩ := B
  refine kla_eval hdef (kla_makeFunction (mg := X.mg) hcl I.ok.glob hg hcode (C.keeps I.bk) hPs ht hn hgP ⟨bm, ob, b1, b2, b3, neP _ _ b4, I.bk _ _ b4, b5, b6, b7⟩ fun c' ctv h' tk hx hge hlt hrec htb => ?_)
  obtain ⟨c2, oc, vs, t2, e2, hoc, hd, hv⟩ := hrec
  cases e2
  have hsz : s.heap.objs.size ≤ h'.objs.size := Nat.le_of_lt (Nat.lt_of_le_of_lt hge hlt)
  have hc'n : H c' = none := I.hok.fresh hge
  have hfn : H h'.objs.size = none := I.hok.fresh hsz
  have hfc : h'.objs.size ≠ c' := Nat.ne_of_gt hlt
  have old : ∀ b o, s.heap.get? b = some o → b ≠ c' ∧ b ≠ h'.objs.size := fun b o e => ⟨Nat.ne_of_lt (Nat.lt_of_lt_of_le (Heap.lt_size e) hge), Nat.ne_of_lt (Nat.lt_of_lt_of_le (Heap.lt_size e) hsz)⟩
  have nP : ∀ b u, H b = some u → (∀ z, u ≠ .tbl z) → b ≠ P := fun b u e n z => by subst z; rw [hP] at e; cases e; exact n _ rfl
  have nP0 : ∀ b, H b = none → b ≠ P := fun b e z => by subst z; rw [hP] at e; cases e
  have trk : ∀ b u, H b = some u → b ≠ c' ∧ b ≠ h'.objs.size := fun b u e => ⟨fun z => (by rw [z, hc'n] at e; cases e), fun z => (by rw [z, hfn] at e; cases e)⟩
  have hPc : P ≠ c' := (trk P _ hP).1
  have hPf : P ≠ h'.objs.size := (trk P _ hP).2
  generalize hob : kla_obj "<lambda>" (X.env.qual ++ "<lambda>") params body scope cl ((X.mg "__name__").getD .none) c' ctv = obj
  have keep : ∀ b o, b ≠ P → s.heap.get? b = some o → (h'.push obj).get? b = some o := fun b o n e => Heap.get?_push_of_some _ (hx b o n e)
  have hfo : (h'.push obj).get? h'.objs.size = some obj := Heap.get?_push_size _ (by subst hob; rfl)
  refine ⟨.ref h'.objs.size, _, I.un (t' := tk) (H' := upd (upd (upd H P (.tbl (ps ++ #[rawInt pos.line, rawInt pos.col, .ref c']))) c' (.frz oc (.own 0))) h'.objs.size (lamO h'.objs.size "<lambda>" (X.env.qual ++ "<lambda>") params body scope cl c')) ⟨fun b o e n _ _ => keep b o (nP0 b n) e, fun b o e n _ _ => ⟨o.slots, keep b o (nP0 b n) e⟩, fun b o e n _ => ?_, fun b o e _ => ?_, fun b xs e => ?_, fun b u xs e => ?_, fun b pz e => ?_⟩ fun b u e => ?_, rfl, q _ c' oc ⟨vs, t2, hd, hv⟩ hfn hc'n hfc⟩
  · rw [upd_ne (old b o e).2, upd_ne (old b o e).1, upd_ne (nP0 b n)]; exact n
  · by_cases z : b = P
    · subst z; exact ⟨_, Heap.get?_push_of_some _ htb⟩
    · exact ⟨o, keep b o z e⟩
  · rw [upd_ne (trk b _ e).2, upd_ne (trk b _ e).1, upd_ne (nP b _ e nofun)]; exact e
  · rw [upd_ne (trk b _ e).2, upd_ne (trk b _ e).1, upd_ne (nP b _ e nofun)]; exact e
  · rw [upd_ne (trk b _ e).2, upd_ne (trk b _ e).1]
    by_cases z : b = P
    · subst z; rw [hP] at e; cases e; exact ⟨_, upd_same⟩
    · exact ⟨#[], by rw [upd_ne z, e]; simp⟩
  · by_cases hbf : b = h'.objs.size
    · subst hbf; rw [upd_same] at e; cases e
      subst hob
      exact ⟨⟨_, _, hfo⟩, ⟨_, hfo⟩, fun _ _ ⟨pm, ctv, e⟩ k => ⟨pm, ctv, k _ e⟩⟩
    · rw [upd_ne hbf] at e
      by_cases hbc : b = c'
      · subst hbc; rw [upd_same] at e; cases e
        have := Heap.get?_push_of_some obj hoc
        exact ⟨this, _, this⟩
      · rw [upd_ne hbc] at e
        by_cases hbP : b = P
        · subst hbP; rw [upd_same] at e; cases e
          exact Heap.get?_push_of_some obj htb
        · rw [upd_ne hbP] at e
          refine (I.hok b u e).stay (fun c v hc e => keep c v ?_ e) (fun c r => ?_) fun c xs r => ?_
          · rcases hc with rfl | hc
            · exact hbP
            · exact nP c _ hc nofun
          · rw [upd_ne (trk c _ r).2, upd_ne (trk c _ r).1, upd_ne (nP c _ r nofun)]; exact r
          · rw [upd_ne (trk c _ r).2, upd_ne (trk c _ r).1, upd_ne (nP c _ r nofun)]; exact r
noncomputable def tLam2 (P : Addr) (pos : Pos) (qual : Str) (params : Arguments) (body : Expr) (scope : Scope) (cl : List (Str × Addr)) : TE := fun σ H Q => tLamF P pos qual params body scope cl σ H Q ∨
  ∃ ps c', H P = some (.tbl ps) ∧ TriplesOk ps.toList ∧ codeAmong pos ps.toList = some (.ref c') ∧ ∀ f, H f = none → Q (.ref f) (upd H f (lamO f "<lambda>" qual params body scope cl c'))
theorem pe_lam2 {X : Cx} {params : Arguments} {body : Expr} {scope : Scope} {pos : Pos} {c P : Addr} {cl : List (Str × Addr)} (hcode : X.env.code = .ref c) (C : CodeHd X.base c P) (hcl : closureFor scope X.env = pure cl) (hdef : defaultsOf params X.env = ([], [])) (B : SF.BMain X.base X.mg) :
    PE X (.Lambda params body scope pos) (tLam2 P pos (X.env.qual ++ "<lambda>") params body scope cl) := by
  intro pins s σ H Q I h
  rcases h with h | ⟨ps, c', hP, ht, hn, q⟩
  · exact pe_lamF hcode C hcl hdef B pins s σ H Q I h
  have hPs : s.heap.get? P = some (tabObj ps) := I.hok P _ hP
  have hg := I.mod.glob.keeps I.bk
  have neP : ∀ b o, X.base.get? b = some o → b ≠ P := fun b o e z => by subst z; have := (I.bs b o e).2; rw [hP] at this; cases this
  obtain ⟨bm, ob, b1, b2, b3, b4, b5, b6, b7⟩ := B
  refine kla_eval hdef (kla_makeFunctionHit (mg := X.mg) hcl I.ok.glob hg hcode (C.keeps I.bk) hPs ht hn ⟨bm, ob, b1, b2, b3, neP _ _ b4, I.bk _ _ b4, b5, b6, b7⟩ fun ctv h' tk hk hsz => ?_)
  have hfn : H h'.objs.size = none := I.hok.fresh hsz
  have hfo : (h'.push { cls := .type "function", data := .func (kla_fn "<lambda>" (X.env.qual ++ "<lambda>") params body scope cl ((X.mg "__name__").getD .none) (.ref c') ctv) }).get? h'.objs.size = some (kla_obj "<lambda>" (X.env.qual ++ "<lambda>") params body scope cl ((X.mg "__name__").getD .none) c' ctv) := Heap.get?_push_size _ rfl
  exact ⟨.ref h'.objs.size, _, I.laid (t' := tk) (o := lamO h'.objs.size "<lambda>" (X.env.qual ++ "<lambda>") params body scope cl c') (fun b o e => Heap.get?_push_of_some _ (hk b o e)) hsz ⟨⟨_, _, hfo⟩, ⟨_, hfo⟩, fun _ _ ⟨pm, ctv, e⟩ k => ⟨pm, ctv, k _ e⟩⟩, rfl, q _ hfn⟩
theorem fnat_lam {P : Program} {w : World} {H : Hp} {h : Heap} {f c' : Addr} {name qual : Str} {params : Arguments} {body : Expr} {scope : Scope} {cl : List (Str × Addr)} (x : HOk P w H h) (e : H f = some (lamO f name qual params body scope cl c')) : FnAt f h := by
  obtain ⟨pm, ctv, e⟩ := (x f _ e).1
  exact ⟨_, _, _, _, e⟩
noncomputable def tRunA (i : Nat) (L : Addr → Addr → HO) (R : Addr → Addr → List V → Hp → VK → Prop) (t : TA) : TE := fun σ H Q => ∃ f c', σ[i]? = some (some (.ref f)) ∧ H f = some (L f c') ∧ t σ H fun vs H1 => H1 f = some (L f c') ∧ R f c' vs H1 Q
theorem pe_runA {X : Cx} {CX : CXT} {E : XK} {i : Nat} {x : Str} {p pos : Pos} {e : Expr} {es : List Expr} {t : TA} {name qual : Str} {params : Arguments} {body : Expr} {scope : Scope} {cl : List (Str × Addr)} {R : Addr → Addr → List V → Hp → VK → Prop} (hN : X.N[i]? = some x) (hv : Vis X.env.scope x) (hx : Passes CX X E) (ha : PA X (e :: es) t)
    (hR : ∀ pins σ H s f c' vs us Q, Inv X pins σ H s → H f = some (lamO f name qual params body scope cl c') → Vals vs us → R f c' vs H Q → codeAny (model X.prog X.w) X.A (.call (.ref f) ⟨us, []⟩) (CR CX X.stack X.prog X.w H s Q E) s)
    (hd : (x == ("__debug__" : Str)) = false := by decide) (hcd : (x == ("__classdict__" : Str)) = false := by decide) (he : starEach (e :: es) X.env = (false, eval e X.env) :: starEach es X.env := by rfl) (hpl : (backTo pos (starEach es X.env)).any (·.1) = false := by rfl) :
    PE X (.Call (.Name x p) (e :: es) [] pos) (tRunA i (fun f c' => lamO f name qual params body scope cl c') R t) := by
  intro pins s σ H Q I ⟨f, c', e0, hf, h⟩
  refine wpAny_Call_Name_kw (thn (pe_var (X := X) (pos := p) hN hv hd hcd pins s σ H (fun v H1 => v = .ref f ∧ H1 = H) I ⟨_, e0, rfl, rfl⟩) fun u s1 ⟨v, H1, I1, r, ev, eh⟩ => ?_)
  subst ev eh
  cases r
  refine callWith_F (fnat_lam I1.hok hf) (thn (ha pos pins s1 σ _ _ I1 h) fun us s2 ⟨vs, H2, I2, r2, hf2, q2⟩ => ⟨fnat_lam I2.hok hf2, wpAny_call (codeAny_mono (hR pins σ H2 s2 f c' vs us Q I2 hf2 r2 q2) fun r s' hq => ?_)⟩) he hpl
  cases r with
  | error e => exact hx pins σ _ s2 e s' I2 hq
  | ok fl =>
    cases fl with
    | ret u => exact I2.after hq
    | next => exact False.elim hq
    | brk => exact False.elim hq
    | cont => exact False.elim hq
end SF
namespace L2
open PySem PySem.Spec PyProof.Rows
inductive IsStrs : List Expr → List Str → Prop
  | nil : IsStrs [] []
  | cons {x : Str} {j : Nat} {p : Pos} {es : List Expr} {ns : List Str} (h : IsStrs es ns) : IsStrs (.Constant (.str x) j p :: es) (x :: ns)
end L2
namespace SF
open PySem PySem.Spec PyProof.Rows L2 PySem.W
theorem law_callT {P : Program} {w : World} {K : Frag} {mg mb : Str → Option Value} {k : Nat} {fa a : Addr} {tabs : List (Addr × Addr)} {fd : FuncData} {x : Str} {sp : Sp} {s₁ : Shared} {vs : List Value} {ns : List Int}
    (KX : K.In s₁.heap) (hns : s₁.heap.Ns mainGlobals mg) (hb : s₁.heap.Ns builtinsNs mb) (hbb : ∀ x : Str, x ≠ "__name__" → mb x = bootBuiltins x) (hlim : s₁.heap.NoLimit) (hseer : s₁.heap.NoSeer) (hg : s₁.gens = #[])
    (ha : s₁.heap.get? a = some { cls := .type "list", data := .seq vs.toArray }) (hi : IntsAre vs ns) (hl : ns.length ≤ sizeLine) (hr : Room k callerA) (hT : TabsAt tabs s₁.heap) (hKt : noTabs K = true) (BM : BMain s₁.heap mg)
    (F : ∀ base : Heap, K.In base → base.Ns mainGlobals mg → BMain base mg → (∀ q ∈ tabs, CodeHd base q.1 q.2) → FnG P w K mg base CX0 true k fa fd [x] fun _ => sp) (hbind : ∀ (s : Shared) (u : Value), BindsTo s fd ⟨[u], []⟩ [(x, u)])
    (hsp : ∀ H : Hp, SqL K H a (ns.map V.int) → (∀ q ∈ tabs, H q.2 = some (.tbl #[])) → sp [.ref a] H (fun v _ => v = .bl true) E0) :
    codeAny (model P w) callerA (.call (.ref fa) ⟨[.ref a], []⟩) (fun r s' => r = .ok (.ret (.bool true)) ∧ OldK s₁.heap s'.heap ∧ s'.os = s₁.os ∧ AllBare s'.gens) s₁ := by
  have rv := vals_ints hi
  have lenV := hi.length
  have hPt : ∀ b, b ∈ tabs.map (·.2) → s₁.heap.get? b = some (tabObj #[]) := fun b hb => by
    obtain ⟨q, hq, rfl⟩ := List.mem_map.mp hb
    exact (hT q hq).2
  have haP : a ∉ tabs.map (·.2) := fun z => by rw [hPt a z] at ha; cases ha
  have core : ∀ H : Hp, SqL K H a (ns.map V.int) → (∀ b, b ∈ tabs.map (·.2) → H b = some (.tbl #[])) → HOk P w H s₁.heap → (∀ b, H b ≠ none → b = a ∨ b ∈ tabs.map (·.2)) → (H a = none ∨ ∃ o xs, H a = some (.frz o (.lst xs))) → (H a ≠ none → K.lookup a = none) →
      codeAny (model P w) callerA (.call (.ref fa) ⟨[.ref a], []⟩) (fun r s' => r = .ok (.ret (.bool true)) ∧ OldK s₁.heap s'.heap ∧ s'.os = s₁.os ∧ AllBare s'.gens) s₁ := by
    intro H hS hP hok hA hO hK
    have noA : ∀ {b : Addr} {o : Obj}, s₁.heap.get? b = some o → (o.cls ≠ .type "list" ∨ ∀ xs n, o.data ≠ .seq xs n) → o ≠ tabObj #[] → H b = none := fun {b o} e d d2 => by
      cases q : H b with
      | none => rfl
      | some u =>
        rcases hA b (by rw [q]; simp) with z | z
        · subst z
          rw [ha] at e; cases e
          rcases d with d | d
          · exact absurd rfl d
          · exact absurd rfl (d _ _)
        · rw [hPt b z] at e; cases e
          exact absurd rfl d2
    have nsK : ∀ {b : Addr} {m : Str → Option Value}, s₁.heap.Ns b m → (hidT s₁.heap H).Ns b m := fun {b m} ⟨o, es, ep, e, d, r⟩ => ⟨o, es, ep, hidT_get e (noA e (.inr fun xs n z => by rw [d] at z; cases z) fun z => by rw [z] at d; cases d), d, r⟩
    have hKb : K.In (hidT s₁.heap H) := fun b o e => hidT_get (KX b o e) (by
      cases q : H b with
      | none => rfl
      | some u =>
        rcases hA b (by rw [q]; simp) with z | z
        · subst z
          rw [hK (by rw [q]; simp)] at e; cases e
        · have h2 := List.all_eq_true.mp hKt (b, o) (mem_of_lookupK e)
          have := KX b o e
          rw [hPt b z] at this; cases this
          exact absurd (show false = true from h2) Bool.false_ne_true)
    have mdl : ∀ {b : Addr} {o : Obj}, s₁.heap.get? b = some o → o.cls = .type "module" → (hidT s₁.heap H).get? b = some o := fun {b o} e c => hidT_get e (noA e (.inl (by rw [c]; intro z; exact absurd (Value.type.inj z) (by decide))) fun z => by rw [z] at c; cases c)
    have hM : Mod K mg (hidT s₁.heap H) := ⟨hKb, nsK hns, ⟨mb, nsK hb, hbb⟩, (let ⟨mc, h1, h2⟩ := hlim; ⟨mc, nsK h1, h2⟩), (let ⟨mc, h1, h2⟩ := hseer.statics; ⟨mc, nsK h1, h2⟩), (let ⟨mc, h1, h2⟩ := hseer.mods; ⟨mc, nsK h1, h2⟩), (let ⟨mc, h1, h2⟩ := hseer.imp; ⟨mc, nsK h1, h2⟩),
      (let ⟨g, bm, ob, h1, h2, h3, h4, h5⟩ := hseer.main; ⟨g, bm, ob, nsK h1, h2, mdl h3 h4, h4, h5⟩)⟩
    have BM' : BMain (hidT s₁.heap H) mg := let ⟨bm, ob, b1, b2, b3, b4, b5, b6⟩ := BM; ⟨bm, ob, b1, b2, b3, mdl b4 b5, b5, b6⟩
    have hcd' : ∀ q ∈ tabs, CodeHd (hidT s₁.heap H) q.1 q.2 := fun q hq => by
      obtain ⟨o, ws, file, tf, flags, tg, inF, text, tt, e1, r1, r2⟩ := (hT q hq).1
      exact ⟨o, ws, file, tf, flags, tg, inF, text, tt, hidT_get e1 (noA e1 (.inl (by rw [r1]; intro z; exact absurd (Value.type.inj z) (by decide))) fun z => by rw [z] at r1; cases r1), r1, r2⟩
    have e0 : Env0 P w K mg (hidT s₁.heap H) callerA [] s₁ H := ⟨rfl, hM, fun b o e => of_hidT e, Nat.le_of_eq (hidT_size _ _), trivial, fun b hb => absurd (show b ∈ ([] : List Addr) from hb) (by simp), hok, .of_eq hg⟩
    refine codeAny_mono ((F _ hKb (nsK hns) BM' hcd').run callerA [] s₁ H ⟨[.ref a], []⟩ [.ref a] [.ref a] _ _ (roomG hr) e0 (hbind s₁ (.ref a)) (.cons rfl .nil) (hsp H hS fun q hq => hP q.2 (List.mem_map_of_mem hq))) fun r s' h => ?_
    cases r with
    | error e => exact h.elim
    | ok fl =>
      cases fl with
      | next => exact False.elim h
      | brk => exact False.elim h
      | cont => exact False.elim h
      | ret u =>
        obtain ⟨v, H', os, bare, un, hok', r', q⟩ := h
        have q' : v = .bl true := q
        subst q'
        obtain rfl : u = Value.bool true := r'
        have eP' : ∀ b, b ∈ tabs.map (·.2) → ∃ more, s'.heap.get? b = some (tabObj (#[] ++ more)) := fun b hb => by
          obtain ⟨more, eP⟩ := un.tbls b #[] (hP b hb)
          exact ⟨more, hok' b _ eP⟩
        have kp : ∀ b o, b ∉ tabs.map (·.2) → s₁.heap.get? b = some o → s'.heap.get? b = some o := fun b o nb e => by
          cases q : H b with
          | none => exact un.keep b o e q (by intro z; exact absurd (show b ∈ ([] : List Addr) from z) (by simp)) (by simp)
          | some u =>
            have hba : b = a := (hA b (by rw [q]; simp)).resolve_right nb
            subst hba
            rcases hO with z | ⟨ob, xs, z⟩
            · rw [q] at z; cases z
            · have z2 := un.frzs b ob _ z
              obtain ⟨e1, _⟩ := hok b _ z
              obtain ⟨e2, _⟩ := hok' b _ z2
              rw [e] at e1; cases e1
              exact e2
        refine ⟨rfl, ⟨fun b o e => ?_, fun b o e => ?_⟩, os, bare⟩
        · by_cases hbP : b ∈ tabs.map (·.2)
          · have eo : o = tabObj #[] := Option.some.inj (e.symm.trans (hPt b hbP))
            subst eo
            obtain ⟨more, eP2⟩ := eP' b hbP
            obtain ⟨q, hq, rfl⟩ := List.mem_map.mp hbP
            exact .inr (.inl ⟨((hT q hq).1.tab (hT q hq).2).isCodeTable, rfl, #[], more, rfl, eP2⟩)
          · exact .inl (kp b o hbP e)
        · by_cases hbP : b ∈ tabs.map (·.2)
          · obtain ⟨more, eP2⟩ := eP' b hbP
            exact ⟨_, eP2⟩
          · exact ⟨o, kp b o hbP e⟩
  have hPtok : ∀ H b, b ∈ tabs.map (·.2) → ObjOk P w H s₁.heap b (.tbl #[]) := fun _ b hb => hPt b hb
  cases hk : K.lookup a with
  | some o =>
    have e := KX a o hk
    rw [ha] at e
    cases e
    refine core (fun b => if b ∈ tabs.map (·.2) then some (.tbl #[]) else none) (.inr ⟨_, vs.toArray, _, hk, rfl, rfl, rfl, by rw [List.size_toArray, lenV]; exact hl, by simpa using rv⟩) (fun b hb => if_pos hb) (fun b u z => ?_) (fun b z => ?_) (.inl (if_neg haP)) fun z => absurd (if_neg haP) z
    · by_cases hb : b ∈ tabs.map (·.2)
      · have z' := (if_pos hb).symm.trans z
        cases z'
        exact hPtok _ b hb
      · have z' := (if_neg hb).symm.trans z
        cases z'
    · by_cases hb : b ∈ tabs.map (·.2)
      · exact .inr hb
      · exact absurd (if_neg hb) z
  | none =>
    refine core (fun b => if b ∈ tabs.map (·.2) then some (.tbl #[]) else if b = a then some (.frz { cls := .type "list", data := .seq vs.toArray } (.lst (ns.map V.int))) else none) (.inl (.inr ⟨{ cls := .type "list", data := .seq vs.toArray }, by show (if a ∈ tabs.map (·.2) then _ else _) = _; rw [if_neg haP, if_pos rfl]⟩)) (fun b hb => if_pos hb) (fun b u z => ?_) (fun b z => ?_) (.inr ⟨_, _, by show (if a ∈ tabs.map (·.2) then _ else _) = _; rw [if_neg haP, if_pos rfl]⟩) fun _ => hk
    · have z : (if b ∈ tabs.map (·.2) then some (.tbl #[]) else if b = a then some (.frz { cls := .type "list", data := .seq vs.toArray } (.lst (ns.map V.int))) else none : Option HO) = some u := z
      by_cases hb : b ∈ tabs.map (·.2)
      · rw [if_pos hb] at z; cases z
        exact hPtok _ b hb
      · rw [if_neg hb] at z
        by_cases hba : b = a
        · rw [if_pos hba] at z; cases z
          subst hba
          exact ⟨ha, by rw [List.length_map]; exact hl, vs, _, rv, ha⟩
        · rw [if_neg hba] at z; cases z
    · by_cases hb : b ∈ tabs.map (·.2)
      · exact .inr hb
      · rw [if_neg hb] at z
        by_cases hba : b = a
        · exact .inl hba
        · rw [if_neg hba] at z; exact absurd rfl z
theorem walkT {l : OpenLaw} {n k : Nat} {q : Program} {loose : List Str} {XP : (Str → Option Value) → Heap → Prop} {YP : World → Heap → Prop} {d : DefRec} {K : Params → Frag} {sp : Frag → List (Addr × Addr) → Sp} {x : Str}
    (hn : l.most = some n) (hn2 : n ≤ sizeLine) (hdf : d.params.defaults = []) (hr : Room k callerA)
    (hY : ∀ (w : World) (h : Heap), YP w h → (K w.params).In h) (hKt : ∀ w : World, noTabs (K w.params) = true)
    (F : ∀ (w : World) (mg : Str → Option Value) (fa : Addr) (h : Heap), (K w.params).In h → h.Ns mainGlobals mg → mg d.name = some (.ref fa) →
      ∃ fd : FuncData, (∃ oc od sl, (K w.params).lookup fa = some ⟨oc, od, .func fd, sl⟩) ∧ (∀ (s : Shared) (u : Value), BindsTo s fd ⟨[u], []⟩ [(x, u)]) ∧
        ∃ tabs : List (Addr × Addr), (∀ p ∈ tabs, ∃ y e, (recsOf q).find? (fun r => r.name == y) = some e ∧ tabIn (K w.params) y = some p) ∧
        ∀ base : Heap, (K w.params).In base → base.Ns mainGlobals mg → BMain base mg → (∀ p ∈ tabs, CodeHd base p.1 p.2) → FnG l.prog w (K w.params) mg base CX0 true k fa fd [x] fun _ => sp (K w.params) tabs)
    (hsp : ∀ (K : Frag) (tabs : List (Addr × Addr)) (H : Hp) (a : Addr) (ns : List Int), ns.length ≤ n → SqL K H a (ns.map V.int) → (∀ p ∈ tabs, H p.2 = some (.tbl #[])) → sp K tabs [.ref a] H (fun v _ => v = .bl true) E0) (hi : importsNone q = true) :
    WalkO q loose XP YP l.row.toRowW d [] (fun f vs => PySem.call f vs) := by
  refine Att.attach_call hn hdf fun w s₀ s₁ mg mb fa o pm cd doc a vs ns G Y ho hd hcd hmg hobj hints hlen hg => ?_
  have KX := hY w _ Y
  obtain ⟨fd, ⟨oc, od, sl, lk⟩, hb, tabs, htabs, hF⟩ := F w mg fa _ KX G.T.g hmg
  have hT : TabsAt tabs s₁.heap := fun p hp => by
    obtain ⟨y, e, h1, h2⟩ := htabs p hp
    exact tab_of G.T KX h1 h2
  have BM : BMain s₁.heap mg := by
    obtain ⟨bm, ob, b1, b2, b3, b4, b5, b6⟩ := G.T.bmain
    refine ⟨bm, ob, b1, b2, fun z => ?_, b3, b4, b5, b6⟩
    obtain ⟨o', es, ep, e, dd, _⟩ := G.T.g
    rw [z, e] at b3; cases b3
    rw [dd] at b6; cases b6
  exact law_callT KX G.T.g G.T.b G.T.builtins G.T.nolimit (G.T.seer hi) hg hobj hints (Nat.le_trans hlen hn2) hr hT (hKt w) BM (fun base b1 b2 b3 b4 => hF base b1 b2 b3 b4) hb fun H hS hP => hsp _ tabs H a ns hlen hS hP
end SF
namespace SF
open PySem PySem.Spec PyProof.Rows L2 PySem.W
structure FnV (P : Program) (w : World) (K : Frag) (mg : Str → Option Value) (base : Heap) (CX : CXT) (cm : Bool) (k : Nat) (f : Addr) (ps : List Str) (sp : Shared → Sp) : Prop where
  ex : ∃ fd, FnG P w K mg base CX cm k f fd ps sp ∧ keepIn K (.ref f) = true ∧ Binds K fd ps []
noncomputable def tCallL (i : Nat) (f : Addr) (sp : Sp) (E : XK) (t : TA) : TE := fun σ H Q => σ[i]? = some (some (.ref f)) ∧ t σ H fun vs H1 => sp vs H1 Q E
theorem pe_fnL {X : Cx} {CX : CXT} {cm : Bool} {k : Nat} {f : Addr} {ps : List Str} {sp : Sp} {E : XK} {i : Nat} {x : Str} {p pos : Pos} {e : Expr} {es : List Expr} {t : TA} (F : FnV X.prog X.w X.K X.mg X.base CX cm k f ps fun _ => sp) (hr : RoomG cm k X.A) (hx : Passes CX X E) (hN : X.N[i]? = some x) (hv : Vis X.env.scope x) (ha : PA X (e :: es) t)
    (hd : (x == ("__debug__" : Str)) = false := by decide) (hcd : (x == ("__classdict__" : Str)) = false := by decide) (he : starEach (e :: es) X.env = (false, eval e X.env) :: starEach es X.env := by rfl)
    (hpl : (backTo pos (starEach es X.env)).any (·.1) = false := by rfl) : PE X (.Call (.Name x p) (e :: es) [] pos) (tCallL i f sp E t) := by
  obtain ⟨fd, a, c, d⟩ := F.ex
  intro pins s σ H Q I ⟨hf, h⟩
  refine wpAny_Call_Name_kw (thn (pe_var (X := X) (pos := p) hN hv hd hcd pins s σ H (fun v H1 => v = .ref f ∧ H1 = H) I ⟨_, hf, rfl, rfl⟩) fun u s1 ⟨v, H1, I1, r, ev, eh⟩ => ?_)
  subst ev eh
  cases r
  refine callWith_K (h₀ := X.base) I1.ok.mod.kin c (thn (ha pos pins s1 σ _ _ I1 h) fun us s2 ⟨vs, H2, I2, r2, q⟩ => ⟨I2.kIn, ?_⟩) he hpl
  exact run_fnG a hr d hx I2 r2 q
end SF
namespace V25
open PySem PyProof.Rows L2 SF CV
noncomputable def top (i : Nat) : Stmt := PySem.Challenge.pw_surefoot_k25_weights_bound.main.body.getD i (.Pass ⟨0, 0, 0, 0⟩)
noncomputable abbrev s_common_divisor : Stmt := top 8
theorem sc_common_divisor : FnScope ["one", "other", "greater", "lesser", "rest"] ["one", "other"] (defScope s_common_divisor) := ⟨rfl, rfl, rfl, by decide +kernel, rfl, by decide +kernel, by decide +kernel⟩
noncomputable abbrev s_sign : Stmt := top 9
theorem sc_sign : FnScope ["number"] ["number"] (defScope s_sign) := ⟨rfl, rfl, rfl, by decide +kernel, rfl, by decide +kernel, by decide +kernel⟩
noncomputable abbrev s_power : Stmt := top 10
theorem sc_power : FnScope ["number", "many", "product", "square", "left"] ["number", "many"] (defScope s_power) := ⟨rfl, rfl, rfl, by decide +kernel, rfl, by decide +kernel, by decide +kernel⟩
noncomputable abbrev s_ratio : Stmt := top 11
theorem sc_ratio : FnScope ["top", "under", "shared"] ["top", "under"] (defScope s_ratio) := ⟨rfl, rfl, rfl, by decide +kernel, rfl, by decide +kernel, by decide +kernel⟩
noncomputable abbrev s_plus : Stmt := top 12
theorem sc_plus : FnScope ["one", "other"] ["one", "other"] (defScope s_plus) := ⟨rfl, rfl, rfl, by decide +kernel, rfl, by decide +kernel, by decide +kernel⟩
noncomputable abbrev s_times : Stmt := top 13
theorem sc_times : FnScope ["one", "other"] ["one", "other"] (defScope s_times) := ⟨rfl, rfl, rfl, by decide +kernel, rfl, by decide +kernel, by decide +kernel⟩
noncomputable abbrev s_middle : Stmt := top 14
theorem sc_middle : FnScope ["one", "other"] ["one", "other"] (defScope s_middle) := ⟨rfl, rfl, rfl, by decide +kernel, rfl, by decide +kernel, by decide +kernel⟩
noncomputable abbrev s_order_of : Stmt := top 15
theorem sc_order_of : FnScope ["one", "other"] ["one", "other"] (defScope s_order_of) := ⟨rfl, rfl, rfl, by decide +kernel, rfl, by decide +kernel, by decide +kernel⟩
noncomputable abbrev s_trimmed : Stmt := top 17
theorem sc_trimmed : FnScope ["row", "length"] ["row"] (defScope s_trimmed) := ⟨rfl, rfl, rfl, by decide +kernel, rfl, by decide +kernel, by decide +kernel⟩
noncomputable abbrev s_degree : Stmt := top 18
theorem sc_degree : FnScope ["poly"] ["poly"] (defScope s_degree) := ⟨rfl, rfl, rfl, by decide +kernel, rfl, by decide +kernel, by decide +kernel⟩
noncomputable abbrev s_added : Stmt := top 19
theorem sc_added : FnScope ["one", "other", "total", "power", "number"] ["one", "other"] (defScope s_added) := ⟨rfl, rfl, rfl, by decide +kernel, rfl, by decide +kernel, by decide +kernel⟩
noncomputable abbrev s_multiplied : Stmt := top 20
theorem sc_multiplied : FnScope ["one", "other", "product", "power", "number", "further", "factor"] ["one", "other"] (defScope s_multiplied) := ⟨rfl, rfl, rfl, by decide +kernel, rfl, by decide +kernel, by decide +kernel⟩
noncomputable abbrev s_scaled : Stmt := top 21
theorem sc_scaled : FnScope ["poly", "factor"] ["poly", "factor"] (defScope s_scaled) := ⟨rfl, rfl, rfl, by decide +kernel, rfl, by decide +kernel, by decide +kernel⟩
noncomputable abbrev s_derivative : Stmt := top 22
theorem sc_derivative : FnScope ["poly"] ["poly"] (defScope s_derivative) := ⟨rfl, rfl, rfl, by decide +kernel, rfl, by decide +kernel, by decide +kernel⟩
noncomputable abbrev s_content : Stmt := top 23
theorem sc_content : FnScope ["poly", "shared", "number"] ["poly"] (defScope s_content) := ⟨rfl, rfl, rfl, by decide +kernel, rfl, by decide +kernel, by decide +kernel⟩
noncomputable abbrev s_primitive : Stmt := top 24
theorem sc_primitive : FnScope ["poly", "shared"] ["poly"] (defScope s_primitive) := ⟨rfl, rfl, rfl, by decide +kernel, rfl, by decide +kernel, by decide +kernel⟩
noncomputable abbrev s_value_at : Stmt := top 25
theorem sc_value_at : FnScope ["poly", "point", "value", "number"] ["poly", "point"] (defScope s_value_at) := ⟨rfl, rfl, rfl, by decide +kernel, rfl, by decide +kernel, by decide +kernel⟩
noncomputable abbrev s_spread : Stmt := top 26
theorem sc_spread : FnScope ["value", "point", "poly", "rest", "number"] ["value", "point"] (defScope s_spread) := ⟨rfl, rfl, rfl, by decide +kernel, rfl, by decide +kernel, by decide +kernel⟩
noncomputable abbrev s_divided : Stmt := top 27
theorem sc_divided : FnScope ["poly", "divisor", "rest", "factors", "factor", "shift", "power", "number"] ["poly", "divisor"] (defScope s_divided) := ⟨rfl, rfl, rfl, by decide +kernel, rfl, by decide +kernel, by decide +kernel⟩
noncomputable abbrev s_largest : Stmt := top 28
theorem sc_largest : FnScope ["poly"] ["poly"] (defScope s_largest) := ⟨rfl, rfl, rfl, by decide +kernel, rfl, by decide +kernel, by decide +kernel⟩
noncomputable abbrev s_divisor_of : Stmt := top 29
theorem sc_divisor_of : FnScope ["one", "other", "first", "second", "point", "shared", "found"] ["one", "other"] (defScope s_divisor_of) := ⟨rfl, rfl, rfl, by decide +kernel, rfl, by decide +kernel, by decide +kernel⟩
noncomputable abbrev s_quotient : Stmt := top 30
theorem sc_quotient : FnScope ["one", "other"] ["one", "other"] (defScope s_quotient) := ⟨rfl, rfl, rfl, by decide +kernel, rfl, by decide +kernel, by decide +kernel⟩
noncomputable abbrev s_square_free : Stmt := top 31
theorem sc_square_free : FnScope ["poly"] ["poly"] (defScope s_square_free) := ⟨rfl, rfl, rfl, by decide +kernel, rfl, by decide +kernel, by decide +kernel⟩
noncomputable abbrev s_composed : Stmt := top 32
theorem sc_composed : FnScope ["poly", "top", "under", "made", "scale", "number"] ["poly", "top", "under"] (defScope s_composed) := ⟨rfl, rfl, rfl, by decide +kernel, rfl, by decide +kernel, by decide +kernel⟩
noncomputable abbrev s_height_at : Stmt := top 33
theorem sc_height_at : FnScope ["poly", "top", "under", "height", "scale", "number"] ["poly", "top", "under"] (defScope s_height_at) := ⟨rfl, rfl, rfl, by decide +kernel, rfl, by decide +kernel, by decide +kernel⟩
noncomputable abbrev s_sign_at : Stmt := top 34
theorem sc_sign_at : FnScope ["poly", "given"] ["poly", "given"] (defScope s_sign_at) := ⟨rfl, rfl, rfl, by decide +kernel, rfl, by decide +kernel, by decide +kernel⟩
noncomputable abbrev s_changes_in : Stmt := top 36
theorem sc_changes_in : FnScope ["row", "many", "before", "number"] ["row"] (defScope s_changes_in) := ⟨rfl, rfl, rfl, by decide +kernel, rfl, by decide +kernel, by decide +kernel⟩
noncomputable abbrev s_remainder : Stmt := top 37
theorem sc_remainder : FnScope ["one", "other", "size", "turn", "rest", "shift", "factor", "power_of_x", "number"] ["one", "other"] (defScope s_remainder) := ⟨rfl, rfl, rfl, by decide +kernel, rfl, by decide +kernel, by decide +kernel⟩
noncomputable abbrev s_chain_of : Stmt := top 38
theorem sc_chain_of : FnScope ["free", "chain", "size", "scale", "one", "other", "gap", "shared"] ["free"] (defScope s_chain_of) := ⟨rfl, rfl, rfl, by decide +kernel, rfl, by decide +kernel, by decide +kernel⟩
noncomputable abbrev s_changes_at : Stmt := top 39
theorem sc_changes_at : FnScope ["chain", "given"] ["chain", "given"] (defScope s_changes_at) := ⟨rfl, rfl, rfl, by decide +kernel, rfl, by decide +kernel, by decide +kernel⟩
noncomputable abbrev s_is_within : Stmt := top 42
theorem sc_is_within : FnScope ["free", "reach", "bound", "number"] ["free", "reach"] (defScope s_is_within) := ⟨rfl, rfl, rfl, by decide +kernel, rfl, by decide +kernel, by decide +kernel⟩
noncomputable abbrev s_bound_of : Stmt := top 43
theorem sc_bound_of : FnScope ["free", "reach"] ["free"] (defScope s_bound_of) := ⟨rfl, rfl, rfl, by decide +kernel, rfl, by decide +kernel, by decide +kernel⟩
noncomputable abbrev s_pair_around_all : Stmt := top 44
theorem sc_pair_around_all : FnScope ["free", "odd", "bound"] ["free"] (defScope s_pair_around_all) := ⟨rfl, rfl, rfl, by decide +kernel, rfl, by decide +kernel, by decide +kernel⟩
noncomputable abbrev s_marked : Stmt := top 45
theorem sc_marked : FnScope ["chain", "given"] ["chain", "given"] (defScope s_marked) := ⟨rfl, rfl, rfl, by decide +kernel, rfl, by decide +kernel, by decide +kernel⟩
noncomputable abbrev s_isolated : Stmt := top 46
theorem sc_isolated : FnScope ["poly", "free", "chain", "around", "waiting", "found", "stretch", "low", "high", "many", "cut"] ["poly"] (defScope s_isolated) := ⟨rfl, rfl, rfl, by decide +kernel, rfl, by decide +kernel, by decide +kernel⟩
noncomputable abbrev s_stretch_of : Stmt := top 47
theorem sc_stretch_of : FnScope ["pair", "low", "high"] ["pair"] (defScope s_stretch_of) := ⟨rfl, rfl, rfl, by decide +kernel, rfl, by decide +kernel, by decide +kernel⟩
noncomputable abbrev s_parts_needed : Stmt := top 48
theorem sc_parts_needed : FnScope ["stretch", "width", "room"] ["stretch", "width"] (defScope s_parts_needed) := ⟨rfl, rfl, rfl, by decide +kernel, rfl, by decide +kernel, by decide +kernel⟩
noncomputable abbrev s_part_between : Stmt := top 49
theorem sc_part_between : FnScope ["free", "stretch", "parts", "near", "far", "under", "start", "at_near", "at_far"] ["free", "stretch", "parts", "near", "far"] (defScope s_part_between) := ⟨rfl, rfl, rfl, by decide +kernel, rfl, by decide +kernel, by decide +kernel⟩
noncomputable abbrev s_guessed : Stmt := top 50
theorem sc_guessed : FnScope ["free", "stretch", "parts", "step", "at_low", "at_high", "part", "near"] ["free", "stretch", "parts"] (defScope s_guessed) := ⟨rfl, rfl, rfl, by decide +kernel, rfl, by decide +kernel, by decide +kernel⟩
noncomputable abbrev s_halved : Stmt := top 51
theorem sc_halved : FnScope ["free", "stretch", "cut", "lower"] ["free", "stretch"] (defScope s_halved) := ⟨rfl, rfl, rfl, by decide +kernel, rfl, by decide +kernel, by decide +kernel⟩
noncomputable abbrev s_narrowed : Stmt := top 52
theorem sc_narrowed : FnScope ["free", "pair", "width", "stretch", "parts", "needed", "found"] ["free", "pair", "width"] (defScope s_narrowed) := ⟨rfl, rfl, rfl, by decide +kernel, rfl, by decide +kernel, by decide +kernel⟩
noncomputable abbrev s_is_alone : Stmt := top 53
theorem sc_is_alone : FnScope ["free", "pair", "stretch", "poly"] ["free", "pair"] (defScope s_is_alone) := ⟨rfl, rfl, rfl, by decide +kernel, rfl, by decide +kernel, by decide +kernel⟩
noncomputable abbrev s_of_ratio : Stmt := top 56
theorem sc_of_ratio : FnScope ["given"] ["given"] (defScope s_of_ratio) := ⟨rfl, rfl, rfl, by decide +kernel, rfl, by decide +kernel, by decide +kernel⟩
noncomputable abbrev s_number_in : Stmt := top 57
theorem sc_number_in : FnScope ["free", "pair", "weight", "last", "narrow", "low", "high", "given"] ["free", "pair", "weight"] (defScope s_number_in) := ⟨rfl, rfl, rfl, by decide +kernel, rfl, by decide +kernel, by decide +kernel⟩
noncomputable abbrev s_nth : Stmt := top 58
theorem sc_nth : FnScope ["poly", "k", "pairs", "free"] ["poly", "k"] (defScope s_nth) := ⟨rfl, rfl, rfl, by decide +kernel, rfl, by decide +kernel, by decide +kernel⟩
noncomputable abbrev s_as_ratio : Stmt := top 59
theorem sc_as_ratio : FnScope ["number"] ["number"] (defScope s_as_ratio) := ⟨rfl, rfl, rfl, by decide +kernel, rfl, by decide +kernel, by decide +kernel⟩
noncomputable abbrev s_weight_of : Stmt := top 60
theorem sc_weight_of : FnScope ["number"] ["number"] (defScope s_weight_of) := ⟨rfl, rfl, rfl, by decide +kernel, rfl, by decide +kernel, by decide +kernel⟩
noncomputable abbrev s_against : Stmt := top 61
theorem sc_against : FnScope ["number", "given", "low", "side"] ["number", "given"] (defScope s_against) := ⟨rfl, rfl, rfl, by decide +kernel, rfl, by decide +kernel, by decide +kernel⟩
noncomputable abbrev s_sign_of : Stmt := top 62
theorem sc_sign_of : FnScope ["number"] ["number"] (defScope s_sign_of) := ⟨rfl, rfl, rfl, by decide +kernel, rfl, by decide +kernel, by decide +kernel⟩
noncomputable abbrev s_falling : Stmt := top 64
theorem sc_falling : FnScope ["poly", "scale", "row", "factor", "number"] ["poly", "scale"] (defScope s_falling) := ⟨rfl, rfl, rfl, by decide +kernel, rfl, by decide +kernel, by decide +kernel⟩
noncomputable abbrev s_power_sums : Stmt := top 65
theorem sc_power_sums : FnScope ["row", "many", "sums", "count", "total", "place"] ["row", "many"] (defScope s_power_sums) := ⟨rfl, rfl, rfl, by decide +kernel, rfl, by decide +kernel, by decide +kernel⟩
noncomputable abbrev s_falling_of_sums : Stmt := top 66
theorem sc_falling_of_sums : FnScope ["sums", "row", "count", "total", "place"] ["sums"] (defScope s_falling_of_sums) := ⟨rfl, rfl, rfl, by decide +kernel, rfl, by decide +kernel, by decide +kernel⟩
noncomputable abbrev s_with_power_sums : Stmt := top 67
theorem sc_with_power_sums : FnScope ["sums", "scale", "poly", "factor", "number"] ["sums", "scale"] (defScope s_with_power_sums) := ⟨rfl, rfl, rfl, by decide +kernel, rfl, by decide +kernel, by decide +kernel⟩
noncomputable abbrev s_sums_by_powers : Stmt := top 68
theorem sc_sums_by_powers : FnScope ["one", "other", "many", "scale", "first", "second", "sums", "choices", "count"] ["one", "other"] (defScope s_sums_by_powers) := ⟨rfl, rfl, rfl, by decide +kernel, rfl, by decide +kernel, by decide +kernel⟩
noncomputable abbrev s_products_by_powers : Stmt := top 69
theorem sc_products_by_powers : FnScope ["one", "other", "many", "first", "second"] ["one", "other"] (defScope s_products_by_powers) := ⟨rfl, rfl, rfl, by decide +kernel, rfl, by decide +kernel, by decide +kernel⟩
noncomputable abbrev s_sums_of : Stmt := top 70
theorem sc_sums_of : FnScope ["one", "other"] ["one", "other"] (defScope s_sums_of) := ⟨rfl, rfl, rfl, by decide +kernel, rfl, by decide +kernel, by decide +kernel⟩
noncomputable abbrev s_products_of : Stmt := top 71
theorem sc_products_of : FnScope ["one", "other"] ["one", "other"] (defScope s_products_of) := ⟨rfl, rfl, rfl, by decide +kernel, rfl, by decide +kernel, by decide +kernel⟩
noncomputable abbrev s_opposites_of : Stmt := top 72
theorem sc_opposites_of : FnScope ["poly"] ["poly"] (defScope s_opposites_of) := ⟨rfl, rfl, rfl, by decide +kernel, rfl, by decide +kernel, by decide +kernel⟩
noncomputable abbrev s_inverses_of : Stmt := top 73
theorem sc_inverses_of : FnScope ["poly"] ["poly"] (defScope s_inverses_of) := ⟨rfl, rfl, rfl, by decide +kernel, rfl, by decide +kernel, by decide +kernel⟩
noncomputable abbrev s_near : Stmt := top 76
theorem sc_near : FnScope ["number", "width"] ["number", "width"] (defScope s_near) := ⟨rfl, rfl, rfl, by decide +kernel, rfl, by decide +kernel, by decide +kernel⟩
noncomputable abbrev s_located : Stmt := top 77
theorem sc_located : FnScope ["free", "pair_by", "width", "pair"] ["free", "pair_by"] (defScope s_located) := ⟨rfl, rfl, rfl, by decide +kernel, rfl, by decide +kernel, by decide +kernel⟩
noncomputable abbrev s_weight_of_two : Stmt := top 78
theorem sc_weight_of_two : FnScope ["one", "other", "weight"] ["one", "other"] (defScope s_weight_of_two) := ⟨rfl, rfl, rfl, by decide +kernel, rfl, by decide +kernel, by decide +kernel⟩
noncomputable abbrev s_result_of : Stmt := top 79
theorem sc_result_of : FnScope ["one", "other", "poly_of", "pair_of", "weight", "poly", "free", "pair"] ["one", "other", "poly_of", "pair_of"] (defScope s_result_of) := ⟨rfl, rfl, rfl, by decide +kernel, rfl, by decide +kernel, by decide +kernel⟩
noncomputable abbrev s_pair_of_sums : Stmt := top 80
theorem sc_pair_of_sums : FnScope ["one", "other"] ["one", "other"] (defScope s_pair_of_sums) := ⟨rfl, rfl, rfl, by decide +kernel, rfl, by decide +kernel, by decide +kernel⟩
noncomputable abbrev s_pair_of_products : Stmt := top 81
theorem sc_pair_of_products : FnScope ["one", "other", "first", "second", "tops", "under"] ["one", "other"] (defScope s_pair_of_products) := ⟨rfl, rfl, rfl, by decide +kernel, rfl, by decide +kernel, by decide +kernel⟩
noncomputable abbrev s_added_to : Stmt := top 82
theorem sc_added_to : FnScope ["one", "other"] ["one", "other"] (defScope s_added_to) := ⟨rfl, rfl, rfl, by decide +kernel, rfl, by decide +kernel, by decide +kernel⟩
noncomputable abbrev s_opposite : Stmt := top 83
theorem sc_opposite : FnScope ["number", "low", "high"] ["number"] (defScope s_opposite) := ⟨rfl, rfl, rfl, by decide +kernel, rfl, by decide +kernel, by decide +kernel⟩
noncomputable abbrev s_less : Stmt := top 84
theorem sc_less : FnScope ["one", "other"] ["one", "other"] (defScope s_less) := ⟨rfl, rfl, rfl, by decide +kernel, rfl, by decide +kernel, by decide +kernel⟩
noncomputable abbrev s_multiplied_by : Stmt := top 85
theorem sc_multiplied_by : FnScope ["one", "other"] ["one", "other"] (defScope s_multiplied_by) := ⟨rfl, rfl, rfl, by decide +kernel, rfl, by decide +kernel, by decide +kernel⟩
noncomputable abbrev s_pair_beside_nought : Stmt := top 86
theorem sc_pair_beside_nought : FnScope ["number", "pair", "width"] ["number"] (defScope s_pair_beside_nought) := ⟨rfl, rfl, rfl, by decide +kernel, rfl, by decide +kernel, by decide +kernel⟩
noncomputable abbrev s_inverse : Stmt := top 87
theorem sc_inverse : FnScope ["number", "pair", "low", "high", "inverses"] ["number"] (defScope s_inverse) := ⟨rfl, rfl, rfl, by decide +kernel, rfl, by decide +kernel, by decide +kernel⟩
noncomputable abbrev s_over : Stmt := top 88
theorem sc_over : FnScope ["one", "other"] ["one", "other"] (defScope s_over) := ⟨rfl, rfl, rfl, by decide +kernel, rfl, by decide +kernel, by decide +kernel⟩
noncomputable abbrev s_law_cell : Stmt := top 90
theorem sc_law_cell : FnScope ["_law_script", "_law_k"] ["_law_script", "_law_k"] (defScope s_law_cell) := ⟨rfl, rfl, rfl, by decide +kernel, rfl, by decide +kernel, by decide +kernel⟩
noncomputable abbrev s_law_drawn : Stmt := top 91
theorem sc_law_drawn : FnScope ["_law_cell_here", "_law_k", "_law_more"] ["_law_cell_here", "_law_k"] (defScope s_law_drawn) := ⟨rfl, rfl, rfl, by decide +kernel, rfl, by decide +kernel, by decide +kernel⟩
noncomputable abbrev s_law_word : Stmt := top 92
theorem sc_law_word : FnScope ["_law_e", "_law_flags"] ["_law_e"] (defScope s_law_word) := ⟨rfl, rfl, rfl, by decide +kernel, rfl, by decide +kernel, by decide +kernel⟩
noncomputable abbrev s_law_told : Stmt := top 93
theorem sc_law_told : FnScope ["_law_rule", "_law_e"] ["_law_rule"] (defScope s_law_told) := ⟨rfl, rfl, rfl, by decide +kernel, rfl, by decide +kernel, by decide +kernel⟩
noncomputable abbrev s_law_common : Stmt := top 94
theorem sc_law_common : FnScope ["_law_one", "_law_other", "_law_left"] ["_law_one", "_law_other"] (defScope s_law_common) := ⟨rfl, rfl, rfl, by decide +kernel, rfl, by decide +kernel, by decide +kernel⟩
noncomputable abbrev s_law_ratio : Stmt := top 95
theorem sc_law_ratio : FnScope ["_law_top", "_law_under", "_law_divisor"] ["_law_top", "_law_under"] (defScope s_law_ratio) := ⟨rfl, rfl, rfl, by decide +kernel, rfl, by decide +kernel, by decide +kernel⟩
noncomputable abbrev s_law_of_weight : Stmt := top 97
theorem sc_law_of_weight : FnScope ["_law_more", "_law_many", "_law_poly"] ["_law_more"] (defScope s_law_of_weight) := ⟨rfl, rfl, rfl, by decide +kernel, rfl, by decide +kernel, by decide +kernel⟩
noncomputable abbrev s_law_weighed : Stmt := top 98
theorem sc_law_weighed : FnScope ["_law_told_here", "_law_due"] ["_law_told_here", "_law_due"] (defScope s_law_weighed) := ⟨rfl, rfl, rfl, by decide +kernel, rfl, by decide +kernel, by decide +kernel⟩
noncomputable abbrev s_law : Stmt := top 99
theorem sc_law : FnScope ["_law_script", "_law_k", "_law_one", "_law_first", "_law_other", "_law_second", "_law_due", "_law_zero", "_law_great"] ["_law_script"] (defScope s_law) := ⟨rfl, rfl, rfl, by decide +kernel, rfl, by decide +kernel, by decide +kernel⟩
structure Nm (mg : Str → Option Value) : Prop where
  n_ValueError : mg "ValueError" = none
  n_abs : mg "abs" = none
  n_any : mg "any" = none
  n_enumerate : mg "enumerate" = none
  n_int : mg "int" = none
  n_isinstance : mg "isinstance" = none
  n_len : mg "len" = none
  n_list : mg "list" = none
  n_max : mg "max" = none
  n_min : mg "min" = none
  n_range : mg "range" = none
  n_reversed : mg "reversed" = none
  n_str : mg "str" = none
  n_sum : mg "sum" = none
  n_zip : mg "zip" = none
end V25
local macro_rules | `(tactic| walk_at "sf") => `(tactic| (repeat first
  | ((with_reducible apply L2.r_var); exact rfl)
  | with_reducible apply L2.r_c | with_reducible apply L2.r_seq | with_reducible apply L2.r_set | with_reducible apply L2.r_ret | with_reducible apply L2.r_op | with_reducible apply L2.r_un
  | with_reducible apply L2.r_i0 | with_reducible apply L2.r_u | with_reducible apply L2.r_test | with_reducible apply L2.r_tb | with_reducible apply L2.r_bl | with_reducible apply L2.r_eqi | with_reducible apply L2.r_nei
  | with_reducible apply L2.r_ifS | with_reducible apply L2.r_ifE | with_reducible apply L2.r_and | with_reducible apply L2.r_or | with_reducible apply L2.r_not | with_reducible apply L2.r_andV | with_reducible apply L2.r_orV | with_reducible apply L2.r_notV
  | with_reducible apply L2.r_nil | with_reducible apply L2.r_cons | with_reducible apply L2.r_call | with_reducible apply L2.r_cb | with_reducible apply L2.r_tup | with_reducible apply L2.r_lst | with_reducible apply L2.r_drop | with_reducible apply L2.r_next
  | with_reducible apply L2.r_tru | with_reducible apply L2.r_for | with_reducible apply L2.r_rng3 | with_reducible apply L2.r_gname | with_reducible apply L2.r_gcons | with_reducible apply L2.r_gnil | with_reducible apply L2.r_asg
  | with_reducible apply L2.r_ilist | with_reducible apply L2.r_rng1 | with_reducible apply L2.r_rng2 | with_reducible apply L2.r_ienum | with_reducible apply L2.r_irev | with_reducible apply L2.r_part | with_reducible apply L2.r_nopart | with_reducible apply L2.r_slice | with_reducible apply L2.r_sub
  | ((with_reducible show (_ ≤ PySem.sizeLine) ∧ _); refine And.intro (L2.small4 (Nat.le_of_ble_eq_true rfl)) ?_)))
namespace V25
open PySem PyProof.Rows L2 SF CV
theorem mulOk {i j : Int} {m n : Nat} (hi : Bd m i) (hj : Bd n j) (h : m + n ≤ 134217728) : IntMulOk i j := by
  have bits : ∀ {k : Nat} {x : Int}, Bd k x → Builtin.Int.intBits x ≤ k := fun {k x} hx => PySem.intBits_le_iff.mpr hx
  exact PySem.IntMulOk.of_le (bits hi) (bits hj) (by lia)
noncomputable abbrev s_init : Stmt := inClass (top 55) 0
theorem sc_init : FnScope ["self", "poly", "pair", "weight"] ["self", "poly", "pair", "weight"] (defScope s_init) := ⟨rfl, rfl, rfl, by decide +kernel, rfl, by decide +kernel, by decide +kernel⟩
structure Rc (K : PySem.W.Frag) (mg : Str → Option Value) (C fI : Addr) (fd : FuncData) : Prop where
  m : mg "Root" = some (.ref C)
  mk1 : Mk K C fI
  cl : Cls K C
  n1 : NoAttr K C "poly"
  n2 : NoAttr K C "pair"
  n3 : NoAttr K C "weight"
  ex : ∃ (oc : Value) (od : Option Addr) (dV kV doc pm : Value) (an : Option Addr) (cdv ct : Value) (osl : Array (Option Value)),
    fd = PySem.W.fnOf "__init__" "Root.__init__" (defArgs s_init) (defBody s_init) (defScope s_init) dV kV doc pm an cdv ct ∧ K.lookup fI = some ⟨oc, od, .func fd, osl⟩ ∧ PySem.W.codeIn K cdv "Root.__init__" = true
  b : Binds K fd ["self", "poly", "pair", "weight"] []
section
variable {P : Program} {w : World} {K : PySem.W.Frag} {mg : Str → Option Value} {base : Heap} {C fI : Addr} {fd : FuncData}
theorem ok_init (RC : Rc K mg C fI fd) : FnOk P w K mg base CX0 1 fI fd ["self", "poly", "pair", "weight"] (spIn C) := by
  obtain ⟨oc, od, dV, kV, doc, pm, an, cdv, ct, osl, rfl, lk, hcd⟩ := RC.ex
  refine fn_of lk hcd sc_init (fun vs H Q E h => ?_) fun A outer s H vs Q E hr h => ?_
  · obtain ⟨x, dx, v1, v2, v3, rfl, _⟩ := h
    rfl
  obtain ⟨x, dx, v1, v2, v3, rfl, hx, q⟩ := h
  refine ⟨_, PSs.nox (pss_cons (ps_fld (pv 0) (pv 1) ?s1) (pss_cons (ps_fld (pv 0) (pv 2) ?s2) (pss_one (ps_fld (pv 0) (pv 3) ?s3)))), ?_⟩
  case s1 => rfl
  case s2 => rfl
  case s3 => rfl
  walk_at "sf"
  refine ⟨_, rfl, _, rfl, x, C, dx, [], rfl, hx, RC.cl, RC.n1, by decide, ?_⟩
  walk_at "sf"
  refine ⟨_, rfl, _, rfl, x, C, dx, _, rfl, upd_same, RC.cl, RC.n2, Nat.lt_of_le_of_lt (length_putF _ _ _) (by decide), ?_⟩
  walk_at "sf"
  refine ⟨_, rfl, _, rfl, x, C, dx, _, rfl, upd_same, RC.cl, RC.n3, Nat.lt_of_le_of_lt (length_putF _ _ _) (Nat.lt_of_le_of_lt (Nat.add_le_add_right (length_putF _ _ _) 1) (by decide)), ?_⟩
  walk_at "sf"
  refine q _ (fun c hc => ?_) ?_
  · rw [upd_ne hc, upd_ne hc, upd_ne hc]
  · rw [upd_same]
    rfl
theorem ok_gcd (T : Nm mg) (D : DefB K mg "common_divisor" s_common_divisor ["one", "other"]) : FnB P w K mg base 1 "common_divisor" ["one", "other"] (fun vs H Q _ => ∃ a b : Int, vs = [.int a, .int b] ∧ Q (.int ((Int.gcd a b : Nat) : Int)) H) := by
  refine D.ok sc_common_divisor (fun vs H Q E h => ?_) (fun f cdv A outer s H vs Q E hr h => ?_)
  · obtain ⟨a, b, rfl, _⟩ := h
    rfl
  obtain ⟨a, b, rfl, q⟩ := h
  refine ⟨_, (pss_cons (ps_set (i := 2) sc_common_divisor.nd rfl (Or.inl rfl) (pe_callB call_abs rfl T.n_abs boot_abs (pa_cons (pv 0) pa_nil)))
    (pss_cons (ps_set (i := 3) sc_common_divisor.nd rfl (Or.inl rfl) (pe_callB call_abs rfl T.n_abs boot_abs (pa_cons (pv 1) pa_nil)))
    (pss_cons (ps_while PassesOwn.never (pt_truth (pv 3) (fun _ => rfl))
    (pss_cons (ps_set (i := 4) sc_common_divisor.nd rfl (Or.inl rfl) (pe_op op_modN (pv 2) (pv 3)))
    (pss_cons (ps_set (i := 2) sc_common_divisor.nd rfl (Or.inl rfl) (pv 3))
    (pss_one (ps_set (i := 3) sc_common_divisor.nd rfl (Or.inl rfl) (pv 4))))))
    (pss_one (ps_ret (pv 2)))))), ?_⟩
  walk_at "sf"
  refine ⟨_, rfl, ?_⟩
  walk_at "sf"
  refine ⟨_, rfl, ?_⟩
  walk_at "sf"
  refine while_go (fun m σ H' => ∃ (g l : Int) (r : Option V), m = l.toNat ∧ σ = [some (.int a), some (.int b), some (.int g), some (.int l), r] ∧ H' = H ∧ 0 ≤ g ∧ 0 ≤ l ∧ Int.gcd g l = Int.gcd a b)
    ⟨_, _, _, _, rfl, rfl, rfl, by split <;> lia, by split <;> lia, gcd_abs⟩ ?_
  rintro m σ H' ⟨g, l, r, rfl, rfl, rfl, hg, hl, e⟩
  walk_at "sf"
  refine ite2 (fun c => ?_) (fun c => ?_)
  · have hl0 : l ≠ 0 := by simpa using c
    have hp : 0 < l := by lia
    refine ⟨_, fun σ' H' h => h, ?_⟩
    walk_at "sf"
    refine r_i hl0 ?_
    walk_at "sf"
    have h1 := Int.emod_nonneg g hl0
    have h2 := Int.emod_lt_of_pos g hp
    rw [fmod_pos hp]
    exact ⟨_, by lia, _, _, _, rfl, rfl, rfl, hl, h1, by rw [gcd_turn hg hp, e]⟩
  · have hl0 : l = 0 := by simpa using c
    subst hl0
    walk_at "sf"
    have e' : ((Int.gcd a b : Nat) : Int) = g := by rw [← e]; exact gcd_end hg
    rw [e'] at q
    exact q
theorem ok_common_divisor (T : Nm mg) (D : DefB K mg "common_divisor" s_common_divisor ["one", "other"]) : FnB P w K mg base 34 "common_divisor" ["one", "other"] (spEv K C f_common_divisor 2) :=
  ((ok_gcd T D).imp fun vs H Q E h => gcd_sp h).mono (by decide)
end
end V25
namespace V25
open CV
noncomputable def c_sign : EvS := (sSeq (sIf (eT (eB2 ltI (eVar 0) (eC (.int 0)))) (sRet (eI1 ngI (eC (.int 1))))
    sNx)
    (sRet (eIf (eT (eB2 gtI (eVar 0) (eC (.int 0)))) (eC (.int 1)) (eC (.int 0)))))
noncomputable def f_sign : Fn := runF 0 c_sign
noncomputable def c_power : EvS := (sSeq (sSet 2 (eC (.int 1)))
    (sSeq (sSet 3 (eVar 0))
    (sSeq (sSet 4 (eVar 1))
    (sSeq (sWh (eT (eB2 gtI (eVar 4) (eC (.int 0))))
    (sSeq (sIf (eT (eB2 eqI (eI2c Int.fmod ne0 (eVar 4) (eC (.int 2))) (eC (.int 1)))) (sSet 2 (eI2c Int.mul okM (eVar 2) (eVar 3)))
    sNx)
    (sSeq (sSet 4 (eI2c Int.fdiv ne0 (eVar 4) (eC (.int 2))))
    (sIf (eT (eB2 gtI (eVar 4) (eC (.int 0)))) (sSet 3 (eI2c Int.mul okM (eVar 3) (eVar 3)))
    sNx))))
    (sRet (eVar 2))))))
noncomputable def f_power : Fn := runF 3 c_power
noncomputable def c_ratio : EvS := (sSeq (sIf (eT (eB2 eqI (eVar 1) (eC (.int 0)))) sNo
    sNx)
    (sSeq (sSet 2 (eCall f_common_divisor 2 (aCons (eVar 0) (aCons (eVar 1) aNil))))
    (sSeq (sIf (eT (eB2 ltI (eVar 1) (eC (.int 0)))) (sSet 2 (eI1 ngI (eVar 2)))
    sNx)
    (sRet (eTup (aCons (eI2c Int.fdiv ne0 (eVar 0) (eVar 2)) (aCons (eI2c Int.fdiv ne0 (eVar 1) (eVar 2)) aNil)))))))
noncomputable def f_ratio : Fn := runF 1 c_ratio
noncomputable def c_plus : EvS := (sRet (eCall f_ratio 2 (aCons (eI2 Int.add (eI2c Int.mul okM (eIxT (eVar 0) (eC (.int 0))) (eIxT (eVar 1) (eC (.int 1)))) (eI2c Int.mul okM (eIxT (eVar 1) (eC (.int 0))) (eIxT (eVar 0) (eC (.int 1))))) (aCons (eI2c Int.mul okM (eIxT (eVar 0) (eC (.int 1))) (eIxT (eVar 1) (eC (.int 1)))) aNil))))
noncomputable def f_plus : Fn := runF 0 c_plus
noncomputable def c_times : EvS := (sRet (eCall f_ratio 2 (aCons (eI2c Int.mul okM (eIxT (eVar 0) (eC (.int 0))) (eIxT (eVar 1) (eC (.int 0)))) (aCons (eI2c Int.mul okM (eIxT (eVar 0) (eC (.int 1))) (eIxT (eVar 1) (eC (.int 1)))) aNil))))
noncomputable def f_times : Fn := runF 0 c_times
noncomputable def c_middle : EvS := (sRet (eCall f_ratio 2 (aCons (eI2 Int.add (eI2c Int.mul okM (eIxT (eVar 0) (eC (.int 0))) (eIxT (eVar 1) (eC (.int 1)))) (eI2c Int.mul okM (eIxT (eVar 1) (eC (.int 0))) (eIxT (eVar 0) (eC (.int 1))))) (aCons (eI2c Int.mul okM (eI2c Int.mul okM (eC (.int 2)) (eIxT (eVar 0) (eC (.int 1)))) (eIxT (eVar 1) (eC (.int 1)))) aNil))))
noncomputable def f_middle : Fn := runF 0 c_middle
noncomputable def c_order_of : EvS := (sRet (eCall f_sign 1 (aCons (eI2 Int.sub (eI2c Int.mul okM (eIxT (eVar 0) (eC (.int 0))) (eIxT (eVar 1) (eC (.int 1)))) (eI2c Int.mul okM (eIxT (eVar 1) (eC (.int 0))) (eIxT (eVar 0) (eC (.int 1))))) aNil)))
noncomputable def f_order_of : Fn := runF 0 c_order_of
noncomputable def c_trimmed : EvS := (sSeq (sSet 1 (eLen (aCons (eVar 0) aNil)))
    (sSeq (sWh (eAnd (eT (eB2 gtI (eVar 1) (eC (.int 0)))) (eT (eB2 eqI (eIxL (eVar 0) (eI2 Int.sub (eVar 1) (eC (.int 1)))) (eC (.int 0)))))
    (sSet 1 (eI2 Int.sub (eVar 1) (eC (.int 1)))))
    (sRet (eFz (oSl (eVar 0) pNo (pAt (eVar 1)))))))
noncomputable def f_trimmed : Fn := runF 1 c_trimmed
noncomputable def c_degree : EvS := (sRet (eI2 Int.sub (eLen (aCons (eVar 0) aNil)) (eC (.int 1))))
noncomputable def f_degree : Fn := runF 0 c_degree
noncomputable def c_added : EvS := (sSeq (sOpn 2 (oCat (eVar 0) (eFz (oRep (eFz (oLst (aCons (eC (.int 0)) aNil))) (eI2 Int.sub (eLen (aCons (eVar 1) aNil)) (eLen (aCons (eVar 0) aNil)))))))
    (sSeq (sFor (iEn (aCons (eVar 1) aNil)) (gT2 3 4)
    (sPut 2 (eVar 3) (eI2 Int.add (eIxO 2 (eVar 3)) (eVar 4))))
    (sRet (eCall f_trimmed 1 (aCons (eVar 2) aNil)))))
noncomputable def f_added : Fn := runF 3 c_added
noncomputable def c_multiplied : EvS := (sSeq (sIf (eOr (eNot (eTru (eVar 0))) (eNot (eTru (eVar 1)))) (sRet (eFz (oLst aNil)))
    sNx)
    (sSeq (sOpn 2 (oRep (eFz (oLst (aCons (eC (.int 0)) aNil))) (eI2 Int.sub (eI2 Int.add (eLen (aCons (eVar 0) aNil)) (eLen (aCons (eVar 1) aNil))) (eC (.int 1)))))
    (sSeq (sFor (iEn (aCons (eVar 0) aNil)) (gT2 3 4)
    (sFor (iEn (aCons (eVar 1) aNil)) (gT2 5 6)
    (sPut 2 (eI2 Int.add (eVar 3) (eVar 5)) (eI2 Int.add (eIxO 2 (eI2 Int.add (eVar 3) (eVar 5))) (eI2c Int.mul okM (eVar 4) (eVar 6))))))
    (sRet (eVar 2)))))
noncomputable def f_multiplied : Fn := runF 5 c_multiplied
noncomputable def c_scaled : EvS := (sSeq (sIf (eT (eB2 eqI (eVar 1) (eC (.int 0)))) (sRet (eFz (oLst aNil)))
    sNx)
    (sRet (eFz (oComp 1 [1] (iLst (eVar 0)) (gN 0) (eI2c Int.mul okM (eVar 0) (eVar 1))))))
noncomputable def f_scaled : Fn := runF 0 c_scaled
noncomputable def c_derivative : EvS := (sRet (eFz (oSl (eFz (oComp 2 [] (iEn (aCons (eVar 0) aNil)) (gT2 0 1) (eI2c Int.mul okM (eVar 0) (eVar 1)))) (pAt (eC (.int 1))) pNo)))
noncomputable def f_derivative : Fn := runF 0 c_derivative
noncomputable def c_content : EvS := (sSeq (sSet 1 (eC (.int 0)))
    (sSeq (sFor (iLst (eVar 0)) (gN 2)
    (sSet 1 (eCall f_common_divisor 2 (aCons (eVar 1) (aCons (eVar 2) aNil)))))
    (sRet (eIf (eAnd (eTru (eVar 0)) (eT (eB2 ltI (eIxL (eVar 0) (eI1 ngI (eC (.int 1)))) (eC (.int 0))))) (eI1 ngI (eVar 1)) (eVar 1)))))
noncomputable def f_content : Fn := runF 2 c_content
noncomputable def c_primitive : EvS := (sSeq (sSet 1 (eCall f_content 1 (aCons (eVar 0) aNil)))
    (sRet (eFz (oComp 1 [1] (iLst (eVar 0)) (gN 0) (eI2c Int.fdiv ne0 (eVar 0) (eVar 1))))))
noncomputable def f_primitive : Fn := runF 1 c_primitive
noncomputable def c_value_at : EvS := (sSeq (sSet 2 (eC (.int 0)))
    (sSeq (sFor (iRv (aCons (eVar 0) aNil)) (gN 3)
    (sSet 2 (eI2 Int.add (eI2c Int.mul okM (eVar 2) (eVar 1)) (eVar 3))))
    (sRet (eVar 2))))
noncomputable def f_value_at : Fn := runF 2 c_value_at
noncomputable def c_spread : EvS := (sSeq (sOpn 2 (oLst aNil))
    (sSeq (sSet 3 (eVar 0))
    (sSeq (sWh (eTru (eVar 3))
    (sSeq (sSet 4 (eI2c Int.fmod ne0 (eVar 3) (eVar 1)))
    (sSeq (sIf (eT (eB2 gtI (eI2c Int.mul okM (eC (.int 2)) (eVar 4)) (eVar 1))) (sSet 4 (eI2 Int.sub (eVar 4) (eVar 1)))
    sNx)
    (sSeq (sApp 2 (aCons (eVar 4) aNil))
    (sSet 3 (eI2c Int.fdiv ne0 (eI2 Int.sub (eVar 3) (eVar 4)) (eVar 1)))))))
    (sRet (eVar 2)))))
noncomputable def f_spread : Fn := runF 3 c_spread
noncomputable def c_divided : EvS := (sSeq (sOpn 2 (oList (aCons (eVar 0) aNil)))
    (sSeq (sOpn 3 (oLst aNil))
    (sSeq (sWh (eT (eB2 geI (eLenO 2) (eLen (aCons (eVar 1) aNil))))
    (sSeq (sSet 4 (eI2c Int.fdiv ne0 (eIxO 2 (eI1 ngI (eC (.int 1)))) (eIxL (eVar 1) (eI1 ngI (eC (.int 1))))))
    (sSeq (sSet 5 (eI2 Int.sub (eLenO 2) (eLen (aCons (eVar 1) aNil))))
    (sSeq (sFor (iEn (aCons (eVar 1) aNil)) (gT2 6 7)
    (sPut 2 (eI2 Int.add (eVar 5) (eVar 6)) (eI2 Int.sub (eIxO 2 (eI2 Int.add (eVar 5) (eVar 6))) (eI2c Int.mul okM (eVar 4) (eVar 7)))))
    (sSeq (sIf (eT (eB2 neI (ePop 2) (eC (.int 0)))) (sRet (eC .non))
    sNx)
    (sApp 3 (aCons (eVar 4) aNil)))))))
    (sSeq (sIf (eT (eAny (aCons (eVar 2) aNil))) (sRet (eC .non))
    sNx)
    (sRet (eFz (oRev (aCons (eVar 3) aNil))))))))
noncomputable def f_divided : Fn := runF 6 c_divided
noncomputable def c_largest : EvS := (sRet (eMaxL (aCons (eFz (oComp 1 [] (iLst (eVar 0)) (gN 0) (eAbs (aCons (eVar 0) aNil)))) aNil)))
noncomputable def f_largest : Fn := runF 0 c_largest
noncomputable def c_divisor_of : EvS := (sSeq (sSet 2 (eCall f_primitive 1 (aCons (eVar 0) aNil)))
    (sSeq (sSet 3 (eCall f_primitive 1 (aCons (eVar 1) aNil)))
    (sSeq (sIf (eNot (eTru (eVar 2))) (sRet (eVar 3))
    sNx)
    (sSeq (sIf (eNot (eTru (eVar 3))) (sRet (eVar 2))
    sNx)
    (sSeq (sSet 4 (eI2c Int.mul okM (eI2c Int.mul okM (eC (.int 2)) (eI2 Int.add (eMin2 (aCons (eCall f_largest 1 (aCons (eVar 2) aNil)) (aCons (eCall f_largest 1 (aCons (eVar 3) aNil)) aNil))) (eC (.int 1)))) (eI2c (fun i j => i ^ j.toNat) okP (eC (.int 2)) (eC (.int 32)))))
    (sWh (eTru (eC (.bl true)))
    (sSeq (sSet 5 (eCall f_common_divisor 2 (aCons (eCall f_value_at 2 (aCons (eVar 2) (aCons (eVar 4) aNil))) (aCons (eCall f_value_at 2 (aCons (eVar 3) (aCons (eVar 4) aNil))) aNil))))
    (sSeq (sSet 6 (eCall f_primitive 1 (aCons (eCall f_spread 2 (aCons (eVar 5) (aCons (eVar 4) aNil))) aNil)))
    (sSeq (sIf (eAnd (eT (eNotN (eCall f_divided 2 (aCons (eVar 2) (aCons (eVar 6) aNil))))) (eT (eNotN (eCall f_divided 2 (aCons (eVar 3) (aCons (eVar 6) aNil)))))) (sRet (eVar 6))
    sNx)
    (sSet 4 (eI2c Int.mul okM (eVar 4) (eVar 4))))))))))))
noncomputable def f_divisor_of : Fn := runF 5 c_divisor_of
noncomputable def c_quotient : EvS := (sRet (eCall f_divided 2 (aCons (eCall f_primitive 1 (aCons (eVar 0) aNil)) (aCons (eCall f_primitive 1 (aCons (eVar 1) aNil)) aNil))))
noncomputable def f_quotient : Fn := runF 0 c_quotient
noncomputable def c_square_free : EvS := (sRet (eCall f_quotient 2 (aCons (eVar 0) (aCons (eCall f_divisor_of 2 (aCons (eVar 0) (aCons (eCall f_derivative 1 (aCons (eVar 0) aNil)) aNil))) aNil))))
noncomputable def f_square_free : Fn := runF 0 c_square_free
noncomputable def c_composed : EvS := (sSeq (sSet 3 (eFz (oLst aNil)))
    (sSeq (sSet 4 (eFz (oLst (aCons (eC (.int 1)) aNil))))
    (sSeq (sFor (iRv (aCons (eVar 0) aNil)) (gN 5)
    (sSeq (sSet 3 (eCall f_added 2 (aCons (eCall f_multiplied 2 (aCons (eVar 3) (aCons (eVar 1) aNil))) (aCons (eCall f_scaled 2 (aCons (eVar 4) (aCons (eVar 5) aNil))) aNil))))
    (sSet 4 (eCall f_multiplied 2 (aCons (eVar 4) (aCons (eVar 2) aNil))))))
    (sRet (eVar 3)))))
noncomputable def f_composed : Fn := runF 3 c_composed
noncomputable def c_height_at : EvS := (sSeq (sSet 3 (eC (.int 0)))
    (sSeq (sSet 4 (eC (.int 1)))
    (sSeq (sFor (iRv (aCons (eVar 0) aNil)) (gN 5)
    (sSeq (sSet 3 (eI2 Int.add (eI2c Int.mul okM (eVar 3) (eVar 1)) (eI2c Int.mul okM (eVar 5) (eVar 4))))
    (sSet 4 (eI2c Int.mul okM (eVar 4) (eVar 2)))))
    (sRet (eVar 3)))))
noncomputable def f_height_at : Fn := runF 3 c_height_at
noncomputable def c_sign_at : EvS := (sRet (eCall f_sign 1 (aCons (eCall f_height_at 3 (aCons (eVar 0) (aCons (eIxT (eVar 1) (eC (.int 0))) (aCons (eIxT (eVar 1) (eC (.int 1))) aNil)))) aNil)))
noncomputable def f_sign_at : Fn := runF 0 c_sign_at
noncomputable def c_changes_in : EvS := (sSeq (sSet 1 (eC (.int 0)))
    (sSeq (sSet 2 (eC (.int 0)))
    (sSeq (sFor (iLst (eVar 0)) (gN 3)
    (sSeq (sIf (eT (eB2 ltI (eI2c Int.mul okM (eVar 3) (eVar 2)) (eC (.int 0)))) (sSet 1 (eI2 Int.add (eVar 1) (eC (.int 1))))
    sNx)
    (sIf (eT (eB2 neI (eVar 3) (eC (.int 0)))) (sSet 2 (eCall f_sign 1 (aCons (eVar 3) aNil)))
    sNx)))
    (sRet (eVar 1)))))
noncomputable def f_changes_in : Fn := runF 3 c_changes_in
noncomputable def c_remainder : EvS := (sSeq (sSet 2 (eAbs (aCons (eIxL (eVar 1) (eI1 ngI (eC (.int 1)))) aNil)))
    (sSeq (sSet 3 (eCall f_sign 1 (aCons (eIxL (eVar 1) (eI1 ngI (eC (.int 1)))) aNil)))
    (sSeq (sOpn 4 (oList (aCons (eVar 0) aNil)))
    (sSeq (sFor (iR3 (aCons (eI2 Int.sub (eLen (aCons (eVar 0) aNil)) (eLen (aCons (eVar 1) aNil))) (aCons (eI1 ngI (eC (.int 1))) (aCons (eI1 ngI (eC (.int 1))) aNil)))) (gN 5)
    (sSeq (sSet 6 (eI2c Int.mul okM (ePop 4) (eVar 3)))
    (sSeq (sOpn 4 (oComp 1 [2] (iLst (eVar 4)) (gN 0) (eI2c Int.mul okM (eVar 0) (eVar 1))))
    (sFor (iEn (aCons (eFz (oSl (eVar 1) pNo (pAt (eI1 ngI (eC (.int 1)))))) aNil)) (gT2 7 8)
    (sPut 4 (eI2 Int.add (eVar 5) (eVar 7)) (eI2 Int.sub (eIxO 4 (eI2 Int.add (eVar 5) (eVar 7))) (eI2c Int.mul okM (eVar 6) (eVar 8))))))))
    (sRet (eCall f_trimmed 1 (aCons (eVar 4) aNil)))))))
noncomputable def f_remainder : Fn := runF 7 c_remainder
noncomputable def c_chain_of : EvS := (sSeq (sOpn 1 (oLst (aCons (eVar 0) (aCons (eCall f_derivative 1 (aCons (eVar 0) aNil)) aNil))))
    (sSeq (sSet 2 (eC (.int 1)))
    (sSeq (sSet 3 (eC (.int 1)))
    (sSeq (sWh (eT (eB2 gtI (eLen (aCons (eIxO 1 (eI1 ngI (eC (.int 1)))) aNil)) (eC (.int 1))))
    (sSeq (sSet 4 (eIxO 1 (eI1 ngI (eC (.int 2)))))
    (sSeq (sSet 5 (eIxO 1 (eI1 ngI (eC (.int 1)))))
    (sSeq (sSet 6 (eI2 Int.sub (eLen (aCons (eVar 4) aNil)) (eLen (aCons (eVar 5) aNil))))
    (sSeq (sSet 7 (eI2c Int.mul okM (eVar 2) (eCall f_power 2 (aCons (eVar 3) (aCons (eVar 6) aNil)))))
    (sSeq (sApp 1 (aCons (eFz (oComp 1 [7] (iLst (eCall f_remainder 2 (aCons (eVar 4) (aCons (eVar 5) aNil)))) (gN 0) (eI2c Int.fdiv ne0 (eI1 ngI (eVar 0)) (eVar 1)))) aNil))
    (sSeq (sSet 2 (eAbs (aCons (eIxL (eVar 5) (eI1 ngI (eC (.int 1)))) aNil)))
    (sSet 3 (eI2c Int.fdiv ne0 (eCall f_power 2 (aCons (eVar 2) (aCons (eVar 6) aNil))) (eCall f_power 2 (aCons (eVar 3) (aCons (eI2 Int.sub (eVar 6) (eC (.int 1))) aNil))))))))))))
    (sRet (eVar 1))))))
noncomputable def f_chain_of : Fn := runF 7 c_chain_of
noncomputable def c_changes_at : EvS := (sRet (eCall f_changes_in 1 (aCons (eFz (oComp 1 [1] (iLst (eVar 0)) (gN 0) (eCall f_sign_at 2 (aCons (eVar 0) (aCons (eVar 1) aNil))))) aNil)))
noncomputable def f_changes_at : Fn := runF 0 c_changes_at
noncomputable def c_is_within : EvS := (sSeq (sSet 2 (eAbs (aCons (eIxL (eVar 0) (eI1 ngI (eC (.int 1)))) aNil)))
    (sSeq (sFor (iRv (aCons (eFz (oSl (eVar 0) pNo (pAt (eI1 ngI (eC (.int 1)))))) aNil)) (gN 3)
    (sSeq (sSet 2 (eI2c Int.mul okM (eVar 2) (eVar 1)))
    (sIf (eT (eB2 gtI (eAbs (aCons (eVar 3) aNil)) (eVar 2))) (sRet (eC (.bl false)))
    sNx)))
    (sRet (eC (.bl true)))))
noncomputable def f_is_within : Fn := runF 2 c_is_within
noncomputable def c_bound_of : EvS := (sSeq (sSet 1 (eC (.int 1)))
    (sSeq (sWh (eNot (eT (eCall f_is_within 2 (aCons (eVar 0) (aCons (eVar 1) aNil)))))
    (sSet 1 (eI2c Int.mul okM (eC (.int 2)) (eVar 1))))
    (sRet (eI2c Int.mul okM (eC (.int 2)) (eVar 1)))))
noncomputable def f_bound_of : Fn := runF 1 c_bound_of
noncomputable def c_pair_around_all : EvS := (sSeq (sSet 1 (eC (.int 3)))
    (sSeq (sWh (eT (eB2 eqI (eI2c Int.fmod ne0 (eIxL (eVar 0) (eI1 ngI (eC (.int 1)))) (eVar 1)) (eC (.int 0))))
    (sSet 1 (eI2 Int.add (eVar 1) (eC (.int 2)))))
    (sSeq (sSet 2 (eI2 Int.add (eCall f_bound_of 1 (aCons (eVar 0) aNil)) (eC (.int 1))))
    (sRet (eTup (aCons (eCall f_ratio 2 (aCons (eI2 Int.sub (eC (.int 1)) (eI2c Int.mul okM (eVar 1) (eVar 2))) (aCons (eVar 1) aNil))) (aCons (eCall f_ratio 2 (aCons (eI2 Int.add (eC (.int 1)) (eI2c Int.mul okM (eVar 1) (eVar 2))) (aCons (eVar 1) aNil))) aNil)))))))
noncomputable def f_pair_around_all : Fn := runF 2 c_pair_around_all
noncomputable def c_marked : EvS := (sRet (eTup (aCons (eVar 1) (aCons (eCall f_changes_at 2 (aCons (eVar 0) (aCons (eVar 1) aNil))) aNil))))
noncomputable def f_marked : Fn := runF 0 c_marked
noncomputable def c_isolated : EvS := (sSeq (sIf (eT (eB2 gtI (eCall f_degree 1 (aCons (eVar 0) aNil)) (eC (.int 12)))) sNo
    sNx)
    (sSeq (sSet 1 (eCall f_square_free 1 (aCons (eVar 0) aNil)))
    (sSeq (sSet 2 (eCall f_chain_of 1 (aCons (eVar 1) aNil)))
    (sSeq (sSet 3 (eCall f_pair_around_all 1 (aCons (eVar 1) aNil)))
    (sSeq (sOpn 4 (oLst (aCons (eTup (aCons (eCall f_marked 2 (aCons (eVar 2) (aCons (eIxT (eVar 3) (eC (.int 0))) aNil))) (aCons (eCall f_marked 2 (aCons (eVar 2) (aCons (eIxT (eVar 3) (eC (.int 1))) aNil))) aNil))) aNil)))
    (sSeq (sOpn 5 (oLst aNil))
    (sSeq (sWh (eTruO 4)
    (sSeq (sSet 6 (ePop 4))
    (sSeq (sSet 7 (eIxT (eVar 6) (eC (.int 0))))
    (sSeq (sSet 8 (eIxT (eVar 6) (eC (.int 1))))
    (sSeq (sSet 9 (eI2 Int.sub (eIxT (eVar 7) (eC (.int 1))) (eIxT (eVar 8) (eC (.int 1)))))
    (sSeq (sIf (eT (eB2 eqI (eVar 9) (eC (.int 1)))) (sApp 5 (aCons (eTup (aCons (eIxT (eVar 7) (eC (.int 0))) (aCons (eIxT (eVar 8) (eC (.int 0))) aNil))) aNil))
    sNx)
    (sIf (eT (eB2 gtI (eVar 9) (eC (.int 1)))) (sSeq (sSet 10 (eCall f_marked 2 (aCons (eVar 2) (aCons (eCall f_middle 2 (aCons (eIxT (eVar 7) (eC (.int 0))) (aCons (eIxT (eVar 8) (eC (.int 0))) aNil))) aNil))))
    (sSeq (sApp 4 (aCons (eTup (aCons (eVar 10) (aCons (eVar 8) aNil))) aNil))
    (sApp 4 (aCons (eTup (aCons (eVar 7) (aCons (eVar 10) aNil))) aNil))))
    sNx)))))))
    (sRet (eVar 5)))))))))
noncomputable def f_isolated : Fn := runF 10 c_isolated
noncomputable def c_stretch_of : EvS := (sSeq (sSet 1 (eIxT (eVar 0) (eC (.int 0))))
    (sSeq (sSet 2 (eIxT (eVar 0) (eC (.int 1))))
    (sRet (eTup (aCons (eI2c Int.mul okM (eIxT (eVar 1) (eC (.int 0))) (eIxT (eVar 2) (eC (.int 1)))) (aCons (eI2c Int.mul okM (eIxT (eVar 2) (eC (.int 0))) (eIxT (eVar 1) (eC (.int 1)))) (aCons (eI2c Int.mul okM (eIxT (eVar 1) (eC (.int 1))) (eIxT (eVar 2) (eC (.int 1)))) aNil)))))))
noncomputable def f_stretch_of : Fn := runF 2 c_stretch_of
noncomputable def c_parts_needed : EvS := (sSeq (sSet 2 (eI2c Int.mul okM (eIxT (eVar 1) (eC (.int 0))) (eIxT (eVar 0) (eC (.int 2)))))
    (sRet (eI2c Int.fdiv ne0 (eI2 Int.sub (eI2 Int.add (eI2c Int.mul okM (eI2 Int.sub (eIxT (eVar 0) (eC (.int 1))) (eIxT (eVar 0) (eC (.int 0)))) (eIxT (eVar 1) (eC (.int 1)))) (eVar 2)) (eC (.int 1))) (eVar 2))))
noncomputable def f_parts_needed : Fn := runF 1 c_parts_needed
noncomputable def c_part_between : EvS := (sSeq (sSet 5 (eI2c Int.mul okM (eIxT (eVar 1) (eC (.int 2))) (eVar 2)))
    (sSeq (sSet 6 (eCall f_sign 1 (aCons (eCall f_height_at 3 (aCons (eVar 0) (aCons (eIxT (eVar 1) (eC (.int 0))) (aCons (eIxT (eVar 1) (eC (.int 2))) aNil)))) aNil)))
    (sSeq (sSet 7 (eCall f_sign 1 (aCons (eCall f_height_at 3 (aCons (eVar 0) (aCons (eVar 3) (aCons (eVar 5) aNil)))) aNil)))
    (sSeq (sIf (eT (eB2 eqI (eVar 7) (eC (.int 0)))) (sRet (eTup (aCons (eVar 3) (aCons (eVar 3) (aCons (eVar 5) aNil)))))
    sNx)
    (sSeq (sSet 8 (eCall f_sign 1 (aCons (eCall f_height_at 3 (aCons (eVar 0) (aCons (eVar 4) (aCons (eVar 5) aNil)))) aNil)))
    (sSeq (sIf (eT (eB2 eqI (eVar 8) (eC (.int 0)))) (sRet (eTup (aCons (eVar 4) (aCons (eVar 4) (aCons (eVar 5) aNil)))))
    sNx)
    (sRet (eIf (eAnd (eT (eB2 eqI (eVar 7) (eVar 6))) (eT (eB2 neI (eVar 8) (eVar 6)))) (eTup (aCons (eVar 3) (aCons (eVar 4) (aCons (eVar 5) aNil)))) (eC .non)))))))))
noncomputable def f_part_between : Fn := runF 4 c_part_between
noncomputable def c_guessed : EvS := (sSeq (sSet 3 (eI2 Int.sub (eIxT (eVar 1) (eC (.int 1))) (eIxT (eVar 1) (eC (.int 0)))))
    (sSeq (sSet 4 (eAbs (aCons (eCall f_height_at 3 (aCons (eVar 0) (aCons (eIxT (eVar 1) (eC (.int 0))) (aCons (eIxT (eVar 1) (eC (.int 2))) aNil)))) aNil)))
    (sSeq (sSet 5 (eAbs (aCons (eCall f_height_at 3 (aCons (eVar 0) (aCons (eIxT (eVar 1) (eC (.int 1))) (aCons (eIxT (eVar 1) (eC (.int 2))) aNil)))) aNil)))
    (sSeq (sSet 6 (eI2c Int.fdiv ne0 (eI2c Int.mul okM (eVar 2) (eVar 4)) (eI2 Int.add (eVar 4) (eVar 5))))
    (sSeq (sSet 7 (eI2 Int.add (eI2c Int.mul okM (eIxT (eVar 1) (eC (.int 0))) (eVar 2)) (eI2c Int.mul okM (eVar 3) (eVar 6))))
    (sRet (eCall f_part_between 5 (aCons (eVar 0) (aCons (eVar 1) (aCons (eVar 2) (aCons (eVar 7) (aCons (eI2 Int.add (eVar 7) (eVar 3)) aNil))))))))))))
noncomputable def f_guessed : Fn := runF 5 c_guessed
noncomputable def c_halved : EvS := (sSeq (sSet 2 (eI2 Int.add (eIxT (eVar 1) (eC (.int 0))) (eIxT (eVar 1) (eC (.int 1)))))
    (sSeq (sSet 3 (eCall f_part_between 5 (aCons (eVar 0) (aCons (eVar 1) (aCons (eC (.int 2)) (aCons (eI2c Int.mul okM (eC (.int 2)) (eIxT (eVar 1) (eC (.int 0)))) (aCons (eVar 2) aNil)))))))
    (sRet (eIf (eT (eIsN (eVar 3))) (eTup (aCons (eVar 2) (aCons (eI2c Int.mul okM (eC (.int 2)) (eIxT (eVar 1) (eC (.int 1)))) (aCons (eI2c Int.mul okM (eC (.int 2)) (eIxT (eVar 1) (eC (.int 2)))) aNil)))) (eVar 3)))))
noncomputable def f_halved : Fn := runF 2 c_halved
noncomputable def c_narrowed : EvS := (sSeq (sSet 3 (eCall f_stretch_of 1 (aCons (eVar 1) aNil)))
    (sSeq (sSet 4 (eC (.int 4)))
    (sSeq (sSet 5 (eCall f_parts_needed 2 (aCons (eVar 3) (aCons (eVar 2) aNil))))
    (sSeq (sWh (eT (eB2 gtI (eVar 5) (eC (.int 1))))
    (sSeq (sSet 6 (eCall f_guessed 3 (aCons (eVar 0) (aCons (eVar 3) (aCons (eMin2 (aCons (eVar 4) (aCons (eVar 5) aNil))) aNil)))))
    (sSeq (sSet 4 (eIf (eT (eIsN (eVar 6))) (eC (.int 4)) (eI2c Int.mul okM (eVar 4) (eVar 4))))
    (sSeq (sSet 3 (eIf (eT (eIsN (eVar 6))) (eCall f_halved 2 (aCons (eVar 0) (aCons (eVar 3) aNil))) (eVar 6)))
    (sSet 5 (eCall f_parts_needed 2 (aCons (eVar 3) (aCons (eVar 2) aNil))))))))
    (sRet (eTup (aCons (eCall f_ratio 2 (aCons (eIxT (eVar 3) (eC (.int 0))) (aCons (eIxT (eVar 3) (eC (.int 2))) aNil))) (aCons (eCall f_ratio 2 (aCons (eIxT (eVar 3) (eC (.int 1))) (aCons (eIxT (eVar 3) (eC (.int 2))) aNil))) aNil))))))))
noncomputable def f_narrowed : Fn := runF 4 c_narrowed
noncomputable def c_is_alone : EvS := (sSeq (sSet 2 (eCall f_stretch_of 1 (aCons (eVar 1) aNil)))
    (sSeq (sSet 3 (eCall f_composed 3 (aCons (eVar 0) (aCons (eFz (oLst (aCons (eIxT (eVar 2) (eC (.int 0))) (aCons (eIxT (eVar 2) (eC (.int 1))) aNil)))) (aCons (eFz (oLst (aCons (eIxT (eVar 2) (eC (.int 2))) (aCons (eIxT (eVar 2) (eC (.int 2))) aNil)))) aNil)))))
    (sRet (eAndV (eB2 eqI (eLen (aCons (eVar 3) aNil)) (eLen (aCons (eVar 0) aNil))) (eAndV (eB2 neI (eIxL (eVar 3) (eC (.int 0))) (eC (.int 0))) (eB2 eqI (eCall f_changes_in 1 (aCons (eVar 3) aNil)) (eC (.int 1))))))))
noncomputable def f_is_alone : Fn := runF 2 c_is_alone
noncomputable def c_of_ratio : EvS := (sRet (eMk (aCons (eFz (oLst (aCons (eI1 ngI (eIxT (eVar 0) (eC (.int 0)))) (aCons (eIxT (eVar 0) (eC (.int 1))) aNil)))) (aCons (eTup (aCons (eVar 0) (aCons (eVar 0) aNil))) (aCons (eC (.int 1)) aNil)))))
noncomputable def f_of_ratio : Fn := runF 0 c_of_ratio
noncomputable def c_number_in : EvS := (sSeq (sSet 3 (eIxL (eVar 0) (eI1 ngI (eC (.int 1)))))
    (sSeq (sSet 4 (eCall f_narrowed 3 (aCons (eVar 0) (aCons (eVar 1) (aCons (eTup (aCons (eC (.int 1)) (aCons (eVar 3) aNil))) aNil)))))
    (sSeq (sSet 5 (eIxT (eVar 4) (eC (.int 0))))
    (sSeq (sSet 6 (eIxT (eVar 4) (eC (.int 1))))
    (sSeq (sIf (eT (eEq2 (eVar 5) (eVar 6))) (sRet (eCall f_of_ratio 1 (aCons (eVar 5) aNil)))
    sNx)
    (sSeq (sSet 7 (eCall f_ratio 2 (aCons (eI2 Int.add (eI2c Int.fdiv ne0 (eI2c Int.mul okM (eIxT (eVar 5) (eC (.int 0))) (eVar 3)) (eIxT (eVar 5) (eC (.int 1)))) (eC (.int 1))) (aCons (eVar 3) aNil))))
    (sSeq (sIf (eAnd (eT (eB2 ltI (eCall f_order_of 2 (aCons (eVar 7) (aCons (eVar 6) aNil))) (eC (.int 0)))) (eT (eB2 eqI (eCall f_sign_at 2 (aCons (eVar 0) (aCons (eVar 7) aNil))) (eC (.int 0))))) (sRet (eCall f_of_ratio 1 (aCons (eVar 7) aNil)))
    sNx)
    (sRet (eMk (aCons (eVar 0) (aCons (eVar 4) (aCons (eVar 2) aNil))))))))))))
noncomputable def f_number_in : Fn := runF 5 c_number_in
noncomputable def c_nth : EvS := (sSeq (sSet 2 (eCall f_isolated 1 (aCons (eVar 0) aNil)))
    (sSeq (sIf (eOr (eT (eB2 ltI (eVar 1) (eC (.int 0)))) (eT (eB2 geI (eVar 1) (eLen (aCons (eVar 2) aNil))))) sNo
    sNx)
    (sSeq (sSet 3 (eCall f_square_free 1 (aCons (eVar 0) aNil)))
    (sRet (eCall f_number_in 3 (aCons (eVar 3) (aCons (eIxL (eVar 2) (eVar 1)) (aCons (eCall f_degree 1 (aCons (eVar 3) aNil)) aNil))))))))
noncomputable def f_nth : Fn := runF 2 c_nth
noncomputable def c_as_ratio : EvS := (sRet (eIf (eT (eEq2 (eIxT (eFq (eVar 0)) (eC (.int 0))) (eIxT (eFq (eVar 0)) (eC (.int 1))))) (eIxT (eFq (eVar 0)) (eC (.int 0))) (eC .non)))
noncomputable def f_as_ratio : Fn := runF 0 c_as_ratio
noncomputable def c_weight_of : EvS := (sRet (eFw (eVar 0)))
noncomputable def f_weight_of : Fn := runF 0 c_weight_of
noncomputable def c_against : EvS := (sSeq (sSet 2 (eIxT (eFq (eVar 0)) (eC (.int 0))))
    (sSeq (sSet 3 (eCall f_order_of 2 (aCons (eVar 2) (aCons (eVar 1) aNil))))
    (sSeq (sIf (eT (eB2 eqI (eVar 3) (eCall f_order_of 2 (aCons (eIxT (eFq (eVar 0)) (eC (.int 1))) (aCons (eVar 1) aNil))))) (sRet (eVar 3))
    sNx)
    (sRet (eI2c Int.mul okM (eCall f_sign_at 2 (aCons (eFp (eVar 0)) (aCons (eVar 2) aNil))) (eCall f_sign_at 2 (aCons (eFp (eVar 0)) (aCons (eVar 1) aNil))))))))
noncomputable def f_against : Fn := runF 2 c_against
noncomputable def c_sign_of : EvS := (sRet (eCall f_against 2 (aCons (eVar 0) (aCons (eTup (aCons (eC (.int 0)) (aCons (eC (.int 1)) aNil))) aNil))))
noncomputable def f_sign_of : Fn := runF 0 c_sign_of
noncomputable def c_falling : EvS := (sSeq (sOpn 2 (oLst aNil))
    (sSeq (sSet 3 (eC (.int 1)))
    (sSeq (sFor (iRv (aCons (eVar 0) aNil)) (gN 4)
    (sSeq (sApp 2 (aCons (eI2c Int.fdiv ne0 (eI2c Int.mul okM (eVar 4) (eVar 3)) (eIxL (eVar 0) (eI1 ngI (eC (.int 1))))) aNil))
    (sSet 3 (eI2c Int.mul okM (eVar 3) (eVar 1)))))
    (sRet (eVar 2)))))
noncomputable def f_falling : Fn := runF 3 c_falling
noncomputable def c_power_sums : EvS := (sSeq (sOpn 2 (oLst (aCons (eI2 Int.sub (eLen (aCons (eVar 0) aNil)) (eC (.int 1))) aNil)))
    (sSeq (sFor (iR2 (aCons (eC (.int 1)) (aCons (eI2 Int.add (eVar 1) (eC (.int 1))) aNil))) (gN 3)
    (sSeq (sSet 4 (eIf (eT (eB2 ltI (eVar 3) (eLen (aCons (eVar 0) aNil)))) (eI2c Int.mul okM (eVar 3) (eIxL (eVar 0) (eVar 3))) (eC (.int 0))))
    (sSeq (sFor (iR2 (aCons (eC (.int 1)) (aCons (eMin2 (aCons (eVar 3) (aCons (eLen (aCons (eVar 0) aNil)) aNil))) aNil))) (gN 5)
    (sSet 4 (eI2 Int.add (eVar 4) (eI2c Int.mul okM (eIxL (eVar 0) (eVar 5)) (eIxO 2 (eI2 Int.sub (eVar 3) (eVar 5)))))))
    (sApp 2 (aCons (eI1 ngI (eVar 4)) aNil)))))
    (sRet (eVar 2))))
noncomputable def f_power_sums : Fn := runF 4 c_power_sums
noncomputable def c_falling_of_sums : EvS := (sSeq (sOpn 1 (oLst (aCons (eC (.int 1)) aNil)))
    (sSeq (sFor (iR2 (aCons (eC (.int 1)) (aCons (eLen (aCons (eVar 0) aNil)) aNil))) (gN 2)
    (sSeq (sSet 3 (eIxL (eVar 0) (eVar 2)))
    (sSeq (sFor (iR2 (aCons (eC (.int 1)) (aCons (eVar 2) aNil))) (gN 4)
    (sSet 3 (eI2 Int.add (eVar 3) (eI2c Int.mul okM (eIxO 1 (eVar 4)) (eIxL (eVar 0) (eI2 Int.sub (eVar 2) (eVar 4)))))))
    (sApp 1 (aCons (eI2c Int.fdiv ne0 (eI1 ngI (eVar 3)) (eVar 2)) aNil)))))
    (sRet (eVar 1))))
noncomputable def f_falling_of_sums : Fn := runF 4 c_falling_of_sums
noncomputable def c_with_power_sums : EvS := (sSeq (sOpn 2 (oLst aNil))
    (sSeq (sSet 3 (eC (.int 1)))
    (sSeq (sFor (iRv (aCons (eCall f_falling_of_sums 1 (aCons (eVar 0) aNil)) aNil)) (gN 4)
    (sSeq (sApp 2 (aCons (eI2c Int.mul okM (eVar 4) (eVar 3)) aNil))
    (sSet 3 (eI2c Int.mul okM (eVar 3) (eVar 1)))))
    (sRet (eCall f_primitive 1 (aCons (eVar 2) aNil))))))
noncomputable def f_with_power_sums : Fn := runF 3 c_with_power_sums
noncomputable def c_sums_by_powers : EvS := (sSeq (sSet 2 (eI2c Int.mul okM (eCall f_degree 1 (aCons (eVar 0) aNil)) (eCall f_degree 1 (aCons (eVar 1) aNil))))
    (sSeq (sSet 3 (eI2c Int.fdiv ne0 (eI2c Int.mul okM (eIxL (eVar 0) (eI1 ngI (eC (.int 1)))) (eIxL (eVar 1) (eI1 ngI (eC (.int 1))))) (eCall f_common_divisor 2 (aCons (eIxL (eVar 0) (eI1 ngI (eC (.int 1)))) (aCons (eIxL (eVar 1) (eI1 ngI (eC (.int 1)))) aNil)))))
    (sSeq (sSet 4 (eCall f_power_sums 2 (aCons (eCall f_falling 2 (aCons (eVar 0) (aCons (eVar 3) aNil))) (aCons (eVar 2) aNil))))
    (sSeq (sSet 5 (eCall f_power_sums 2 (aCons (eCall f_falling 2 (aCons (eVar 1) (aCons (eVar 3) aNil))) (aCons (eVar 2) aNil))))
    (sSeq (sOpn 6 (oLst aNil))
    (sSeq (sSet 7 (eFz (oLst (aCons (eC (.int 1)) aNil))))
    (sSeq (sFor (iR1 (aCons (eI2 Int.add (eVar 2) (eC (.int 1))) aNil)) (gN 8)
    (sSeq (sApp 6 (aCons (eSum (aCons (eFz (oComp 2 [5, 4, 8] (iEn (aCons (eVar 7) aNil)) (gT2 0 1) (eI2c Int.mul okM (eI2c Int.mul okM (eVar 1) (eIxL (eVar 3) (eVar 0))) (eIxL (eVar 2) (eI2 Int.sub (eVar 4) (eVar 0)))))) aNil)) aNil))
    (sSet 7 (eCall f_multiplied 2 (aCons (eVar 7) (aCons (eFz (oLst (aCons (eC (.int 1)) (aCons (eC (.int 1)) aNil)))) aNil))))))
    (sRet (eCall f_with_power_sums 2 (aCons (eVar 6) (aCons (eVar 3) aNil)))))))))))
noncomputable def f_sums_by_powers : Fn := runF 7 c_sums_by_powers
noncomputable def c_products_by_powers : EvS := (sSeq (sSet 2 (eI2c Int.mul okM (eCall f_degree 1 (aCons (eVar 0) aNil)) (eCall f_degree 1 (aCons (eVar 1) aNil))))
    (sSeq (sSet 3 (eCall f_power_sums 2 (aCons (eCall f_falling 2 (aCons (eVar 0) (aCons (eIxL (eVar 0) (eI1 ngI (eC (.int 1)))) aNil))) (aCons (eVar 2) aNil))))
    (sSeq (sSet 4 (eCall f_power_sums 2 (aCons (eCall f_falling 2 (aCons (eVar 1) (aCons (eIxL (eVar 1) (eI1 ngI (eC (.int 1)))) aNil))) (aCons (eVar 2) aNil))))
    (sRet (eCall f_with_power_sums 2 (aCons (eFz (oComp 2 [] (iZp (aCons (eVar 3) (aCons (eVar 4) aNil))) (gT2 0 1) (eI2c Int.mul okM (eVar 0) (eVar 1)))) (aCons (eI2c Int.mul okM (eIxL (eVar 0) (eI1 ngI (eC (.int 1)))) (eIxL (eVar 1) (eI1 ngI (eC (.int 1))))) aNil)))))))
noncomputable def f_products_by_powers : Fn := runF 3 c_products_by_powers
noncomputable def c_sums_of0 : EvS := (sSeq (sIf (eT (eB2 eqI (eCall f_degree 1 (aCons (eVar 0) aNil)) (eC (.int 1)))) (sRet (eCall f_primitive 1 (aCons (eCall f_composed 3 (aCons (eVar 1) (aCons (eVar 0) (aCons (eFz (oLst (aCons (eIxL (eVar 0) (eC (.int 1))) aNil))) aNil)))) aNil)))
    sNx)
    (sRet (eIf (eT (eB2 eqI (eCall f_degree 1 (aCons (eVar 1) aNil)) (eC (.int 1)))) (eCall (fun _ => none) 2 (aCons (eVar 1) (aCons (eVar 0) aNil))) (eCall f_sums_by_powers 2 (aCons (eVar 0) (aCons (eVar 1) aNil))))))
noncomputable def f_sums_of0 : Fn := runF 0 c_sums_of0
noncomputable def c_sums_of : EvS := (sSeq (sIf (eT (eB2 eqI (eCall f_degree 1 (aCons (eVar 0) aNil)) (eC (.int 1)))) (sRet (eCall f_primitive 1 (aCons (eCall f_composed 3 (aCons (eVar 1) (aCons (eVar 0) (aCons (eFz (oLst (aCons (eIxL (eVar 0) (eC (.int 1))) aNil))) aNil)))) aNil)))
    sNx)
    (sRet (eIf (eT (eB2 eqI (eCall f_degree 1 (aCons (eVar 1) aNil)) (eC (.int 1)))) (eCall f_sums_of0 2 (aCons (eVar 1) (aCons (eVar 0) aNil))) (eCall f_sums_by_powers 2 (aCons (eVar 0) (aCons (eVar 1) aNil))))))
noncomputable def f_sums_of : Fn := runF 0 c_sums_of
noncomputable def c_products_of0 : EvS := (sSeq (sIf (eT (eB2 eqI (eCall f_degree 1 (aCons (eVar 0) aNil)) (eC (.int 1)))) (sRet (eCall f_primitive 1 (aCons (eCall f_composed 3 (aCons (eVar 1) (aCons (eFz (oLst (aCons (eC (.int 0)) (aCons (eIxL (eVar 0) (eC (.int 1))) aNil)))) (aCons (eFz (oLst (aCons (eI1 ngI (eIxL (eVar 0) (eC (.int 0)))) aNil))) aNil)))) aNil)))
    sNx)
    (sRet (eIf (eT (eB2 eqI (eCall f_degree 1 (aCons (eVar 1) aNil)) (eC (.int 1)))) (eCall (fun _ => none) 2 (aCons (eVar 1) (aCons (eVar 0) aNil))) (eCall f_products_by_powers 2 (aCons (eVar 0) (aCons (eVar 1) aNil))))))
noncomputable def f_products_of0 : Fn := runF 0 c_products_of0
noncomputable def c_products_of : EvS := (sSeq (sIf (eT (eB2 eqI (eCall f_degree 1 (aCons (eVar 0) aNil)) (eC (.int 1)))) (sRet (eCall f_primitive 1 (aCons (eCall f_composed 3 (aCons (eVar 1) (aCons (eFz (oLst (aCons (eC (.int 0)) (aCons (eIxL (eVar 0) (eC (.int 1))) aNil)))) (aCons (eFz (oLst (aCons (eI1 ngI (eIxL (eVar 0) (eC (.int 0)))) aNil))) aNil)))) aNil)))
    sNx)
    (sRet (eIf (eT (eB2 eqI (eCall f_degree 1 (aCons (eVar 1) aNil)) (eC (.int 1)))) (eCall f_products_of0 2 (aCons (eVar 1) (aCons (eVar 0) aNil))) (eCall f_products_by_powers 2 (aCons (eVar 0) (aCons (eVar 1) aNil))))))
noncomputable def f_products_of : Fn := runF 0 c_products_of
noncomputable def c_opposites_of : EvS := (sRet (eCall f_primitive 1 (aCons (eCall f_composed 3 (aCons (eVar 0) (aCons (eFz (oLst (aCons (eC (.int 0)) (aCons (eI1 ngI (eC (.int 1))) aNil)))) (aCons (eFz (oLst (aCons (eC (.int 1)) aNil))) aNil)))) aNil)))
noncomputable def f_opposites_of : Fn := runF 0 c_opposites_of
noncomputable def c_inverses_of : EvS := (sRet (eCall f_primitive 1 (aCons (eCall f_composed 3 (aCons (eVar 0) (aCons (eFz (oLst (aCons (eC (.int 1)) aNil))) (aCons (eFz (oLst (aCons (eC (.int 0)) (aCons (eC (.int 1)) aNil)))) aNil)))) aNil)))
noncomputable def f_inverses_of : Fn := runF 0 c_inverses_of
noncomputable def c_near : EvS := (sRet (eCall f_narrowed 3 (aCons (eFp (eVar 0)) (aCons (eFq (eVar 0)) (aCons (eVar 1) aNil)))))
noncomputable def f_near : Fn := runF 0 c_near
noncomputable def c_pair_of_sums : EvS := (sRet (eTup (aCons (eCall f_plus 2 (aCons (eIxT (eVar 0) (eC (.int 0))) (aCons (eIxT (eVar 1) (eC (.int 0))) aNil))) (aCons (eCall f_plus 2 (aCons (eIxT (eVar 0) (eC (.int 1))) (aCons (eIxT (eVar 1) (eC (.int 1))) aNil))) aNil))))
noncomputable def f_pair_of_sums : Fn := runF 0 c_pair_of_sums
noncomputable def c_pair_of_products : EvS := (sSeq (sSet 2 (eCall f_stretch_of 1 (aCons (eVar 0) aNil)))
    (sSeq (sSet 3 (eCall f_stretch_of 1 (aCons (eVar 1) aNil)))
    (sSeq (sSet 4 (eFz (oLst (aCons (eI2c Int.mul okM (eIxT (eVar 2) (eC (.int 0))) (eIxT (eVar 3) (eC (.int 0)))) (aCons (eI2c Int.mul okM (eIxT (eVar 2) (eC (.int 0))) (eIxT (eVar 3) (eC (.int 1)))) (aCons (eI2c Int.mul okM (eIxT (eVar 2) (eC (.int 1))) (eIxT (eVar 3) (eC (.int 0)))) (aCons (eI2c Int.mul okM (eIxT (eVar 2) (eC (.int 1))) (eIxT (eVar 3) (eC (.int 1)))) aNil)))))))
    (sSeq (sSet 5 (eI2c Int.mul okM (eIxT (eVar 2) (eC (.int 2))) (eIxT (eVar 3) (eC (.int 2)))))
    (sRet (eTup (aCons (eCall f_ratio 2 (aCons (eMinL (aCons (eVar 4) aNil)) (aCons (eVar 5) aNil))) (aCons (eCall f_ratio 2 (aCons (eMaxL (aCons (eVar 4) aNil)) (aCons (eVar 5) aNil))) aNil))))))))
noncomputable def f_pair_of_products : Fn := runF 4 c_pair_of_products
noncomputable def c_opposite : EvS := (sSeq (sSet 1 (eIxT (eFq (eVar 0)) (eC (.int 0))))
    (sSeq (sSet 2 (eIxT (eFq (eVar 0)) (eC (.int 1))))
    (sRet (eMk (aCons (eCall f_opposites_of 1 (aCons (eFp (eVar 0)) aNil)) (aCons (eTup (aCons (eTup (aCons (eI1 ngI (eIxT (eVar 2) (eC (.int 0)))) (aCons (eIxT (eVar 2) (eC (.int 1))) aNil))) (aCons (eTup (aCons (eI1 ngI (eIxT (eVar 1) (eC (.int 0)))) (aCons (eIxT (eVar 1) (eC (.int 1))) aNil))) aNil))) (aCons (eCall f_weight_of 1 (aCons (eVar 0) aNil)) aNil)))))))
noncomputable def f_opposite : Fn := runF 2 c_opposite
noncomputable def c_pair_beside_nought : EvS := (sSeq (sSet 1 (eFq (eVar 0)))
    (sSeq (sSet 2 (eTup (aCons (eC (.int 1)) (aCons (eC (.int 16)) aNil))))
    (sSeq (sWh (eT (eB2 neI (eI2c Int.mul okM (eCall f_sign 1 (aCons (eIxT (eIxT (eVar 1) (eC (.int 0))) (eC (.int 0))) aNil)) (eCall f_sign 1 (aCons (eIxT (eIxT (eVar 1) (eC (.int 1))) (eC (.int 0))) aNil))) (eC (.int 1))))
    (sSeq (sSet 1 (eCall f_near 2 (aCons (eVar 0) (aCons (eVar 2) aNil))))
    (sSet 2 (eCall f_times 2 (aCons (eVar 2) (aCons (eVar 2) aNil))))))
    (sRet (eVar 1)))))
noncomputable def f_pair_beside_nought : Fn := runF 2 c_pair_beside_nought
noncomputable def c_inverse : EvS := (sSeq (sIf (eT (eB2 eqI (eCall f_sign_of 1 (aCons (eVar 0) aNil)) (eC (.int 0)))) sNo
    sNx)
    (sSeq (sSet 1 (eCall f_pair_beside_nought 1 (aCons (eVar 0) aNil)))
    (sSeq (sSet 2 (eIxT (eVar 1) (eC (.int 0))))
    (sSeq (sSet 3 (eIxT (eVar 1) (eC (.int 1))))
    (sSeq (sSet 4 (eTup (aCons (eCall f_ratio 2 (aCons (eIxT (eVar 3) (eC (.int 1))) (aCons (eIxT (eVar 3) (eC (.int 0))) aNil))) (aCons (eCall f_ratio 2 (aCons (eIxT (eVar 2) (eC (.int 1))) (aCons (eIxT (eVar 2) (eC (.int 0))) aNil))) aNil))))
    (sRet (eMk (aCons (eCall f_inverses_of 1 (aCons (eFp (eVar 0)) aNil)) (aCons (eVar 4) (aCons (eCall f_weight_of 1 (aCons (eVar 0) aNil)) aNil))))))))))
noncomputable def f_inverse : Fn := runF 4 c_inverse
noncomputable def c_law_common : EvS := (sSeq (sSet 0 (eAbs (aCons (eVar 0) aNil)))
    (sSeq (sSet 1 (eAbs (aCons (eVar 1) aNil)))
    (sSeq (sWh (eT (eB2 neI (eVar 1) (eC (.int 0))))
    (sSeq (sSet 2 (eI2 Int.sub (eVar 0) (eI2c Int.mul okM (eI2c Int.fdiv ne0 (eVar 0) (eVar 1)) (eVar 1))))
    (sSeq (sSet 0 (eVar 1))
    (sSet 1 (eVar 2)))))
    (sRet (eVar 0)))))
noncomputable def f_law_common : Fn := runF 1 c_law_common
noncomputable def c_law_ratio : EvS := (sSeq (sSet 2 (eCall f_law_common 2 (aCons (eVar 0) (aCons (eVar 1) aNil))))
    (sRet (eTup (aCons (eI2c Int.fdiv ne0 (eVar 0) (eVar 2)) (aCons (eI2c Int.fdiv ne0 (eVar 1) (eVar 2)) aNil)))))
noncomputable def f_law_ratio : Fn := runF 1 c_law_ratio
end V25
namespace V25
open PySem PyProof.Rows L2 SF CV
section
variable {P : Program} {w : World} {K : PySem.W.Frag} {mg : Str → Option Value} {base : Heap} {C fI : Addr} {fd : FuncData}
theorem ok_sign
    (D : DefB K mg "sign" s_sign ["number"]) : FnB P w K mg base 34 "sign" ["number"] (spEv K C f_sign 1) := by
  refine D.ok sc_sign (fun vs H Q E h => spEv_len h) (fun f cdv A outer s H vs Q E hr h => ?_)
  refine ⟨_, (pss_cons (ps_if (pt_cmpR op_lt (pv 0) pe_int (nomark _))
    (pss_one (ps_ret (pe_un un_neg pe_int)))
    pss_nil)
    (pss_one (ps_ret (pe_ifExp (pt_cmpR op_gt (pv 0) pe_int (nomark _)) pe_int pe_int)))), ?_⟩
  exact run_ok (s := c_sign) (n := 0) (ss_seq (ss_if (s_test (s_lt s_var s_int)) (ss_ret (s_ng s_int))
    ss_nx)
    (ss_ret (s_if (s_test (s_gt s_var s_int)) s_int s_int))) rfl h
theorem ok_power (hT : P.given.tree = none)
    (D : DefB K mg "power" s_power ["number", "many"]) : FnB P w K mg base 34 "power" ["number", "many"] (spEv K C f_power 2) := by
  refine D.ok sc_power (fun vs H Q E h => spEv_len h) (fun f cdv A outer s H vs Q E hr h => ?_)
  refine ⟨_, (pss_cons (ps_set (i := 2) sc_power.nd rfl (Or.inl rfl) pe_int)
    (pss_cons (ps_set (i := 3) sc_power.nd rfl (Or.inl rfl) (pv 0))
    (pss_cons (ps_set (i := 4) sc_power.nd rfl (Or.inl rfl) (pv 1))
    (pss_cons (ps_while PassesOwn.never (pt_cmpR op_gt (pv 4) pe_int (nomark _))
    (pss_cons (ps_if (pt_cmpR op_eq (pe_op op_modN (pv 4) pe_int) pe_int (nomark _))
    (pss_one (ps_set (i := 2) sc_power.nd rfl (Or.inl rfl) (pe_op op_mulL (pv 2) (pv 3))))
    pss_nil)
    (pss_cons (ps_set (i := 4) sc_power.nd rfl (Or.inl rfl) (pe_op (op_fdivP ⟨hT, ⟨_, _, rfl, rfl, rfl, rfl, rfl⟩, hr.py⟩) (pv 4) pe_int))
    (pss_one (ps_if (pt_cmpR op_gt (pv 4) pe_int (nomark _))
    (pss_one (ps_set (i := 3) sc_power.nd rfl (Or.inl rfl) (pe_op op_mulL (pv 3) (pv 3))))
    pss_nil)))))
    (pss_one (ps_ret (pv 2))))))), ?_⟩
  exact run_ok (s := c_power) (n := 3) (ss_seq (ss_set s_int)
    (ss_seq (ss_set s_var)
    (ss_seq (ss_set s_var)
    (ss_seq (ss_wh (s_test (s_gt s_var s_int))
    (ss_seq (ss_if (s_test (s_eq (s_mod s_var s_int) s_int)) (ss_set (s_mul s_var s_var))
    ss_nx)
    (ss_seq (ss_set (s_div s_var s_int))
    (ss_if (s_test (s_gt s_var s_int)) (ss_set (s_mul s_var s_var))
    ss_nx))))
    (ss_ret s_var))))) rfl h
theorem ok_ratio (hT : P.given.tree = none) (g_common_divisor : FnB P w K mg base 34 "common_divisor" ["one", "other"] (spEv K C f_common_divisor 2))
    (D : DefB K mg "ratio" s_ratio ["top", "under"]) : FnB P w K mg base 35 "ratio" ["top", "under"] (spEv K C f_ratio 2) := by
  refine D.ok sc_ratio (fun vs H Q E h => spEv_len h) (fun f cdv A outer s H vs Q E hr h => ?_)
  refine ⟨_, (pss_cons (ps_if (pt_cmpR op_eq (pv 1) pe_int (nomark _))
    (pss_one ps_never)
    pss_nil)
    (pss_cons (ps_set (i := 2) sc_ratio.nd rfl (Or.inl rfl) (pe_fn g_common_divisor hr (pa_cons (pv 0) (pa_cons (pv 1) pa_nil))))
    (pss_cons (ps_if (pt_cmpR op_lt (pv 1) pe_int (nomark _))
    (pss_one (ps_set (i := 2) sc_ratio.nd rfl (Or.inl rfl) (pe_un un_neg (pv 2))))
    pss_nil)
    (pss_one (ps_ret (pe_tup (pa_cons (pe_op (op_fdivP ⟨hT, ⟨_, _, rfl, rfl, rfl, rfl, rfl⟩, hr.py⟩) (pv 0) (pv 2)) (pa_cons (pe_op (op_fdivP ⟨hT, ⟨_, _, rfl, rfl, rfl, rfl, rfl⟩, hr.py⟩) (pv 1) (pv 2)) pa_nil)))))))), ?_⟩
  exact run_ok (s := c_ratio) (n := 1) (ss_seq (ss_if (s_test (s_eq s_var s_int)) ss_no
    ss_nx)
    (ss_seq (ss_set (s_call (s_cons s_var (s_cons s_var s_nil))))
    (ss_seq (ss_if (s_test (s_lt s_var s_int)) (ss_set (s_ng s_var))
    ss_nx)
    (ss_ret (s_tup (s_cons (s_div s_var s_var) (s_cons (s_div s_var s_var) s_nil))))))) rfl h
theorem ok_plus (g_ratio : FnB P w K mg base 35 "ratio" ["top", "under"] (spEv K C f_ratio 2))
    (D : DefB K mg "plus" s_plus ["one", "other"]) : FnB P w K mg base 36 "plus" ["one", "other"] (spEv K C f_plus 2) := by
  refine D.ok sc_plus (fun vs H Q E h => spEv_len h) (fun f cdv A outer s H vs Q E hr h => ?_)
  refine ⟨_, (pss_one (ps_ret (pe_fn g_ratio hr (pa_cons (pe_op op_add (pe_op op_mulL (pe_ix ix_tup (pv 0) pe_int (fun _ _ => rfl)) (pe_ix ix_tup (pv 1) pe_int (fun _ _ => rfl))) (pe_op op_mulL (pe_ix ix_tup (pv 1) pe_int (fun _ _ => rfl)) (pe_ix ix_tup (pv 0) pe_int (fun _ _ => rfl)))) (pa_cons (pe_op op_mulL (pe_ix ix_tup (pv 0) pe_int (fun _ _ => rfl)) (pe_ix ix_tup (pv 1) pe_int (fun _ _ => rfl))) pa_nil))))), ?_⟩
  exact run_ok (s := c_plus) (n := 0) (ss_ret (s_call (s_cons (s_add (s_mul (s_ixT s_var s_int) (s_ixT s_var s_int)) (s_mul (s_ixT s_var s_int) (s_ixT s_var s_int))) (s_cons (s_mul (s_ixT s_var s_int) (s_ixT s_var s_int)) s_nil)))) rfl h
theorem ok_times (g_ratio : FnB P w K mg base 35 "ratio" ["top", "under"] (spEv K C f_ratio 2))
    (D : DefB K mg "times" s_times ["one", "other"]) : FnB P w K mg base 36 "times" ["one", "other"] (spEv K C f_times 2) := by
  refine D.ok sc_times (fun vs H Q E h => spEv_len h) (fun f cdv A outer s H vs Q E hr h => ?_)
  refine ⟨_, (pss_one (ps_ret (pe_fn g_ratio hr (pa_cons (pe_op op_mulL (pe_ix ix_tup (pv 0) pe_int (fun _ _ => rfl)) (pe_ix ix_tup (pv 1) pe_int (fun _ _ => rfl))) (pa_cons (pe_op op_mulL (pe_ix ix_tup (pv 0) pe_int (fun _ _ => rfl)) (pe_ix ix_tup (pv 1) pe_int (fun _ _ => rfl))) pa_nil))))), ?_⟩
  exact run_ok (s := c_times) (n := 0) (ss_ret (s_call (s_cons (s_mul (s_ixT s_var s_int) (s_ixT s_var s_int)) (s_cons (s_mul (s_ixT s_var s_int) (s_ixT s_var s_int)) s_nil)))) rfl h
theorem ok_middle (g_ratio : FnB P w K mg base 35 "ratio" ["top", "under"] (spEv K C f_ratio 2))
    (D : DefB K mg "middle" s_middle ["one", "other"]) : FnB P w K mg base 36 "middle" ["one", "other"] (spEv K C f_middle 2) := by
  refine D.ok sc_middle (fun vs H Q E h => spEv_len h) (fun f cdv A outer s H vs Q E hr h => ?_)
  refine ⟨_, (pss_one (ps_ret (pe_fn g_ratio hr (pa_cons (pe_op op_add (pe_op op_mulL (pe_ix ix_tup (pv 0) pe_int (fun _ _ => rfl)) (pe_ix ix_tup (pv 1) pe_int (fun _ _ => rfl))) (pe_op op_mulL (pe_ix ix_tup (pv 1) pe_int (fun _ _ => rfl)) (pe_ix ix_tup (pv 0) pe_int (fun _ _ => rfl)))) (pa_cons (pe_op op_mulL (pe_op op_mulL pe_int (pe_ix ix_tup (pv 0) pe_int (fun _ _ => rfl))) (pe_ix ix_tup (pv 1) pe_int (fun _ _ => rfl))) pa_nil))))), ?_⟩
  exact run_ok (s := c_middle) (n := 0) (ss_ret (s_call (s_cons (s_add (s_mul (s_ixT s_var s_int) (s_ixT s_var s_int)) (s_mul (s_ixT s_var s_int) (s_ixT s_var s_int))) (s_cons (s_mul (s_mul s_int (s_ixT s_var s_int)) (s_ixT s_var s_int)) s_nil)))) rfl h
theorem ok_order_of (g_sign : FnB P w K mg base 34 "sign" ["number"] (spEv K C f_sign 1))
    (D : DefB K mg "order_of" s_order_of ["one", "other"]) : FnB P w K mg base 35 "order_of" ["one", "other"] (spEv K C f_order_of 2) := by
  refine D.ok sc_order_of (fun vs H Q E h => spEv_len h) (fun f cdv A outer s H vs Q E hr h => ?_)
  refine ⟨_, (pss_one (ps_ret (pe_fn g_sign hr (pa_cons (pe_op op_sub (pe_op op_mulL (pe_ix ix_tup (pv 0) pe_int (fun _ _ => rfl)) (pe_ix ix_tup (pv 1) pe_int (fun _ _ => rfl))) (pe_op op_mulL (pe_ix ix_tup (pv 1) pe_int (fun _ _ => rfl)) (pe_ix ix_tup (pv 0) pe_int (fun _ _ => rfl)))) pa_nil)))), ?_⟩
  exact run_ok (s := c_order_of) (n := 0) (ss_ret (s_call (s_cons (s_sub (s_mul (s_ixT s_var s_int) (s_ixT s_var s_int)) (s_mul (s_ixT s_var s_int) (s_ixT s_var s_int))) s_nil))) rfl h
theorem ok_trimmed (T : Nm mg)
    (D : DefB K mg "trimmed" s_trimmed ["row"]) : FnB P w K mg base 34 "trimmed" ["row"] (spEv K C f_trimmed 1) := by
  refine D.ok sc_trimmed (fun vs H Q E h => spEv_len h) (fun f cdv A outer s H vs Q E hr h => ?_)
  refine ⟨_, (pss_cons (ps_set (i := 1) sc_trimmed.nd rfl (Or.inl rfl) (pe_callB call_len_seq rfl T.n_len boot_len (pa_cons (pv 0) pa_nil)))
    (pss_cons (ps_while PassesOwn.never (PW.pt (pw_and (pt_cmpR op_gt (pv 1) pe_int (nomark _)) (pw_and1 (pt_cmpR op_eq (pe_ix ix_list (pv 0) (pe_op op_sub (pv 1) pe_int) (fun _ _ => rfl)) pe_int (nomark _)))))
    (pss_one (ps_set (i := 1) sc_trimmed.nd rfl (Or.inl rfl) (pe_op op_sub (pv 1) pe_int))))
    (pss_one (ps_ret (pe_slice sl_list (pv 0) po_none (po_some (pv 1))))))), ?_⟩
  exact run_ok (s := c_trimmed) (n := 1) (ss_seq (ss_set (s_len (s_cons s_var s_nil)))
    (ss_seq (ss_wh (s_and (s_test (s_gt s_var s_int)) (s_test (s_eq (s_ixL s_var (s_sub s_var s_int)) s_int)))
    (ss_set (s_sub s_var s_int)))
    (ss_ret (s_fz (s_sl s_var s_pno (s_pat s_var)))))) rfl h
theorem ok_degree (T : Nm mg)
    (D : DefB K mg "degree" s_degree ["poly"]) : FnB P w K mg base 34 "degree" ["poly"] (spEv K C f_degree 1) := by
  refine D.ok sc_degree (fun vs H Q E h => spEv_len h) (fun f cdv A outer s H vs Q E hr h => ?_)
  refine ⟨_, (pss_one (ps_ret (pe_op op_sub (pe_callB call_len_seq rfl T.n_len boot_len (pa_cons (pv 0) pa_nil)) pe_int))), ?_⟩
  exact run_ok (s := c_degree) (n := 0) (ss_ret (s_sub (s_len (s_cons s_var s_nil)) s_int)) rfl h
end
end V25
namespace V25
open PySem PyProof.Rows L2 SF CV
section
variable {P : Program} {w : World} {K : PySem.W.Frag} {mg : Str → Option Value} {base : Heap} {C fI : Addr} {fd : FuncData}
theorem ok_added (T : Nm mg) (g_trimmed : FnB P w K mg base 34 "trimmed" ["row"] (spEv K C f_trimmed 1))
    (D : DefB K mg "added" s_added ["one", "other"]) : FnB P w K mg base 35 "added" ["one", "other"] (spEv K C f_added 2) := by
  refine D.ok sc_added (fun vs H Q E h => spEv_len h) (fun f cdv A outer s H vs Q E hr h => ?_)
  refine ⟨_, (pss_cons (ps_set (i := 2) sc_added.nd rfl (Or.inl rfl) (pe_op op_cat (pv 0) (pe_op op_rep (pe_lst (pa_cons pe_int pa_nil)) (pe_op op_sub (pe_callB call_len_seq rfl T.n_len boot_len (pa_cons (pv 1) pa_nil)) (pe_callB call_len_seq rfl T.n_len boot_len (pa_cons (pv 0) pa_nil))))))
    (pss_cons (ps_for PassesOwn.never rfl (pi_enum rfl T.n_enumerate (pa_cons (pv 1) pa_nil)) (pg_tup rfl (pgs_cons (pg_name (i := 3) sc_added.nd rfl (Or.inl rfl)) (pgs_cons (pg_name (i := 4) sc_added.nd rfl (Or.inl rfl)) pgs_nil)))
    (pss_one (ps_asg (pe_op op_add (pe_ix ix_list (pv 2) (pv 3) (fun _ _ => rfl)) (pv 4)) (pg_sub (pv 2) (pv 3) set_list))))
    (pss_one (ps_ret (pe_fn g_trimmed hr (pa_cons (pv 2) pa_nil)))))), ?_⟩
  exact run_ok (s := c_added) (n := 3) (ss_seq (ss_opn (s_cat s_var (s_fz (s_rep (s_fz (s_lst (s_cons s_int s_nil))) (s_sub (s_len (s_cons s_var s_nil)) (s_len (s_cons s_var s_nil)))))))
    (ss_seq (ss_for (si_en (s_cons s_var s_nil)) sg_t2
    (ss_put s_var (s_add (s_ixO s_var) s_var)))
    (ss_ret (s_call (s_cons s_var s_nil))))) rfl h
theorem ok_multiplied (T : Nm mg)
    (D : DefB K mg "multiplied" s_multiplied ["one", "other"]) : FnB P w K mg base 34 "multiplied" ["one", "other"] (spEv K C f_multiplied 2) := by
  refine D.ok sc_multiplied (fun vs H Q E h => spEv_len h) (fun f cdv A outer s H vs Q E hr h => ?_)
  refine ⟨_, (pss_cons (ps_if (PW.pt (pw_or (pt_not (pt_truth (pv 0) (fun _ => rfl))) (pw_or1 (pt_not (pt_truth (pv 1) (fun _ => rfl))))))
    (pss_one (ps_ret (pe_lst pa_nil)))
    pss_nil)
    (pss_cons (ps_set (i := 2) sc_multiplied.nd rfl (Or.inl rfl) (pe_op op_rep (pe_lst (pa_cons pe_int pa_nil)) (pe_op op_sub (pe_op op_add (pe_callB call_len_seq rfl T.n_len boot_len (pa_cons (pv 0) pa_nil)) (pe_callB call_len_seq rfl T.n_len boot_len (pa_cons (pv 1) pa_nil))) pe_int)))
    (pss_cons (ps_for PassesOwn.never rfl (pi_enum rfl T.n_enumerate (pa_cons (pv 0) pa_nil)) (pg_tup rfl (pgs_cons (pg_name (i := 3) sc_multiplied.nd rfl (Or.inl rfl)) (pgs_cons (pg_name (i := 4) sc_multiplied.nd rfl (Or.inl rfl)) pgs_nil)))
    (pss_one (ps_for PassesOwn.never rfl (pi_enum rfl T.n_enumerate (pa_cons (pv 1) pa_nil)) (pg_tup rfl (pgs_cons (pg_name (i := 5) sc_multiplied.nd rfl (Or.inl rfl)) (pgs_cons (pg_name (i := 6) sc_multiplied.nd rfl (Or.inl rfl)) pgs_nil)))
    (pss_one (ps_asg (pe_op op_add (pe_ix ix_list (pv 2) (pe_op op_add (pv 3) (pv 5)) (fun _ _ => rfl)) (pe_op op_mulL (pv 4) (pv 6))) (pg_sub (pv 2) (pe_op op_add (pv 3) (pv 5)) set_list))))))
    (pss_one (ps_ret (pv 2)))))), ?_⟩
  exact run_ok (s := c_multiplied) (n := 5) (ss_seq (ss_if (s_or (s_not (s_tru s_var)) (s_not (s_tru s_var))) (ss_ret (s_fz (s_lst s_nil)))
    ss_nx)
    (ss_seq (ss_opn (s_rep (s_fz (s_lst (s_cons s_int s_nil))) (s_sub (s_add (s_len (s_cons s_var s_nil)) (s_len (s_cons s_var s_nil))) s_int)))
    (ss_seq (ss_for (si_en (s_cons s_var s_nil)) sg_t2
    (ss_for (si_en (s_cons s_var s_nil)) sg_t2
    (ss_put (s_add s_var s_var) (s_add (s_ixO (s_add s_var s_var)) (s_mul s_var s_var)))))
    (ss_ret s_var)))) rfl h
theorem ok_scaled
    (D : DefB K mg "scaled" s_scaled ["poly", "factor"]) : FnB P w K mg base 34 "scaled" ["poly", "factor"] (spEv K C f_scaled 2) := by
  refine D.ok sc_scaled (fun vs H Q E h => spEv_len h) (fun f cdv A outer s H vs Q E hr h => ?_)
  refine ⟨_, (pss_cons (ps_if (pt_cmpR op_eq (pv 1) pe_int (nomark _))
    (pss_one (ps_ret (pe_lst pa_nil)))
    pss_nil)
    (pss_one (ps_ret (pe_comp rfl rfl (compOk (own := ["number"]) (fr := [1]) (fs := ["factor"]) (by with_unfolding_all rfl) rfl (by decide +kernel) (by decide +kernel) (by exact ⟨rfl, trivial⟩) (by with_unfolding_all rfl) (by exact ⟨⟨rfl, rfl, rfl, Or.inl rfl⟩, trivial⟩)) (pi_list (pv 0)) (fun _ _ _ _ _ => (pg_name (i := 0) (show List.Nodup (["number", "factor"] : List Str) by decide +kernel) rfl (Or.inl rfl) (Or.inr rfl))) (fun _ _ _ _ _ => (pe_op op_mulL (pv 0) (pv 1))))))), ?_⟩
  exact run_ok (s := c_scaled) (n := 0) (ss_seq (ss_if (s_test (s_eq s_var s_int)) (ss_ret (s_fz (s_lst s_nil)))
    ss_nx)
    (ss_ret (s_fz (s_comp rfl (si_lst s_var) sg_n (s_mul s_var s_var))))) rfl h
theorem ok_derivative (T : Nm mg)
    (D : DefB K mg "derivative" s_derivative ["poly"]) : FnB P w K mg base 34 "derivative" ["poly"] (spEv K C f_derivative 1) := by
  refine D.ok sc_derivative (fun vs H Q E h => spEv_len h) (fun f cdv A outer s H vs Q E hr h => ?_)
  refine ⟨_, (pss_one (ps_ret (pe_slice sl_list (pe_comp rfl rfl (compOk (own := ["power", "number"]) (fr := []) (fs := []) (by with_unfolding_all rfl) rfl (by decide +kernel) (by decide +kernel) (by exact trivial) (by with_unfolding_all rfl) (by exact trivial)) (pi_enum rfl T.n_enumerate (pa_cons (pv 0) pa_nil)) (fun _ _ _ _ _ => (pg_tupK (K := K) (n := 2) rfl rfl (pgs_cons (pg_name (i := 0) (show List.Nodup (["power", "number"] : List Str) by decide +kernel) rfl (Or.inl rfl) (Or.inr rfl)) (pgs_cons (pg_name (i := 1) (show List.Nodup (["power", "number"] : List Str) by decide +kernel) rfl (Or.inl rfl) (Or.inr rfl)) pgs_nil)) rfl rfl)) (fun _ _ _ _ _ => (pe_op op_mulL (pv 0) (pv 1)))) (po_some pe_int) po_none))), ?_⟩
  exact run_ok (s := c_derivative) (n := 0) (ss_ret (s_fz (s_sl (s_fz (s_comp rfl (si_en (s_cons s_var s_nil)) sg_t2 (s_mul s_var s_var))) (s_pat s_int) s_pno))) rfl h
theorem ok_content (g_common_divisor : FnB P w K mg base 34 "common_divisor" ["one", "other"] (spEv K C f_common_divisor 2))
    (D : DefB K mg "content" s_content ["poly"]) : FnB P w K mg base 35 "content" ["poly"] (spEv K C f_content 1) := by
  refine D.ok sc_content (fun vs H Q E h => spEv_len h) (fun f cdv A outer s H vs Q E hr h => ?_)
  refine ⟨_, (pss_cons (ps_set (i := 1) sc_content.nd rfl (Or.inl rfl) pe_int)
    (pss_cons (ps_for PassesOwn.never rfl (pi_list (pv 0)) (pg_name (i := 2) sc_content.nd rfl (Or.inl rfl))
    (pss_one (ps_set (i := 1) sc_content.nd rfl (Or.inl rfl) (pe_fn g_common_divisor hr (pa_cons (pv 1) (pa_cons (pv 2) pa_nil))))))
    (pss_one (ps_ret (pe_ifExp (PW.pt (pw_and (pt_truth (pv 0) (fun _ => rfl)) (pw_and1 (pt_cmpR op_lt (pe_ix ix_list (pv 0) (pe_un un_neg pe_int) (fun _ _ => rfl)) pe_int (nomark _))))) (pe_un un_neg (pv 1)) (pv 1)))))), ?_⟩
  exact run_ok (s := c_content) (n := 2) (ss_seq (ss_set s_int)
    (ss_seq (ss_for (si_lst s_var) sg_n
    (ss_set (s_call (s_cons s_var (s_cons s_var s_nil)))))
    (ss_ret (s_if (s_and (s_tru s_var) (s_test (s_lt (s_ixL s_var (s_ng s_int)) s_int))) (s_ng s_var) s_var)))) rfl h
theorem ok_primitive (hT : P.given.tree = none) (g_content : FnB P w K mg base 35 "content" ["poly"] (spEv K C f_content 1))
    (D : DefB K mg "primitive" s_primitive ["poly"]) : FnB P w K mg base 36 "primitive" ["poly"] (spEv K C f_primitive 1) := by
  refine D.ok sc_primitive (fun vs H Q E h => spEv_len h) (fun f cdv A outer s H vs Q E hr h => ?_)
  refine ⟨_, (pss_cons (ps_set (i := 1) sc_primitive.nd rfl (Or.inr rfl) (pe_fn g_content hr (pa_cons (pv 0) pa_nil)))
    (pss_one (ps_ret (pe_comp rfl rfl (compOk (own := ["number"]) (fr := [1]) (fs := ["shared"]) (by with_unfolding_all rfl) rfl (by decide +kernel) (by decide +kernel) (by exact ⟨rfl, trivial⟩) (by with_unfolding_all rfl) (by exact ⟨⟨rfl, rfl, rfl, Or.inl rfl⟩, trivial⟩)) (pi_list (pv 0)) (fun _ _ _ _ _ => (pg_name (i := 0) (show List.Nodup (["number", "shared"] : List Str) by decide +kernel) rfl (Or.inl rfl) (Or.inr rfl))) (fun _ _ _ _ _ => (pe_op (op_fdivP ⟨hT, ⟨_, _, rfl, rfl, rfl, rfl, rfl⟩, hr.py⟩) (pv 0) (pv 1))))))), ?_⟩
  exact run_ok (s := c_primitive) (n := 1) (ss_seq (ss_set (s_call (s_cons s_var s_nil)))
    (ss_ret (s_fz (s_comp rfl (si_lst s_var) sg_n (s_div s_var s_var))))) rfl h
theorem ok_value_at (T : Nm mg)
    (D : DefB K mg "value_at" s_value_at ["poly", "point"]) : FnB P w K mg base 34 "value_at" ["poly", "point"] (spEv K C f_value_at 2) := by
  refine D.ok sc_value_at (fun vs H Q E h => spEv_len h) (fun f cdv A outer s H vs Q E hr h => ?_)
  refine ⟨_, (pss_cons (ps_set (i := 2) sc_value_at.nd rfl (Or.inl rfl) pe_int)
    (pss_cons (ps_for PassesOwn.never rfl (pi_rev rfl T.n_reversed (pa_cons (pv 0) pa_nil)) (pg_name (i := 3) sc_value_at.nd rfl (Or.inl rfl))
    (pss_one (ps_set (i := 2) sc_value_at.nd rfl (Or.inl rfl) (pe_op op_add (pe_op op_mulL (pv 2) (pv 1)) (pv 3)))))
    (pss_one (ps_ret (pv 2))))), ?_⟩
  exact run_ok (s := c_value_at) (n := 2) (ss_seq (ss_set s_int)
    (ss_seq (ss_for (si_rv (s_cons s_var s_nil)) sg_n
    (ss_set (s_add (s_mul s_var s_var) s_var)))
    (ss_ret s_var))) rfl h
theorem ok_spread (hT : P.given.tree = none)
    (D : DefB K mg "spread" s_spread ["value", "point"]) : FnB P w K mg base 34 "spread" ["value", "point"] (spEv K C f_spread 2) := by
  refine D.ok sc_spread (fun vs H Q E h => spEv_len h) (fun f cdv A outer s H vs Q E hr h => ?_)
  refine ⟨_, (pss_cons (ps_set (i := 2) sc_spread.nd rfl (Or.inl rfl) (pe_lst pa_nil))
    (pss_cons (ps_set (i := 3) sc_spread.nd rfl (Or.inl rfl) (pv 0))
    (pss_cons (ps_while PassesOwn.never (pt_truth (pv 3) (fun _ => rfl))
    (pss_cons (ps_set (i := 4) sc_spread.nd rfl (Or.inl rfl) (pe_op op_modN (pv 3) (pv 1)))
    (pss_cons (ps_if (pt_cmpR op_gt (pe_op op_mulL pe_int (pv 4)) (pv 1) (nomark _))
    (pss_one (ps_set (i := 4) sc_spread.nd rfl (Or.inl rfl) (pe_op op_sub (pv 4) (pv 1))))
    pss_nil)
    (pss_cons (ps_expr (pe_bm PySem.F.plainAttrs_list PySem.F.slot_list_append PySem.F.type_list_append mt_append (pv 2) (pa_cons (pv 4) pa_nil)))
    (pss_one (ps_set (i := 3) sc_spread.nd rfl (Or.inl rfl) (pe_op (op_fdivP ⟨hT, ⟨_, _, rfl, rfl, rfl, rfl, rfl⟩, hr.py⟩) (pe_op op_sub (pv 3) (pv 4)) (pv 1))))))))
    (pss_one (ps_ret (pv 2)))))), ?_⟩
  exact run_ok (s := c_spread) (n := 3) (ss_seq (ss_opn (s_lst s_nil))
    (ss_seq (ss_set s_var)
    (ss_seq (ss_wh (s_tru s_var)
    (ss_seq (ss_set (s_mod s_var s_var))
    (ss_seq (ss_if (s_test (s_gt (s_mul s_int s_var) s_var)) (ss_set (s_sub s_var s_var))
    ss_nx)
    (ss_seq (ss_app (s_cons s_var s_nil))
    (ss_set (s_div (s_sub s_var s_var) s_var))))))
    (ss_ret s_var)))) rfl h
theorem ok_divided (T : Nm mg) (hT : P.given.tree = none)
    (D : DefB K mg "divided" s_divided ["poly", "divisor"]) : FnB P w K mg base 34 "divided" ["poly", "divisor"] (spEv K C f_divided 2) := by
  refine D.ok sc_divided (fun vs H Q E h => spEv_len h) (fun f cdv A outer s H vs Q E hr h => ?_)
  refine ⟨_, (pss_cons (ps_set (i := 2) sc_divided.nd rfl (Or.inl rfl) (pe_callTy call_list_of rfl T.n_list boot_list (pa_cons (pv 0) pa_nil)))
    (pss_cons (ps_set (i := 3) sc_divided.nd rfl (Or.inl rfl) (pe_lst pa_nil))
    (pss_cons (ps_while PassesOwn.never (pt_cmpR op_ge (pe_callB call_len_seq rfl T.n_len boot_len (pa_cons (pv 2) pa_nil)) (pe_callB call_len_seq rfl T.n_len boot_len (pa_cons (pv 1) pa_nil)) (nomark _))
    (pss_cons (ps_set (i := 4) sc_divided.nd rfl (Or.inl rfl) (pe_op (op_fdivP ⟨hT, ⟨_, _, rfl, rfl, rfl, rfl, rfl⟩, hr.py⟩) (pe_ix ix_list (pv 2) (pe_un un_neg pe_int) (fun _ _ => rfl)) (pe_ix ix_list (pv 1) (pe_un un_neg pe_int) (fun _ _ => rfl))))
    (pss_cons (ps_set (i := 5) sc_divided.nd rfl (Or.inl rfl) (pe_op op_sub (pe_callB call_len_seq rfl T.n_len boot_len (pa_cons (pv 2) pa_nil)) (pe_callB call_len_seq rfl T.n_len boot_len (pa_cons (pv 1) pa_nil))))
    (pss_cons (ps_for PassesOwn.never rfl (pi_enum rfl T.n_enumerate (pa_cons (pv 1) pa_nil)) (pg_tup rfl (pgs_cons (pg_name (i := 6) sc_divided.nd rfl (Or.inl rfl)) (pgs_cons (pg_name (i := 7) sc_divided.nd rfl (Or.inl rfl)) pgs_nil)))
    (pss_one (ps_asg (pe_op op_sub (pe_ix ix_list (pv 2) (pe_op op_add (pv 5) (pv 6)) (fun _ _ => rfl)) (pe_op op_mulL (pv 4) (pv 7))) (pg_sub (pv 2) (pe_op op_add (pv 5) (pv 6)) set_list))))
    (pss_cons (ps_if (pt_cmpR op_ne (pe_bm0 PySem.F.plainAttrs_list PySem.F.slot_list_pop PySem.F.type_list_pop mt_pop (pv 2)) pe_int (nomark _))
    (pss_one (ps_ret pe_non))
    pss_nil)
    (pss_one (ps_expr (pe_bm PySem.F.plainAttrs_list PySem.F.slot_list_append PySem.F.type_list_append mt_append (pv 3) (pa_cons (pv 4) pa_nil)))))))))
    (pss_cons (ps_if (pt_val (pe_callB (call_anyI rfl) rfl T.n_any boot_any (pa_cons (pv 2) pa_nil)))
    (pss_one (ps_ret pe_non))
    pss_nil)
    (pss_one (ps_ret (pe_revL rfl rfl T.n_reversed rfl T.n_list (pa_cons (pv 3) pa_nil)))))))), ?_⟩
  exact run_ok (s := c_divided) (n := 6) (ss_seq (ss_opn (s_list (s_cons s_var s_nil)))
    (ss_seq (ss_opn (s_lst s_nil))
    (ss_seq (ss_wh (s_test (s_ge s_lenO (s_len (s_cons s_var s_nil))))
    (ss_seq (ss_set (s_div (s_ixO (s_ng s_int)) (s_ixL s_var (s_ng s_int))))
    (ss_seq (ss_set (s_sub s_lenO (s_len (s_cons s_var s_nil))))
    (ss_seq (ss_for (si_en (s_cons s_var s_nil)) sg_t2
    (ss_put (s_add s_var s_var) (s_sub (s_ixO (s_add s_var s_var)) (s_mul s_var s_var))))
    (ss_seq (ss_if (s_test (s_ne s_pop s_int)) (ss_ret s_non)
    ss_nx)
    (ss_app (s_cons s_var s_nil)))))))
    (ss_seq (ss_if (s_tB (s_any (s_cons s_var s_nil))) (ss_ret s_non)
    ss_nx)
    (ss_ret (s_fz (s_rev (s_cons s_var s_nil)))))))) rfl h
end
end V25
namespace V25
open PySem PyProof.Rows L2 SF CV
section
variable {P : Program} {w : World} {K : PySem.W.Frag} {mg : Str → Option Value} {base : Heap} {C fI : Addr} {fd : FuncData}
theorem ok_largest (T : Nm mg)
    (D : DefB K mg "largest" s_largest ["poly"]) : FnB P w K mg base 34 "largest" ["poly"] (spEv K C f_largest 1) := by
  refine D.ok sc_largest (fun vs H Q E h => spEv_len h) (fun f cdv A outer s H vs Q E hr h => ?_)
  refine ⟨_, (pss_one (ps_ret (pe_callB (call_maxI rfl) rfl T.n_max boot_max (pa_cons (pe_comp rfl rfl (compOk (own := ["number"]) (fr := []) (fs := []) (by with_unfolding_all rfl) rfl (by decide +kernel) (by decide +kernel) (by exact trivial) (by with_unfolding_all rfl) (by exact trivial)) (pi_list (pv 0)) (fun _ _ _ _ _ => (pg_name (i := 0) (show List.Nodup (["number"] : List Str) by decide +kernel) rfl (Or.inl rfl) (Or.inr rfl))) (fun _ _ _ _ _ => (pe_callB call_abs rfl T.n_abs boot_abs (pa_cons (pv 0) pa_nil)))) pa_nil)))), ?_⟩
  exact run_ok (s := c_largest) (n := 0) (ss_ret (s_maxL (s_cons (s_fz (s_comp rfl (si_lst s_var) sg_n (s_abs (s_cons s_var s_nil)))) s_nil))) rfl h
theorem ok_divisor_of (T : Nm mg) (g_divided : FnB P w K mg base 36 "divided" ["poly", "divisor"] (spEv K C f_divided 2)) (g_spread : FnB P w K mg base 36 "spread" ["value", "point"] (spEv K C f_spread 2)) (g_primitive : FnB P w K mg base 36 "primitive" ["poly"] (spEv K C f_primitive 1)) (g_value_at : FnB P w K mg base 36 "value_at" ["poly", "point"] (spEv K C f_value_at 2)) (g_common_divisor : FnB P w K mg base 36 "common_divisor" ["one", "other"] (spEv K C f_common_divisor 2)) (g_largest : FnB P w K mg base 36 "largest" ["poly"] (spEv K C f_largest 1))
    (D : DefB K mg "divisor_of" s_divisor_of ["one", "other"]) : FnB P w K mg base 37 "divisor_of" ["one", "other"] (spEv K C f_divisor_of 2) := by
  refine D.ok sc_divisor_of (fun vs H Q E h => spEv_len h) (fun f cdv A outer s H vs Q E hr h => ?_)
  refine ⟨_, (pss_cons (ps_set (i := 2) sc_divisor_of.nd rfl (Or.inl rfl) (pe_fn g_primitive hr (pa_cons (pv 0) pa_nil)))
    (pss_cons (ps_set (i := 3) sc_divisor_of.nd rfl (Or.inl rfl) (pe_fn g_primitive hr (pa_cons (pv 1) pa_nil)))
    (pss_cons (ps_if (pt_not (pt_truth (pv 2) (fun _ => rfl)))
    (pss_one (ps_ret (pv 3)))
    pss_nil)
    (pss_cons (ps_if (pt_not (pt_truth (pv 3) (fun _ => rfl)))
    (pss_one (ps_ret (pv 2)))
    pss_nil)
    (pss_cons (ps_set (i := 4) sc_divisor_of.nd rfl (Or.inl rfl) (pe_op op_mulL (pe_op op_mulL pe_int (pe_op op_add (pe_callB (call_min2 rfl) rfl T.n_min boot_min (pa_cons (pe_fn g_largest hr (pa_cons (pv 2) pa_nil)) (pa_cons (pe_fn g_largest hr (pa_cons (pv 3) pa_nil)) pa_nil))) pe_int)) (pe_op op_pow pe_int pe_int)))
    (pss_one (ps_while PassesOwn.never (pt_truth pe_bl (fun _ => rfl))
    (pss_cons (ps_set (i := 5) sc_divisor_of.nd rfl (Or.inl rfl) (pe_fn g_common_divisor hr (pa_cons (pe_fn g_value_at hr (pa_cons (pv 2) (pa_cons (pv 4) pa_nil))) (pa_cons (pe_fn g_value_at hr (pa_cons (pv 3) (pa_cons (pv 4) pa_nil))) pa_nil))))
    (pss_cons (ps_set (i := 6) sc_divisor_of.nd rfl (Or.inl rfl) (pe_fn g_primitive hr (pa_cons (pe_fn g_spread hr (pa_cons (pv 5) (pa_cons (pv 4) pa_nil))) pa_nil)))
    (pss_cons (ps_if (PW.pt (pw_and (pt_cmpR op_notN (pe_fn g_divided hr (pa_cons (pv 2) (pa_cons (pv 6) pa_nil))) pe_non (nomark _)) (pw_and1 (pt_cmpR op_notN (pe_fn g_divided hr (pa_cons (pv 3) (pa_cons (pv 6) pa_nil))) pe_non (nomark _)))))
    (pss_one (ps_ret (pv 6)))
    pss_nil)
    (pss_one (ps_set (i := 4) sc_divisor_of.nd rfl (Or.inl rfl) (pe_op op_mulL (pv 4) (pv 4)))))))))))))), ?_⟩
  exact run_ok (s := c_divisor_of) (n := 5) (ss_seq (ss_set (s_call (s_cons s_var s_nil)))
    (ss_seq (ss_set (s_call (s_cons s_var s_nil)))
    (ss_seq (ss_if (s_not (s_tru s_var)) (ss_ret s_var)
    ss_nx)
    (ss_seq (ss_if (s_not (s_tru s_var)) (ss_ret s_var)
    ss_nx)
    (ss_seq (ss_set (s_mul (s_mul s_int (s_add (s_min2 (s_cons (s_call (s_cons s_var s_nil)) (s_cons (s_call (s_cons s_var s_nil)) s_nil))) s_int)) (s_pow s_int s_int)))
    (ss_wh (s_tru s_bl)
    (ss_seq (ss_set (s_call (s_cons (s_call (s_cons s_var (s_cons s_var s_nil))) (s_cons (s_call (s_cons s_var (s_cons s_var s_nil))) s_nil))))
    (ss_seq (ss_set (s_call (s_cons (s_call (s_cons s_var (s_cons s_var s_nil))) s_nil)))
    (ss_seq (ss_if (s_and (s_test (s_notN (s_call (s_cons s_var (s_cons s_var s_nil))))) (s_test (s_notN (s_call (s_cons s_var (s_cons s_var s_nil)))))) (ss_ret s_var)
    ss_nx)
    (ss_set (s_mul s_var s_var))))))))))) rfl h
theorem ok_quotient (g_primitive : FnB P w K mg base 36 "primitive" ["poly"] (spEv K C f_primitive 1)) (g_divided : FnB P w K mg base 36 "divided" ["poly", "divisor"] (spEv K C f_divided 2))
    (D : DefB K mg "quotient" s_quotient ["one", "other"]) : FnB P w K mg base 37 "quotient" ["one", "other"] (spEv K C f_quotient 2) := by
  refine D.ok sc_quotient (fun vs H Q E h => spEv_len h) (fun f cdv A outer s H vs Q E hr h => ?_)
  refine ⟨_, (pss_one (ps_ret (pe_fn g_divided hr (pa_cons (pe_fn g_primitive hr (pa_cons (pv 0) pa_nil)) (pa_cons (pe_fn g_primitive hr (pa_cons (pv 1) pa_nil)) pa_nil))))), ?_⟩
  exact run_ok (s := c_quotient) (n := 0) (ss_ret (s_call (s_cons (s_call (s_cons s_var s_nil)) (s_cons (s_call (s_cons s_var s_nil)) s_nil)))) rfl h
theorem ok_square_free (g_derivative : FnB P w K mg base 37 "derivative" ["poly"] (spEv K C f_derivative 1)) (g_divisor_of : FnB P w K mg base 37 "divisor_of" ["one", "other"] (spEv K C f_divisor_of 2)) (g_quotient : FnB P w K mg base 37 "quotient" ["one", "other"] (spEv K C f_quotient 2))
    (D : DefB K mg "square_free" s_square_free ["poly"]) : FnB P w K mg base 38 "square_free" ["poly"] (spEv K C f_square_free 1) := by
  refine D.ok sc_square_free (fun vs H Q E h => spEv_len h) (fun f cdv A outer s H vs Q E hr h => ?_)
  refine ⟨_, (pss_one (ps_ret (pe_fn g_quotient hr (pa_cons (pv 0) (pa_cons (pe_fn g_divisor_of hr (pa_cons (pv 0) (pa_cons (pe_fn g_derivative hr (pa_cons (pv 0) pa_nil)) pa_nil))) pa_nil))))), ?_⟩
  exact run_ok (s := c_square_free) (n := 0) (ss_ret (s_call (s_cons s_var (s_cons (s_call (s_cons s_var (s_cons (s_call (s_cons s_var s_nil)) s_nil))) s_nil)))) rfl h
theorem ok_composed (T : Nm mg) (g_multiplied : FnB P w K mg base 35 "multiplied" ["one", "other"] (spEv K C f_multiplied 2)) (g_scaled : FnB P w K mg base 35 "scaled" ["poly", "factor"] (spEv K C f_scaled 2)) (g_added : FnB P w K mg base 35 "added" ["one", "other"] (spEv K C f_added 2))
    (D : DefB K mg "composed" s_composed ["poly", "top", "under"]) : FnB P w K mg base 36 "composed" ["poly", "top", "under"] (spEv K C f_composed 3) := by
  refine D.ok sc_composed (fun vs H Q E h => spEv_len h) (fun f cdv A outer s H vs Q E hr h => ?_)
  refine ⟨_, (pss_cons (ps_set (i := 3) sc_composed.nd rfl (Or.inl rfl) (pe_lst pa_nil))
    (pss_cons (ps_set (i := 4) sc_composed.nd rfl (Or.inl rfl) (pe_lst (pa_cons pe_int pa_nil)))
    (pss_cons (ps_for PassesOwn.never rfl (pi_rev rfl T.n_reversed (pa_cons (pv 0) pa_nil)) (pg_name (i := 5) sc_composed.nd rfl (Or.inl rfl))
    (pss_cons (ps_set (i := 3) sc_composed.nd rfl (Or.inl rfl) (pe_fn g_added hr (pa_cons (pe_fn g_multiplied hr (pa_cons (pv 3) (pa_cons (pv 1) pa_nil))) (pa_cons (pe_fn g_scaled hr (pa_cons (pv 4) (pa_cons (pv 5) pa_nil))) pa_nil))))
    (pss_one (ps_set (i := 4) sc_composed.nd rfl (Or.inl rfl) (pe_fn g_multiplied hr (pa_cons (pv 4) (pa_cons (pv 2) pa_nil)))))))
    (pss_one (ps_ret (pv 3)))))), ?_⟩
  exact run_ok (s := c_composed) (n := 3) (ss_seq (ss_set (s_fz (s_lst s_nil)))
    (ss_seq (ss_set (s_fz (s_lst (s_cons s_int s_nil))))
    (ss_seq (ss_for (si_rv (s_cons s_var s_nil)) sg_n
    (ss_seq (ss_set (s_call (s_cons (s_call (s_cons s_var (s_cons s_var s_nil))) (s_cons (s_call (s_cons s_var (s_cons s_var s_nil))) s_nil))))
    (ss_set (s_call (s_cons s_var (s_cons s_var s_nil))))))
    (ss_ret s_var)))) rfl h
theorem ok_height_at (T : Nm mg)
    (D : DefB K mg "height_at" s_height_at ["poly", "top", "under"]) : FnB P w K mg base 34 "height_at" ["poly", "top", "under"] (spEv K C f_height_at 3) := by
  refine D.ok sc_height_at (fun vs H Q E h => spEv_len h) (fun f cdv A outer s H vs Q E hr h => ?_)
  refine ⟨_, (pss_cons (ps_set (i := 3) sc_height_at.nd rfl (Or.inl rfl) pe_int)
    (pss_cons (ps_set (i := 4) sc_height_at.nd rfl (Or.inl rfl) pe_int)
    (pss_cons (ps_for PassesOwn.never rfl (pi_rev rfl T.n_reversed (pa_cons (pv 0) pa_nil)) (pg_name (i := 5) sc_height_at.nd rfl (Or.inl rfl))
    (pss_cons (ps_set (i := 3) sc_height_at.nd rfl (Or.inl rfl) (pe_op op_add (pe_op op_mulL (pv 3) (pv 1)) (pe_op op_mulL (pv 5) (pv 4))))
    (pss_one (ps_set (i := 4) sc_height_at.nd rfl (Or.inl rfl) (pe_op op_mulL (pv 4) (pv 2))))))
    (pss_one (ps_ret (pv 3)))))), ?_⟩
  exact run_ok (s := c_height_at) (n := 3) (ss_seq (ss_set s_int)
    (ss_seq (ss_set s_int)
    (ss_seq (ss_for (si_rv (s_cons s_var s_nil)) sg_n
    (ss_seq (ss_set (s_add (s_mul s_var s_var) (s_mul s_var s_var)))
    (ss_set (s_mul s_var s_var))))
    (ss_ret s_var)))) rfl h
theorem ok_sign_at (g_height_at : FnB P w K mg base 34 "height_at" ["poly", "top", "under"] (spEv K C f_height_at 3)) (g_sign : FnB P w K mg base 34 "sign" ["number"] (spEv K C f_sign 1))
    (D : DefB K mg "sign_at" s_sign_at ["poly", "given"]) : FnB P w K mg base 35 "sign_at" ["poly", "given"] (spEv K C f_sign_at 2) := by
  refine D.ok sc_sign_at (fun vs H Q E h => spEv_len h) (fun f cdv A outer s H vs Q E hr h => ?_)
  refine ⟨_, (pss_one (ps_ret (pe_fn g_sign hr (pa_cons (pe_fn g_height_at hr (pa_cons (pv 0) (pa_cons (pe_ix ix_tup (pv 1) pe_int (fun _ _ => rfl)) (pa_cons (pe_ix ix_tup (pv 1) pe_int (fun _ _ => rfl)) pa_nil)))) pa_nil)))), ?_⟩
  exact run_ok (s := c_sign_at) (n := 0) (ss_ret (s_call (s_cons (s_call (s_cons s_var (s_cons (s_ixT s_var s_int) (s_cons (s_ixT s_var s_int) s_nil)))) s_nil))) rfl h
theorem ok_changes_in (g_sign : FnB P w K mg base 34 "sign" ["number"] (spEv K C f_sign 1))
    (D : DefB K mg "changes_in" s_changes_in ["row"]) : FnB P w K mg base 35 "changes_in" ["row"] (spEv K C f_changes_in 1) := by
  refine D.ok sc_changes_in (fun vs H Q E h => spEv_len h) (fun f cdv A outer s H vs Q E hr h => ?_)
  refine ⟨_, (pss_cons (ps_set (i := 1) sc_changes_in.nd rfl (Or.inl rfl) pe_int)
    (pss_cons (ps_set (i := 2) sc_changes_in.nd rfl (Or.inl rfl) pe_int)
    (pss_cons (ps_for PassesOwn.never rfl (pi_list (pv 0)) (pg_name (i := 3) sc_changes_in.nd rfl (Or.inl rfl))
    (pss_cons (ps_if (pt_cmpR op_lt (pe_op op_mulL (pv 3) (pv 2)) pe_int (nomark _))
    (pss_one (ps_set (i := 1) sc_changes_in.nd rfl (Or.inl rfl) (pe_op op_add (pv 1) pe_int)))
    pss_nil)
    (pss_one (ps_if (pt_cmpR op_ne (pv 3) pe_int (nomark _))
    (pss_one (ps_set (i := 2) sc_changes_in.nd rfl (Or.inl rfl) (pe_fn g_sign hr (pa_cons (pv 3) pa_nil))))
    pss_nil))))
    (pss_one (ps_ret (pv 1)))))), ?_⟩
  exact run_ok (s := c_changes_in) (n := 3) (ss_seq (ss_set s_int)
    (ss_seq (ss_set s_int)
    (ss_seq (ss_for (si_lst s_var) sg_n
    (ss_seq (ss_if (s_test (s_lt (s_mul s_var s_var) s_int)) (ss_set (s_add s_var s_int))
    ss_nx)
    (ss_if (s_test (s_ne s_var s_int)) (ss_set (s_call (s_cons s_var s_nil)))
    ss_nx)))
    (ss_ret s_var)))) rfl h
theorem ok_remainder (T : Nm mg) (g_trimmed : FnB P w K mg base 34 "trimmed" ["row"] (spEv K C f_trimmed 1)) (g_sign : FnB P w K mg base 34 "sign" ["number"] (spEv K C f_sign 1))
    (D : DefB K mg "remainder" s_remainder ["one", "other"]) : FnB P w K mg base 35 "remainder" ["one", "other"] (spEv K C f_remainder 2) := by
  refine D.ok sc_remainder (fun vs H Q E h => spEv_len h) (fun f cdv A outer s H vs Q E hr h => ?_)
  refine ⟨_, (pss_cons (ps_set (i := 2) sc_remainder.nd rfl (Or.inr rfl) (pe_callB call_abs rfl T.n_abs boot_abs (pa_cons (pe_ix ix_list (pv 1) (pe_un un_neg pe_int) (fun _ _ => rfl)) pa_nil)))
    (pss_cons (ps_set (i := 3) sc_remainder.nd rfl (Or.inl rfl) (pe_fn g_sign hr (pa_cons (pe_ix ix_list (pv 1) (pe_un un_neg pe_int) (fun _ _ => rfl)) pa_nil)))
    (pss_cons (ps_set (i := 4) sc_remainder.nd rfl (Or.inl rfl) (pe_callTy call_list_of rfl T.n_list boot_list (pa_cons (pv 0) pa_nil)))
    (pss_cons (ps_for PassesOwn.never rfl (pi_range3 rfl T.n_range (pa_cons (pe_op op_sub (pe_callB call_len_seq rfl T.n_len boot_len (pa_cons (pv 0) pa_nil)) (pe_callB call_len_seq rfl T.n_len boot_len (pa_cons (pv 1) pa_nil))) (pa_cons (pe_un un_neg pe_int) (pa_cons (pe_un un_neg pe_int) pa_nil)))) (pg_name (i := 5) sc_remainder.nd rfl (Or.inl rfl))
    (pss_cons (ps_set (i := 6) sc_remainder.nd rfl (Or.inl rfl) (pe_op op_mulL (pe_bm0 PySem.F.plainAttrs_list PySem.F.slot_list_pop PySem.F.type_list_pop mt_pop (pv 4)) (pv 3)))
    (pss_cons (ps_comp (i := 4) sc_remainder.nd rfl rfl rfl (compOk (own := ["number"]) (fr := [2]) (fs := ["size"]) (by with_unfolding_all rfl) rfl (by decide +kernel) (by decide +kernel) (by exact ⟨rfl, trivial⟩) (by with_unfolding_all rfl) (by exact ⟨⟨rfl, rfl, rfl, Or.inl rfl⟩, trivial⟩)) (pi_list (pv 4)) (fun _ _ _ _ _ => (pg_name (i := 0) (show List.Nodup (["number", "size"] : List Str) by decide +kernel) rfl (Or.inl rfl) (Or.inr rfl))) (fun _ _ _ _ _ => (pe_op op_mulL (pv 0) (pv 1))) rfl)
    (pss_one (ps_for PassesOwn.never rfl (pi_enum rfl T.n_enumerate (pa_cons (pe_slice sl_list (pv 1) po_none (po_some (pe_un un_neg pe_int))) pa_nil)) (pg_tup rfl (pgs_cons (pg_name (i := 7) sc_remainder.nd rfl (Or.inl rfl)) (pgs_cons (pg_name (i := 8) sc_remainder.nd rfl (Or.inl rfl)) pgs_nil)))
    (pss_one (ps_asg (pe_op op_sub (pe_ix ix_list (pv 4) (pe_op op_add (pv 5) (pv 7)) (fun _ _ => rfl)) (pe_op op_mulL (pv 6) (pv 8))) (pg_sub (pv 4) (pe_op op_add (pv 5) (pv 7)) set_list))))))))
    (pss_one (ps_ret (pe_fn g_trimmed hr (pa_cons (pv 4) pa_nil)))))))), ?_⟩
  exact run_ok (s := c_remainder) (n := 7) (ss_seq (ss_set (s_abs (s_cons (s_ixL s_var (s_ng s_int)) s_nil)))
    (ss_seq (ss_set (s_call (s_cons (s_ixL s_var (s_ng s_int)) s_nil)))
    (ss_seq (ss_opn (s_list (s_cons s_var s_nil)))
    (ss_seq (ss_for (si_r3 (s_cons (s_sub (s_len (s_cons s_var s_nil)) (s_len (s_cons s_var s_nil))) (s_cons (s_ng s_int) (s_cons (s_ng s_int) s_nil)))) sg_n
    (ss_seq (ss_set (s_mul s_pop s_var))
    (ss_seq (ss_opn (s_comp rfl (si_lst s_var) sg_n (s_mul s_var s_var)))
    (ss_for (si_en (s_cons (s_fz (s_sl s_var s_pno (s_pat (s_ng s_int)))) s_nil)) sg_t2
    (ss_put (s_add s_var s_var) (s_sub (s_ixO (s_add s_var s_var)) (s_mul s_var s_var)))))))
    (ss_ret (s_call (s_cons s_var s_nil))))))) rfl h
end
end V25
namespace V25
open PySem PyProof.Rows L2 SF CV
section
variable {P : Program} {w : World} {K : PySem.W.Frag} {mg : Str → Option Value} {base : Heap} {C fI : Addr} {fd : FuncData}
theorem ok_chain_of (T : Nm mg) (hT : P.given.tree = none) (g_power : FnB P w K mg base 35 "power" ["number", "many"] (spEv K C f_power 2)) (g_remainder : FnB P w K mg base 35 "remainder" ["one", "other"] (spEv K C f_remainder 2)) (g_derivative : FnB P w K mg base 35 "derivative" ["poly"] (spEv K C f_derivative 1))
    (D : DefB K mg "chain_of" s_chain_of ["free"]) : FnB P w K mg base 36 "chain_of" ["free"] (spEv K C f_chain_of 1) := by
  refine D.ok sc_chain_of (fun vs H Q E h => spEv_len h) (fun f cdv A outer s H vs Q E hr h => ?_)
  refine ⟨_, (pss_cons (ps_set (i := 1) sc_chain_of.nd rfl (Or.inl rfl) (pe_lst (pa_cons (pv 0) (pa_cons (pe_fn g_derivative hr (pa_cons (pv 0) pa_nil)) pa_nil))))
    (pss_cons (ps_set (i := 2) sc_chain_of.nd rfl (Or.inl rfl) pe_int)
    (pss_cons (ps_set (i := 3) sc_chain_of.nd rfl (Or.inl rfl) pe_int)
    (pss_cons (ps_while PassesOwn.never (pt_cmpR op_gt (pe_callB call_len_seq rfl T.n_len boot_len (pa_cons (pe_ix ix_list (pv 1) (pe_un un_neg pe_int) (fun _ _ => rfl)) pa_nil)) pe_int (nomark _))
    (pss_cons (ps_set (i := 4) sc_chain_of.nd rfl (Or.inl rfl) (pe_ix ix_list (pv 1) (pe_un un_neg pe_int) (fun _ _ => rfl)))
    (pss_cons (ps_set (i := 5) sc_chain_of.nd rfl (Or.inl rfl) (pe_ix ix_list (pv 1) (pe_un un_neg pe_int) (fun _ _ => rfl)))
    (pss_cons (ps_set (i := 6) sc_chain_of.nd rfl (Or.inl rfl) (pe_op op_sub (pe_callB call_len_seq rfl T.n_len boot_len (pa_cons (pv 4) pa_nil)) (pe_callB call_len_seq rfl T.n_len boot_len (pa_cons (pv 5) pa_nil))))
    (pss_cons (ps_set (i := 7) sc_chain_of.nd rfl (Or.inr rfl) (pe_op op_mulL (pv 2) (pe_fn g_power hr (pa_cons (pv 3) (pa_cons (pv 6) pa_nil)))))
    (pss_cons (ps_expr (pe_bm PySem.F.plainAttrs_list PySem.F.slot_list_append PySem.F.type_list_append mt_append (pv 1) (pa_cons (pe_comp rfl rfl (compOk (own := ["number"]) (fr := [7]) (fs := ["shared"]) (by with_unfolding_all rfl) rfl (by decide +kernel) (by decide +kernel) (by exact ⟨rfl, trivial⟩) (by with_unfolding_all rfl) (by exact ⟨⟨rfl, rfl, rfl, Or.inl rfl⟩, trivial⟩)) (pi_list (pe_fn g_remainder hr (pa_cons (pv 4) (pa_cons (pv 5) pa_nil)))) (fun _ _ _ _ _ => (pg_name (i := 0) (show List.Nodup (["number", "shared"] : List Str) by decide +kernel) rfl (Or.inl rfl) (Or.inr rfl))) (fun _ _ _ _ _ => (pe_op (op_fdivP ⟨hT, ⟨_, _, rfl, rfl, rfl, rfl, rfl⟩, hr.py⟩) (pe_un un_neg (pv 0)) (pv 1)))) pa_nil)))
    (pss_cons (ps_set (i := 2) sc_chain_of.nd rfl (Or.inl rfl) (pe_callB call_abs rfl T.n_abs boot_abs (pa_cons (pe_ix ix_list (pv 5) (pe_un un_neg pe_int) (fun _ _ => rfl)) pa_nil)))
    (pss_one (ps_set (i := 3) sc_chain_of.nd rfl (Or.inl rfl) (pe_op (op_fdivP ⟨hT, ⟨_, _, rfl, rfl, rfl, rfl, rfl⟩, hr.py⟩) (pe_fn g_power hr (pa_cons (pv 2) (pa_cons (pv 6) pa_nil))) (pe_fn g_power hr (pa_cons (pv 3) (pa_cons (pe_op op_sub (pv 6) pe_int) pa_nil)))))))))))))
    (pss_one (ps_ret (pv 1))))))), ?_⟩
  exact run_ok (s := c_chain_of) (n := 7) (ss_seq (ss_opn (s_lst (s_cons s_var (s_cons (s_call (s_cons s_var s_nil)) s_nil))))
    (ss_seq (ss_set s_int)
    (ss_seq (ss_set s_int)
    (ss_seq (ss_wh (s_test (s_gt (s_len (s_cons (s_ixO (s_ng s_int)) s_nil)) s_int))
    (ss_seq (ss_set (s_ixO (s_ng s_int)))
    (ss_seq (ss_set (s_ixO (s_ng s_int)))
    (ss_seq (ss_set (s_sub (s_len (s_cons s_var s_nil)) (s_len (s_cons s_var s_nil))))
    (ss_seq (ss_set (s_mul s_var (s_call (s_cons s_var (s_cons s_var s_nil)))))
    (ss_seq (ss_app (s_cons (s_fz (s_comp rfl (si_lst (s_call (s_cons s_var (s_cons s_var s_nil)))) sg_n (s_div (s_ng s_var) s_var))) s_nil))
    (ss_seq (ss_set (s_abs (s_cons (s_ixL s_var (s_ng s_int)) s_nil)))
    (ss_set (s_div (s_call (s_cons s_var (s_cons s_var s_nil))) (s_call (s_cons s_var (s_cons (s_sub s_var s_int) s_nil))))))))))))
    (ss_ret s_var))))) rfl h
theorem ok_changes_at (g_sign_at : FnB P w K mg base 35 "sign_at" ["poly", "given"] (spEv K C f_sign_at 2)) (g_changes_in : FnB P w K mg base 35 "changes_in" ["row"] (spEv K C f_changes_in 1))
    (D : DefB K mg "changes_at" s_changes_at ["chain", "given"]) : FnB P w K mg base 36 "changes_at" ["chain", "given"] (spEv K C f_changes_at 2) := by
  refine D.ok sc_changes_at (fun vs H Q E h => spEv_len h) (fun f cdv A outer s H vs Q E hr h => ?_)
  refine ⟨_, (pss_one (ps_ret (pe_fn g_changes_in hr (pa_cons (pe_comp rfl rfl (compOk (own := ["poly"]) (fr := [1]) (fs := ["given"]) (by with_unfolding_all rfl) rfl (by decide +kernel) (by decide +kernel) (by exact ⟨rfl, trivial⟩) (by with_unfolding_all rfl) (by exact ⟨⟨rfl, rfl, rfl, Or.inl rfl⟩, trivial⟩)) (pi_list (pv 0)) (fun _ _ _ _ _ => (pg_name (i := 0) (show List.Nodup (["poly", "given"] : List Str) by decide +kernel) rfl (Or.inl rfl) (Or.inr rfl))) (fun _ _ _ _ _ => (pe_fn g_sign_at hr (pa_cons (pv 0) (pa_cons (pv 1) pa_nil))))) pa_nil)))), ?_⟩
  exact run_ok (s := c_changes_at) (n := 0) (ss_ret (s_call (s_cons (s_fz (s_comp rfl (si_lst s_var) sg_n (s_call (s_cons s_var (s_cons s_var s_nil))))) s_nil))) rfl h
theorem ok_is_within (T : Nm mg)
    (D : DefB K mg "is_within" s_is_within ["free", "reach"]) : FnB P w K mg base 34 "is_within" ["free", "reach"] (spEv K C f_is_within 2) := by
  refine D.ok sc_is_within (fun vs H Q E h => spEv_len h) (fun f cdv A outer s H vs Q E hr h => ?_)
  refine ⟨_, (pss_cons (ps_set (i := 2) sc_is_within.nd rfl (Or.inl rfl) (pe_callB call_abs rfl T.n_abs boot_abs (pa_cons (pe_ix ix_list (pv 0) (pe_un un_neg pe_int) (fun _ _ => rfl)) pa_nil)))
    (pss_cons (ps_for PassesOwn.never rfl (pi_rev rfl T.n_reversed (pa_cons (pe_slice sl_list (pv 0) po_none (po_some (pe_un un_neg pe_int))) pa_nil)) (pg_name (i := 3) sc_is_within.nd rfl (Or.inl rfl))
    (pss_cons (ps_set (i := 2) sc_is_within.nd rfl (Or.inl rfl) (pe_op op_mulL (pv 2) (pv 1)))
    (pss_one (ps_if (pt_cmpR op_gt (pe_callB call_abs rfl T.n_abs boot_abs (pa_cons (pv 3) pa_nil)) (pv 2) (nomark _))
    (pss_one (ps_ret pe_bl))
    pss_nil))))
    (pss_one (ps_ret pe_bl)))), ?_⟩
  exact run_ok (s := c_is_within) (n := 2) (ss_seq (ss_set (s_abs (s_cons (s_ixL s_var (s_ng s_int)) s_nil)))
    (ss_seq (ss_for (si_rv (s_cons (s_fz (s_sl s_var s_pno (s_pat (s_ng s_int)))) s_nil)) sg_n
    (ss_seq (ss_set (s_mul s_var s_var))
    (ss_if (s_test (s_gt (s_abs (s_cons s_var s_nil)) s_var)) (ss_ret s_bl)
    ss_nx)))
    (ss_ret s_bl))) rfl h
theorem ok_bound_of (g_is_within : FnB P w K mg base 34 "is_within" ["free", "reach"] (spEv K C f_is_within 2))
    (D : DefB K mg "bound_of" s_bound_of ["free"]) : FnB P w K mg base 35 "bound_of" ["free"] (spEv K C f_bound_of 1) := by
  refine D.ok sc_bound_of (fun vs H Q E h => spEv_len h) (fun f cdv A outer s H vs Q E hr h => ?_)
  refine ⟨_, (pss_cons (ps_set (i := 1) sc_bound_of.nd rfl (Or.inl rfl) pe_int)
    (pss_cons (ps_while PassesOwn.never (pt_not (pt_val (pe_fn g_is_within hr (pa_cons (pv 0) (pa_cons (pv 1) pa_nil)))))
    (pss_one (ps_set (i := 1) sc_bound_of.nd rfl (Or.inl rfl) (pe_op op_mulL pe_int (pv 1)))))
    (pss_one (ps_ret (pe_op op_mulL pe_int (pv 1)))))), ?_⟩
  exact run_ok (s := c_bound_of) (n := 1) (ss_seq (ss_set s_int)
    (ss_seq (ss_wh (s_not (s_tB (s_call (s_cons s_var (s_cons s_var s_nil)))))
    (ss_set (s_mul s_int s_var)))
    (ss_ret (s_mul s_int s_var)))) rfl h
theorem ok_pair_around_all (g_ratio : FnB P w K mg base 35 "ratio" ["top", "under"] (spEv K C f_ratio 2)) (g_bound_of : FnB P w K mg base 35 "bound_of" ["free"] (spEv K C f_bound_of 1))
    (D : DefB K mg "pair_around_all" s_pair_around_all ["free"]) : FnB P w K mg base 36 "pair_around_all" ["free"] (spEv K C f_pair_around_all 1) := by
  refine D.ok sc_pair_around_all (fun vs H Q E h => spEv_len h) (fun f cdv A outer s H vs Q E hr h => ?_)
  refine ⟨_, (pss_cons (ps_set (i := 1) sc_pair_around_all.nd rfl (Or.inl rfl) pe_int)
    (pss_cons (ps_while PassesOwn.never (pt_cmpR op_eq (pe_op op_modN (pe_ix ix_list (pv 0) (pe_un un_neg pe_int) (fun _ _ => rfl)) (pv 1)) pe_int (nomark _))
    (pss_one (ps_set (i := 1) sc_pair_around_all.nd rfl (Or.inl rfl) (pe_op op_add (pv 1) pe_int))))
    (pss_cons (ps_set (i := 2) sc_pair_around_all.nd rfl (Or.inl rfl) (pe_op op_add (pe_fn g_bound_of hr (pa_cons (pv 0) pa_nil)) pe_int))
    (pss_one (ps_ret (pe_tup (pa_cons (pe_fn g_ratio hr (pa_cons (pe_op op_sub pe_int (pe_op op_mulL (pv 1) (pv 2))) (pa_cons (pv 1) pa_nil))) (pa_cons (pe_fn g_ratio hr (pa_cons (pe_op op_add pe_int (pe_op op_mulL (pv 1) (pv 2))) (pa_cons (pv 1) pa_nil))) pa_nil)))))))), ?_⟩
  exact run_ok (s := c_pair_around_all) (n := 2) (ss_seq (ss_set s_int)
    (ss_seq (ss_wh (s_test (s_eq (s_mod (s_ixL s_var (s_ng s_int)) s_var) s_int))
    (ss_set (s_add s_var s_int)))
    (ss_seq (ss_set (s_add (s_call (s_cons s_var s_nil)) s_int))
    (ss_ret (s_tup (s_cons (s_call (s_cons (s_sub s_int (s_mul s_var s_var)) (s_cons s_var s_nil))) (s_cons (s_call (s_cons (s_add s_int (s_mul s_var s_var)) (s_cons s_var s_nil))) s_nil))))))) rfl h
theorem ok_marked (g_changes_at : FnB P w K mg base 36 "changes_at" ["chain", "given"] (spEv K C f_changes_at 2))
    (D : DefB K mg "marked" s_marked ["chain", "given"]) : FnB P w K mg base 37 "marked" ["chain", "given"] (spEv K C f_marked 2) := by
  refine D.ok sc_marked (fun vs H Q E h => spEv_len h) (fun f cdv A outer s H vs Q E hr h => ?_)
  refine ⟨_, (pss_one (ps_ret (pe_tup (pa_cons (pv 1) (pa_cons (pe_fn g_changes_at hr (pa_cons (pv 0) (pa_cons (pv 1) pa_nil))) pa_nil))))), ?_⟩
  exact run_ok (s := c_marked) (n := 0) (ss_ret (s_tup (s_cons s_var (s_cons (s_call (s_cons s_var (s_cons s_var s_nil))) s_nil)))) rfl h
theorem ok_isolated (hG_GREATEST_DEGREE : ∃ uG, mg "GREATEST_DEGREE" = some uG ∧ RelV (.int 12) uG) (g_middle : FnB P w K mg base 38 "middle" ["one", "other"] (spEv K C f_middle 2)) (g_marked : FnB P w K mg base 38 "marked" ["chain", "given"] (spEv K C f_marked 2)) (g_pair_around_all : FnB P w K mg base 38 "pair_around_all" ["free"] (spEv K C f_pair_around_all 1)) (g_chain_of : FnB P w K mg base 38 "chain_of" ["free"] (spEv K C f_chain_of 1)) (g_square_free : FnB P w K mg base 38 "square_free" ["poly"] (spEv K C f_square_free 1)) (g_degree : FnB P w K mg base 38 "degree" ["poly"] (spEv K C f_degree 1))
    (D : DefB K mg "isolated" s_isolated ["poly"]) : FnB P w K mg base 39 "isolated" ["poly"] (spEv K C f_isolated 1) := by
  refine D.ok sc_isolated (fun vs H Q E h => spEv_len h) (fun f cdv A outer s H vs Q E hr h => ?_)
  obtain ⟨uG, hG_GREATEST_DEGREE⟩ := hG_GREATEST_DEGREE
  refine ⟨_, (pss_cons (ps_if (pt_cmpR op_gt (pe_fn g_degree hr (pa_cons (pv 0) pa_nil)) (pe_glob rfl hG_GREATEST_DEGREE.1 hG_GREATEST_DEGREE.2) (nomark _))
    (pss_one ps_never)
    pss_nil)
    (pss_cons (ps_set (i := 1) sc_isolated.nd rfl (Or.inl rfl) (pe_fn g_square_free hr (pa_cons (pv 0) pa_nil)))
    (pss_cons (ps_set (i := 2) sc_isolated.nd rfl (Or.inl rfl) (pe_fn g_chain_of hr (pa_cons (pv 1) pa_nil)))
    (pss_cons (ps_set (i := 3) sc_isolated.nd rfl (Or.inl rfl) (pe_fn g_pair_around_all hr (pa_cons (pv 1) pa_nil)))
    (pss_cons (ps_set (i := 4) sc_isolated.nd rfl (Or.inl rfl) (pe_lst (pa_cons (pe_tup (pa_cons (pe_fn g_marked hr (pa_cons (pv 2) (pa_cons (pe_ix ix_tup (pv 3) pe_int (fun _ _ => rfl)) pa_nil))) (pa_cons (pe_fn g_marked hr (pa_cons (pv 2) (pa_cons (pe_ix ix_tup (pv 3) pe_int (fun _ _ => rfl)) pa_nil))) pa_nil))) pa_nil)))
    (pss_cons (ps_set (i := 5) sc_isolated.nd rfl (Or.inl rfl) (pe_lst pa_nil))
    (pss_cons (ps_while PassesOwn.never (pt_truth (pv 4) (fun _ => rfl))
    (pss_cons (ps_set (i := 6) sc_isolated.nd rfl (Or.inl rfl) (pe_bm0 PySem.F.plainAttrs_list PySem.F.slot_list_pop PySem.F.type_list_pop mt_pop (pv 4)))
    (pss_cons (ps_set (i := 7) sc_isolated.nd rfl (Or.inl rfl) (pe_ix ix_tup (pv 6) pe_int (fun _ _ => rfl)))
    (pss_cons (ps_set (i := 8) sc_isolated.nd rfl (Or.inl rfl) (pe_ix ix_tup (pv 6) pe_int (fun _ _ => rfl)))
    (pss_cons (ps_set (i := 9) sc_isolated.nd rfl (Or.inl rfl) (pe_op op_sub (pe_ix ix_tup (pv 7) pe_int (fun _ _ => rfl)) (pe_ix ix_tup (pv 8) pe_int (fun _ _ => rfl))))
    (pss_cons (ps_if (pt_cmpR op_eq (pv 9) pe_int (nomark _))
    (pss_one (ps_expr (pe_bm PySem.F.plainAttrs_list PySem.F.slot_list_append PySem.F.type_list_append mt_append (pv 5) (pa_cons (pe_tup (pa_cons (pe_ix ix_tup (pv 7) pe_int (fun _ _ => rfl)) (pa_cons (pe_ix ix_tup (pv 8) pe_int (fun _ _ => rfl)) pa_nil))) pa_nil))))
    pss_nil)
    (pss_one (ps_if (pt_cmpR op_gt (pv 9) pe_int (nomark _))
    (pss_cons (ps_set (i := 10) sc_isolated.nd rfl (Or.inl rfl) (pe_fn g_marked hr (pa_cons (pv 2) (pa_cons (pe_fn g_middle hr (pa_cons (pe_ix ix_tup (pv 7) pe_int (fun _ _ => rfl)) (pa_cons (pe_ix ix_tup (pv 8) pe_int (fun _ _ => rfl)) pa_nil))) pa_nil))))
    (pss_cons (ps_expr (pe_bm PySem.F.plainAttrs_list PySem.F.slot_list_append PySem.F.type_list_append mt_append (pv 4) (pa_cons (pe_tup (pa_cons (pv 10) (pa_cons (pv 8) pa_nil))) pa_nil)))
    (pss_one (ps_expr (pe_bm PySem.F.plainAttrs_list PySem.F.slot_list_append PySem.F.type_list_append mt_append (pv 4) (pa_cons (pe_tup (pa_cons (pv 7) (pa_cons (pv 10) pa_nil))) pa_nil))))))
    pss_nil))))))))
    (pss_one (ps_ret (pv 5)))))))))), ?_⟩
  exact run_ok (s := c_isolated) (n := 10) (ss_seq (ss_if (s_test (s_gt (s_call (s_cons s_var s_nil)) s_int)) ss_no
    ss_nx)
    (ss_seq (ss_set (s_call (s_cons s_var s_nil)))
    (ss_seq (ss_set (s_call (s_cons s_var s_nil)))
    (ss_seq (ss_set (s_call (s_cons s_var s_nil)))
    (ss_seq (ss_opn (s_lst (s_cons (s_tup (s_cons (s_call (s_cons s_var (s_cons (s_ixT s_var s_int) s_nil))) (s_cons (s_call (s_cons s_var (s_cons (s_ixT s_var s_int) s_nil))) s_nil))) s_nil)))
    (ss_seq (ss_opn (s_lst s_nil))
    (ss_seq (ss_wh s_truO
    (ss_seq (ss_set s_pop)
    (ss_seq (ss_set (s_ixT s_var s_int))
    (ss_seq (ss_set (s_ixT s_var s_int))
    (ss_seq (ss_set (s_sub (s_ixT s_var s_int) (s_ixT s_var s_int)))
    (ss_seq (ss_if (s_test (s_eq s_var s_int)) (ss_app (s_cons (s_tup (s_cons (s_ixT s_var s_int) (s_cons (s_ixT s_var s_int) s_nil))) s_nil))
    ss_nx)
    (ss_if (s_test (s_gt s_var s_int)) (ss_seq (ss_set (s_call (s_cons s_var (s_cons (s_call (s_cons (s_ixT s_var s_int) (s_cons (s_ixT s_var s_int) s_nil))) s_nil))))
    (ss_seq (ss_app (s_cons (s_tup (s_cons s_var (s_cons s_var s_nil))) s_nil))
    (ss_app (s_cons (s_tup (s_cons s_var (s_cons s_var s_nil))) s_nil))))
    ss_nx)))))))
    (ss_ret s_var)))))))) rfl h
theorem ok_stretch_of
    (D : DefB K mg "stretch_of" s_stretch_of ["pair"]) : FnB P w K mg base 34 "stretch_of" ["pair"] (spEv K C f_stretch_of 1) := by
  refine D.ok sc_stretch_of (fun vs H Q E h => spEv_len h) (fun f cdv A outer s H vs Q E hr h => ?_)
  refine ⟨_, (pss_cons (ps_set (i := 1) sc_stretch_of.nd rfl (Or.inl rfl) (pe_ix ix_tup (pv 0) pe_int (fun _ _ => rfl)))
    (pss_cons (ps_set (i := 2) sc_stretch_of.nd rfl (Or.inl rfl) (pe_ix ix_tup (pv 0) pe_int (fun _ _ => rfl)))
    (pss_one (ps_ret (pe_tup (pa_cons (pe_op op_mulL (pe_ix ix_tup (pv 1) pe_int (fun _ _ => rfl)) (pe_ix ix_tup (pv 2) pe_int (fun _ _ => rfl))) (pa_cons (pe_op op_mulL (pe_ix ix_tup (pv 2) pe_int (fun _ _ => rfl)) (pe_ix ix_tup (pv 1) pe_int (fun _ _ => rfl))) (pa_cons (pe_op op_mulL (pe_ix ix_tup (pv 1) pe_int (fun _ _ => rfl)) (pe_ix ix_tup (pv 2) pe_int (fun _ _ => rfl))) pa_nil)))))))), ?_⟩
  exact run_ok (s := c_stretch_of) (n := 2) (ss_seq (ss_set (s_ixT s_var s_int))
    (ss_seq (ss_set (s_ixT s_var s_int))
    (ss_ret (s_tup (s_cons (s_mul (s_ixT s_var s_int) (s_ixT s_var s_int)) (s_cons (s_mul (s_ixT s_var s_int) (s_ixT s_var s_int)) (s_cons (s_mul (s_ixT s_var s_int) (s_ixT s_var s_int)) s_nil))))))) rfl h
theorem ok_parts_needed (hT : P.given.tree = none)
    (D : DefB K mg "parts_needed" s_parts_needed ["stretch", "width"]) : FnB P w K mg base 34 "parts_needed" ["stretch", "width"] (spEv K C f_parts_needed 2) := by
  refine D.ok sc_parts_needed (fun vs H Q E h => spEv_len h) (fun f cdv A outer s H vs Q E hr h => ?_)
  refine ⟨_, (pss_cons (ps_set (i := 2) sc_parts_needed.nd rfl (Or.inl rfl) (pe_op op_mulL (pe_ix ix_tup (pv 1) pe_int (fun _ _ => rfl)) (pe_ix ix_tup (pv 0) pe_int (fun _ _ => rfl))))
    (pss_one (ps_ret (pe_op (op_fdivP ⟨hT, ⟨_, _, rfl, rfl, rfl, rfl, rfl⟩, hr.py⟩) (pe_op op_sub (pe_op op_add (pe_op op_mulL (pe_op op_sub (pe_ix ix_tup (pv 0) pe_int (fun _ _ => rfl)) (pe_ix ix_tup (pv 0) pe_int (fun _ _ => rfl))) (pe_ix ix_tup (pv 1) pe_int (fun _ _ => rfl))) (pv 2)) pe_int) (pv 2))))), ?_⟩
  exact run_ok (s := c_parts_needed) (n := 1) (ss_seq (ss_set (s_mul (s_ixT s_var s_int) (s_ixT s_var s_int)))
    (ss_ret (s_div (s_sub (s_add (s_mul (s_sub (s_ixT s_var s_int) (s_ixT s_var s_int)) (s_ixT s_var s_int)) s_var) s_int) s_var))) rfl h
end
end V25
namespace V25
open PySem PyProof.Rows L2 SF CV
section
variable {P : Program} {w : World} {K : PySem.W.Frag} {mg : Str → Option Value} {base : Heap} {C fI : Addr} {fd : FuncData}
theorem ok_part_between (g_height_at : FnB P w K mg base 34 "height_at" ["poly", "top", "under"] (spEv K C f_height_at 3)) (g_sign : FnB P w K mg base 34 "sign" ["number"] (spEv K C f_sign 1))
    (D : DefB K mg "part_between" s_part_between ["free", "stretch", "parts", "near", "far"]) : FnB P w K mg base 35 "part_between" ["free", "stretch", "parts", "near", "far"] (spEv K C f_part_between 5) := by
  refine D.ok sc_part_between (fun vs H Q E h => spEv_len h) (fun f cdv A outer s H vs Q E hr h => ?_)
  refine ⟨_, (pss_cons (ps_set (i := 5) sc_part_between.nd rfl (Or.inl rfl) (pe_op op_mulL (pe_ix ix_tup (pv 1) pe_int (fun _ _ => rfl)) (pv 2)))
    (pss_cons (ps_set (i := 6) sc_part_between.nd rfl (Or.inl rfl) (pe_fn g_sign hr (pa_cons (pe_fn g_height_at hr (pa_cons (pv 0) (pa_cons (pe_ix ix_tup (pv 1) pe_int (fun _ _ => rfl)) (pa_cons (pe_ix ix_tup (pv 1) pe_int (fun _ _ => rfl)) pa_nil)))) pa_nil)))
    (pss_cons (ps_set (i := 7) sc_part_between.nd rfl (Or.inl rfl) (pe_fn g_sign hr (pa_cons (pe_fn g_height_at hr (pa_cons (pv 0) (pa_cons (pv 3) (pa_cons (pv 5) pa_nil)))) pa_nil)))
    (pss_cons (ps_if (pt_cmpR op_eq (pv 7) pe_int (nomark _))
    (pss_one (ps_ret (pe_tup (pa_cons (pv 3) (pa_cons (pv 3) (pa_cons (pv 5) pa_nil))))))
    pss_nil)
    (pss_cons (ps_set (i := 8) sc_part_between.nd rfl (Or.inl rfl) (pe_fn g_sign hr (pa_cons (pe_fn g_height_at hr (pa_cons (pv 0) (pa_cons (pv 4) (pa_cons (pv 5) pa_nil)))) pa_nil)))
    (pss_cons (ps_if (pt_cmpR op_eq (pv 8) pe_int (nomark _))
    (pss_one (ps_ret (pe_tup (pa_cons (pv 4) (pa_cons (pv 4) (pa_cons (pv 5) pa_nil))))))
    pss_nil)
    (pss_one (ps_ret (pe_ifExp (PW.pt (pw_and (pt_cmpR op_eq (pv 7) (pv 6) (nomark _)) (pw_and1 (pt_cmpR op_ne (pv 8) (pv 6) (nomark _))))) (pe_tup (pa_cons (pv 3) (pa_cons (pv 4) (pa_cons (pv 5) pa_nil)))) pe_non))))))))), ?_⟩
  exact run_ok (s := c_part_between) (n := 4) (ss_seq (ss_set (s_mul (s_ixT s_var s_int) s_var))
    (ss_seq (ss_set (s_call (s_cons (s_call (s_cons s_var (s_cons (s_ixT s_var s_int) (s_cons (s_ixT s_var s_int) s_nil)))) s_nil)))
    (ss_seq (ss_set (s_call (s_cons (s_call (s_cons s_var (s_cons s_var (s_cons s_var s_nil)))) s_nil)))
    (ss_seq (ss_if (s_test (s_eq s_var s_int)) (ss_ret (s_tup (s_cons s_var (s_cons s_var (s_cons s_var s_nil)))))
    ss_nx)
    (ss_seq (ss_set (s_call (s_cons (s_call (s_cons s_var (s_cons s_var (s_cons s_var s_nil)))) s_nil)))
    (ss_seq (ss_if (s_test (s_eq s_var s_int)) (ss_ret (s_tup (s_cons s_var (s_cons s_var (s_cons s_var s_nil)))))
    ss_nx)
    (ss_ret (s_if (s_and (s_test (s_eq s_var s_var)) (s_test (s_ne s_var s_var))) (s_tup (s_cons s_var (s_cons s_var (s_cons s_var s_nil)))) s_non)))))))) rfl h
theorem ok_guessed (T : Nm mg) (hT : P.given.tree = none) (g_part_between : FnB P w K mg base 35 "part_between" ["free", "stretch", "parts", "near", "far"] (spEv K C f_part_between 5)) (g_height_at : FnB P w K mg base 35 "height_at" ["poly", "top", "under"] (spEv K C f_height_at 3))
    (D : DefB K mg "guessed" s_guessed ["free", "stretch", "parts"]) : FnB P w K mg base 36 "guessed" ["free", "stretch", "parts"] (spEv K C f_guessed 3) := by
  refine D.ok sc_guessed (fun vs H Q E h => spEv_len h) (fun f cdv A outer s H vs Q E hr h => ?_)
  refine ⟨_, (pss_cons (ps_set (i := 3) sc_guessed.nd rfl (Or.inl rfl) (pe_op op_sub (pe_ix ix_tup (pv 1) pe_int (fun _ _ => rfl)) (pe_ix ix_tup (pv 1) pe_int (fun _ _ => rfl))))
    (pss_cons (ps_set (i := 4) sc_guessed.nd rfl (Or.inl rfl) (pe_callB call_abs rfl T.n_abs boot_abs (pa_cons (pe_fn g_height_at hr (pa_cons (pv 0) (pa_cons (pe_ix ix_tup (pv 1) pe_int (fun _ _ => rfl)) (pa_cons (pe_ix ix_tup (pv 1) pe_int (fun _ _ => rfl)) pa_nil)))) pa_nil)))
    (pss_cons (ps_set (i := 5) sc_guessed.nd rfl (Or.inl rfl) (pe_callB call_abs rfl T.n_abs boot_abs (pa_cons (pe_fn g_height_at hr (pa_cons (pv 0) (pa_cons (pe_ix ix_tup (pv 1) pe_int (fun _ _ => rfl)) (pa_cons (pe_ix ix_tup (pv 1) pe_int (fun _ _ => rfl)) pa_nil)))) pa_nil)))
    (pss_cons (ps_set (i := 6) sc_guessed.nd rfl (Or.inl rfl) (pe_op (op_fdivP ⟨hT, ⟨_, _, rfl, rfl, rfl, rfl, rfl⟩, hr.py⟩) (pe_op op_mulL (pv 2) (pv 4)) (pe_op op_add (pv 4) (pv 5))))
    (pss_cons (ps_set (i := 7) sc_guessed.nd rfl (Or.inl rfl) (pe_op op_add (pe_op op_mulL (pe_ix ix_tup (pv 1) pe_int (fun _ _ => rfl)) (pv 2)) (pe_op op_mulL (pv 3) (pv 6))))
    (pss_one (ps_ret (pe_fn g_part_between hr (pa_cons (pv 0) (pa_cons (pv 1) (pa_cons (pv 2) (pa_cons (pv 7) (pa_cons (pe_op op_add (pv 7) (pv 3)) pa_nil))))))))))))), ?_⟩
  exact run_ok (s := c_guessed) (n := 5) (ss_seq (ss_set (s_sub (s_ixT s_var s_int) (s_ixT s_var s_int)))
    (ss_seq (ss_set (s_abs (s_cons (s_call (s_cons s_var (s_cons (s_ixT s_var s_int) (s_cons (s_ixT s_var s_int) s_nil)))) s_nil)))
    (ss_seq (ss_set (s_abs (s_cons (s_call (s_cons s_var (s_cons (s_ixT s_var s_int) (s_cons (s_ixT s_var s_int) s_nil)))) s_nil)))
    (ss_seq (ss_set (s_div (s_mul s_var s_var) (s_add s_var s_var)))
    (ss_seq (ss_set (s_add (s_mul (s_ixT s_var s_int) s_var) (s_mul s_var s_var)))
    (ss_ret (s_call (s_cons s_var (s_cons s_var (s_cons s_var (s_cons s_var (s_cons (s_add s_var s_var) s_nil)))))))))))) rfl h
theorem ok_halved (g_part_between : FnB P w K mg base 35 "part_between" ["free", "stretch", "parts", "near", "far"] (spEv K C f_part_between 5))
    (D : DefB K mg "halved" s_halved ["free", "stretch"]) : FnB P w K mg base 36 "halved" ["free", "stretch"] (spEv K C f_halved 2) := by
  refine D.ok sc_halved (fun vs H Q E h => spEv_len h) (fun f cdv A outer s H vs Q E hr h => ?_)
  refine ⟨_, (pss_cons (ps_set (i := 2) sc_halved.nd rfl (Or.inl rfl) (pe_op op_add (pe_ix ix_tup (pv 1) pe_int (fun _ _ => rfl)) (pe_ix ix_tup (pv 1) pe_int (fun _ _ => rfl))))
    (pss_cons (ps_set (i := 3) sc_halved.nd rfl (Or.inl rfl) (pe_fn g_part_between hr (pa_cons (pv 0) (pa_cons (pv 1) (pa_cons pe_int (pa_cons (pe_op op_mulL pe_int (pe_ix ix_tup (pv 1) pe_int (fun _ _ => rfl))) (pa_cons (pv 2) pa_nil)))))))
    (pss_one (ps_ret (pe_ifExp (pt_cmpR op_isN (pv 3) pe_non (nomark _)) (pe_tup (pa_cons (pv 2) (pa_cons (pe_op op_mulL pe_int (pe_ix ix_tup (pv 1) pe_int (fun _ _ => rfl))) (pa_cons (pe_op op_mulL pe_int (pe_ix ix_tup (pv 1) pe_int (fun _ _ => rfl))) pa_nil)))) (pv 3)))))), ?_⟩
  exact run_ok (s := c_halved) (n := 2) (ss_seq (ss_set (s_add (s_ixT s_var s_int) (s_ixT s_var s_int)))
    (ss_seq (ss_set (s_call (s_cons s_var (s_cons s_var (s_cons s_int (s_cons (s_mul s_int (s_ixT s_var s_int)) (s_cons s_var s_nil)))))))
    (ss_ret (s_if (s_test (s_isN s_var)) (s_tup (s_cons s_var (s_cons (s_mul s_int (s_ixT s_var s_int)) (s_cons (s_mul s_int (s_ixT s_var s_int)) s_nil)))) s_var)))) rfl h
theorem ok_narrowed (T : Nm mg) (g_ratio : FnB P w K mg base 36 "ratio" ["top", "under"] (spEv K C f_ratio 2)) (g_parts_needed : FnB P w K mg base 36 "parts_needed" ["stretch", "width"] (spEv K C f_parts_needed 2)) (g_halved : FnB P w K mg base 36 "halved" ["free", "stretch"] (spEv K C f_halved 2)) (g_guessed : FnB P w K mg base 36 "guessed" ["free", "stretch", "parts"] (spEv K C f_guessed 3)) (g_stretch_of : FnB P w K mg base 36 "stretch_of" ["pair"] (spEv K C f_stretch_of 1))
    (D : DefB K mg "narrowed" s_narrowed ["free", "pair", "width"]) : FnB P w K mg base 37 "narrowed" ["free", "pair", "width"] (spEv K C f_narrowed 3) := by
  refine D.ok sc_narrowed (fun vs H Q E h => spEv_len h) (fun f cdv A outer s H vs Q E hr h => ?_)
  refine ⟨_, (pss_cons (ps_set (i := 3) sc_narrowed.nd rfl (Or.inl rfl) (pe_fn g_stretch_of hr (pa_cons (pv 1) pa_nil)))
    (pss_cons (ps_set (i := 4) sc_narrowed.nd rfl (Or.inl rfl) pe_int)
    (pss_cons (ps_set (i := 5) sc_narrowed.nd rfl (Or.inl rfl) (pe_fn g_parts_needed hr (pa_cons (pv 3) (pa_cons (pv 2) pa_nil))))
    (pss_cons (ps_while PassesOwn.never (pt_cmpR op_gt (pv 5) pe_int (nomark _))
    (pss_cons (ps_set (i := 6) sc_narrowed.nd rfl (Or.inl rfl) (pe_fn g_guessed hr (pa_cons (pv 0) (pa_cons (pv 3) (pa_cons (pe_callB (call_min2 rfl) rfl T.n_min boot_min (pa_cons (pv 4) (pa_cons (pv 5) pa_nil))) pa_nil)))))
    (pss_cons (ps_set (i := 4) sc_narrowed.nd rfl (Or.inl rfl) (pe_ifExp (pt_cmpR op_isN (pv 6) pe_non (nomark _)) pe_int (pe_op op_mulL (pv 4) (pv 4))))
    (pss_cons (ps_set (i := 3) sc_narrowed.nd rfl (Or.inl rfl) (pe_ifExp (pt_cmpR op_isN (pv 6) pe_non (nomark _)) (pe_fn g_halved hr (pa_cons (pv 0) (pa_cons (pv 3) pa_nil))) (pv 6)))
    (pss_one (ps_set (i := 5) sc_narrowed.nd rfl (Or.inl rfl) (pe_fn g_parts_needed hr (pa_cons (pv 3) (pa_cons (pv 2) pa_nil)))))))))
    (pss_one (ps_ret (pe_tup (pa_cons (pe_fn g_ratio hr (pa_cons (pe_ix ix_tup (pv 3) pe_int (fun _ _ => rfl)) (pa_cons (pe_ix ix_tup (pv 3) pe_int (fun _ _ => rfl)) pa_nil))) (pa_cons (pe_fn g_ratio hr (pa_cons (pe_ix ix_tup (pv 3) pe_int (fun _ _ => rfl)) (pa_cons (pe_ix ix_tup (pv 3) pe_int (fun _ _ => rfl)) pa_nil))) pa_nil))))))))), ?_⟩
  exact run_ok (s := c_narrowed) (n := 4) (ss_seq (ss_set (s_call (s_cons s_var s_nil)))
    (ss_seq (ss_set s_int)
    (ss_seq (ss_set (s_call (s_cons s_var (s_cons s_var s_nil))))
    (ss_seq (ss_wh (s_test (s_gt s_var s_int))
    (ss_seq (ss_set (s_call (s_cons s_var (s_cons s_var (s_cons (s_min2 (s_cons s_var (s_cons s_var s_nil))) s_nil)))))
    (ss_seq (ss_set (s_if (s_test (s_isN s_var)) s_int (s_mul s_var s_var)))
    (ss_seq (ss_set (s_if (s_test (s_isN s_var)) (s_call (s_cons s_var (s_cons s_var s_nil))) s_var))
    (ss_set (s_call (s_cons s_var (s_cons s_var s_nil))))))))
    (ss_ret (s_tup (s_cons (s_call (s_cons (s_ixT s_var s_int) (s_cons (s_ixT s_var s_int) s_nil))) (s_cons (s_call (s_cons (s_ixT s_var s_int) (s_cons (s_ixT s_var s_int) s_nil))) s_nil)))))))) rfl h
theorem ok_is_alone (T : Nm mg) (g_changes_in : FnB P w K mg base 36 "changes_in" ["row"] (spEv K C f_changes_in 1)) (g_composed : FnB P w K mg base 36 "composed" ["poly", "top", "under"] (spEv K C f_composed 3)) (g_stretch_of : FnB P w K mg base 36 "stretch_of" ["pair"] (spEv K C f_stretch_of 1))
    (D : DefB K mg "is_alone" s_is_alone ["free", "pair"]) : FnB P w K mg base 37 "is_alone" ["free", "pair"] (spEv K C f_is_alone 2) := by
  refine D.ok sc_is_alone (fun vs H Q E h => spEv_len h) (fun f cdv A outer s H vs Q E hr h => ?_)
  refine ⟨_, (pss_cons (ps_set (i := 2) sc_is_alone.nd rfl (Or.inl rfl) (pe_fn g_stretch_of hr (pa_cons (pv 1) pa_nil)))
    (pss_cons (ps_set (i := 3) sc_is_alone.nd rfl (Or.inl rfl) (pe_fn g_composed hr (pa_cons (pv 0) (pa_cons (pe_lst (pa_cons (pe_ix ix_tup (pv 2) pe_int (fun _ _ => rfl)) (pa_cons (pe_ix ix_tup (pv 2) pe_int (fun _ _ => rfl)) pa_nil))) (pa_cons (pe_lst (pa_cons (pe_ix ix_tup (pv 2) pe_int (fun _ _ => rfl)) (pa_cons (pe_ix ix_tup (pv 2) pe_int (fun _ _ => rfl)) pa_nil))) pa_nil)))))
    (pss_one (ps_ret (pe_and (pe_cmpR op_eq (pe_callB call_len_seq rfl T.n_len boot_len (pa_cons (pv 3) pa_nil)) (pe_callB call_len_seq rfl T.n_len boot_len (pa_cons (pv 0) pa_nil)) (nomark _)) (pe_and (pe_cmpR op_ne (pe_ix ix_list (pv 3) pe_int (fun _ _ => rfl)) pe_int (nomark _)) (pe_one (pe_cmpR op_eq (pe_fn g_changes_in hr (pa_cons (pv 3) pa_nil)) pe_int (nomark _))))))))), ?_⟩
  exact run_ok (s := c_is_alone) (n := 2) (ss_seq (ss_set (s_call (s_cons s_var s_nil)))
    (ss_seq (ss_set (s_call (s_cons s_var (s_cons (s_fz (s_lst (s_cons (s_ixT s_var s_int) (s_cons (s_ixT s_var s_int) s_nil)))) (s_cons (s_fz (s_lst (s_cons (s_ixT s_var s_int) (s_cons (s_ixT s_var s_int) s_nil)))) s_nil)))))
    (ss_ret (s_andV (s_eq (s_len (s_cons s_var s_nil)) (s_len (s_cons s_var s_nil))) (s_andV (s_ne (s_ixL s_var s_int) s_int) (s_eq (s_call (s_cons s_var s_nil)) s_int)))))) rfl h
theorem ok_of_ratio (RC : Rc K mg C fI fd) (g_init : FnOk P w K mg base CX0 32 fI fd ["self", "poly", "pair", "weight"] (spIn C))
    (D : DefB K mg "of_ratio" s_of_ratio ["given"]) : FnB P w K mg base 34 "of_ratio" ["given"] (spEv K C f_of_ratio 1) := by
  refine D.ok sc_of_ratio (fun vs H Q E h => spEv_len h) (fun f cdv A outer s H vs Q E hr h => ?_)
  refine ⟨_, (pss_one (ps_ret (pe_make (dvs := []) (E := E0) RC.mk1 g_init hr rfl RC.m RC.b .nil pass0 (pa_cons (pe_lst (pa_cons (pe_un un_neg (pe_ix ix_tup (pv 0) pe_int (fun _ _ => rfl))) (pa_cons (pe_ix ix_tup (pv 0) pe_int (fun _ _ => rfl)) pa_nil))) (pa_cons (pe_tup (pa_cons (pv 0) (pa_cons (pv 0) pa_nil))) (pa_cons pe_int pa_nil)))))), ?_⟩
  exact run_ok (s := c_of_ratio) (n := 0) (ss_ret (s_make (s_cons (s_fz (s_lst (s_cons (s_ng (s_ixT s_var s_int)) (s_cons (s_ixT s_var s_int) s_nil)))) (s_cons (s_tup (s_cons s_var (s_cons s_var s_nil))) (s_cons s_int s_nil))))) rfl h
theorem ok_number_in (hT : P.given.tree = none) (RC : Rc K mg C fI fd) (g_init : FnOk P w K mg base CX0 36 fI fd ["self", "poly", "pair", "weight"] (spIn C)) (g_sign_at : FnB P w K mg base 37 "sign_at" ["poly", "given"] (spEv K C f_sign_at 2)) (g_order_of : FnB P w K mg base 37 "order_of" ["one", "other"] (spEv K C f_order_of 2)) (g_of_ratio : FnB P w K mg base 37 "of_ratio" ["given"] (spEv K C f_of_ratio 1)) (g_ratio : FnB P w K mg base 37 "ratio" ["top", "under"] (spEv K C f_ratio 2)) (g_narrowed : FnB P w K mg base 37 "narrowed" ["free", "pair", "width"] (spEv K C f_narrowed 3))
    (D : DefB K mg "number_in" s_number_in ["free", "pair", "weight"]) : FnB P w K mg base 38 "number_in" ["free", "pair", "weight"] (spEv K C f_number_in 3) := by
  refine D.ok sc_number_in (fun vs H Q E h => spEv_len h) (fun f cdv A outer s H vs Q E hr h => ?_)
  refine ⟨_, (pss_cons (ps_set (i := 3) sc_number_in.nd rfl (Or.inl rfl) (pe_ix ix_list (pv 0) (pe_un un_neg pe_int) (fun _ _ => rfl)))
    (pss_cons (ps_set (i := 4) sc_number_in.nd rfl (Or.inl rfl) (pe_fn g_narrowed hr (pa_cons (pv 0) (pa_cons (pv 1) (pa_cons (pe_tup (pa_cons pe_int (pa_cons (pv 3) pa_nil))) pa_nil)))))
    (pss_cons (ps_set (i := 5) sc_number_in.nd rfl (Or.inl rfl) (pe_ix ix_tup (pv 4) pe_int (fun _ _ => rfl)))
    (pss_cons (ps_set (i := 6) sc_number_in.nd rfl (Or.inl rfl) (pe_ix ix_tup (pv 4) pe_int (fun _ _ => rfl)))
    (pss_cons (ps_if (pt_cmpR (op_eq2 hr.units0) (pv 5) (pv 6) (nomark _))
    (pss_one (ps_ret (pe_fn g_of_ratio hr (pa_cons (pv 5) pa_nil))))
    pss_nil)
    (pss_cons (ps_set (i := 7) sc_number_in.nd rfl (Or.inl rfl) (pe_fn g_ratio hr (pa_cons (pe_op op_add (pe_op (op_fdivP ⟨hT, ⟨_, _, rfl, rfl, rfl, rfl, rfl⟩, hr.py⟩) (pe_op op_mulL (pe_ix ix_tup (pv 5) pe_int (fun _ _ => rfl)) (pv 3)) (pe_ix ix_tup (pv 5) pe_int (fun _ _ => rfl))) pe_int) (pa_cons (pv 3) pa_nil))))
    (pss_cons (ps_if (PW.pt (pw_and (pt_cmpR op_lt (pe_fn g_order_of hr (pa_cons (pv 7) (pa_cons (pv 6) pa_nil))) pe_int (nomark _)) (pw_and1 (pt_cmpR op_eq (pe_fn g_sign_at hr (pa_cons (pv 0) (pa_cons (pv 7) pa_nil))) pe_int (nomark _)))))
    (pss_one (ps_ret (pe_fn g_of_ratio hr (pa_cons (pv 7) pa_nil))))
    pss_nil)
    (pss_one (ps_ret (pe_make (dvs := []) (E := E0) RC.mk1 g_init hr rfl RC.m RC.b .nil pass0 (pa_cons (pv 0) (pa_cons (pv 4) (pa_cons (pv 2) pa_nil))))))))))))), ?_⟩
  exact run_ok (s := c_number_in) (n := 5) (ss_seq (ss_set (s_ixL s_var (s_ng s_int)))
    (ss_seq (ss_set (s_call (s_cons s_var (s_cons s_var (s_cons (s_tup (s_cons s_int (s_cons s_var s_nil))) s_nil)))))
    (ss_seq (ss_set (s_ixT s_var s_int))
    (ss_seq (ss_set (s_ixT s_var s_int))
    (ss_seq (ss_if (s_test (s_eq2 s_var s_var)) (ss_ret (s_call (s_cons s_var s_nil)))
    ss_nx)
    (ss_seq (ss_set (s_call (s_cons (s_add (s_div (s_mul (s_ixT s_var s_int) s_var) (s_ixT s_var s_int)) s_int) (s_cons s_var s_nil))))
    (ss_seq (ss_if (s_and (s_test (s_lt (s_call (s_cons s_var (s_cons s_var s_nil))) s_int)) (s_test (s_eq (s_call (s_cons s_var (s_cons s_var s_nil))) s_int))) (ss_ret (s_call (s_cons s_var s_nil)))
    ss_nx)
    (ss_ret (s_make (s_cons s_var (s_cons s_var (s_cons s_var s_nil)))))))))))) rfl h
theorem ok_nth (T : Nm mg) (g_degree : FnB P w K mg base 39 "degree" ["poly"] (spEv K C f_degree 1)) (g_number_in : FnB P w K mg base 39 "number_in" ["free", "pair", "weight"] (spEv K C f_number_in 3)) (g_square_free : FnB P w K mg base 39 "square_free" ["poly"] (spEv K C f_square_free 1)) (g_isolated : FnB P w K mg base 39 "isolated" ["poly"] (spEv K C f_isolated 1))
    (D : DefB K mg "nth" s_nth ["poly", "k"]) : FnB P w K mg base 40 "nth" ["poly", "k"] (spEv K C f_nth 2) := by
  refine D.ok sc_nth (fun vs H Q E h => spEv_len h) (fun f cdv A outer s H vs Q E hr h => ?_)
  refine ⟨_, (pss_cons (ps_set (i := 2) sc_nth.nd rfl (Or.inl rfl) (pe_fn g_isolated hr (pa_cons (pv 0) pa_nil)))
    (pss_cons (ps_if (PW.pt (pw_or (pt_cmpR op_lt (pv 1) pe_int (nomark _)) (pw_or1 (pt_cmpR op_ge (pv 1) (pe_callB call_len_seq rfl T.n_len boot_len (pa_cons (pv 2) pa_nil)) (nomark _)))))
    (pss_one ps_never)
    pss_nil)
    (pss_cons (ps_set (i := 3) sc_nth.nd rfl (Or.inl rfl) (pe_fn g_square_free hr (pa_cons (pv 0) pa_nil)))
    (pss_one (ps_ret (pe_fn g_number_in hr (pa_cons (pv 3) (pa_cons (pe_ix ix_list (pv 2) (pv 1) (fun _ _ => rfl)) (pa_cons (pe_fn g_degree hr (pa_cons (pv 3) pa_nil)) pa_nil))))))))), ?_⟩
  exact run_ok (s := c_nth) (n := 2) (ss_seq (ss_set (s_call (s_cons s_var s_nil)))
    (ss_seq (ss_if (s_or (s_test (s_lt s_var s_int)) (s_test (s_ge s_var (s_len (s_cons s_var s_nil))))) ss_no
    ss_nx)
    (ss_seq (ss_set (s_call (s_cons s_var s_nil)))
    (ss_ret (s_call (s_cons s_var (s_cons (s_ixL s_var s_var) (s_cons (s_call (s_cons s_var s_nil)) s_nil)))))))) rfl h
theorem ok_as_ratio (RC : Rc K mg C fI fd)
    (D : DefB K mg "as_ratio" s_as_ratio ["number"]) : FnB P w K mg base 34 "as_ratio" ["number"] (spEv K C f_as_ratio 1) := by
  refine D.ok sc_as_ratio (fun vs H Q E h => spEv_len h) (fun f cdv A outer s H vs Q E hr h => ?_)
  refine ⟨_, (pss_one (ps_ret (pe_ifExp (pt_cmpR (op_eq2 hr.units0) (pe_ix ix_tup (pe_fld (pv 0) rfl) pe_int (fun _ _ => rfl)) (pe_ix ix_tup (pe_fld (pv 0) rfl) pe_int (fun _ _ => rfl)) (nomark _)) (pe_ix ix_tup (pe_fld (pv 0) rfl) pe_int (fun _ _ => rfl)) pe_non))), ?_⟩
  exact run_ok (s := c_as_ratio) (n := 0) (ss_ret (s_if (s_test (s_eq2 (s_ixT (s_pair RC.cl RC.n2 s_var) s_int) (s_ixT (s_pair RC.cl RC.n2 s_var) s_int))) (s_ixT (s_pair RC.cl RC.n2 s_var) s_int) s_non)) rfl h
end
end V25
namespace V25
open PySem PyProof.Rows L2 SF CV
section
variable {P : Program} {w : World} {K : PySem.W.Frag} {mg : Str → Option Value} {base : Heap} {C fI : Addr} {fd : FuncData}
theorem ok_weight_of (RC : Rc K mg C fI fd)
    (D : DefB K mg "weight_of" s_weight_of ["number"]) : FnB P w K mg base 34 "weight_of" ["number"] (spEv K C f_weight_of 1) := by
  refine D.ok sc_weight_of (fun vs H Q E h => spEv_len h) (fun f cdv A outer s H vs Q E hr h => ?_)
  refine ⟨_, (pss_one (ps_ret (pe_fld (pv 0) rfl))), ?_⟩
  exact run_ok (s := c_weight_of) (n := 0) (ss_ret (s_weight RC.cl RC.n3 s_var)) rfl h
theorem ok_against (RC : Rc K mg C fI fd) (g_sign_at : FnB P w K mg base 35 "sign_at" ["poly", "given"] (spEv K C f_sign_at 2)) (g_order_of : FnB P w K mg base 35 "order_of" ["one", "other"] (spEv K C f_order_of 2))
    (D : DefB K mg "against" s_against ["number", "given"]) : FnB P w K mg base 36 "against" ["number", "given"] (spEv K C f_against 2) := by
  refine D.ok sc_against (fun vs H Q E h => spEv_len h) (fun f cdv A outer s H vs Q E hr h => ?_)
  refine ⟨_, (pss_cons (ps_set (i := 2) sc_against.nd rfl (Or.inl rfl) (pe_ix ix_tup (pe_fld (pv 0) rfl) pe_int (fun _ _ => rfl)))
    (pss_cons (ps_set (i := 3) sc_against.nd rfl (Or.inl rfl) (pe_fn g_order_of hr (pa_cons (pv 2) (pa_cons (pv 1) pa_nil))))
    (pss_cons (ps_if (pt_cmpR op_eq (pv 3) (pe_fn g_order_of hr (pa_cons (pe_ix ix_tup (pe_fld (pv 0) rfl) pe_int (fun _ _ => rfl)) (pa_cons (pv 1) pa_nil))) (nomark _))
    (pss_one (ps_ret (pv 3)))
    pss_nil)
    (pss_one (ps_ret (pe_op op_mulL (pe_fn g_sign_at hr (pa_cons (pe_fld (pv 0) rfl) (pa_cons (pv 2) pa_nil))) (pe_fn g_sign_at hr (pa_cons (pe_fld (pv 0) rfl) (pa_cons (pv 1) pa_nil))))))))), ?_⟩
  exact run_ok (s := c_against) (n := 2) (ss_seq (ss_set (s_ixT (s_pair RC.cl RC.n2 s_var) s_int))
    (ss_seq (ss_set (s_call (s_cons s_var (s_cons s_var s_nil))))
    (ss_seq (ss_if (s_test (s_eq s_var (s_call (s_cons (s_ixT (s_pair RC.cl RC.n2 s_var) s_int) (s_cons s_var s_nil))))) (ss_ret s_var)
    ss_nx)
    (ss_ret (s_mul (s_call (s_cons (s_poly RC.cl RC.n1 s_var) (s_cons s_var s_nil))) (s_call (s_cons (s_poly RC.cl RC.n1 s_var) (s_cons s_var s_nil)))))))) rfl h
theorem ok_sign_of (g_against : FnB P w K mg base 36 "against" ["number", "given"] (spEv K C f_against 2))
    (D : DefB K mg "sign_of" s_sign_of ["number"]) : FnB P w K mg base 37 "sign_of" ["number"] (spEv K C f_sign_of 1) := by
  refine D.ok sc_sign_of (fun vs H Q E h => spEv_len h) (fun f cdv A outer s H vs Q E hr h => ?_)
  refine ⟨_, (pss_one (ps_ret (pe_fn g_against hr (pa_cons (pv 0) (pa_cons (pe_tup (pa_cons pe_int (pa_cons pe_int pa_nil))) pa_nil))))), ?_⟩
  exact run_ok (s := c_sign_of) (n := 0) (ss_ret (s_call (s_cons s_var (s_cons (s_tup (s_cons s_int (s_cons s_int s_nil))) s_nil)))) rfl h
theorem ok_falling (T : Nm mg) (hT : P.given.tree = none)
    (D : DefB K mg "falling" s_falling ["poly", "scale"]) : FnB P w K mg base 34 "falling" ["poly", "scale"] (spEv K C f_falling 2) := by
  refine D.ok sc_falling (fun vs H Q E h => spEv_len h) (fun f cdv A outer s H vs Q E hr h => ?_)
  refine ⟨_, (pss_cons (ps_set (i := 2) sc_falling.nd rfl (Or.inl rfl) (pe_lst pa_nil))
    (pss_cons (ps_set (i := 3) sc_falling.nd rfl (Or.inl rfl) pe_int)
    (pss_cons (ps_for PassesOwn.never rfl (pi_rev rfl T.n_reversed (pa_cons (pv 0) pa_nil)) (pg_name (i := 4) sc_falling.nd rfl (Or.inl rfl))
    (pss_cons (ps_expr (pe_bm PySem.F.plainAttrs_list PySem.F.slot_list_append PySem.F.type_list_append mt_append (pv 2) (pa_cons (pe_op (op_fdivP ⟨hT, ⟨_, _, rfl, rfl, rfl, rfl, rfl⟩, hr.py⟩) (pe_op op_mulL (pv 4) (pv 3)) (pe_ix ix_list (pv 0) (pe_un un_neg pe_int) (fun _ _ => rfl))) pa_nil)))
    (pss_one (ps_set (i := 3) sc_falling.nd rfl (Or.inl rfl) (pe_op op_mulL (pv 3) (pv 1))))))
    (pss_one (ps_ret (pv 2)))))), ?_⟩
  exact run_ok (s := c_falling) (n := 3) (ss_seq (ss_opn (s_lst s_nil))
    (ss_seq (ss_set s_int)
    (ss_seq (ss_for (si_rv (s_cons s_var s_nil)) sg_n
    (ss_seq (ss_app (s_cons (s_div (s_mul s_var s_var) (s_ixL s_var (s_ng s_int))) s_nil))
    (ss_set (s_mul s_var s_var))))
    (ss_ret s_var)))) rfl h
theorem ok_power_sums (T : Nm mg)
    (D : DefB K mg "power_sums" s_power_sums ["row", "many"]) : FnB P w K mg base 34 "power_sums" ["row", "many"] (spEv K C f_power_sums 2) := by
  refine D.ok sc_power_sums (fun vs H Q E h => spEv_len h) (fun f cdv A outer s H vs Q E hr h => ?_)
  refine ⟨_, (pss_cons (ps_set (i := 2) sc_power_sums.nd rfl (Or.inl rfl) (pe_lst (pa_cons (pe_op op_sub (pe_callB call_len_seq rfl T.n_len boot_len (pa_cons (pv 0) pa_nil)) pe_int) pa_nil)))
    (pss_cons (ps_for PassesOwn.never rfl (pi_range2 rfl T.n_range (pa_cons pe_int (pa_cons (pe_op op_add (pv 1) pe_int) pa_nil))) (pg_name (i := 3) sc_power_sums.nd rfl (Or.inl rfl))
    (pss_cons (ps_set (i := 4) sc_power_sums.nd rfl (Or.inl rfl) (pe_ifExp (pt_cmpR op_lt (pv 3) (pe_callB call_len_seq rfl T.n_len boot_len (pa_cons (pv 0) pa_nil)) (nomark _)) (pe_op op_mulL (pv 3) (pe_ix ix_list (pv 0) (pv 3) (fun _ _ => rfl))) pe_int))
    (pss_cons (ps_for PassesOwn.never rfl (pi_range2 rfl T.n_range (pa_cons pe_int (pa_cons (pe_callB (call_min2 rfl) rfl T.n_min boot_min (pa_cons (pv 3) (pa_cons (pe_callB call_len_seq rfl T.n_len boot_len (pa_cons (pv 0) pa_nil)) pa_nil))) pa_nil))) (pg_name (i := 5) sc_power_sums.nd rfl (Or.inl rfl))
    (pss_one (ps_set (i := 4) sc_power_sums.nd rfl (Or.inl rfl) (pe_op op_add (pv 4) (pe_op op_mulL (pe_ix ix_list (pv 0) (pv 5) (fun _ _ => rfl)) (pe_ix ix_list (pv 2) (pe_op op_sub (pv 3) (pv 5)) (fun _ _ => rfl)))))))
    (pss_one (ps_expr (pe_bm PySem.F.plainAttrs_list PySem.F.slot_list_append PySem.F.type_list_append mt_append (pv 2) (pa_cons (pe_un un_neg (pv 4)) pa_nil)))))))
    (pss_one (ps_ret (pv 2))))), ?_⟩
  exact run_ok (s := c_power_sums) (n := 4) (ss_seq (ss_opn (s_lst (s_cons (s_sub (s_len (s_cons s_var s_nil)) s_int) s_nil)))
    (ss_seq (ss_for (si_r2 (s_cons s_int (s_cons (s_add s_var s_int) s_nil))) sg_n
    (ss_seq (ss_set (s_if (s_test (s_lt s_var (s_len (s_cons s_var s_nil)))) (s_mul s_var (s_ixL s_var s_var)) s_int))
    (ss_seq (ss_for (si_r2 (s_cons s_int (s_cons (s_min2 (s_cons s_var (s_cons (s_len (s_cons s_var s_nil)) s_nil))) s_nil))) sg_n
    (ss_set (s_add s_var (s_mul (s_ixL s_var s_var) (s_ixO (s_sub s_var s_var))))))
    (ss_app (s_cons (s_ng s_var) s_nil)))))
    (ss_ret s_var))) rfl h
theorem ok_falling_of_sums (T : Nm mg) (hT : P.given.tree = none)
    (D : DefB K mg "falling_of_sums" s_falling_of_sums ["sums"]) : FnB P w K mg base 34 "falling_of_sums" ["sums"] (spEv K C f_falling_of_sums 1) := by
  refine D.ok sc_falling_of_sums (fun vs H Q E h => spEv_len h) (fun f cdv A outer s H vs Q E hr h => ?_)
  refine ⟨_, (pss_cons (ps_set (i := 1) sc_falling_of_sums.nd rfl (Or.inl rfl) (pe_lst (pa_cons pe_int pa_nil)))
    (pss_cons (ps_for PassesOwn.never rfl (pi_range2 rfl T.n_range (pa_cons pe_int (pa_cons (pe_callB call_len_seq rfl T.n_len boot_len (pa_cons (pv 0) pa_nil)) pa_nil))) (pg_name (i := 2) sc_falling_of_sums.nd rfl (Or.inl rfl))
    (pss_cons (ps_set (i := 3) sc_falling_of_sums.nd rfl (Or.inl rfl) (pe_ix ix_list (pv 0) (pv 2) (fun _ _ => rfl)))
    (pss_cons (ps_for PassesOwn.never rfl (pi_range2 rfl T.n_range (pa_cons pe_int (pa_cons (pv 2) pa_nil))) (pg_name (i := 4) sc_falling_of_sums.nd rfl (Or.inl rfl))
    (pss_one (ps_set (i := 3) sc_falling_of_sums.nd rfl (Or.inl rfl) (pe_op op_add (pv 3) (pe_op op_mulL (pe_ix ix_list (pv 1) (pv 4) (fun _ _ => rfl)) (pe_ix ix_list (pv 0) (pe_op op_sub (pv 2) (pv 4)) (fun _ _ => rfl)))))))
    (pss_one (ps_expr (pe_bm PySem.F.plainAttrs_list PySem.F.slot_list_append PySem.F.type_list_append mt_append (pv 1) (pa_cons (pe_op (op_fdivP ⟨hT, ⟨_, _, rfl, rfl, rfl, rfl, rfl⟩, hr.py⟩) (pe_un un_neg (pv 3)) (pv 2)) pa_nil)))))))
    (pss_one (ps_ret (pv 1))))), ?_⟩
  exact run_ok (s := c_falling_of_sums) (n := 4) (ss_seq (ss_opn (s_lst (s_cons s_int s_nil)))
    (ss_seq (ss_for (si_r2 (s_cons s_int (s_cons (s_len (s_cons s_var s_nil)) s_nil))) sg_n
    (ss_seq (ss_set (s_ixL s_var s_var))
    (ss_seq (ss_for (si_r2 (s_cons s_int (s_cons s_var s_nil))) sg_n
    (ss_set (s_add s_var (s_mul (s_ixO s_var) (s_ixL s_var (s_sub s_var s_var))))))
    (ss_app (s_cons (s_div (s_ng s_var) s_var) s_nil)))))
    (ss_ret s_var))) rfl h
theorem ok_with_power_sums (T : Nm mg) (g_primitive : FnB P w K mg base 36 "primitive" ["poly"] (spEv K C f_primitive 1)) (g_falling_of_sums : FnB P w K mg base 36 "falling_of_sums" ["sums"] (spEv K C f_falling_of_sums 1))
    (D : DefB K mg "with_power_sums" s_with_power_sums ["sums", "scale"]) : FnB P w K mg base 37 "with_power_sums" ["sums", "scale"] (spEv K C f_with_power_sums 2) := by
  refine D.ok sc_with_power_sums (fun vs H Q E h => spEv_len h) (fun f cdv A outer s H vs Q E hr h => ?_)
  refine ⟨_, (pss_cons (ps_set (i := 2) sc_with_power_sums.nd rfl (Or.inl rfl) (pe_lst pa_nil))
    (pss_cons (ps_set (i := 3) sc_with_power_sums.nd rfl (Or.inl rfl) pe_int)
    (pss_cons (ps_for PassesOwn.never rfl (pi_rev rfl T.n_reversed (pa_cons (pe_fn g_falling_of_sums hr (pa_cons (pv 0) pa_nil)) pa_nil)) (pg_name (i := 4) sc_with_power_sums.nd rfl (Or.inl rfl))
    (pss_cons (ps_expr (pe_bm PySem.F.plainAttrs_list PySem.F.slot_list_append PySem.F.type_list_append mt_append (pv 2) (pa_cons (pe_op op_mulL (pv 4) (pv 3)) pa_nil)))
    (pss_one (ps_set (i := 3) sc_with_power_sums.nd rfl (Or.inl rfl) (pe_op op_mulL (pv 3) (pv 1))))))
    (pss_one (ps_ret (pe_fn g_primitive hr (pa_cons (pv 2) pa_nil))))))), ?_⟩
  exact run_ok (s := c_with_power_sums) (n := 3) (ss_seq (ss_opn (s_lst s_nil))
    (ss_seq (ss_set s_int)
    (ss_seq (ss_for (si_rv (s_cons (s_call (s_cons s_var s_nil)) s_nil)) sg_n
    (ss_seq (ss_app (s_cons (s_mul s_var s_var) s_nil))
    (ss_set (s_mul s_var s_var))))
    (ss_ret (s_call (s_cons s_var s_nil)))))) rfl h
theorem ok_sums_by_powers (T : Nm mg) (hT : P.given.tree = none) (g_with_power_sums : FnB P w K mg base 37 "with_power_sums" ["sums", "scale"] (spEv K C f_with_power_sums 2)) (g_multiplied : FnB P w K mg base 37 "multiplied" ["one", "other"] (spEv K C f_multiplied 2)) (g_falling : FnB P w K mg base 37 "falling" ["poly", "scale"] (spEv K C f_falling 2)) (g_power_sums : FnB P w K mg base 37 "power_sums" ["row", "many"] (spEv K C f_power_sums 2)) (g_common_divisor : FnB P w K mg base 37 "common_divisor" ["one", "other"] (spEv K C f_common_divisor 2)) (g_degree : FnB P w K mg base 37 "degree" ["poly"] (spEv K C f_degree 1))
    (D : DefB K mg "sums_by_powers" s_sums_by_powers ["one", "other"]) : FnB P w K mg base 38 "sums_by_powers" ["one", "other"] (spEv K C f_sums_by_powers 2) := by
  refine D.ok sc_sums_by_powers (fun vs H Q E h => spEv_len h) (fun f cdv A outer s H vs Q E hr h => ?_)
  refine ⟨_, (pss_cons (ps_set (i := 2) sc_sums_by_powers.nd rfl (Or.inl rfl) (pe_op op_mulL (pe_fn g_degree hr (pa_cons (pv 0) pa_nil)) (pe_fn g_degree hr (pa_cons (pv 1) pa_nil))))
    (pss_cons (ps_set (i := 3) sc_sums_by_powers.nd rfl (Or.inl rfl) (pe_op (op_fdivP ⟨hT, ⟨_, _, rfl, rfl, rfl, rfl, rfl⟩, hr.py⟩) (pe_op op_mulL (pe_ix ix_list (pv 0) (pe_un un_neg pe_int) (fun _ _ => rfl)) (pe_ix ix_list (pv 1) (pe_un un_neg pe_int) (fun _ _ => rfl))) (pe_fn g_common_divisor hr (pa_cons (pe_ix ix_list (pv 0) (pe_un un_neg pe_int) (fun _ _ => rfl)) (pa_cons (pe_ix ix_list (pv 1) (pe_un un_neg pe_int) (fun _ _ => rfl)) pa_nil)))))
    (pss_cons (ps_set (i := 4) sc_sums_by_powers.nd rfl (Or.inr rfl) (pe_fn g_power_sums hr (pa_cons (pe_fn g_falling hr (pa_cons (pv 0) (pa_cons (pv 3) pa_nil))) (pa_cons (pv 2) pa_nil))))
    (pss_cons (ps_set (i := 5) sc_sums_by_powers.nd rfl (Or.inr rfl) (pe_fn g_power_sums hr (pa_cons (pe_fn g_falling hr (pa_cons (pv 1) (pa_cons (pv 3) pa_nil))) (pa_cons (pv 2) pa_nil))))
    (pss_cons (ps_set (i := 6) sc_sums_by_powers.nd rfl (Or.inl rfl) (pe_lst pa_nil))
    (pss_cons (ps_set (i := 7) sc_sums_by_powers.nd rfl (Or.inl rfl) (pe_lst (pa_cons pe_int pa_nil)))
    (pss_cons (ps_for PassesOwn.never rfl (pi_range1 rfl T.n_range (pa_cons (pe_op op_add (pv 2) pe_int) pa_nil)) (pg_name (i := 8) sc_sums_by_powers.nd rfl (Or.inr rfl))
    (pss_cons (ps_expr (pe_bm PySem.F.plainAttrs_list PySem.F.slot_list_append PySem.F.type_list_append mt_append (pv 6) (pa_cons (pe_callB (call_sumI rfl) rfl T.n_sum boot_sum (pa_cons (pe_comp rfl rfl (compOk (own := ["place", "times"]) (fr := [5, 4, 8]) (fs := ["second", "first", "count"]) (by with_unfolding_all rfl) rfl (by decide +kernel) (by decide +kernel) (by exact ⟨rfl, ⟨rfl, ⟨rfl, trivial⟩⟩⟩) (by with_unfolding_all rfl) (by exact ⟨⟨rfl, rfl, rfl, Or.inl rfl⟩, ⟨⟨rfl, rfl, rfl, Or.inl rfl⟩, ⟨⟨rfl, rfl, rfl, Or.inl rfl⟩, trivial⟩⟩⟩)) (pi_enum rfl T.n_enumerate (pa_cons (pv 7) pa_nil)) (fun _ _ _ _ _ => (pg_tupK (K := K) (n := 2) rfl rfl (pgs_cons (pg_name (i := 0) (show List.Nodup (["place", "times", "second", "first", "count"] : List Str) by decide +kernel) rfl (Or.inl rfl) (Or.inr rfl)) (pgs_cons (pg_name (i := 1) (show List.Nodup (["place", "times", "second", "first", "count"] : List Str) by decide +kernel) rfl (Or.inl rfl) (Or.inr rfl)) pgs_nil)) rfl rfl)) (fun _ _ _ _ _ => (pe_op op_mulL (pe_op op_mulL (pv 1) (pe_ix (ix_listK (K := K) rfl) (pv 3) (pv 0) (fun _ _ => rfl))) (pe_ix (ix_listK (K := K) rfl) (pv 2) (pe_op op_sub (pv 4) (pv 0)) (fun _ _ => rfl))))) pa_nil)) pa_nil)))
    (pss_one (ps_set (i := 7) sc_sums_by_powers.nd rfl (Or.inl rfl) (pe_fn g_multiplied hr (pa_cons (pv 7) (pa_cons (pe_lst (pa_cons pe_int (pa_cons pe_int pa_nil))) pa_nil)))))))
    (pss_one (ps_ret (pe_fn g_with_power_sums hr (pa_cons (pv 6) (pa_cons (pv 3) pa_nil)))))))))))), ?_⟩
  exact run_ok (s := c_sums_by_powers) (n := 7) (ss_seq (ss_set (s_mul (s_call (s_cons s_var s_nil)) (s_call (s_cons s_var s_nil))))
    (ss_seq (ss_set (s_div (s_mul (s_ixL s_var (s_ng s_int)) (s_ixL s_var (s_ng s_int))) (s_call (s_cons (s_ixL s_var (s_ng s_int)) (s_cons (s_ixL s_var (s_ng s_int)) s_nil)))))
    (ss_seq (ss_set (s_call (s_cons (s_call (s_cons s_var (s_cons s_var s_nil))) (s_cons s_var s_nil))))
    (ss_seq (ss_set (s_call (s_cons (s_call (s_cons s_var (s_cons s_var s_nil))) (s_cons s_var s_nil))))
    (ss_seq (ss_opn (s_lst s_nil))
    (ss_seq (ss_set (s_fz (s_lst (s_cons s_int s_nil))))
    (ss_seq (ss_for (si_r1 (s_cons (s_add s_var s_int) s_nil)) sg_n
    (ss_seq (ss_app (s_cons (s_sum (s_cons (s_fz (s_comp rfl (si_en (s_cons s_var s_nil)) sg_t2 (s_mul (s_mul s_var (s_ixL s_var s_var)) (s_ixL s_var (s_sub s_var s_var))))) s_nil)) s_nil))
    (ss_set (s_call (s_cons s_var (s_cons (s_fz (s_lst (s_cons s_int (s_cons s_int s_nil)))) s_nil))))))
    (ss_ret (s_call (s_cons s_var (s_cons s_var s_nil))))))))))) rfl h
theorem ok_products_by_powers (T : Nm mg) (g_with_power_sums : FnB P w K mg base 37 "with_power_sums" ["sums", "scale"] (spEv K C f_with_power_sums 2)) (g_falling : FnB P w K mg base 37 "falling" ["poly", "scale"] (spEv K C f_falling 2)) (g_power_sums : FnB P w K mg base 37 "power_sums" ["row", "many"] (spEv K C f_power_sums 2)) (g_degree : FnB P w K mg base 37 "degree" ["poly"] (spEv K C f_degree 1))
    (D : DefB K mg "products_by_powers" s_products_by_powers ["one", "other"]) : FnB P w K mg base 38 "products_by_powers" ["one", "other"] (spEv K C f_products_by_powers 2) := by
  refine D.ok sc_products_by_powers (fun vs H Q E h => spEv_len h) (fun f cdv A outer s H vs Q E hr h => ?_)
  refine ⟨_, (pss_cons (ps_set (i := 2) sc_products_by_powers.nd rfl (Or.inl rfl) (pe_op op_mulL (pe_fn g_degree hr (pa_cons (pv 0) pa_nil)) (pe_fn g_degree hr (pa_cons (pv 1) pa_nil))))
    (pss_cons (ps_set (i := 3) sc_products_by_powers.nd rfl (Or.inl rfl) (pe_fn g_power_sums hr (pa_cons (pe_fn g_falling hr (pa_cons (pv 0) (pa_cons (pe_ix ix_list (pv 0) (pe_un un_neg pe_int) (fun _ _ => rfl)) pa_nil))) (pa_cons (pv 2) pa_nil))))
    (pss_cons (ps_set (i := 4) sc_products_by_powers.nd rfl (Or.inl rfl) (pe_fn g_power_sums hr (pa_cons (pe_fn g_falling hr (pa_cons (pv 1) (pa_cons (pe_ix ix_list (pv 1) (pe_un un_neg pe_int) (fun _ _ => rfl)) pa_nil))) (pa_cons (pv 2) pa_nil))))
    (pss_one (ps_ret (pe_fn g_with_power_sums hr (pa_cons (pe_comp rfl rfl (compOk (own := ["left", "right"]) (fr := []) (fs := []) (by with_unfolding_all rfl) rfl (by decide +kernel) (by decide +kernel) (by exact trivial) (by with_unfolding_all rfl) (by exact trivial)) (pi_zip rfl T.n_zip (pa_cons (pv 3) (pa_cons (pv 4) pa_nil))) (fun _ _ _ _ _ => (pg_tupK (K := K) (n := 2) rfl rfl (pgs_cons (pg_name (i := 0) (show List.Nodup (["left", "right"] : List Str) by decide +kernel) rfl (Or.inl rfl) (Or.inr rfl)) (pgs_cons (pg_name (i := 1) (show List.Nodup (["left", "right"] : List Str) by decide +kernel) rfl (Or.inl rfl) (Or.inr rfl)) pgs_nil)) rfl rfl)) (fun _ _ _ _ _ => (pe_op op_mulL (pv 0) (pv 1)))) (pa_cons (pe_op op_mulL (pe_ix ix_list (pv 0) (pe_un un_neg pe_int) (fun _ _ => rfl)) (pe_ix ix_list (pv 1) (pe_un un_neg pe_int) (fun _ _ => rfl))) pa_nil)))))))), ?_⟩
  exact run_ok (s := c_products_by_powers) (n := 3) (ss_seq (ss_set (s_mul (s_call (s_cons s_var s_nil)) (s_call (s_cons s_var s_nil))))
    (ss_seq (ss_set (s_call (s_cons (s_call (s_cons s_var (s_cons (s_ixL s_var (s_ng s_int)) s_nil))) (s_cons s_var s_nil))))
    (ss_seq (ss_set (s_call (s_cons (s_call (s_cons s_var (s_cons (s_ixL s_var (s_ng s_int)) s_nil))) (s_cons s_var s_nil))))
    (ss_ret (s_call (s_cons (s_fz (s_comp rfl (si_zp (s_cons s_var (s_cons s_var s_nil))) sg_t2 (s_mul s_var s_var))) (s_cons (s_mul (s_ixL s_var (s_ng s_int)) (s_ixL s_var (s_ng s_int))) s_nil))))))) rfl h
end
end V25
namespace V25
open PySem PyProof.Rows L2 SF CV
section
variable {P : Program} {w : World} {K : PySem.W.Frag} {mg : Str → Option Value} {base : Heap} {C fI : Addr} {fd : FuncData}
theorem ok_sums_of0 (g_degree : FnB P w K mg base 38 "degree" ["poly"] (spEv K C f_degree 1)) (g_sums_of : FnB P w K mg base 38 "sums_of" ["one", "other"] (spEv K C (fun _ => none) 2)) (g_sums_by_powers : FnB P w K mg base 38 "sums_by_powers" ["one", "other"] (spEv K C f_sums_by_powers 2)) (g_composed : FnB P w K mg base 38 "composed" ["poly", "top", "under"] (spEv K C f_composed 3)) (g_primitive : FnB P w K mg base 38 "primitive" ["poly"] (spEv K C f_primitive 1))
    (D : DefB K mg "sums_of" s_sums_of ["one", "other"]) : FnB P w K mg base 39 "sums_of" ["one", "other"] (spEv K C f_sums_of0 2) := by
  refine D.ok sc_sums_of (fun vs H Q E h => spEv_len h) (fun f cdv A outer s H vs Q E hr h => ?_)
  refine ⟨_, (pss_cons (ps_if (pt_cmpR op_eq (pe_fn g_degree hr (pa_cons (pv 0) pa_nil)) pe_int (nomark _))
    (pss_one (ps_ret (pe_fn g_primitive hr (pa_cons (pe_fn g_composed hr (pa_cons (pv 1) (pa_cons (pv 0) (pa_cons (pe_lst (pa_cons (pe_ix ix_list (pv 0) pe_int (fun _ _ => rfl)) pa_nil)) pa_nil)))) pa_nil))))
    pss_nil)
    (pss_one (ps_ret (pe_ifExp (pt_cmpR op_eq (pe_fn g_degree hr (pa_cons (pv 1) pa_nil)) pe_int (nomark _)) (pe_fn g_sums_of hr (pa_cons (pv 1) (pa_cons (pv 0) pa_nil))) (pe_fn g_sums_by_powers hr (pa_cons (pv 0) (pa_cons (pv 1) pa_nil))))))), ?_⟩
  exact run_ok (s := c_sums_of0) (n := 0) (ss_seq (ss_if (s_test (s_eq (s_call (s_cons s_var s_nil)) s_int)) (ss_ret (s_call (s_cons (s_call (s_cons s_var (s_cons s_var (s_cons (s_fz (s_lst (s_cons (s_ixL s_var s_int) s_nil))) s_nil)))) s_nil)))
    ss_nx)
    (ss_ret (s_if (s_test (s_eq (s_call (s_cons s_var s_nil)) s_int)) (s_call (s_cons s_var (s_cons s_var s_nil))) (s_call (s_cons s_var (s_cons s_var s_nil)))))) rfl h
theorem ok_sums_of (g_degree : FnB P w K mg base 39 "degree" ["poly"] (spEv K C f_degree 1)) (g_sums_of : FnB P w K mg base 39 "sums_of" ["one", "other"] (spEv K C f_sums_of0 2)) (g_sums_by_powers : FnB P w K mg base 39 "sums_by_powers" ["one", "other"] (spEv K C f_sums_by_powers 2)) (g_composed : FnB P w K mg base 39 "composed" ["poly", "top", "under"] (spEv K C f_composed 3)) (g_primitive : FnB P w K mg base 39 "primitive" ["poly"] (spEv K C f_primitive 1))
    (D : DefB K mg "sums_of" s_sums_of ["one", "other"]) : FnB P w K mg base 40 "sums_of" ["one", "other"] (spEv K C f_sums_of 2) := by
  refine D.ok sc_sums_of (fun vs H Q E h => spEv_len h) (fun f cdv A outer s H vs Q E hr h => ?_)
  refine ⟨_, (pss_cons (ps_if (pt_cmpR op_eq (pe_fn g_degree hr (pa_cons (pv 0) pa_nil)) pe_int (nomark _))
    (pss_one (ps_ret (pe_fn g_primitive hr (pa_cons (pe_fn g_composed hr (pa_cons (pv 1) (pa_cons (pv 0) (pa_cons (pe_lst (pa_cons (pe_ix ix_list (pv 0) pe_int (fun _ _ => rfl)) pa_nil)) pa_nil)))) pa_nil))))
    pss_nil)
    (pss_one (ps_ret (pe_ifExp (pt_cmpR op_eq (pe_fn g_degree hr (pa_cons (pv 1) pa_nil)) pe_int (nomark _)) (pe_fn g_sums_of hr (pa_cons (pv 1) (pa_cons (pv 0) pa_nil))) (pe_fn g_sums_by_powers hr (pa_cons (pv 0) (pa_cons (pv 1) pa_nil))))))), ?_⟩
  exact run_ok (s := c_sums_of) (n := 0) (ss_seq (ss_if (s_test (s_eq (s_call (s_cons s_var s_nil)) s_int)) (ss_ret (s_call (s_cons (s_call (s_cons s_var (s_cons s_var (s_cons (s_fz (s_lst (s_cons (s_ixL s_var s_int) s_nil))) s_nil)))) s_nil)))
    ss_nx)
    (ss_ret (s_if (s_test (s_eq (s_call (s_cons s_var s_nil)) s_int)) (s_call (s_cons s_var (s_cons s_var s_nil))) (s_call (s_cons s_var (s_cons s_var s_nil)))))) rfl h
theorem ok_products_of0 (g_degree : FnB P w K mg base 38 "degree" ["poly"] (spEv K C f_degree 1)) (g_products_of : FnB P w K mg base 38 "products_of" ["one", "other"] (spEv K C (fun _ => none) 2)) (g_products_by_powers : FnB P w K mg base 38 "products_by_powers" ["one", "other"] (spEv K C f_products_by_powers 2)) (g_composed : FnB P w K mg base 38 "composed" ["poly", "top", "under"] (spEv K C f_composed 3)) (g_primitive : FnB P w K mg base 38 "primitive" ["poly"] (spEv K C f_primitive 1))
    (D : DefB K mg "products_of" s_products_of ["one", "other"]) : FnB P w K mg base 39 "products_of" ["one", "other"] (spEv K C f_products_of0 2) := by
  refine D.ok sc_products_of (fun vs H Q E h => spEv_len h) (fun f cdv A outer s H vs Q E hr h => ?_)
  refine ⟨_, (pss_cons (ps_if (pt_cmpR op_eq (pe_fn g_degree hr (pa_cons (pv 0) pa_nil)) pe_int (nomark _))
    (pss_one (ps_ret (pe_fn g_primitive hr (pa_cons (pe_fn g_composed hr (pa_cons (pv 1) (pa_cons (pe_lst (pa_cons pe_int (pa_cons (pe_ix ix_list (pv 0) pe_int (fun _ _ => rfl)) pa_nil))) (pa_cons (pe_lst (pa_cons (pe_un un_neg (pe_ix ix_list (pv 0) pe_int (fun _ _ => rfl))) pa_nil)) pa_nil)))) pa_nil))))
    pss_nil)
    (pss_one (ps_ret (pe_ifExp (pt_cmpR op_eq (pe_fn g_degree hr (pa_cons (pv 1) pa_nil)) pe_int (nomark _)) (pe_fn g_products_of hr (pa_cons (pv 1) (pa_cons (pv 0) pa_nil))) (pe_fn g_products_by_powers hr (pa_cons (pv 0) (pa_cons (pv 1) pa_nil))))))), ?_⟩
  exact run_ok (s := c_products_of0) (n := 0) (ss_seq (ss_if (s_test (s_eq (s_call (s_cons s_var s_nil)) s_int)) (ss_ret (s_call (s_cons (s_call (s_cons s_var (s_cons (s_fz (s_lst (s_cons s_int (s_cons (s_ixL s_var s_int) s_nil)))) (s_cons (s_fz (s_lst (s_cons (s_ng (s_ixL s_var s_int)) s_nil))) s_nil)))) s_nil)))
    ss_nx)
    (ss_ret (s_if (s_test (s_eq (s_call (s_cons s_var s_nil)) s_int)) (s_call (s_cons s_var (s_cons s_var s_nil))) (s_call (s_cons s_var (s_cons s_var s_nil)))))) rfl h
theorem ok_products_of (g_degree : FnB P w K mg base 39 "degree" ["poly"] (spEv K C f_degree 1)) (g_products_of : FnB P w K mg base 39 "products_of" ["one", "other"] (spEv K C f_products_of0 2)) (g_products_by_powers : FnB P w K mg base 39 "products_by_powers" ["one", "other"] (spEv K C f_products_by_powers 2)) (g_composed : FnB P w K mg base 39 "composed" ["poly", "top", "under"] (spEv K C f_composed 3)) (g_primitive : FnB P w K mg base 39 "primitive" ["poly"] (spEv K C f_primitive 1))
    (D : DefB K mg "products_of" s_products_of ["one", "other"]) : FnB P w K mg base 40 "products_of" ["one", "other"] (spEv K C f_products_of 2) := by
  refine D.ok sc_products_of (fun vs H Q E h => spEv_len h) (fun f cdv A outer s H vs Q E hr h => ?_)
  refine ⟨_, (pss_cons (ps_if (pt_cmpR op_eq (pe_fn g_degree hr (pa_cons (pv 0) pa_nil)) pe_int (nomark _))
    (pss_one (ps_ret (pe_fn g_primitive hr (pa_cons (pe_fn g_composed hr (pa_cons (pv 1) (pa_cons (pe_lst (pa_cons pe_int (pa_cons (pe_ix ix_list (pv 0) pe_int (fun _ _ => rfl)) pa_nil))) (pa_cons (pe_lst (pa_cons (pe_un un_neg (pe_ix ix_list (pv 0) pe_int (fun _ _ => rfl))) pa_nil)) pa_nil)))) pa_nil))))
    pss_nil)
    (pss_one (ps_ret (pe_ifExp (pt_cmpR op_eq (pe_fn g_degree hr (pa_cons (pv 1) pa_nil)) pe_int (nomark _)) (pe_fn g_products_of hr (pa_cons (pv 1) (pa_cons (pv 0) pa_nil))) (pe_fn g_products_by_powers hr (pa_cons (pv 0) (pa_cons (pv 1) pa_nil))))))), ?_⟩
  exact run_ok (s := c_products_of) (n := 0) (ss_seq (ss_if (s_test (s_eq (s_call (s_cons s_var s_nil)) s_int)) (ss_ret (s_call (s_cons (s_call (s_cons s_var (s_cons (s_fz (s_lst (s_cons s_int (s_cons (s_ixL s_var s_int) s_nil)))) (s_cons (s_fz (s_lst (s_cons (s_ng (s_ixL s_var s_int)) s_nil))) s_nil)))) s_nil)))
    ss_nx)
    (ss_ret (s_if (s_test (s_eq (s_call (s_cons s_var s_nil)) s_int)) (s_call (s_cons s_var (s_cons s_var s_nil))) (s_call (s_cons s_var (s_cons s_var s_nil)))))) rfl h
theorem ok_opposites_of (g_composed : FnB P w K mg base 36 "composed" ["poly", "top", "under"] (spEv K C f_composed 3)) (g_primitive : FnB P w K mg base 36 "primitive" ["poly"] (spEv K C f_primitive 1))
    (D : DefB K mg "opposites_of" s_opposites_of ["poly"]) : FnB P w K mg base 37 "opposites_of" ["poly"] (spEv K C f_opposites_of 1) := by
  refine D.ok sc_opposites_of (fun vs H Q E h => spEv_len h) (fun f cdv A outer s H vs Q E hr h => ?_)
  refine ⟨_, (pss_one (ps_ret (pe_fn g_primitive hr (pa_cons (pe_fn g_composed hr (pa_cons (pv 0) (pa_cons (pe_lst (pa_cons pe_int (pa_cons (pe_un un_neg pe_int) pa_nil))) (pa_cons (pe_lst (pa_cons pe_int pa_nil)) pa_nil)))) pa_nil)))), ?_⟩
  exact run_ok (s := c_opposites_of) (n := 0) (ss_ret (s_call (s_cons (s_call (s_cons s_var (s_cons (s_fz (s_lst (s_cons s_int (s_cons (s_ng s_int) s_nil)))) (s_cons (s_fz (s_lst (s_cons s_int s_nil))) s_nil)))) s_nil))) rfl h
theorem ok_inverses_of (g_composed : FnB P w K mg base 36 "composed" ["poly", "top", "under"] (spEv K C f_composed 3)) (g_primitive : FnB P w K mg base 36 "primitive" ["poly"] (spEv K C f_primitive 1))
    (D : DefB K mg "inverses_of" s_inverses_of ["poly"]) : FnB P w K mg base 37 "inverses_of" ["poly"] (spEv K C f_inverses_of 1) := by
  refine D.ok sc_inverses_of (fun vs H Q E h => spEv_len h) (fun f cdv A outer s H vs Q E hr h => ?_)
  refine ⟨_, (pss_one (ps_ret (pe_fn g_primitive hr (pa_cons (pe_fn g_composed hr (pa_cons (pv 0) (pa_cons (pe_lst (pa_cons pe_int pa_nil)) (pa_cons (pe_lst (pa_cons pe_int (pa_cons pe_int pa_nil))) pa_nil)))) pa_nil)))), ?_⟩
  exact run_ok (s := c_inverses_of) (n := 0) (ss_ret (s_call (s_cons (s_call (s_cons s_var (s_cons (s_fz (s_lst (s_cons s_int s_nil))) (s_cons (s_fz (s_lst (s_cons s_int (s_cons s_int s_nil)))) s_nil)))) s_nil))) rfl h
theorem ok_near (RC : Rc K mg C fI fd) (g_narrowed : FnB P w K mg base 37 "narrowed" ["free", "pair", "width"] (spEv K C f_narrowed 3))
    (D : DefB K mg "near" s_near ["number", "width"]) : FnB P w K mg base 38 "near" ["number", "width"] (spEv K C f_near 2) := by
  refine D.ok sc_near (fun vs H Q E h => spEv_len h) (fun f cdv A outer s H vs Q E hr h => ?_)
  refine ⟨_, (pss_one (ps_ret (pe_fn g_narrowed hr (pa_cons (pe_fld (pv 0) rfl) (pa_cons (pe_fld (pv 0) rfl) (pa_cons (pv 1) pa_nil)))))), ?_⟩
  exact run_ok (s := c_near) (n := 0) (ss_ret (s_call (s_cons (s_poly RC.cl RC.n1 s_var) (s_cons (s_pair RC.cl RC.n2 s_var) (s_cons s_var s_nil))))) rfl h
theorem ok_pair_of_sums (g_plus : FnB P w K mg base 36 "plus" ["one", "other"] (spEv K C f_plus 2))
    (D : DefB K mg "pair_of_sums" s_pair_of_sums ["one", "other"]) : FnB P w K mg base 37 "pair_of_sums" ["one", "other"] (spEv K C f_pair_of_sums 2) := by
  refine D.ok sc_pair_of_sums (fun vs H Q E h => spEv_len h) (fun f cdv A outer s H vs Q E hr h => ?_)
  refine ⟨_, (pss_one (ps_ret (pe_tup (pa_cons (pe_fn g_plus hr (pa_cons (pe_ix ix_tup (pv 0) pe_int (fun _ _ => rfl)) (pa_cons (pe_ix ix_tup (pv 1) pe_int (fun _ _ => rfl)) pa_nil))) (pa_cons (pe_fn g_plus hr (pa_cons (pe_ix ix_tup (pv 0) pe_int (fun _ _ => rfl)) (pa_cons (pe_ix ix_tup (pv 1) pe_int (fun _ _ => rfl)) pa_nil))) pa_nil))))), ?_⟩
  exact run_ok (s := c_pair_of_sums) (n := 0) (ss_ret (s_tup (s_cons (s_call (s_cons (s_ixT s_var s_int) (s_cons (s_ixT s_var s_int) s_nil))) (s_cons (s_call (s_cons (s_ixT s_var s_int) (s_cons (s_ixT s_var s_int) s_nil))) s_nil)))) rfl h
theorem ok_pair_of_products (T : Nm mg) (g_ratio : FnB P w K mg base 35 "ratio" ["top", "under"] (spEv K C f_ratio 2)) (g_stretch_of : FnB P w K mg base 35 "stretch_of" ["pair"] (spEv K C f_stretch_of 1))
    (D : DefB K mg "pair_of_products" s_pair_of_products ["one", "other"]) : FnB P w K mg base 36 "pair_of_products" ["one", "other"] (spEv K C f_pair_of_products 2) := by
  refine D.ok sc_pair_of_products (fun vs H Q E h => spEv_len h) (fun f cdv A outer s H vs Q E hr h => ?_)
  refine ⟨_, (pss_cons (ps_set (i := 2) sc_pair_of_products.nd rfl (Or.inl rfl) (pe_fn g_stretch_of hr (pa_cons (pv 0) pa_nil)))
    (pss_cons (ps_set (i := 3) sc_pair_of_products.nd rfl (Or.inl rfl) (pe_fn g_stretch_of hr (pa_cons (pv 1) pa_nil)))
    (pss_cons (ps_set (i := 4) sc_pair_of_products.nd rfl (Or.inl rfl) (pe_lst (pa_cons (pe_op op_mulL (pe_ix ix_tup (pv 2) pe_int (fun _ _ => rfl)) (pe_ix ix_tup (pv 3) pe_int (fun _ _ => rfl))) (pa_cons (pe_op op_mulL (pe_ix ix_tup (pv 2) pe_int (fun _ _ => rfl)) (pe_ix ix_tup (pv 3) pe_int (fun _ _ => rfl))) (pa_cons (pe_op op_mulL (pe_ix ix_tup (pv 2) pe_int (fun _ _ => rfl)) (pe_ix ix_tup (pv 3) pe_int (fun _ _ => rfl))) (pa_cons (pe_op op_mulL (pe_ix ix_tup (pv 2) pe_int (fun _ _ => rfl)) (pe_ix ix_tup (pv 3) pe_int (fun _ _ => rfl))) pa_nil))))))
    (pss_cons (ps_set (i := 5) sc_pair_of_products.nd rfl (Or.inl rfl) (pe_op op_mulL (pe_ix ix_tup (pv 2) pe_int (fun _ _ => rfl)) (pe_ix ix_tup (pv 3) pe_int (fun _ _ => rfl))))
    (pss_one (ps_ret (pe_tup (pa_cons (pe_fn g_ratio hr (pa_cons (pe_callB (call_minI rfl) rfl T.n_min boot_min (pa_cons (pv 4) pa_nil)) (pa_cons (pv 5) pa_nil))) (pa_cons (pe_fn g_ratio hr (pa_cons (pe_callB (call_maxI rfl) rfl T.n_max boot_max (pa_cons (pv 4) pa_nil)) (pa_cons (pv 5) pa_nil))) pa_nil))))))))), ?_⟩
  exact run_ok (s := c_pair_of_products) (n := 4) (ss_seq (ss_set (s_call (s_cons s_var s_nil)))
    (ss_seq (ss_set (s_call (s_cons s_var s_nil)))
    (ss_seq (ss_set (s_fz (s_lst (s_cons (s_mul (s_ixT s_var s_int) (s_ixT s_var s_int)) (s_cons (s_mul (s_ixT s_var s_int) (s_ixT s_var s_int)) (s_cons (s_mul (s_ixT s_var s_int) (s_ixT s_var s_int)) (s_cons (s_mul (s_ixT s_var s_int) (s_ixT s_var s_int)) s_nil)))))))
    (ss_seq (ss_set (s_mul (s_ixT s_var s_int) (s_ixT s_var s_int)))
    (ss_ret (s_tup (s_cons (s_call (s_cons (s_minL (s_cons s_var s_nil)) (s_cons s_var s_nil))) (s_cons (s_call (s_cons (s_maxL (s_cons s_var s_nil)) (s_cons s_var s_nil))) s_nil)))))))) rfl h
end
end V25
namespace V25
open PySem PyProof.Rows L2 SF CV
section
variable {P : Program} {w : World} {K : PySem.W.Frag} {mg : Str → Option Value} {base : Heap} {C fI : Addr} {fd : FuncData}
theorem ok_opposite (RC : Rc K mg C fI fd) (g_init : FnOk P w K mg base CX0 36 fI fd ["self", "poly", "pair", "weight"] (spIn C)) (g_weight_of : FnB P w K mg base 37 "weight_of" ["number"] (spEv K C f_weight_of 1)) (g_opposites_of : FnB P w K mg base 37 "opposites_of" ["poly"] (spEv K C f_opposites_of 1))
    (D : DefB K mg "opposite" s_opposite ["number"]) : FnB P w K mg base 38 "opposite" ["number"] (spEv K C f_opposite 1) := by
  refine D.ok sc_opposite (fun vs H Q E h => spEv_len h) (fun f cdv A outer s H vs Q E hr h => ?_)
  refine ⟨_, (pss_cons (ps_set (i := 1) sc_opposite.nd rfl (Or.inl rfl) (pe_ix ix_tup (pe_fld (pv 0) rfl) pe_int (fun _ _ => rfl)))
    (pss_cons (ps_set (i := 2) sc_opposite.nd rfl (Or.inl rfl) (pe_ix ix_tup (pe_fld (pv 0) rfl) pe_int (fun _ _ => rfl)))
    (pss_one (ps_ret (pe_make (dvs := []) (E := E0) RC.mk1 g_init hr rfl RC.m RC.b .nil pass0 (pa_cons (pe_fn g_opposites_of hr (pa_cons (pe_fld (pv 0) rfl) pa_nil)) (pa_cons (pe_tup (pa_cons (pe_tup (pa_cons (pe_un un_neg (pe_ix ix_tup (pv 2) pe_int (fun _ _ => rfl))) (pa_cons (pe_ix ix_tup (pv 2) pe_int (fun _ _ => rfl)) pa_nil))) (pa_cons (pe_tup (pa_cons (pe_un un_neg (pe_ix ix_tup (pv 1) pe_int (fun _ _ => rfl))) (pa_cons (pe_ix ix_tup (pv 1) pe_int (fun _ _ => rfl)) pa_nil))) pa_nil))) (pa_cons (pe_fn g_weight_of hr (pa_cons (pv 0) pa_nil)) pa_nil)))))))), ?_⟩
  exact run_ok (s := c_opposite) (n := 2) (ss_seq (ss_set (s_ixT (s_pair RC.cl RC.n2 s_var) s_int))
    (ss_seq (ss_set (s_ixT (s_pair RC.cl RC.n2 s_var) s_int))
    (ss_ret (s_make (s_cons (s_call (s_cons (s_poly RC.cl RC.n1 s_var) s_nil)) (s_cons (s_tup (s_cons (s_tup (s_cons (s_ng (s_ixT s_var s_int)) (s_cons (s_ixT s_var s_int) s_nil))) (s_cons (s_tup (s_cons (s_ng (s_ixT s_var s_int)) (s_cons (s_ixT s_var s_int) s_nil))) s_nil))) (s_cons (s_call (s_cons s_var s_nil)) s_nil))))))) rfl h
theorem ok_pair_beside_nought (RC : Rc K mg C fI fd) (g_sign : FnB P w K mg base 38 "sign" ["number"] (spEv K C f_sign 1)) (g_times : FnB P w K mg base 38 "times" ["one", "other"] (spEv K C f_times 2)) (g_near : FnB P w K mg base 38 "near" ["number", "width"] (spEv K C f_near 2))
    (D : DefB K mg "pair_beside_nought" s_pair_beside_nought ["number"]) : FnB P w K mg base 39 "pair_beside_nought" ["number"] (spEv K C f_pair_beside_nought 1) := by
  refine D.ok sc_pair_beside_nought (fun vs H Q E h => spEv_len h) (fun f cdv A outer s H vs Q E hr h => ?_)
  refine ⟨_, (pss_cons (ps_set (i := 1) sc_pair_beside_nought.nd rfl (Or.inl rfl) (pe_fld (pv 0) rfl))
    (pss_cons (ps_set (i := 2) sc_pair_beside_nought.nd rfl (Or.inl rfl) (pe_tup (pa_cons pe_int (pa_cons pe_int pa_nil))))
    (pss_cons (ps_while PassesOwn.never (pt_cmpR op_ne (pe_op op_mulL (pe_fn g_sign hr (pa_cons (pe_ix ix_tup (pe_ix ix_tup (pv 1) pe_int (fun _ _ => rfl)) pe_int (fun _ _ => rfl)) pa_nil)) (pe_fn g_sign hr (pa_cons (pe_ix ix_tup (pe_ix ix_tup (pv 1) pe_int (fun _ _ => rfl)) pe_int (fun _ _ => rfl)) pa_nil))) pe_int (nomark _))
    (pss_cons (ps_set (i := 1) sc_pair_beside_nought.nd rfl (Or.inl rfl) (pe_fn g_near hr (pa_cons (pv 0) (pa_cons (pv 2) pa_nil))))
    (pss_one (ps_set (i := 2) sc_pair_beside_nought.nd rfl (Or.inl rfl) (pe_fn g_times hr (pa_cons (pv 2) (pa_cons (pv 2) pa_nil)))))))
    (pss_one (ps_ret (pv 1)))))), ?_⟩
  exact run_ok (s := c_pair_beside_nought) (n := 2) (ss_seq (ss_set (s_pair RC.cl RC.n2 s_var))
    (ss_seq (ss_set (s_tup (s_cons s_int (s_cons s_int s_nil))))
    (ss_seq (ss_wh (s_test (s_ne (s_mul (s_call (s_cons (s_ixT (s_ixT s_var s_int) s_int) s_nil)) (s_call (s_cons (s_ixT (s_ixT s_var s_int) s_int) s_nil))) s_int))
    (ss_seq (ss_set (s_call (s_cons s_var (s_cons s_var s_nil))))
    (ss_set (s_call (s_cons s_var (s_cons s_var s_nil))))))
    (ss_ret s_var)))) rfl h
theorem ok_inverse (RC : Rc K mg C fI fd) (g_init : FnOk P w K mg base CX0 38 fI fd ["self", "poly", "pair", "weight"] (spIn C)) (g_weight_of : FnB P w K mg base 39 "weight_of" ["number"] (spEv K C f_weight_of 1)) (g_inverses_of : FnB P w K mg base 39 "inverses_of" ["poly"] (spEv K C f_inverses_of 1)) (g_ratio : FnB P w K mg base 39 "ratio" ["top", "under"] (spEv K C f_ratio 2)) (g_pair_beside_nought : FnB P w K mg base 39 "pair_beside_nought" ["number"] (spEv K C f_pair_beside_nought 1)) (g_sign_of : FnB P w K mg base 39 "sign_of" ["number"] (spEv K C f_sign_of 1))
    (D : DefB K mg "inverse" s_inverse ["number"]) : FnB P w K mg base 40 "inverse" ["number"] (spEv K C f_inverse 1) := by
  refine D.ok sc_inverse (fun vs H Q E h => spEv_len h) (fun f cdv A outer s H vs Q E hr h => ?_)
  refine ⟨_, (pss_cons (ps_if (pt_cmpR op_eq (pe_fn g_sign_of hr (pa_cons (pv 0) pa_nil)) pe_int (nomark _))
    (pss_one ps_never)
    pss_nil)
    (pss_cons (ps_set (i := 1) sc_inverse.nd rfl (Or.inl rfl) (pe_fn g_pair_beside_nought hr (pa_cons (pv 0) pa_nil)))
    (pss_cons (ps_set (i := 2) sc_inverse.nd rfl (Or.inl rfl) (pe_ix ix_tup (pv 1) pe_int (fun _ _ => rfl)))
    (pss_cons (ps_set (i := 3) sc_inverse.nd rfl (Or.inl rfl) (pe_ix ix_tup (pv 1) pe_int (fun _ _ => rfl)))
    (pss_cons (ps_set (i := 4) sc_inverse.nd rfl (Or.inl rfl) (pe_tup (pa_cons (pe_fn g_ratio hr (pa_cons (pe_ix ix_tup (pv 3) pe_int (fun _ _ => rfl)) (pa_cons (pe_ix ix_tup (pv 3) pe_int (fun _ _ => rfl)) pa_nil))) (pa_cons (pe_fn g_ratio hr (pa_cons (pe_ix ix_tup (pv 2) pe_int (fun _ _ => rfl)) (pa_cons (pe_ix ix_tup (pv 2) pe_int (fun _ _ => rfl)) pa_nil))) pa_nil))))
    (pss_one (ps_ret (pe_make (dvs := []) (E := E0) RC.mk1 g_init hr rfl RC.m RC.b .nil pass0 (pa_cons (pe_fn g_inverses_of hr (pa_cons (pe_fld (pv 0) rfl) pa_nil)) (pa_cons (pv 4) (pa_cons (pe_fn g_weight_of hr (pa_cons (pv 0) pa_nil)) pa_nil))))))))))), ?_⟩
  exact run_ok (s := c_inverse) (n := 4) (ss_seq (ss_if (s_test (s_eq (s_call (s_cons s_var s_nil)) s_int)) ss_no
    ss_nx)
    (ss_seq (ss_set (s_call (s_cons s_var s_nil)))
    (ss_seq (ss_set (s_ixT s_var s_int))
    (ss_seq (ss_set (s_ixT s_var s_int))
    (ss_seq (ss_set (s_tup (s_cons (s_call (s_cons (s_ixT s_var s_int) (s_cons (s_ixT s_var s_int) s_nil))) (s_cons (s_call (s_cons (s_ixT s_var s_int) (s_cons (s_ixT s_var s_int) s_nil))) s_nil))))
    (ss_ret (s_make (s_cons (s_call (s_cons (s_poly RC.cl RC.n1 s_var) s_nil)) (s_cons s_var (s_cons (s_call (s_cons s_var s_nil)) s_nil)))))))))) rfl h
theorem ok_law_common (T : Nm mg) (hT : P.given.tree = none)
    (D : DefB K mg "_law_common" s_law_common ["_law_one", "_law_other"]) : FnB P w K mg base 34 "_law_common" ["_law_one", "_law_other"] (spEv K C f_law_common 2) := by
  refine D.ok sc_law_common (fun vs H Q E h => spEv_len h) (fun f cdv A outer s H vs Q E hr h => ?_)
  refine ⟨_, (pss_cons (ps_set (i := 0) sc_law_common.nd rfl (Or.inl rfl) (pe_callB call_abs rfl T.n_abs boot_abs (pa_cons (pv 0) pa_nil)))
    (pss_cons (ps_set (i := 1) sc_law_common.nd rfl (Or.inl rfl) (pe_callB call_abs rfl T.n_abs boot_abs (pa_cons (pv 1) pa_nil)))
    (pss_cons (ps_while PassesOwn.never (pt_cmpR op_ne (pv 1) pe_int (nomark _))
    (pss_cons (ps_set (i := 2) sc_law_common.nd rfl (Or.inl rfl) (pe_op op_sub (pv 0) (pe_op op_mulL (pe_op (op_fdivP ⟨hT, ⟨_, _, rfl, rfl, rfl, rfl, rfl⟩, hr.py⟩) (pv 0) (pv 1)) (pv 1))))
    (pss_cons (ps_set (i := 0) sc_law_common.nd rfl (Or.inl rfl) (pv 1))
    (pss_one (ps_set (i := 1) sc_law_common.nd rfl (Or.inl rfl) (pv 2))))))
    (pss_one (ps_ret (pv 0)))))), ?_⟩
  exact run_ok (s := c_law_common) (n := 1) (ss_seq (ss_set (s_abs (s_cons s_var s_nil)))
    (ss_seq (ss_set (s_abs (s_cons s_var s_nil)))
    (ss_seq (ss_wh (s_test (s_ne s_var s_int))
    (ss_seq (ss_set (s_sub s_var (s_mul (s_div s_var s_var) s_var)))
    (ss_seq (ss_set s_var)
    (ss_set s_var))))
    (ss_ret s_var)))) rfl h
theorem ok_law_ratio (hT : P.given.tree = none) (g_law_common : FnB P w K mg base 34 "_law_common" ["_law_one", "_law_other"] (spEv K C f_law_common 2))
    (D : DefB K mg "_law_ratio" s_law_ratio ["_law_top", "_law_under"]) : FnB P w K mg base 35 "_law_ratio" ["_law_top", "_law_under"] (spEv K C f_law_ratio 2) := by
  refine D.ok sc_law_ratio (fun vs H Q E h => spEv_len h) (fun f cdv A outer s H vs Q E hr h => ?_)
  refine ⟨_, (pss_cons (ps_set (i := 2) sc_law_ratio.nd rfl (Or.inl rfl) (pe_fn g_law_common hr (pa_cons (pv 0) (pa_cons (pv 1) pa_nil))))
    (pss_one (ps_ret (pe_tup (pa_cons (pe_op (op_fdivP ⟨hT, ⟨_, _, rfl, rfl, rfl, rfl, rfl⟩, hr.py⟩) (pv 0) (pv 2)) (pa_cons (pe_op (op_fdivP ⟨hT, ⟨_, _, rfl, rfl, rfl, rfl, rfl⟩, hr.py⟩) (pv 1) (pv 2)) pa_nil)))))), ?_⟩
  exact run_ok (s := c_law_ratio) (n := 1) (ss_seq (ss_set (s_call (s_cons s_var (s_cons s_var s_nil))))
    (ss_ret (s_tup (s_cons (s_div s_var s_var) (s_cons (s_div s_var s_var) s_nil))))) rfl h
end
end V25
namespace V25
open PySem PyProof.Rows L2 SF
noncomputable def spCell (K : PySem.W.Frag) : Sp := fun vs H Q _ => ∃ (a : Addr) (ns : List Int) (k : Int), vs = [.ref a, .int k] ∧ SqL K H a (ns.map V.int) ∧ ns.length ≤ 63 ∧ 0 ≤ k ∧ ∀ (c : Int) (H' : Hp), Same H H' → Q (.int c) H'
noncomputable def spDrawn : Sp := fun vs H Q _ => ∃ c k : Int, vs = [.int c, .int k] ∧ ∀ m : Int, 0 ≤ m → Bd 128 m → Q (.int m) H
theorem fm {x : Int} {m : Int} (hm : 0 < m) : x.fmod m = x % m ∧ 0 ≤ x % m ∧ x % m < m := ⟨fmod_pos hm, Int.emod_nonneg x (Int.ne_of_gt hm), Int.emod_lt_of_pos x hm⟩
theorem d64 (n : Int) (h1 : 0 < n) (h2 : n < 2 ^ 64) : (n ≠ 0 ∧ n.natAbs.log2 < 9000) := ⟨Int.ne_of_gt h1, (Bd.of_range (n := 64) (by lia) h2).log2 (by decide)⟩
section
variable {P : Program} {w : World} {K : PySem.W.Frag} {mg : Str → Option Value} {base : Heap}
theorem ok_law_cell (T : Nm mg) (D : DefB K mg "_law_cell" s_law_cell ["_law_script", "_law_k"]) : FnB P w K mg base 1 "_law_cell" ["_law_script", "_law_k"] (spCell K) := by
  refine D.ok sc_law_cell (fun vs H Q E h => ?_) (fun f cdv A outer s H vs Q E hr h => ?_)
  · obtain ⟨a, ns, k, rfl, _⟩ := h
    rfl
  obtain ⟨a, ns, k, rfl, hS, hl, hk, q⟩ := h
  refine ⟨_, (pss_cons (ps_if (pt_cmpR (op_eqI hr.units0) (pv 0) (pe_lst pa_nil) (nomark _))
    (pss_one (ps_ret (pe_op op_mulL (pv 1) pe_int)))
    pss_nil)
    (pss_one (ps_ret (pe_op op_add (pe_ix ix_list (pv 0) (pe_op op_modN (pv 1) (pe_callB call_len_seq rfl T.n_len boot_len (pa_cons (pv 0) pa_nil))) (fun _ _ => rfl)) (pe_op op_mulL (pe_op op_fdivL (pv 1) (pe_callB call_len_seq rfl T.n_len boot_len (pa_cons (pv 0) pa_nil))) pe_int))))), ?_⟩
  walk_at "sf"
  intro p hp
  have g1 : Same H (upd H p (.lst [])) := Same.new hp _
  refine ⟨a, p, ns, [], rfl, rfl, g1.seq hS, SqL.of upd_same, ?_⟩
  walk_at "sf"
  refine ite2 (fun c => ?_) (fun c => ?_)
  · walk_at "sf"
    refine r_i (IntMulOk.of_right (by decide)) ?_
    exact q _ _ g1
  · have hne : ns ≠ [] := by simpa using c
    have hp1 : 0 < ns.length := List.length_pos_iff.mpr hne
    have em : (ns.map V.int).length = ns.length := List.length_map _
    have hpz : (0 : Int) < ((ns.map V.int).length : Nat) := by rw [em]; lia
    walk_at "sf"
    refine ⟨a, _, rfl, .inl (g1.seq hS), ?_⟩
    refine r_i (Int.ne_of_gt hpz) ?_
    rw [fmod_pos hpz]
    have h1 := Int.emod_nonneg k (Int.ne_of_gt hpz)
    have h2 := Int.emod_lt_of_pos k hpz
    obtain ⟨j, ej⟩ := Int.eq_ofNat_of_zero_le h1
    rw [ej] at h2 ⊢
    have hj : j < ns.length := by rw [em] at h2; lia
    refine r_ixL (g1.seq hS) (atI_nat (v := V.int ns[j]) (by rw [List.getElem?_map, List.getElem?_eq_getElem hj] <;> rfl)) ?_
    walk_at "sf"
    refine ⟨a, _, rfl, .inl (g1.seq hS), ?_⟩
    refine r_i ⟨Int.ne_of_gt hpz, (Bd.of_range (n := 64) (by lia) (by rw [em]; lia)).log2 (by decide)⟩ ?_
    walk_at "sf"
    refine r_i (IntMulOk.of_right (by decide)) ?_
    walk_at "sf"
    exact q _ _ g1
theorem ok_law_drawn (D : DefB K mg "_law_drawn" s_law_drawn ["_law_cell_here", "_law_k"]) : FnB P w K mg base 1 "_law_drawn" ["_law_cell_here", "_law_k"] spDrawn := by
  refine D.ok sc_law_drawn (fun vs H Q E h => ?_) (fun f cdv A outer s H vs Q E hr h => ?_)
  · obtain ⟨c, k, rfl, _⟩ := h
    rfl
  obtain ⟨c, k, rfl, q⟩ := h
  refine ⟨_, (pss_cons (ps_set (i := 2) sc_law_drawn.nd rfl (Or.inl rfl) (pe_op op_modN (pe_op op_add (pe_op op_mulL (pv 0) pe_int) (pe_op op_mulL (pe_op op_add (pv 1) pe_int) pe_int)) pe_int))
    (pss_one (ps_ret (pe_op op_modN (pe_op op_mulL (pv 2) (pv 2)) pe_int)))), ?_⟩
  walk_at "sf"
  refine r_i (IntMulOk.of_right (by decide)) ?_
  walk_at "sf"
  refine r_i (IntMulOk.of_right (by decide)) ?_
  walk_at "sf"
  refine r_i (by decide) ?_
  rw [fmod_pos (by decide)]
  generalize hm : (c * 6364136223846793005 + (k + 1) * 1442695040888963407) % 340282366920938463463374607431768211507 = m
  have m1 : 0 ≤ m := by rw [← hm]; exact Int.emod_nonneg _ (by decide)
  have m2 : m < 340282366920938463463374607431768211507 := by rw [← hm]; exact Int.emod_lt_of_pos _ (by decide)
  have mz : Bd 129 m := Bd.of_range m1 (Int.lt_of_lt_of_le m2 (by decide))
  walk_at "sf"
  refine r_i (mulOk mz mz (by decide)) ?_
  walk_at "sf"
  refine r_i (by decide) ?_
  rw [fmod_pos (by decide)]
  exact q _ (Int.emod_nonneg _ (by decide)) (Bd.of_range (Int.emod_nonneg _ (by decide)) (Int.lt_of_lt_of_le (Int.emod_lt_of_pos _ (by decide)) (by decide)))
end
end V25
namespace V25
open PySem PyProof.Rows L2 SF PySem.W
noncomputable def nmW : Nat → Str
  | 0 => "NoRatio"
  | 1 => "NoNumber"
  | 2 => "TooGreat"
  | 3 => "BadText"
  | _ => "BadRow"
theorem nm_at {i : Nat} (h : i < 5) : atI [V.str "NoRatio", V.str "NoNumber", V.str "TooGreat", V.str "BadText", V.str "BadRow"] (i : Int) = some (V.str (nmW i)) := by
  match i, h with
  | 0, _ => exact atI_nat rfl
  | 1, _ => exact atI_nat rfl
  | 2, _ => exact atI_nat rfl
  | 3, _ => exact atI_nat rfl
  | 4, _ => exact atI_nat rfl
structure Ad where
  cf : Addr
  c0 : Addr
  c1 : Addr
  c2 : Addr
  c3 : Addr
  c4 : Addr
noncomputable def Ad.l (a : Ad) : List Addr := [a.c0, a.c1, a.c2, a.c3, a.c4]
noncomputable def Ad.c (a : Ad) (i : Nat) : Addr := a.l.getD i 0
noncomputable def askB (K : Frag) (D : Addr) : Bool := (findIn K (.ref D) "__getattribute__" == some (some (.builtin "BaseException.__getattribute__"))) && (findIn K (.ref D) "__getattr__" == some none) && (subIn K (.ref D) (.type "BaseException") == some true)
  && (findIn K (.ref D) "__class__" == some (some (.builtin "object.__class__"))) && (specialIn K (.builtin "object.__class__") "__get__" == some (some (.builtin "getset_descriptor.__get__"))) && (takesIn K (.builtin "object.__class__") == some true)
  && (mroIn K D (.type "object") == some true) && hasDictIn K D && (findIn K (.ref D) "__str__" == some (some (.builtin "BaseException.__str__")))
theorem ask_of {K : Frag} {D : Addr} (h : askB K D = true) : XAsk K D := by
  simp only [askB, Bool.and_eq_true, beq_iff_eq] at h
  obtain ⟨⟨⟨⟨⟨⟨⟨⟨a, b⟩, c⟩, d⟩, e⟩, f⟩, g⟩, i⟩, j⟩ := h
  exact ⟨a, b, c, d, e, f, g, i, j⟩
noncomputable def okB (K : Frag) (a : Ad) : Bool := ((List.range 5).all fun i => askB K (a.c i) && keepIn K (.ref (a.c i)) && (kitOne K (.ref (a.c i)) (.ref a.cf) == some true) && (kitOne K (.ref (a.c i)) (.type "ValueError") == some true)
    && ((List.range 5).all fun j => kitOne K (.ref (a.c i)) (.ref (a.c j)) == some (i == j)) && (i == 3 || excIn K (a.c i) bmV "ValueError.__new__"))
  && (exmOne K (.ref a.c0) (.ref a.cf) == some true) && (findIn K (.ref a.c3) "at" == some none)
structure Cl5 (K : Frag) (mg : Str → Option Value) (a : Ad) : Prop where
  mf : mg "FootError" = some (.ref a.cf)
  m0 : mg "NoRatio" = some (.ref a.c0)
  m1 : mg "NoNumber" = some (.ref a.c1)
  m2 : mg "TooGreat" = some (.ref a.c2)
  m3 : mg "BadText" = some (.ref a.c3)
  m4 : mg "BadRow" = some (.ref a.c4)
  ok : okB K a = true
section
variable {K : Frag} {mg : Str → Option Value} {a : Ad} {i j : Nat}
theorem Cl5.all (C : Cl5 K mg a) (h : i < 5) : XAsk K (a.c i) ∧ keepIn K (.ref (a.c i)) = true ∧ kitOne K (.ref (a.c i)) (.ref a.cf) = some true ∧ kitOne K (.ref (a.c i)) (.type "ValueError") = some true ∧
    (∀ j, j < 5 → kitOne K (.ref (a.c i)) (.ref (a.c j)) = some (i == j)) ∧ (i ≠ 3 → XCls K (a.c i)) := by
  have q := C.ok
  simp only [okB, Bool.and_eq_true] at q
  have r := (List.all_eq_true.mp q.1.1) i (List.mem_range.mpr h)
  simp only [Bool.and_eq_true, beq_iff_eq, Bool.or_eq_true] at r
  obtain ⟨⟨⟨⟨⟨r1, r2⟩, r3⟩, r4⟩, r5⟩, r6⟩ := r
  refine ⟨ask_of r1, r2, r3, r4, fun j hj => ?_, fun n => r6.resolve_left n⟩
  have z := (List.all_eq_true.mp r5) j (List.mem_range.mpr hj)
  exact beq_iff_eq.mp z
end
end V25
namespace V25
open PySem PyProof.Rows L2 SF PySem.W
section
variable {P : Program} {w : World} {K : Frag} {mg : Str → Option Value} {base : Heap} {a : Ad}
theorem boot_ValueError : bootBuiltins "ValueError" = some (.type "ValueError") := by kernel_rfl
theorem pe_cls {X : Cx} {x : Str} {c : Addr} {pos : Pos} (hg : Gl X x) (hm : X.mg x = some (.ref c)) (hd : (x == ("__debug__" : Str)) = false := by decide) : PE X (.Name x pos) (tC (.ref c)) := pe_glob (v := .ref c) hg hm rfl hd
noncomputable def fl (i : Nat) : List Bool := [i == 0, i == 1, i == 2, i == 3, i == 4]
theorem fl_count (h : i < 5) : (fl i).countP (· == true) = 1 := by
  match i, h with
  | 0, _ => rfl
  | 1, _ => rfl
  | 2, _ => rfl
  | 3, _ => rfl
  | 4, _ => rfl
theorem fl_at (h : i < 5) : (fl i).getD i (!true) = true ∧ ∀ j, j < i → (fl i).getD j (!true) = (!true) := by
  match i, h with
  | 0, _ => exact ⟨rfl, fun j hj => by lia⟩
  | 1, _ => exact ⟨rfl, fun j hj => by match j, hj with | 0, _ => rfl⟩
  | 2, _ => exact ⟨rfl, fun j hj => by match j, hj with | 0, _ => rfl | 1, _ => rfl⟩
  | 3, _ => exact ⟨rfl, fun j hj => by match j, hj with | 0, _ => rfl | 1, _ => rfl | 2, _ => rfl⟩
  | 4, _ => exact ⟨rfl, fun j hj => by match j, hj with | 0, _ => rfl | 1, _ => rfl | 2, _ => rfl | 3, _ => rfl⟩
noncomputable def spWord (a : Ad) : Sp := fun vs H Q _ => ∃ x i t tb d, vs = [.ref x] ∧ i < 5 ∧ H x = some (excO x (a.c i) t tb d) ∧ DctOk H d ∧ ∀ H', Same H H' → Q (.str (nmW i)) H'
theorem ok_law_word (T : Nm mg) (C : Cl5 K mg a) (D : DefB K mg "_law_word" s_law_word ["_law_e"]) : FnGB P w K mg base CX0 false 1 "_law_word" ["_law_e"] (fun _ => spWord a) := by
  refine D.okG sc_law_word (fun s vs H Q E h => ?_) (fun f cdv A outer s H vs Q E hcd hr h => ?_)
  · obtain ⟨x, i, t, tb, d, rfl, _⟩ := h
    rfl
  obtain ⟨x, i, t, tb, d, rfl, hi, hx, hd, q⟩ := h
  obtain ⟨ask, _, kF, kV, kk, _⟩ := C.all hi
  have isx : ∀ (H1 : Hp) (Q : VK) (j : Nat), Same H H1 → j < 5 → Q (.bl (i == j)) H1 → rIsX K [.ref x, .ref (a.c j)] H1 Q := fun H1 Q j s1 hj q => ⟨x, a.c i, t, tb, d, .ref (a.c j), i == j, rfl, s1 _ _ hx, hd.same s1, ask, nofun, kk j hj, q⟩
  have isF : ∀ (H1 : Hp) (Q : VK), Same H H1 → Q (.bl true) H1 → rIsX K [.ref x, .ref a.cf] H1 Q := fun H1 Q s1 q => ⟨x, a.c i, t, tb, d, .ref a.cf, true, rfl, s1 _ _ hx, hd.same s1, ask, nofun, kF, q⟩
  have isV : ∀ (H1 : Hp) (Q : VK), Same H H1 → Q (.bl true) H1 → rIsX K [.ref x, .ty "ValueError"] H1 Q := fun H1 Q s1 q => ⟨x, a.c i, t, tb, d, .ty "ValueError", true, rfl, s1 _ _ hx, hd.same s1, ask, nofun, kV, q⟩
  refine ⟨_, PSs.nox (pss_cons (ps_set (i := 1) sc_law_word.nd rfl (Or.inl rfl) (pe_lst (pa_cons (pe_callB call_isx rfl T.n_isinstance boot_isinstance (pa_cons (pv 0) (pa_cons (pe_cls rfl C.m0) pa_nil))) (pa_cons (pe_callB call_isx rfl T.n_isinstance boot_isinstance (pa_cons (pv 0) (pa_cons (pe_cls rfl C.m1) pa_nil)))
      (pa_cons (pe_callB call_isx rfl T.n_isinstance boot_isinstance (pa_cons (pv 0) (pa_cons (pe_cls rfl C.m2) pa_nil))) (pa_cons (pe_callB call_isx rfl T.n_isinstance boot_isinstance (pa_cons (pv 0) (pa_cons (pe_cls rfl C.m3) pa_nil))) pa_nil))))))
    (pss_cons (ps_set (i := 1) sc_law_word.nd rfl (Or.inl rfl) (pe_op op_cat (pv 1) (pe_lst (pa_cons (pe_callB call_isx rfl T.n_isinstance boot_isinstance (pa_cons (pv 0) (pa_cons (pe_cls rfl C.m4) pa_nil))) pa_nil))))
    (pss_cons (ps_if (PW.pt (pw_or (pt_cmpR op_ne (pe_bm PySem.F.plainAttrs_list PySem.F.slot_list_count PySem.F.type_list_count mt_cntB (pv 1) (pa_cons pe_bl pa_nil)) pe_int (nomark _))
        (pw_or (pt_not (pt_val (pe_callB call_isx rfl T.n_isinstance boot_isinstance (pa_cons (pv 0) (pa_cons (pe_cls rfl C.mf) pa_nil))))) (pw_or1 (pt_not (pt_val (pe_callB call_isx rfl T.n_isinstance boot_isinstance (pa_cons (pv 0) (pa_cons (pe_ty rfl T.n_ValueError boot_ValueError) pa_nil)))))))))
      (pss_one (ps_ret pe_str)) pss_nil)
    (pss_one (ps_ret (pe_ix ix_list (pe_lst (pa_cons pe_str (pa_cons pe_str (pa_cons pe_str (pa_cons pe_str (pa_cons pe_str pa_nil)))))) (pe_bm PySem.F.plainAttrs_list PySem.F.slot_list_index PySem.F.type_list_index mt_idxB (pv 1) (pa_cons pe_bl pa_nil)) (fun _ _ => rfl))))))), ?_⟩
  walk_at "sf"
  refine isx _ _ 0 (Same.refl _) (by decide) ?_
  walk_at "sf"
  refine isx _ _ 1 (Same.refl _) (by decide) ?_
  walk_at "sf"
  refine isx _ _ 2 (Same.refl _) (by decide) ?_
  walk_at "sf"
  refine isx _ _ 3 (Same.refl _) (by decide) ?_
  walk_at "sf"
  intro p1 hp1
  have s1 := Same.new hp1 (.lst [V.bl (i == 0), V.bl (i == 1), V.bl (i == 2), V.bl (i == 3)])
  walk_at "sf"
  refine isx _ _ 4 s1 (by decide) ?_
  walk_at "sf"
  intro p2 hp2
  have s2 := s1.trans (Same.new hp2 (.lst [V.bl (i == 4)]))
  have n12 : p1 ≠ p2 := fun z => by subst z; rw [upd_same] at hp2; cases hp2
  refine ⟨p1, p2, [V.bl (i == 0), V.bl (i == 1), V.bl (i == 2), V.bl (i == 3)], [V.bl (i == 4)], rfl, rfl, by rw [upd_ne n12, upd_same], by rw [upd_same], small4 (show 5 ≤ 1000 by decide), fun p3 hp3 => ?_⟩
  have s3 := s2.trans (Same.new hp3 (.lst ([V.bl (i == 0), V.bl (i == 1), V.bl (i == 2), V.bl (i == 3)] ++ [V.bl (i == 4)])))
  generalize hH3 : upd (upd (upd H p1 _) p2 _) p3 _ = H3 at s3 ⊢
  have h3 : SqL K H3 p3 ((fl i).map V.bl) := by subst hH3; exact SqL.of upd_same
  clear hH3 s1 s2
  walk_at "sf"
  refine ⟨_, rfl, ⟨.inl ⟨rfl, _, h3⟩, ?_⟩⟩
  walk_at "sf"
  refine ⟨p3, fl i, true, rfl, rfl, h3, ?_⟩
  rw [fl_count hi]
  walk_at "sf"
  refine iteF ?_
  walk_at "sf"
  refine isF _ _ s3 ?_
  walk_at "sf"
  refine iteF ?_
  walk_at "sf"
  refine isV _ _ s3 ?_
  walk_at "sf"
  refine iteF ?_
  walk_at "sf"
  intro p4 hp4
  have s4 := s3.trans (Same.new hp4 (.lst [V.str "NoRatio", V.str "NoNumber", V.str "TooGreat", V.str "BadText", V.str "BadRow"]))
  walk_at "sf"
  refine ⟨_, rfl, ⟨.inl ⟨rfl, _, (Same.new hp4 _).seq h3⟩, ?_⟩⟩
  walk_at "sf"
  refine ⟨p3, fl i, true, i, rfl, rfl, (Same.new hp4 _).seq h3, hi, (fl_at hi).1, (fl_at hi).2, ?_⟩
  refine r_ixL (SqL.of upd_same) (nm_at hi) ?_
  exact q _ s4
end
end V25
namespace V25
open PySem PyProof.Rows L2 SF CV PySem.W
structure Step (Hf H Hf' H' : Hp) : Prop where
  hh : Same H H'
  ff : Same Hf Hf'
  fh : Same Hf' H'
  nn : ∀ b, Hf b = none → H b ≠ none → Hf' b = none
theorem same_ne {H H' : Hp} (s : Same H H') {b : Addr} (h : H b ≠ none) : H' b ≠ none := by
  cases e : H b with
  | none => exact absurd e h
  | some o => rw [s _ _ e]; nofun
theorem Step.trans {Hf H Hf1 H1 Hf2 H2 : Hp} (a : Step Hf H Hf1 H1) (b : Step Hf1 H1 Hf2 H2) : Step Hf H Hf2 H2 :=
  ⟨a.hh.trans b.hh, a.ff.trans b.ff, b.fh, fun c h1 h2 => b.nn c (a.nn c h1 h2) (same_ne a.hh h2)⟩
theorem Step.new {Hf H : Hp} (s : Same Hf H) {p : Addr} (h : H p = none) (o : HO) : Step Hf H (upd Hf p o) (upd H p o) := by
  have hf : Hf p = none := by
    cases e : Hf p with
    | none => rfl
    | some u => rw [s _ _ e] at h; cases h
  refine ⟨Same.new h o, Same.new hf o, fun b u e => ?_, fun b h1 h2 => ?_⟩
  · by_cases z : b = p
    · subst z; rw [upd_same] at e ⊢; exact e
    · rw [upd_ne z] at e ⊢; exact s _ _ e
  · have z : b ≠ p := fun z => h2 (by rw [z]; exact h)
    rw [upd_ne z]; exact h1
theorem ev_mk {K : Frag} {C : Addr} {F : Fn} {m : Nat} {vs : List V} {Hf H : Hp} {Q : VK} {E : XK} {as : List AV} {r : AV} (s : Same Hf H) (rl : RlL K C Hf as vs) (hl : as.length = m) (hF : F as = some r) (q : ∀ v Hf' H', Step Hf H Hf' H' → Rl K C Hf' r v → Q v H') : spEv K C F m vs H Q E :=
  ⟨Hf, as, r, s, rl, hl, hF, fun v Hf' H' a b c d rl => q v Hf' H' ⟨a, b, c, d⟩ rl⟩
noncomputable def bnd (a : O) (k : AV → O) : O := Option.rec none k a
theorem bnd_eq {a : O} {k : AV → O} {r : AV} (h : bnd a k = some r) : ∃ x, a = some x ∧ k x = some r := by
  cases a with
  | none => exact nomatch h
  | some x => exact ⟨x, rfl, h⟩
noncomputable def pbF (F2 : Fn) (x y w : AV) : O := bnd (f_near [x, w]) fun a => bnd (f_near [y, w]) fun b => F2 [a, b]
noncomputable def locF (F2 : Fn) (fr x y : AV) (n : Nat) : AV → O := Nat.rec (motive := fun _ => AV → O) (fun _ => none) (fun _ ih w => bnd (pbF F2 x y w) fun p => bnd (f_is_alone [fr, p]) fun b => asB b fun c => ifB c (some p) (bnd (f_times [w, w]) ih)) n
noncomputable def w16 : AV := .tup [.int 1, .int 16]
noncomputable def resF (F1 F2 : Fn) (x y : AV) : Option (Option AV) := AV.casesOn x none (fun _ => none) (fun _ => none) (fun _ => none) (fun _ => none) (fun _ => none) fun p q w =>
  AV.casesOn y none (fun _ => none) (fun _ => none) (fun _ => none) (fun _ => none) (fun _ => none) fun p' q' w' =>
  AV.casesOn w none (fun _ => none) (fun i => AV.casesOn w' none (fun _ => none) (fun j => Bool.rec none (Bool.rec
      (Option.rec none (fun r => some (some r)) (bnd (F1 [p, p']) fun poly => bnd (f_as_ratio [x]) fun a => bnd (f_as_ratio [y]) fun b =>
        ifB (andB (isN a) (isN b)) (bnd (f_square_free [poly]) fun fr => bnd (locF F2 fr x y 40 w16) fun pr => f_number_in [fr, pr, .int (Int.mul i j)])
          (bnd (F2 [q, q']) fun pr => some (.root poly pr (.int (Int.mul i j))))))
      (some none) (ltI 12 (Int.mul i j))) (okM i j)) (fun _ => none) (fun _ => none) (fun _ => none) (fun _ _ _ => none)) (fun _ => none) (fun _ => none) (fun _ => none) (fun _ _ _ => none)
noncomputable def lamE : Expr := match (defBody s_result_of)[(4 : Nat)]? with
  | some (.Assign _ (.Call _ (_ :: l :: _) _ _) _) => l
  | _ => .Constant .none 0 ⟨0, 0, 0, 0⟩
noncomputable def lamA : Arguments := match lamE with
  | .Lambda x _ _ _ => x
  | _ => { posonlyargs := [], args := [], vararg := none, kwonlyargs := [], kw_defaults := [], kwarg := none, defaults := [] }
noncomputable def lamB : Expr := match lamE with
  | .Lambda _ b _ _ => b
  | e => e
noncomputable def lamS : Scope := match lamE with
  | .Lambda _ _ sc _ => sc
  | _ => { kind := .function, names := [], isGenerator := false, isCoroutine := false }
noncomputable abbrev lamQ : Str := ("result_of" : Str) ++ ".<locals>." ++ "<lambda>"
noncomputable abbrev lamC (c1 c2 c3 : Addr) : List (Str × Addr) := [("pair_of", c3), ("other", c2), ("one", c1)]
theorem sc_lam : LamScope ["width", "one", "other", "pair_of"] ["width"] lamS := ⟨rfl, rfl, rfl, by decide +kernel, by decide +kernel⟩
theorem lam_three {c1 c2 c3 c : Addr} {x : Str} (e : (lamC c1 c2 c3).lookup x = some c) : (x = "one" ∧ c = c1) ∨ (x = "other" ∧ c = c2) ∨ (x = "pair_of" ∧ c = c3) := by
  unfold lamC at e
  rw [List.lookup_cons] at e
  by_cases z : x = "pair_of"
  · subst z
    simp only [beq_self_eq_true] at e
    exact .inr (.inr ⟨rfl, (Option.some.inj e).symm⟩)
  · rw [show (x == ("pair_of" : Str)) = false from beq_eq_false_iff_ne.mpr z] at e
    dsimp only at e
    rw [List.lookup_cons] at e
    by_cases z2 : x = "other"
    · subst z2
      simp only [beq_self_eq_true] at e
      exact .inr (.inl ⟨rfl, (Option.some.inj e).symm⟩)
    · rw [show (x == ("other" : Str)) = false from beq_eq_false_iff_ne.mpr z2] at e
      dsimp only at e
      rw [List.lookup_cons] at e
      by_cases z3 : x = "one"
      · subst z3
        simp only [beq_self_eq_true] at e
        exact .inl ⟨rfl, (Option.some.inj e).symm⟩
      · rw [show (x == ("one" : Str)) = false from beq_eq_false_iff_ne.mpr z3] at e
        cases e
section
variable {P : Program} {w : World} {K : Frag} {mg : Str → Option Value} {base : Heap} {C fI : Addr} {fd : FuncData}
theorem fnv_of {k j : Nat} {x : Str} {ps : List Str} {sp : Sp} (F : FnB P w K mg base k x ps sp) (h : k ≤ j) : ∃ f, mg x = some (.ref f) ∧ FnV P w K mg base CX0 true j f ps fun _ => sp := by
  obtain ⟨f, fd, a, b, c, d⟩ := (F.mono h).ex
  exact ⟨f, b, fd, ⟨fun _ vs H Q E z => a.len vs H Q E z, fun A outer s H args us vs Q E hr => a.run A outer s H args us vs Q E hr.calm⟩, c, d⟩
noncomputable def spLoc (P : Program) (w : World) (K : Frag) (mg : Str → Option Value) (base : Heap) (C : Addr) : Shared → Sp := fun s vs H Q _ => ∃ (vf v1 v2 : V) (f c' c1 c2 c3 f2 : Addr) (oc : Obj) (u1 u2 u3 : Value) (Hf : Hp) (fr x y : AV) (F2 : Fn) (pr : AV),
  vs = [vf, .ref f] ∧ Same Hf H ∧ Rl K C Hf fr vf ∧ H f = some (lamO f "<lambda>" lamQ lamA lamB lamS (lamC c1 c2 c3) c') ∧ H c' = some (.frz oc (.own 0)) ∧ CdO oc lamQ ∧ (c1 ≠ c2 ∧ c1 ≠ c3 ∧ c2 ≠ c3) ∧
  (H c1 = none ∧ s.heap.IsCell c1 (some u1) ∧ RelV v1 u1 ∧ Rl K C Hf x v1) ∧ (H c2 = none ∧ s.heap.IsCell c2 (some u2) ∧ RelV v2 u2 ∧ Rl K C Hf y v2) ∧ (H c3 = none ∧ s.heap.IsCell c3 (some u3) ∧ RelV (.ref f2) u3) ∧
  FnV P w K mg base CX0 true 38 f2 ["one", "other"] (fun _ => spEv K C F2 2) ∧ locF F2 fr x y 40 w16 = some pr ∧ ∀ v Hf' H', Step Hf H Hf' H' → Rl K C Hf' pr v → Q v H'
theorem ok_located (g_near : FnB P w K mg base 38 "near" ["number", "width"] (spEv K C f_near 2)) (g_is_alone : FnB P w K mg base 39 "is_alone" ["free", "pair"] (spEv K C f_is_alone 2)) (g_times : FnB P w K mg base 39 "times" ["one", "other"] (spEv K C f_times 2))
    (D : DefB K mg "located" s_located ["free", "pair_by"]) : FnGB P w K mg base CX0 true 40 "located" ["free", "pair_by"] (spLoc P w K mg base C) := by
  refine D.okG sc_located (fun s vs H Q E h => ?_) (fun f0 cdv A outer s H vs Q E hcd hr h => ?_)
  · obtain ⟨vf, v1, v2, f, c', c1, c2, c3, f2, oc, u1, u2, u3, Hf, fr, x, y, F2, pr, rfl, _⟩ := h
    rfl
  obtain ⟨vf, v1, v2, f, c', c1, c2, c3, f2, oc, u1, u2, u3, Hf, fr, x, y, F2, pr, rfl, sf, rf, hf, hc, hcdo, ⟨n12, n13, n23⟩, ⟨z1, i1, e1, r1⟩, ⟨z2, i2, e2, r2⟩, ⟨z3, i3, e3⟩, FV, hpr, q⟩ := h
  obtain ⟨R, hR⟩ : ∃ R : Addr → Addr → List V → Hp → VK → Prop, R = fun f1 c1' vs H1 Q1 => f1 = f ∧ c1' = c' ∧ ∃ Hf1 w' pr, Step Hf H Hf1 H1 ∧ RlL K C Hf1 [w'] vs ∧ pbF F2 x y w' = some pr ∧ ∀ v Hf2 H2, Step Hf1 H1 Hf2 H2 → Rl K C Hf2 pr v → Q1 v H2 := ⟨_, rfl⟩
  have run : ∀ pins σ1 H1 s1 f1 c1' vs us Q1, Inv (cxG CX0 true P w K mg base ["free", "pair_by", "width", "pair"] "located" (defScope s_located) f0 cdv A outer s H E).nox pins σ1 H1 s1 → H1 f1 = some (lamO f1 "<lambda>" lamQ lamA lamB lamS (lamC c1 c2 c3) c1') → Vals vs us → R f1 c1' vs H1 Q1 →
      codeAny (model P w) (A.deeper (envOfC "located" (defScope s_located) s.heap.objs.size f0 cdv)) (.call (.ref f1) ⟨us, []⟩) (CR CX0 (envOfC "located" (defScope s_located) s.heap.objs.size f0 cdv :: outer) P w H1 s1 Q1 E0) s1 := by
    intro pins σ1 H1 s1 f1 c1' vs us Q1 J hf1 rv r
    rw [hR] at r
    obtain ⟨rfl, rfl, Hf1, w', pr', st, rl, hpb, q1⟩ := r
    obtain ⟨v0, rfl, rw0⟩ := rl.one
    obtain ⟨u0, rfl, rv0⟩ := vals1 rv
    obtain ⟨pm, ctv, ho⟩ := (J.hok _ _ hf1).1
    have hoc := (J.hok _ _ (st.hh _ _ hc)).1
    obtain ⟨vs, tq, e5, e6⟩ := hcdo
    have noex : ∀ b : Addr, b ∉ ([] : List Addr) := fun b z => by simp at z
    have cellK : ∀ {cell : Addr} {u : Value}, H cell = none → s.heap.IsCell cell (some u) → s1.heap.IsCell cell (some u) ∧ H1 cell = none := fun {cell u} hn ⟨ob, hob, hod⟩ => by
      obtain ⟨sl, hob1⟩ := J.base.any hob hn (noex cell)
      exact ⟨⟨_, hob1, hod⟩, J.base.free cell ob hob hn (noex cell)⟩
    obtain ⟨j1, y1⟩ := cellK z1 i1
    obtain ⟨j2, y2⟩ := cellK z2 i2
    obtain ⟨j3, y3⟩ := cellK z3 i3
    refine lam_run (CX := CX0) (cm := true) (k := 38) (N := ["width", "one", "other", "pair_of"]) (ps := ["width"]) (us := [u0]) sc_lam ho ⟨c1', oc, vs, tq, rfl, hoc, e5, e6⟩ J.env0 hr rfl (fun x c e => ?_) (fun x y c e1 e2 => ?_) (fun x e => ?_) (σ := [some v0, some v1, some v2, some (.ref f2)]) rfl (fun i x v h1 h2 => ?_) fun hr2 => ⟨_, pe_fnL (i := 3) FV hr2 pass0 rfl (Or.inr (Or.inr rfl)) (pa_cons (pe_fn g_near hr2.calm (pa_cons (pv 1) (pa_cons (pv 0) pa_nil))) (pa_cons (pe_fn g_near hr2.calm (pa_cons (pv 2) (pa_cons (pv 0) pa_nil))) pa_nil)), ?_⟩
    · rcases lam_three e with ⟨_, rfl⟩ | ⟨_, rfl⟩ | ⟨_, rfl⟩
      · exact ⟨⟨_, j1⟩, y1⟩
      · exact ⟨⟨_, j2⟩, y2⟩
      · exact ⟨⟨_, j3⟩, y3⟩
    · rcases lam_three e1 with ⟨a1, a2⟩ | ⟨a1, a2⟩ | ⟨a1, a2⟩ <;> rcases lam_three e2 with ⟨b1, b2⟩ | ⟨b1, b2⟩ | ⟨b1, b2⟩
      · exact a1.trans b1.symm
      · exact absurd (a2.symm.trans b2) n12
      · exact absurd (a2.symm.trans b2) n13
      · exact absurd (b2.symm.trans a2) n12
      · exact a1.trans b1.symm
      · exact absurd (a2.symm.trans b2) n23
      · exact absurd (b2.symm.trans a2) n13
      · exact absurd (b2.symm.trans a2) n23
      · exact a1.trans b1.symm
    · have : x = "one" ∨ x = "other" ∨ x = "pair_of" := (by decide +kernel : ∀ y ∈ lamS.names, y.2 = .free → y.1 = "one" ∨ y.1 = "other" ∨ y.1 = "pair_of") _ (PySem.mem_of_lookup e) rfl
      rcases this with rfl | rfl | rfl
      · exact ⟨c1, rfl⟩
      · exact ⟨c2, rfl⟩
      · exact ⟨c3, rfl⟩
    · match i, h1, h2 with
      | 0, h1, h2 =>
        cases h1; cases h2
        exact .inl ⟨rfl, u0, rv0, rfl⟩
      | 1, h1, h2 =>
        cases h1; cases h2
        exact .inr ⟨rfl, c1, u1, rfl, j1, e1⟩
      | 2, h1, h2 =>
        cases h1; cases h2
        exact .inr ⟨rfl, c2, u2, rfl, j2, e2⟩
      | 3, h1, h2 =>
        cases h1; cases h2
        exact .inr ⟨rfl, c3, u3, rfl, j3, e3⟩
      | i + 4, h1, h2 => cases h1
    · unfold pbF at hpb
      obtain ⟨a, ha, hpb1⟩ := bnd_eq hpb
      obtain ⟨b, hb, hpb2⟩ := bnd_eq hpb1
      refine ⟨rfl, ?_⟩
      walk_at "sf"
      refine ev_mk st.fh (.cons (r1.mono st.ff) (.cons rw0 .nil)) rfl ha fun va Hfa Ha sa ra => ?_
      walk_at "sf"
      refine ev_mk sa.fh (.cons (r2.mono (st.ff.trans sa.ff)) (.cons (rw0.mono sa.ff) .nil)) rfl hb fun vb Hfb Hb sb rb => ?_
      walk_at "sf"
      exact ev_mk sb.fh (.cons (ra.mono sb.ff) (.cons rb .nil)) rfl hpb2 fun vc Hfc Hc sc rc => q1 vc Hfc Hc (sa.trans (sb.trans sc)) rc
  refine ⟨_, PSs.nox (pss_cons (ps_set (i := 2) sc_located.nd rfl (Or.inl rfl) (pe_tup (pa_cons pe_int (pa_cons pe_int pa_nil))))
    (pss_cons (ps_set (i := 3) sc_located.nd rfl (Or.inl rfl) (pe_runA (CX := CX0) (E := E0) (i := 1) (R := R) rfl (Or.inl rfl) pass0 (pa_cons (pv 2) pa_nil) run))
    (pss_cons (ps_while PassesOwn.never (pt_not (pt_val (pe_fn g_is_alone hr.calm (pa_cons (pv 0) (pa_cons (pv 3) pa_nil)))))
      (pss_cons (ps_set (i := 2) sc_located.nd rfl (Or.inl rfl) (pe_fn g_times hr.calm (pa_cons (pv 2) (pa_cons (pv 2) pa_nil))))
      (pss_one (ps_set (i := 3) sc_located.nd rfl (Or.inl rfl) (pe_runA (CX := CX0) (E := E0) (i := 1) (R := R) rfl (Or.inl rfl) pass0 (pa_cons (pv 2) pa_nil) run)))))
    (pss_one (ps_ret (pv 3)))))), ?_⟩
  walk_at "sf"
  intro p0 hp0
  have s0 := Step.new sf hp0 (.tup [.int 1, .int 16])
  have rw0 : Rl K C (upd Hf p0 (.tup [.int 1, .int 16])) w16 (.ref p0) := .tup (.inl (.inl upd_same)) (.cons .int (.cons .int .nil))
  generalize upd Hf p0 (.tup [.int 1, .int 16]) = Hf0 at *
  generalize upd H p0 (.tup [.int 1, .int 16]) = H0 at *
  walk_at "sf"
  obtain ⟨pa, hpa, hrest⟩ := bnd_eq (show bnd (pbF F2 x y w16) (fun p => bnd (f_is_alone [fr, p]) fun b => asB b fun c => ifB c (some p) (bnd (f_times [w16, w16]) (locF F2 fr x y 39))) = some pr from hpr)
  refine ⟨f, c', rfl, s0.hh _ _ hf, ?_⟩
  walk_at "sf"
  refine ⟨s0.hh _ _ hf, ?_⟩
  rw [hR]
  refine ⟨rfl, rfl, Hf0, w16, pa, s0, .cons rw0 .nil, hpa, fun v3 Hf3 H3 s3 r3 => ?_⟩
  walk_at "sf"
  refine while_go (fun m σ H' => ∃ (Hf1 : Hp) (w' p' : AV) (vw vp : V), σ = [some vf, some (.ref f), some vw, some vp] ∧ Step Hf H Hf1 H' ∧ Rl K C Hf1 w' vw ∧ Rl K C Hf1 p' vp ∧ bnd (f_is_alone [fr, p']) (fun b => asB b fun c => ifB c (some p') (bnd (f_times [w', w']) (locF F2 fr x y m))) = some pr)
    ⟨39, Hf3, w16, pa, _, _, rfl, s0.trans s3, rw0.mono s3.ff, r3, hrest⟩ ?_
  rintro m σ H' ⟨Hf1, w', p', vw, vp, rfl, s1, rw1, rp1, hh⟩
  obtain ⟨b, hb, hh1⟩ := bnd_eq hh
  obtain ⟨c, rfl, hh2⟩ := asB_eq hh1
  walk_at "sf"
  refine ev_mk s1.fh (.cons (rf.mono s1.ff) (.cons rp1 .nil)) rfl hb fun v4 Hf4 H4 s4 r4 => ?_
  cases r4
  refine ⟨c, rfl, ?_⟩
  cases c with
  | true =>
    refine iteF ?_
    walk_at "sf"
    cases hh2
    exact q _ _ _ (s1.trans s4) (rp1.mono s4.ff)
  | false =>
    refine iteT ?_
    obtain ⟨w2, hw2, hh3⟩ := bnd_eq hh2
    cases m with
    | zero => exact nomatch hh3
    | succ m =>
      obtain ⟨p2, hp2, hh4⟩ := bnd_eq (show bnd (pbF F2 x y w2) (fun p => bnd (f_is_alone [fr, p]) fun b => asB b fun c => ifB c (some p) (bnd (f_times [w2, w2]) (locF F2 fr x y m))) = some pr from hh3)
      have s14 := s1.trans s4
      have rw4 := rw1.mono s4.ff
      refine ⟨_, fun σ' H' h => h, ?_⟩
      walk_at "sf"
      refine ev_mk s4.fh (.cons rw4 (.cons rw4 .nil)) rfl hw2 fun v5 Hf5 H5 s5 r5 => ?_
      have s15 := s14.trans s5
      walk_at "sf"
      refine ⟨f, c', rfl, s15.hh _ _ hf, ?_⟩
      walk_at "sf"
      refine ⟨s15.hh _ _ hf, ?_⟩
      refine ⟨rfl, rfl, Hf5, w2, p2, s15, .cons r5 .nil, hp2, fun v6 Hf6 H6 s6 r6 => ?_⟩
      walk_at "sf"
      exact ⟨m, Nat.lt_succ_self m, Hf6, w2, p2, _, _, rfl, s15.trans s6, r5.mono s6.ff, r6, hh4⟩
end
end V25
namespace V25
open PySem PyProof.Rows L2 SF CV PySem.W
structure StepX (Pt : Addr) (Hf H Hf' H' : Hp) : Prop where
  hh : ∀ b o, b ≠ Pt → H b = some o → H' b = some o
  tt : H Pt ≠ none → H' Pt ≠ none
  ff : Same Hf Hf'
  fh : Same Hf' H'
  nn : ∀ b, Hf b = none → H b ≠ none → Hf' b = none
theorem StepX.of {Pt : Addr} {Hf H Hf' H' : Hp} (s : Step Hf H Hf' H') : StepX Pt Hf H Hf' H' := ⟨fun b o _ e => s.hh b o e, same_ne s.hh, s.ff, s.fh, s.nn⟩
theorem StepX.ne {Pt : Addr} {Hf H Hf' H' : Hp} (s : StepX Pt Hf H Hf' H') {b : Addr} (h : H b ≠ none) : H' b ≠ none := by
  by_cases z : b = Pt
  · subst z; exact s.tt h
  · cases e : H b with
    | none => exact absurd e h
    | some o => rw [s.hh _ _ z e]; nofun
theorem StepX.trans {Pt : Addr} {Hf H Hf1 H1 Hf2 H2 : Hp} (a : StepX Pt Hf H Hf1 H1) (b : StepX Pt Hf1 H1 Hf2 H2) : StepX Pt Hf H Hf2 H2 :=
  ⟨fun c o z e => b.hh c o z (a.hh c o z e), fun h => b.tt (a.tt h), a.ff.trans b.ff, b.fh, fun c h1 h2 => b.nn c (a.nn c h1 h2) (a.ne h2)⟩
structure TbO (Pt : Addr) (q : Str) (H : Hp) : Prop where
  ex : ∃ ps : Array Value, H Pt = some (.tbl ps) ∧ TriplesOk ps.toList ∧ ∀ pos v, codeAmong pos ps.toList = some v → ∃ c' oc, v = .ref c' ∧ H c' = some (.frz oc (.own 0)) ∧ CdO oc q
theorem TbO.same {Pt : Addr} {q : Str} {H H' : Hp} (h : TbO Pt q H) (s : Same H H') : TbO Pt q H' := by
  obtain ⟨ps, a, b, c⟩ := h.ex
  exact ⟨ps, s _ _ a, b, fun pos v e => by obtain ⟨c', oc, e1, e2, e3⟩ := c pos v e; exact ⟨c', oc, e1, s _ _ e2, e3⟩⟩
theorem TbO.ne {Pt : Addr} {q : Str} {H : Hp} (h : TbO Pt q H) : H Pt ≠ none := by
  obtain ⟨ps, a, _⟩ := h.ex
  rw [a]; nofun
theorem triples_snoc {i j : Int} {c : Value} : ∀ (l : List Value), TriplesOk l → TriplesOk (l ++ [rawInt i, rawInt j, c]) := by
  intro l
  fun_induction TriplesOk l with
  | case1 => intro _; exact trivial
  | case2 a b c d e l ih => intro h; exact ih h
  | case3 => intro h; exact h.elim
theorem among_snoc {pos : Pos} {i j : Int} {c v : Value} : ∀ (l : List Value), TriplesOk l → codeAmong pos (l ++ [rawInt i, rawInt j, c]) = some v → codeAmong pos l = some v ∨ v = c := by
  intro l
  fun_induction TriplesOk l with
  | case1 =>
    intro _ h
    simp only [List.nil_append, codeAmong, rawInt] at h
    split at h
    · exact .inr (Option.some.inj h).symm
    · cases h
  | case2 a b c' d e l ih =>
    intro h e1
    simp only [List.cons_append, codeAmong] at e1 ⊢
    split at e1
    · rename_i z
      rw [if_pos z]
      exact .inl e1
    · rename_i z
      rw [if_neg z]
      exact ih h e1
  | case3 => intro h; exact h.elim
theorem lam_step {Pt : Addr} {pos : Pos} {q : Str} {params : Arguments} {body : Expr} {scope : Scope} {cl : List (Str × Addr)} {σ : L2.St} {H : Hp} {Q : VK} (T : TbO Pt q H)
    (h : ∀ f c' oc H1, (∀ b o, b ≠ Pt → H b = some o → H1 b = some o) → TbO Pt q H1 → H1 f = some (lamO f "<lambda>" q params body scope cl c') → H1 c' = some (.frz oc (.own 0)) → CdO oc q → Q (.ref f) H1) : tLam2 Pt pos q params body scope cl σ H Q := by
  obtain ⟨ps, hP, ht, hc⟩ := T.ex
  cases e : codeAmong pos ps.toList with
  | none =>
    refine .inl ⟨ps, hP, ht, e, fun f c' oc hcd e1 e2 e3 => ?_⟩
    have nP : ∀ b, H b = none → b ≠ Pt := fun b z y => by rw [y, hP] at z; cases z
    have keep : ∀ b o, b ≠ Pt → H b = some o → upd (upd (upd H Pt (.tbl (ps ++ #[rawInt pos.line, rawInt pos.col, .ref c']))) c' (.frz oc (.own 0))) f (lamO f "<lambda>" q params body scope cl c') b = some o := fun b o so z => by
      rw [upd_ne (ne_of_none z e1), upd_ne (ne_of_none z e2), upd_ne so]; exact z
    have hc1 : upd (upd (upd H Pt (.tbl (ps ++ #[rawInt pos.line, rawInt pos.col, .ref c']))) c' (.frz oc (.own 0))) f (lamO f "<lambda>" q params body scope cl c') c' = some (.frz oc (.own 0)) := by rw [upd_ne (Ne.symm e3), upd_same]
    refine h f c' oc _ keep ⟨ps ++ #[rawInt pos.line, rawInt pos.col, .ref c'], ?_, ?_, fun pos2 v e4 => ?_⟩ upd_same hc1 hcd
    · rw [upd_ne (Ne.symm (nP f e1)), upd_ne (Ne.symm (nP c' e2)), upd_same]
    · rw [Array.toList_append]; exact triples_snoc _ ht
    · rw [Array.toList_append] at e4
      rcases among_snoc _ ht e4 with z | z
      · obtain ⟨c2, oc2, y1, y2, y3⟩ := hc pos2 v z
        exact ⟨c2, oc2, y1, keep _ _ (fun y => by rw [y, hP] at y2; cases y2) y2, y3⟩
      · exact ⟨c', oc, z, hc1, hcd⟩
  | some v =>
    obtain ⟨c', oc, rfl, y2, y3⟩ := hc pos v e
    refine .inr ⟨ps, c', hP, ht, e, fun f e1 => ?_⟩
    have s := Same.new e1 (lamO f "<lambda>" q params body scope cl c')
    exact h f c' oc _ (fun b o _ z => s b o z) (T.same s) upd_same (s _ _ y2) y3
noncomputable def tCallS (R : List V → Hp → L2.St → VK → Prop) (t : TA) : TE := fun σ H Q => t σ H fun vs H1 => R vs H1 σ Q
theorem pe_fnS {X : Cx} {CX : CXT} {cm : Bool} {k : Nat} {ps : List Str} {E : XK} {x : Str} {p pos : Pos} {e : Expr} {es : List Expr} {t : TA} {sp : Shared → Sp} {R : List V → Hp → L2.St → VK → Prop} (F : FnGB X.prog X.w X.K X.mg X.base CX cm k x ps sp) (hr : RoomG cm k X.A) (hx : Passes CX X E) (ha : PA X (e :: es) t)
    (hR : ∀ pins σ H s vs Q, Inv X pins σ H s → R vs H σ Q → sp s vs H Q E)
    (hg : Gl X x := by rfl) (hdb : (x == ("__debug__" : Str)) = false := by decide) (he : starEach (e :: es) X.env = (false, eval e X.env) :: starEach es X.env := by rfl)
    (hpl : (backTo pos (starEach es X.env)).any (·.1) = false := by rfl) : PE X (.Call (.Name x p) (e :: es) [] pos) (tCallS R t) := by
  obtain ⟨f, fd, a, b, c, d⟩ := F.ex
  intro pins s σ H Q I h
  refine wpAny_Call_Name_kw (ld_glob I hg b ?_ hdb)
  refine callWith_K (h₀ := X.base) I.ok.mod.kin c (thn (ha pos pins s σ H _ I h) fun us s1 ⟨vs, H1, I1, r, q⟩ => ⟨I1.kIn, ?_⟩) he hpl
  exact run_fnG a hr d hx I1 r (hR pins σ H1 s1 vs Q I1 q)
theorem r_callS {σ : L2.St} {H : Hp} {Q : VK} {t : TA} {R : List V → Hp → L2.St → VK → Prop} (h : t σ H fun vs H1 => R vs H1 σ Q) : tCallS R t σ H Q := h
noncomputable def Raise (E : XK) (c : Addr) (H : Hp) : Prop := ∀ (H1 : Hp) (x tp : Addr) (mm : Str), Same H H1 → H1 x = none → H1 tp = none → x ≠ tp → E (.ref c) none (upd (upd H1 tp (.tup [.str mm])) x (excO x c tp .none none))
theorem Raise.mono {E : XK} {c : Addr} {H H' : Hp} (r : Raise E c H) (s : Same H H') : Raise E c H' := fun H1 x tp mm z a b d => r H1 x tp mm (s.trans z) a b d
noncomputable abbrev GX := AV → AV → Option (Option AV)
noncomputable def spX (K : Frag) (C Pt c : Addr) (G : GX) : Sp := fun vs H Q E => ∃ (Hf : Hp) (x y : AV) (res : Option AV), Same Hf H ∧ Hf Pt = none ∧ RlL K C Hf [x, y] vs ∧ TbO Pt lamQ H ∧ G x y = some res ∧
  (∀ r, res = some r → ∀ v Hf' H', StepX Pt Hf H Hf' H' → TbO Pt lamQ H' → Rl K C Hf' r v → Q v H') ∧ (res = none → Raise E c H)
noncomputable def spW (K : Frag) (C c : Addr) : Sp := fun vs H Q E => ∃ (Hf : Hp) (p q p' q' : AV) (i j : Int), Same Hf H ∧ RlL K C Hf [.root p q (.int i), .root p' q' (.int j)] vs ∧ okM i j = true ∧ (i * j ≤ 12 → ∀ Hf' H', Step Hf H Hf' H' → Q (.int (i * j)) H') ∧ (12 < i * j → Raise E c H)
noncomputable def spRes (P : Program) (w : World) (K : Frag) (mg : Str → Option Value) (base : Heap) (C Pt c : Addr) : Sp := fun vs H Q E => ∃ (Hf : Hp) (x y : AV) (v1 v2 : V) (f1 f2 : Addr) (F1 F2 : Fn) (res : Option AV), vs = [v1, v2, .ref f1, .ref f2] ∧ Same Hf H ∧ Hf Pt = none ∧ Rl K C Hf x v1 ∧ Rl K C Hf y v2 ∧ TbO Pt lamQ H ∧
  FnV P w K mg base CX0 true 40 f1 ["one", "other"] (fun _ => spEv K C F1 2) ∧ FnV P w K mg base CX0 true 38 f2 ["one", "other"] (fun _ => spEv K C F2 2) ∧ resF F1 F2 x y = some res ∧
  (∀ r, res = some r → ∀ v Hf' H', StepX Pt Hf H Hf' H' → TbO Pt lamQ H' → Rl K C Hf' r v → Q v H') ∧ (res = none → Raise E c H)
section
variable {P : Program} {w : World} {K : Frag} {mg : Str → Option Value} {base : Heap} {C fI : Addr} {fd : FuncData} {a : Ad}
theorem ok_weight_of_two (CL : Cl5 K mg a) (hG : ∃ uG, mg "GREATEST_WEIGHT" = some uG ∧ RelV (.int 12) uG) (g_weight_of : FnB P w K mg base 39 "weight_of" ["number"] (spEv K C f_weight_of 1)) (D : DefB K mg "weight_of_two" s_weight_of_two ["one", "other"]) :
    FnGB P w K mg base (CXF P w) true 40 "weight_of_two" ["one", "other"] (fun _ => spW K C a.c2) := by
  refine D.okG sc_weight_of_two (fun s vs H Q E h => ?_) (fun f cdv A outer s H vs Q E hcd hr h => ?_)
  · obtain ⟨Hf, p, q, p', q', i, j, _, rl, _⟩ := h
    exact rl.length
  obtain ⟨Hf, p, q, p', q', i, j, sf, rl, ok, qn, qx⟩ := h
  obtain ⟨uG, hG1, hG2⟩ := hG
  obtain ⟨v1, v2, rfl, r1, r2⟩ := rl.two
  have X2 : XCls K a.c2 := (CL.all (i := 2) (by decide)).2.2.2.2.2 (by decide)
  refine ⟨_, (pss_cons (ps_set (i := 2) sc_weight_of_two.nd rfl (Or.inl rfl) (pe_op op_mulL (pe_fn g_weight_of hr.calm (pa_cons (pv 0) pa_nil)) (pe_fn g_weight_of hr.calm (pa_cons (pv 1) pa_nil))))
    (pss_cons (ps_if (pt_cmpR op_gt (pv 2) (pe_glob rfl hG1 hG2) (nomark _))
    (pss_one (ps_raise (E := E) leaves_cxG rfl rfl CL.m2 X2 (pa_cons pe_str pa_nil)))
    pss_nil)
    (pss_one (ps_ret (pv 2))))), ?_⟩
  walk_at "sf"
  refine ev_mk sf (.cons r1 .nil) rfl (r := .int i) rfl fun va Hfa Ha sa ra => ?_
  cases ra
  walk_at "sf"
  refine ev_mk sa.fh (.cons (r2.mono sa.ff) .nil) rfl (r := .int j) rfl fun vb Hfb Hb sb rb => ?_
  cases rb
  refine r_i (okM_ok i j ok) ?_
  walk_at "sf"
  have sab := sa.trans sb
  by_cases hw : 12 < i * j
  · rw [decide_eq_true hw]
    refine iteT ?_
    walk_at "sf"
    exact ⟨by decide, fun x tp e1 e2 e3 => qx hw Hb x tp _ sab.hh e1 e2 e3⟩
  · rw [decide_eq_false hw]
    refine iteF ?_
    walk_at "sf"
    exact qn (by lia) Hfb Hb sab
end
end V25
namespace V25
open PySem PyProof.Rows L2 SF CV PySem.W
theorem clo (L fa c : Addr) : closureFor lamS (envOfC "result_of" (defScope s_result_of) L fa (.ref c)) = pure (lamC (L + 1) (L + 1 + 1) (L + 1 + 1 + 1)) := by first | (rfl; done) | kernel_rfl
structure DefC (K : Frag) (mg : Str → Option Value) (x : Str) (st : Stmt) (ps : List Str) (c : Addr) : Prop where
  ex : ∃ f fd, Fun K x x st f fd ∧ mg x = some (.ref f) ∧ Binds K fd ps [] ∧ fd.code = .ref c
theorem resF_eq {F1 F2 : Fn} {x y : AV} {res : Option AV} (h : resF F1 F2 x y = some res) : ∃ p q i p' q' j, x = .root p q (.int i) ∧ y = .root p' q' (.int j) ∧ okM i j = true ∧ ((12 < i * j ∧ res = none) ∨ (i * j ≤ 12 ∧ ∃ r, res = some r ∧
    (bnd (F1 [p, p']) fun poly => bnd (f_as_ratio [x]) fun a => bnd (f_as_ratio [y]) fun b =>
        ifB (andB (isN a) (isN b)) (bnd (f_square_free [poly]) fun fr => bnd (locF F2 fr x y 40 w16) fun pr => f_number_in [fr, pr, .int (i * j)])
          (bnd (F2 [q, q']) fun pr => some (.root poly pr (.int (i * j))))) = some r)) := by
  obtain ⟨p, q, w, rfl⟩ : ∃ p q w, x = .root p q w := by
    cases x with
    | root p q w => exact ⟨p, q, w, rfl⟩
    | non => exact nomatch h
    | bl _ => exact nomatch h
    | int _ => exact nomatch h
    | str _ => exact nomatch h
    | tup _ => exact nomatch h
    | lst _ => exact nomatch h
  obtain ⟨p', q', w', rfl⟩ : ∃ p q w, y = .root p q w := by
    cases y with
    | root p q w => exact ⟨p, q, w, rfl⟩
    | non => exact nomatch h
    | bl _ => exact nomatch h
    | int _ => exact nomatch h
    | str _ => exact nomatch h
    | tup _ => exact nomatch h
    | lst _ => exact nomatch h
  obtain ⟨i, rfl⟩ : ∃ i, w = .int i := by
    cases w with
    | int i => exact ⟨i, rfl⟩
    | non => exact nomatch h
    | bl _ => exact nomatch h
    | str _ => exact nomatch h
    | tup _ => exact nomatch h
    | lst _ => exact nomatch h
    | root _ _ _ => exact nomatch h
  obtain ⟨j, rfl⟩ : ∃ i, w' = .int i := by
    cases w' with
    | int i => exact ⟨i, rfl⟩
    | non => exact nomatch h
    | bl _ => exact nomatch h
    | str _ => exact nomatch h
    | tup _ => exact nomatch h
    | lst _ => exact nomatch h
    | root _ _ _ => exact nomatch h
  refine ⟨p, q, i, p', q', j, rfl, rfl, ?_⟩
  have h1 : (Bool.rec none (Bool.rec
      (Option.rec none (fun r => some (some r)) (bnd (F1 [p, p']) fun poly => bnd (f_as_ratio [.root p q (.int i)]) fun a => bnd (f_as_ratio [.root p' q' (.int j)]) fun b =>
        ifB (andB (isN a) (isN b)) (bnd (f_square_free [poly]) fun fr => bnd (locF F2 fr (.root p q (.int i)) (.root p' q' (.int j)) 40 w16) fun pr => f_number_in [fr, pr, .int (i * j)])
          (bnd (F2 [q, q']) fun pr => some (.root poly pr (.int (i * j))))))
      (some none) (ltI 12 (i * j))) (okM i j) : Option (Option AV)) = some res := h
  cases e : okM i j with
  | false => rw [e] at h1; exact nomatch h1
  | true =>
    rw [e] at h1
    refine ⟨rfl, ?_⟩
    rw [ltI_eq] at h1
    by_cases hw : 12 < i * j
    · rw [decide_eq_true hw] at h1
      exact .inl ⟨hw, (Option.some.inj h1).symm⟩
    · rw [decide_eq_false hw] at h1
      refine .inr ⟨by lia, ?_⟩
      cases e2 : (bnd (F1 [p, p']) fun poly => bnd (f_as_ratio [.root p q (.int i)]) fun a => bnd (f_as_ratio [.root p' q' (.int j)]) fun b =>
        ifB (andB (isN a) (isN b)) (bnd (f_square_free [poly]) fun fr => bnd (locF F2 fr (.root p q (.int i)) (.root p' q' (.int j)) 40 w16) fun pr => f_number_in [fr, pr, .int (i * j)])
          (bnd (F2 [q, q']) fun pr => some (.root poly pr (.int (i * j))))) with
      | none => rw [e2] at h1; exact nomatch h1
      | some r =>
        rw [e2] at h1
        exact ⟨r, (Option.some.inj h1).symm, rfl⟩
section
variable {P : Program} {w : World} {K : Frag} {mg : Str → Option Value} {base : Heap} {C fI : Addr} {fd : FuncData} {a : Ad}
theorem Rl.root' {H : Hp} {p q ww : AV} {v : V} (h : Rl K C H (.root p q ww) v) : ∃ l dx vp vq vw, v = .ref l ∧ H l = some (.ins C dx [("poly", vp), ("pair", vq), ("weight", vw)]) ∧ Rl K C H p vp ∧ Rl K C H q vq ∧ Rl K C H ww vw := by
  cases h with
  | root h a b c => exact ⟨_, _, _, _, _, rfl, h, a, b, c⟩
theorem ok_result_of {c Pt : Addr} (RC : Rc K mg C fI fd) (g_init : FnOk P w K mg base CX0 39 fI fd ["self", "poly", "pair", "weight"] (spIn C)) (g_weight_of_two : FnGB P w K mg base (CXF P w) true 40 "weight_of_two" ["one", "other"] (fun _ => spW K C a.c2))
    (g_as_ratio : FnB P w K mg base 40 "as_ratio" ["number"] (spEv K C f_as_ratio 1)) (g_square_free : FnB P w K mg base 40 "square_free" ["poly"] (spEv K C f_square_free 1)) (g_number_in : FnB P w K mg base 40 "number_in" ["free", "pair", "weight"] (spEv K C f_number_in 3))
    (g_located : FnGB P w K mg base CX0 true 40 "located" ["free", "pair_by"] (spLoc P w K mg base C)) (D : DefC K mg "result_of" s_result_of ["one", "other", "poly_of", "pair_of"] c) (hc : CodeHd base c Pt) (B : SF.BMain base mg) :
    FnGB P w K mg base (CXF P w) true 41 "result_of" ["one", "other", "poly_of", "pair_of"] (fun _ => spRes P w K mg base C Pt a.c2) := by
  obtain ⟨fr0, fd0, F, hm, hb, hfd⟩ := D.ex
  refine ⟨fr0, fd0, ?_, hm, F.kp, hb⟩
  refine F.okG sc_result_of (fun s vs H Q E h => ?_) (fun cdv A outer s H vs Q E hcd hcv hr h => ?_)
  · obtain ⟨Hf, x, y, v1, v2, f1, f2, F1, F2, res, rfl, _⟩ := h
    rfl
  obtain ⟨Hf, x, y, v1, v2, f1, f2, F1, F2, res, rfl, sf, hP0, r1, r2, tb, FV1, FV2, hres, qn, qx⟩ := h
  obtain rfl : Value.ref c = cdv := hfd.symm.trans hcv
  obtain ⟨p, q, i, p', q', j, rfl, rfl, okm, hcase⟩ := resF_eq hres
  obtain ⟨c1, c2, c3, k1, k2, k3, n12, n13, n23, hclo⟩ : ∃ c1 c2 c3, (envOfC "result_of" (defScope s_result_of) s.heap.objs.size fr0 (.ref c)).cells.lookup ("one" : Str) = some c1 ∧ (envOfC "result_of" (defScope s_result_of) s.heap.objs.size fr0 (.ref c)).cells.lookup ("other" : Str) = some c2 ∧ (envOfC "result_of" (defScope s_result_of) s.heap.objs.size fr0 (.ref c)).cells.lookup ("pair_of" : Str) = some c3 ∧
      c1 ≠ c2 ∧ c1 ≠ c3 ∧ c2 ≠ c3 ∧ closureFor lamS (envOfC "result_of" (defScope s_result_of) s.heap.objs.size fr0 (.ref c)) = pure (lamC c1 c2 c3) := ⟨_, _, _, rfl, rfl, rfl, by intro z; simp at z, by intro z; simp at z, by intro z; simp at z, clo _ _ _⟩
  obtain ⟨R, hR⟩ : ∃ R : List V → Hp → L2.St → VK → Prop, R = fun vs H1 σ Q1 => ∃ (vf : V) (f c' : Addr) (oc : Obj) (Hf1 : Hp) (fr pr : AV), vs = [vf, .ref f] ∧ Same Hf1 H1 ∧ Rl K C Hf1 fr vf ∧ H1 f = some (lamO f "<lambda>" lamQ lamA lamB lamS (lamC c1 c2 c3) c') ∧ H1 c' = some (.frz oc (.own 0)) ∧ CdO oc lamQ ∧
      σ[0]? = some (some v1) ∧ Rl K C Hf1 (.root p q (.int i)) v1 ∧ σ[1]? = some (some v2) ∧ Rl K C Hf1 (.root p' q' (.int j)) v2 ∧ σ[3]? = some (some (.ref f2)) ∧ locF F2 fr (.root p q (.int i)) (.root p' q' (.int j)) 40 w16 = some pr ∧ ∀ v Hf' H', Step Hf1 H1 Hf' H' → Rl K C Hf' pr v → Q1 v H' := ⟨_, rfl⟩
  have hRR : ∀ pins σ1 H1 s1 vs Q1, Inv (cxG (CXF P w) true P w K mg base ["one", "other", "poly_of", "pair_of", "weight", "poly", "free", "pair"] "result_of" (defScope s_result_of) fr0 (.ref c) A outer s H E) pins σ1 H1 s1 → R vs H1 σ1 Q1 → spLoc P w K mg base C s1 vs H1 Q1 E0 := by
    intro pins σ1 H1 s1 vs Q1 J r
    rw [hR] at r
    obtain ⟨vf, f, c', oc, Hf1, fr, pr, rfl, e1, e2, e3, e4, e5, e6, e7, e8, e9, e10, e11, q1⟩ := r
    obtain ⟨m1, hn, hlo⟩ := J.loc
    obtain ⟨u1, ru1, lk1⟩ := hlo 0 "one" v1 rfl e6 (Or.inr (Or.inl rfl))
    obtain ⟨u2, ru2, lk2⟩ := hlo 1 "other" v2 rfl e8 (Or.inr (Or.inl rfl))
    obtain ⟨u3, ru3, lk3⟩ := hlo 3 "pair_of" (.ref f2) rfl e10 (Or.inr (Or.inl rfl))
    rcases lk1 with ⟨y1, _⟩ | ⟨_, d1, y1, y2⟩
    · cases y1
    rcases lk2 with ⟨y1, _⟩ | ⟨_, d2, y3, y4⟩
    · cases y1
    rcases lk3 with ⟨y1, _⟩ | ⟨_, d3, y5, y6⟩
    · cases y1
    have ec : d1 = c1 := Option.some.inj (y1.symm.trans k1)
    subst ec
    have ec : d2 = c2 := Option.some.inj (y3.symm.trans k2)
    subst ec
    have ec : d3 = c3 := Option.some.inj (y5.symm.trans k3)
    subst ec
    exact ⟨vf, v1, v2, f, c', d1, d2, d3, f2, oc, u1, u2, u3, Hf1, fr, _, _, F2, pr, rfl, e1, e2, e3, e4, e5, ⟨n12, n13, n23⟩, ⟨J.freeC _ _ y1, y2, ru1, e7⟩, ⟨J.freeC _ _ y3, y4, ru2, e9⟩, ⟨J.freeC _ _ y5, y6, ru3⟩, FV2, e11, q1⟩
  refine ⟨_, (pss_cons (ps_set (i := 4) sc_result_of.nd rfl (Or.inl rfl) (pe_fnG (E := E) g_weight_of_two hr leaves_cxG.passes (pa_cons (pv 0) (pa_cons (pv 1) pa_nil))))
    (pss_cons (ps_set (i := 5) sc_result_of.nd rfl (Or.inl rfl) (pe_fnL (i := 2) (E := E0) FV1 hr pass0 rfl (Or.inl rfl) (pa_cons (pe_fld (pv 0) rfl) (pa_cons (pe_fld (pv 1) rfl) pa_nil))))
    (pss_cons (ps_if (PW.pt (pw_or (pt_cmpR op_notN (pe_fn g_as_ratio hr.calm (pa_cons (pv 0) pa_nil)) pe_non (nomark _)) (pw_or1 (pt_cmpR op_notN (pe_fn g_as_ratio hr.calm (pa_cons (pv 1) pa_nil)) pe_non (nomark _)))))
    (pss_one (ps_ret (pe_make (dvs := []) (E := E0) RC.mk1 g_init hr.calm rfl RC.m RC.b .nil pass0 (pa_cons (pv 5) (pa_cons (pe_fnL (i := 3) (E := E0) FV2 (hr.mono (by decide)) pass0 rfl (Or.inr (Or.inl rfl)) (pa_cons (pe_fld (pv 0) rfl) (pa_cons (pe_fld (pv 1) rfl) pa_nil))) (pa_cons (pv 4) pa_nil))))))
    pss_nil)
    (pss_cons (ps_set (i := 6) sc_result_of.nd rfl (Or.inl rfl) (pe_fn g_square_free hr.calm (pa_cons (pv 5) pa_nil)))
    (pss_cons (ps_set (i := 7) sc_result_of.nd rfl (Or.inl rfl) (pe_fnS (E := E0) g_located hr pass0 (pa_cons (pv 6) (pa_cons (pe_lam2 rfl hc hclo rfl B) pa_nil)) hRR))
    (pss_one (ps_ret (pe_fn g_number_in hr.calm (pa_cons (pv 6) (pa_cons (pv 7) (pa_cons (pv 4) pa_nil))))))))))), ?_⟩
  walk_at "sf"
  refine ⟨Hf, p, q, p', q', i, j, sf, .cons r1 (.cons r2 .nil), okm, fun hw Hf1 H1 s1 => ?_, fun hw => ?_⟩
  rotate_left
  · rcases hcase with ⟨_, e⟩ | ⟨e, _⟩
    · exact qx e
    · lia
  rcases hcase with ⟨e, _⟩ | ⟨_, r, rfl, hh⟩
  · lia
  have r1' := r1
  have r2' := r2
  obtain ⟨l1, dx1, vp1, vq1, vw1, rfl, h1, rp1, rq1, rw1⟩ := Rl.root' r1
  obtain ⟨l2, dx2, vp2, vq2, vw2, rfl, h2, rp2, rq2, rw2⟩ := Rl.root' r2
  obtain ⟨poly, hF1, hh1⟩ := bnd_eq hh
  obtain ⟨ra, hra, hh2⟩ := bnd_eq hh1
  obtain ⟨rb, hrb, hh3⟩ := bnd_eq hh2
  walk_at "sf"
  refine ⟨rfl, ?_⟩
  walk_at "sf"
  refine ⟨_, rfl, l1, C, dx1, _, _, rfl, s1.hh _ _ (sf _ _ h1), RC.cl, RC.n1, rfl, ?_⟩
  walk_at "sf"
  refine ⟨_, rfl, l2, C, dx2, _, _, rfl, s1.hh _ _ (sf _ _ h2), RC.cl, RC.n1, rfl, ?_⟩
  walk_at "sf"
  refine ev_mk s1.fh (.cons (rp1.mono s1.ff) (.cons (rp2.mono s1.ff) .nil)) rfl hF1 fun v3 Hf3 H3 s3 r3 => ?_
  have s13 := s1.trans s3
  walk_at "sf"
  refine ev_mk s3.fh (.cons (r1'.mono s13.ff) .nil) rfl hra fun v4 Hf4 H4 s4 r4 => ?_
  have s14 := s13.trans s4
  walk_at "sf"
  refine ⟨rfl, ?_⟩
  rw [← r4.isN_eq]
  have ratio : andB (isN ra) (isN rb) = false → ∀ (Hfx Hx : Hp), Step Hf H Hfx Hx → Rl K C Hfx poly v3 → tRet (tMake C (spIn C) [] E0 (tCons (tVar 5) (tCons (tCallL 3 f2 (spEv K C F2 2) E0 (tCons (tFld K (tVar 0) "pair") (tCons (tFld K (tVar 1) "pair") tNil))) (tCons (tVar 4) tNil)))) { nx := fun _ H' => Q .non H', rt := Q } [some (.ref l1), some (.ref l2), some (.ref f1), some (.ref f2), some (.int (i * j)), some v3, none, none] Hx := by
    intro hz Hfx Hx sx rx
    rw [hz] at hh3
    obtain ⟨pr, hpr, hh4⟩ := bnd_eq (show bnd (F2 [q, q']) (fun pr => some (.root poly pr (.int (i * j)))) = some r from hh3)
    cases hh4
    walk_at "sf"
    refine ⟨_, rfl, ?_⟩
    refine ⟨rfl, ?_⟩
    walk_at "sf"
    refine ⟨_, rfl, l1, C, dx1, _, _, rfl, sx.hh _ _ (sf _ _ h1), RC.cl, RC.n2, rfl, ?_⟩
    walk_at "sf"
    refine ⟨_, rfl, l2, C, dx2, _, _, rfl, sx.hh _ _ (sf _ _ h2), RC.cl, RC.n2, rfl, ?_⟩
    walk_at "sf"
    refine ev_mk sx.fh (.cons (rq1.mono sx.ff) (.cons (rq2.mono sx.ff) .nil)) rfl hpr fun v6 Hf6 H6 s6 r6 => ?_
    have s16 := sx.trans s6
    walk_at "sf"
    intro xa dxa hxa hdxa hne
    refine ⟨xa, dxa, v3, v6, .int (i * j), rfl, upd_same, fun H' k1 k2 => ⟨rfl, ?_⟩⟩
    have eH : H' = upd (upd H6 dxa (.own xa)) xa (.ins C dxa [("poly", v3), ("pair", v6), ("weight", .int (i * j))]) := by
      funext c
      by_cases z : c = xa
      · subst z; rw [upd_same]; exact k2
      · rw [upd_ne z, k1 c z, upd_ne z]
    subst eH
    have sa := Step.new s6.fh hdxa (.own xa)
    have sb := Step.new sa.fh (show upd H6 dxa (.own xa) xa = none by rw [upd_ne hne.symm]; exact hxa) (.ins C dxa [("poly", v3), ("pair", v6), ("weight", .int (i * j))])
    have sab := sa.trans sb
    have sall := s16.trans sab
    exact qn _ rfl _ _ _ (StepX.of sall) (tb.same sall.hh) (.root upd_same ((rx.mono s6.ff).mono sab.ff) (r6.mono sab.ff) .int)
  cases e4 : isN ra with
  | false =>
    walk_at "sf"
    refine iteT ?_
    refine iteT ?_
    exact ratio (by rw [e4]; rfl) Hf4 H4 s14 (r3.mono s4.ff)
  | true =>
    walk_at "sf"
    refine iteF ?_
    walk_at "sf"
    refine ev_mk s4.fh (.cons (r2'.mono s14.ff) .nil) rfl hrb fun v5 Hf5 H5 s5 r5 => ?_
    have s15 := s14.trans s5
    walk_at "sf"
    refine ⟨rfl, ?_⟩
    rw [← r5.isN_eq]
    have r35 := (r3.mono s4.ff).mono s5.ff
    cases e5 : isN rb with
    | false =>
      walk_at "sf"
      refine iteT ?_
      exact ratio (by rw [e4, e5]; rfl) Hf5 H5 s15 r35
    | true =>
      walk_at "sf"
      refine iteF ?_
      rw [e4, e5] at hh3
      obtain ⟨fr, hfr, hh4⟩ := bnd_eq (show bnd (f_square_free [poly]) (fun fr => bnd (locF F2 fr (.root p q (.int i)) (.root p' q' (.int j)) 40 w16) fun pr => f_number_in [fr, pr, .int (i * j)]) = some r from hh3)
      obtain ⟨pr, hpr, hh5⟩ := bnd_eq hh4
      walk_at "sf"
      refine ev_mk s5.fh (.cons r35 .nil) rfl hfr fun v6 Hf6 H6 s6 r6 => ?_
      have s16 := s15.trans s6
      have tb6 := tb.same s16.hh
      have hP6 : Hf6 Pt = none := s16.nn Pt hP0 tb.ne
      walk_at "sf"
      refine r_callS ?_
      walk_at "sf"
      refine lam_step tb6 fun f c' oc H7 k7 tb7 hf hc' hcdo => ?_
      have sx7 : StepX Pt Hf6 H6 Hf6 H7 := ⟨k7, fun _ => tb7.ne, Same.refl' _, fun b o e => k7 b o (ne_of_none e hP6) (s6.fh _ _ e), fun _ h _ => h⟩
      walk_at "sf"
      rw [hR]
      refine ⟨v6, f, c', oc, Hf6, fr, pr, rfl, sx7.fh, r6, hf, hc', hcdo, rfl, r1'.mono s16.ff, rfl, r2'.mono s16.ff, rfl, hpr, fun v8 Hf8 H8 s8 r8 => ?_⟩
      walk_at "sf"
      refine ev_mk s8.fh (.cons (r6.mono s8.ff) (.cons r8 (.cons .int .nil))) rfl hh5 fun v9 Hf9 H9 s9 r9 => ?_
      have s89 := s8.trans s9
      exact qn _ rfl _ _ _ ((StepX.of s16).trans (sx7.trans (StepX.of s89))) (tb7.same s89.hh) r9
end
noncomputable def bndX (a : O) (k : AV → Option (Option AV)) : Option (Option AV) := Option.rec none k a
theorem bndX_eq {a : O} {k : AV → Option (Option AV)} {r : Option AV} (h : bndX a k = some r) : ∃ x, a = some x ∧ k x = some r := by
  cases a with
  | none => exact nomatch h
  | some x => exact ⟨x, rfl, h⟩
noncomputable def asIX (x : AV) (k : Int → Option (Option AV)) : Option (Option AV) := AV.casesOn x none (fun _ => none) (fun i => k i) (fun _ => none) (fun _ => none) (fun _ => none) (fun _ _ _ => none)
theorem asIX_eq {x : AV} {k : Int → Option (Option AV)} {r : Option AV} (h : asIX x k = some r) : ∃ i, x = .int i ∧ k i = some r := by
  cases x <;> first | exact ⟨_, rfl, h⟩ | exact nomatch h
noncomputable def z01 : AV := .tup [.int 0, .int 1]
noncomputable def addF : GX := resF f_sums_of f_pair_of_sums
noncomputable def lessF : GX := fun x y => bndX (f_opposite [y]) fun o => addF x o
noncomputable def mulF : GX := fun x y => bndX (f_sign_of [x]) fun a => asIX a fun i => Bool.rec (bndX (f_sign_of [y]) fun b => asIX b fun j => Bool.rec (resF f_products_of f_pair_of_products x y) (bndX (f_of_ratio [z01]) fun r => some (some r)) (is0 j)) (bndX (f_of_ratio [z01]) fun r => some (some r)) (is0 i)
noncomputable def overF : GX := fun x y => bndX (f_inverse [y]) fun o => mulF x o
section
variable {P : Program} {w : World} {K : Frag} {mg : Str → Option Value} {base : Heap} {C fI : Addr} {fd : FuncData} {a : Ad} {Pt : Addr}
theorem spX_len {G : GX} {vs : List V} {H : Hp} {Q : VK} {E : XK} {c : Addr} (h : spX K C Pt c G vs H Q E) : vs.length = 2 := by
  obtain ⟨Hf, x, y, res, _, _, rl, _⟩ := h
  exact rl.length
theorem ok_added_to (g_result_of : FnGB P w K mg base (CXF P w) true 41 "result_of" ["one", "other", "poly_of", "pair_of"] (fun _ => spRes P w K mg base C Pt a.c2)) (g_sums_of : FnB P w K mg base 40 "sums_of" ["one", "other"] (spEv K C f_sums_of 2)) (g_pair_of_sums : FnB P w K mg base 38 "pair_of_sums" ["one", "other"] (spEv K C f_pair_of_sums 2))
    (D : DefB K mg "added_to" s_added_to ["one", "other"]) : FnGB P w K mg base (CXF P w) true 42 "added_to" ["one", "other"] (fun _ => spX K C Pt a.c2 addF) := by
  obtain ⟨f1, m1, FV1⟩ := fnv_of (j := 40) g_sums_of (by decide)
  obtain ⟨f2, m2, FV2⟩ := fnv_of (j := 38) g_pair_of_sums (by decide)
  refine D.okG sc_added_to (fun s vs H Q E h => spX_len h) (fun f cdv A outer s H vs Q E hcd hr h => ?_)
  obtain ⟨Hf, x, y, res, sf, hP, rl, tb, hres, qn, qx⟩ := h
  obtain ⟨v1, v2, rfl, r1, r2⟩ := rl.two
  refine ⟨_, pss_one (ps_ret (pe_fnG (E := E) g_result_of hr leaves_cxG.passes (pa_cons (pv 0) (pa_cons (pv 1) (pa_cons (pe_glob (v := .ref f1) rfl m1 rfl) (pa_cons (pe_glob (v := .ref f2) rfl m2 rfl) pa_nil)))))), ?_⟩
  walk_at "sf"
  exact ⟨Hf, x, y, v1, v2, f1, f2, _, _, res, rfl, sf, hP, r1, r2, tb, FV1, FV2, hres, qn, qx⟩
theorem ok_less (g_added_to : FnGB P w K mg base (CXF P w) true 42 "added_to" ["one", "other"] (fun _ => spX K C Pt a.c2 addF)) (g_opposite : FnB P w K mg base 42 "opposite" ["number"] (spEv K C f_opposite 1))
    (D : DefB K mg "less" s_less ["one", "other"]) : FnGB P w K mg base (CXF P w) true 43 "less" ["one", "other"] (fun _ => spX K C Pt a.c2 lessF) := by
  refine D.okG sc_less (fun s vs H Q E h => spX_len h) (fun f cdv A outer s H vs Q E hcd hr h => ?_)
  obtain ⟨Hf, x, y, res, sf, hP, rl, tb, hres, qn, qx⟩ := h
  obtain ⟨v1, v2, rfl, r1, r2⟩ := rl.two
  obtain ⟨o, ho, hres⟩ := bndX_eq (show bndX (f_opposite [y]) (fun o => addF x o) = some res from hres)
  refine ⟨_, pss_one (ps_ret (pe_fnG (E := E) g_added_to hr leaves_cxG.passes (pa_cons (pv 0) (pa_cons (pe_fn g_opposite hr.calm (pa_cons (pv 1) pa_nil)) pa_nil)))), ?_⟩
  walk_at "sf"
  refine ev_mk sf (.cons r2 .nil) rfl ho fun v3 Hf3 H3 s3 r3 => ?_
  walk_at "sf"
  exact ⟨Hf3, x, o, res, s3.fh, s3.nn Pt hP tb.ne, .cons (r1.mono s3.ff) (.cons r3 .nil), tb.same s3.hh, hres, fun r er v Hf' H' sx tb' rl => qn r er v Hf' H' ((StepX.of s3).trans sx) tb' rl, fun e => (qx e).mono s3.hh⟩
theorem ok_multiplied_by (g_result_of : FnGB P w K mg base (CXF P w) true 41 "result_of" ["one", "other", "poly_of", "pair_of"] (fun _ => spRes P w K mg base C Pt a.c2)) (g_products_of : FnB P w K mg base 40 "products_of" ["one", "other"] (spEv K C f_products_of 2)) (g_pair_of_products : FnB P w K mg base 38 "pair_of_products" ["one", "other"] (spEv K C f_pair_of_products 2))
    (g_sign_of : FnB P w K mg base 41 "sign_of" ["number"] (spEv K C f_sign_of 1)) (g_of_ratio : FnB P w K mg base 41 "of_ratio" ["given"] (spEv K C f_of_ratio 1)) (D : DefB K mg "multiplied_by" s_multiplied_by ["one", "other"]) : FnGB P w K mg base (CXF P w) true 42 "multiplied_by" ["one", "other"] (fun _ => spX K C Pt a.c2 mulF) := by
  obtain ⟨f1, m1, FV1⟩ := fnv_of (j := 40) g_products_of (by decide)
  obtain ⟨f2, m2, FV2⟩ := fnv_of (j := 38) g_pair_of_products (by decide)
  refine D.okG sc_multiplied_by (fun s vs H Q E h => spX_len h) (fun f cdv A outer s H vs Q E hcd hr h => ?_)
  obtain ⟨Hf, x, y, res, sf, hP, rl, tb, hres, qn, qx⟩ := h
  obtain ⟨v1, v2, rfl, r1, r2⟩ := rl.two
  refine ⟨_, (pss_cons (ps_if (PW.pt (pw_or (pt_cmpR op_eq (pe_fn g_sign_of hr.calm (pa_cons (pv 0) pa_nil)) pe_int (nomark _)) (pw_or1 (pt_cmpR op_eq (pe_fn g_sign_of hr.calm (pa_cons (pv 1) pa_nil)) pe_int (nomark _)))))
    (pss_one (ps_ret (pe_fn g_of_ratio hr.calm (pa_cons (pe_tup (pa_cons pe_int (pa_cons pe_int pa_nil))) pa_nil))))
    pss_nil)
    (pss_one (ps_ret (pe_fnG (E := E) g_result_of hr leaves_cxG.passes (pa_cons (pv 0) (pa_cons (pv 1) (pa_cons (pe_glob (v := .ref f1) rfl m1 rfl) (pa_cons (pe_glob (v := .ref f2) rfl m2 rfl) pa_nil)))))))), ?_⟩
  obtain ⟨sa, hsa, hres1⟩ := bndX_eq (show bndX (f_sign_of [x]) _ = some res from hres)
  obtain ⟨i, rfl, hres2⟩ := asIX_eq hres1
  have zero : ∀ (Hf1 H1 : Hp), Step Hf H Hf1 H1 → bndX (f_of_ratio [z01]) (fun r => some (some r)) = some res → tRet (tCall (spEv K C f_of_ratio 1) [] E0 (tCons (tTup (tCons (tC (.int 0)) (tCons (tC (.int 1)) tNil))) tNil)) { nx := fun _ H' => Q .non H', rt := Q } [some v1, some v2] H1 := by
    intro Hf1 H1 s1 hz
    obtain ⟨r, hr1, e⟩ := bndX_eq hz
    cases e
    walk_at "sf"
    intro p0 hp0
    have s0 := Step.new s1.fh hp0 (.tup [.int 0, .int 1])
    walk_at "sf"
    refine ev_mk s0.fh (.cons (.tup (.inl (.inl upd_same)) (.cons .int (.cons .int .nil))) .nil) rfl hr1 fun v3 Hf3 H3 s3 r3 => ?_
    have sall := s1.trans (s0.trans s3)
    exact qn _ rfl _ _ _ (StepX.of sall) (tb.same sall.hh) r3
  walk_at "sf"
  refine ev_mk sf (.cons r1 .nil) rfl hsa fun v3 Hf3 H3 s3 r3 => ?_
  cases r3
  walk_at "sf"
  rw [is0_eq] at hres2
  by_cases hi : i = 0
  · rw [decide_eq_true hi] at hres2 ⊢
    refine iteT ?_
    refine iteT ?_
    exact zero Hf3 H3 s3 hres2
  · rw [decide_eq_false hi] at hres2 ⊢
    refine iteF ?_
    obtain ⟨sb, hsb, hres3⟩ := bndX_eq (show bndX (f_sign_of [y]) _ = some res from hres2)
    obtain ⟨j, rfl, hres4⟩ := asIX_eq hres3
    walk_at "sf"
    refine ev_mk s3.fh (.cons (r2.mono s3.ff) .nil) rfl hsb fun v4 Hf4 H4 s4 r4 => ?_
    cases r4
    walk_at "sf"
    have s34 := s3.trans s4
    rw [is0_eq] at hres4
    by_cases hj : j = 0
    · rw [decide_eq_true hj] at hres4 ⊢
      refine iteT ?_
      exact zero Hf4 H4 s34 hres4
    · rw [decide_eq_false hj] at hres4 ⊢
      refine iteF ?_
      walk_at "sf"
      exact ⟨Hf4, x, y, v1, v2, f1, f2, _, _, res, rfl, s34.fh, s34.nn Pt hP tb.ne, r1.mono s34.ff, r2.mono s34.ff, tb.same s34.hh, FV1, FV2, hres4, fun r er v Hf' H' sx tb' rl => qn r er v Hf' H' ((StepX.of s34).trans sx) tb' rl, fun e => (qx e).mono s34.hh⟩
theorem ok_over (g_multiplied_by : FnGB P w K mg base (CXF P w) true 42 "multiplied_by" ["one", "other"] (fun _ => spX K C Pt a.c2 mulF)) (g_inverse : FnB P w K mg base 42 "inverse" ["number"] (spEv K C f_inverse 1))
    (D : DefB K mg "over" s_over ["one", "other"]) : FnGB P w K mg base (CXF P w) true 43 "over" ["one", "other"] (fun _ => spX K C Pt a.c2 overF) := by
  refine D.okG sc_over (fun s vs H Q E h => spX_len h) (fun f cdv A outer s H vs Q E hcd hr h => ?_)
  obtain ⟨Hf, x, y, res, sf, hP, rl, tb, hres, qn, qx⟩ := h
  obtain ⟨v1, v2, rfl, r1, r2⟩ := rl.two
  obtain ⟨o, ho, hres⟩ := bndX_eq (show bndX (f_inverse [y]) (fun o => mulF x o) = some res from hres)
  refine ⟨_, pss_one (ps_ret (pe_fnG (E := E) g_multiplied_by hr leaves_cxG.passes (pa_cons (pv 0) (pa_cons (pe_fn g_inverse hr.calm (pa_cons (pv 1) pa_nil)) pa_nil)))), ?_⟩
  walk_at "sf"
  refine ev_mk sf (.cons r2 .nil) rfl ho fun v3 Hf3 H3 s3 r3 => ?_
  walk_at "sf"
  exact ⟨Hf3, x, o, res, s3.fh, s3.nn Pt hP tb.ne, .cons (r1.mono s3.ff) (.cons r3 .nil), tb.same s3.hh, hres, fun r er v Hf' H' sx tb' rl => qn r er v Hf' H' ((StepX.of s3).trans sx) tb' rl, fun e => (qx e).mono s3.hh⟩
end
end V25
namespace V25
open PySem PyProof.Rows L2 SF CV PySem.W
noncomputable def Sol : HO → Prop
  | .lst _ => True
  | .tup _ => True
  | .frz _ _ => True
  | .ins _ _ _ => True
  | _ => False
noncomputable def Keep (H H' : Hp) : Prop := ∀ b o, Sol o → H b = some o → H' b = some o
theorem Keep.refl (H : Hp) : Keep H H := fun _ _ _ h => h
theorem Keep.trans {H H1 H2 : Hp} (a : Keep H H1) (b : Keep H1 H2) : Keep H H2 := fun c o s h => b c o s (a c o s h)
theorem Keep.of {H H' : Hp} (s : Same H H') : Keep H H' := fun b o _ h => s b o h
theorem Keep.seq {K : Frag} {H H' : Hp} {a : Addr} {xs : List V} (e : Keep H H') (h : SqL K H a xs) : SqL K H' a xs := by
  rcases h with (h | ⟨o, h⟩) | h
  · exact .inl (.inl (e _ _ trivial h))
  · exact .inl (.inr ⟨o, e _ _ trivial h⟩)
  · exact .inr h
theorem Keep.tup {K : Frag} {H H' : Hp} {a : Addr} {xs : List V} (e : Keep H H') (h : SqT K H a xs) : SqT K H' a xs := by
  rcases h with (h | ⟨o, h⟩) | h
  · exact .inl (.inl (e _ _ trivial h))
  · exact .inl (.inr ⟨o, e _ _ trivial h⟩)
  · exact .inr h
theorem rl_keep {K : Frag} {C : Addr} {H H' : Hp} (s : Keep H H') {x : AV} {v : V} (h : Rl K C H x v) : Rl K C H' x v :=
  Rl.rec (motive_1 := fun x v _ => Rl K C H' x v) (motive_2 := fun xs vs _ => RlL K C H' xs vs) .non .bl .int .str (fun h _ ih => .tup (s.tup h) ih) (fun h _ ih => .lst (s _ _ trivial h) ih) (fun h _ _ _ a b c => .root (s _ _ trivial h) a b c) .nil (fun _ _ a b => .cons a b) h
open Classical in
noncomputable def hfOf (H : Hp) : Hp := fun b => match H b with
  | some o => if Sol o then some o else none
  | none => none
theorem hfOf_same (H : Hp) : Same (hfOf H) H := fun b o h => by
  unfold hfOf at h
  cases e : H b with
  | none => rw [e] at h; cases h
  | some u =>
    rw [e] at h
    dsimp only at h
    split at h
    · exact h
    · cases h
theorem hfOf_keep (H : Hp) : Keep H (hfOf H) := fun b o s h => by
  unfold hfOf
  rw [h]
  dsimp only
  rw [if_pos s]
theorem hfOf_tbl {H : Hp} {b : Addr} {ps : Array Value} (h : H b = some (.tbl ps)) : hfOf H b = none := by
  unfold hfOf
  rw [h]
  dsimp only
  rw [if_neg (show ¬ Sol (.tbl ps) from fun z => z)]
noncomputable abbrev lawQ : Str := ("law" : Str) ++ ".<locals>." ++ "<lambda>"
structure LI (P1 P2 : Addr) (H : Hp) : Prop where
  ne : P1 ≠ P2
  t1 : TbO P1 lawQ H
  t2 : TbO P2 lamQ H
theorem TbO.but {P P2 : Addr} {q : Str} {H H' : Hp} (n : P ≠ P2) (h2 : ∃ ps, H P2 = some (.tbl ps)) (t : TbO P q H) (k : ∀ b o, b ≠ P2 → H b = some o → H' b = some o) : TbO P q H' := by
  obtain ⟨ps, a, b, c⟩ := t.ex
  obtain ⟨ps2, h2⟩ := h2
  refine ⟨ps, k _ _ n a, b, fun pos v e => ?_⟩
  obtain ⟨c', oc, e1, e2, e3⟩ := c pos v e
  exact ⟨c', oc, e1, k _ _ (fun z => by rw [z, h2] at e2; cases e2) e2, e3⟩
theorem TbO.tb {P : Addr} {q : Str} {H : Hp} (t : TbO P q H) : ∃ ps, H P = some (.tbl ps) := by
  obtain ⟨ps, a, _⟩ := t.ex
  exact ⟨ps, a⟩
theorem LI.same {P1 P2 : Addr} {H H' : Hp} (l : LI P1 P2 H) (s : Same H H') : LI P1 P2 H' := ⟨l.ne, l.t1.same s, l.t2.same s⟩
theorem LI.step {P1 P2 : Addr} {Hf H Hf' H' : Hp} (l : LI P1 P2 H) (s : StepX P2 Hf H Hf' H') (t : TbO P2 lamQ H') : LI P1 P2 H' := ⟨l.ne, l.t1.but l.ne l.t2.tb s.hh, t⟩
theorem LI.lam {P1 P2 : Addr} {H H' : Hp} (l : LI P1 P2 H) (k : ∀ b o, b ≠ P1 → H b = some o → H' b = some o) (t : TbO P1 lawQ H') : LI P1 P2 H' := ⟨l.ne, t, l.t2.but l.ne.symm l.t1.tb k⟩
theorem keep_step {P2 : Addr} {Hf H Hf' H' : Hp} (h : ∃ ps, H P2 = some (.tbl ps)) (s : StepX P2 Hf H Hf' H') : Keep H H' := fun b o so e => s.hh b o (fun z => by obtain ⟨ps, h⟩ := h; rw [z, h] at e; cases e; exact so) e
theorem keep_lam {P1 : Addr} {H H' : Hp} (h : ∃ ps, H P1 = some (.tbl ps)) (k : ∀ b o, b ≠ P1 → H b = some o → H' b = some o) : Keep H H' := fun b o so e => k b o (fun z => by obtain ⟨ps, h⟩ := h; rw [z, h] at e; cases e; exact so) e
theorem keep_sub {x C t P1 P2 : Addr} {tb : Value} {d : Option Addr} {H H1 H' : Hp} (s : Same H H1) (u : Sub x H1 H') (h : H1 x = some (excO x C t tb d)) (l : LI P1 P2 H) : Keep H H' ∧ LI P1 P2 H' := by
  have hk : ∀ b o, Sol o ∨ (∃ ps, o = .tbl ps) → H b = some o → H' b = some o := fun b o so e => u b o (fun z => by
    subst z
    have := (s _ _ e).symm.trans h
    cases this
    rcases so with so | ⟨ps, so⟩
    · exact so
    · cases so) (s _ _ e)
  have tb : ∀ {P : Addr} {q : Str}, TbO P q H → TbO P q H' := fun {P q} t => by
    obtain ⟨ps, a, b, c⟩ := t.ex
    refine ⟨ps, hk _ _ (.inr ⟨ps, rfl⟩) a, b, fun pos v e => ?_⟩
    obtain ⟨c', oc, e1, e2, e3⟩ := c pos v e
    exact ⟨c', oc, e1, hk _ _ (.inl trivial) e2, e3⟩
  exact ⟨fun b o so e => hk b o (.inl so) e, l.ne, tb l.t1, tb l.t2⟩
noncomputable def forB : List Stmt := match defBody s_law with
  | .For _ _ b _ _ :: _ => b
  | _ => []
noncomputable def ifB3 : List Stmt := match forB[(3 : Nat)]? with
  | some (.If _ o _ _) => o
  | _ => []
noncomputable def noE : Expr := .Constant .none 0 ⟨0, 0, 0, 0⟩
noncomputable def lamIn (e : Expr) : Expr := match e with
  | .UnaryOp _ (.Call _ (.Call _ (l :: _) _ _ :: _) _ _) _ => l
  | _ => noE
noncomputable def lam1 : Expr := match ifB3[(0 : Nat)]? with
  | some (.If t _ _ _) => lamIn t
  | _ => noE
noncomputable def lam2 : Expr := match ifB3[(1 : Nat)]? with
  | some (.If t _ _ _) => lamIn t
  | _ => noE
noncomputable def lam3 : Expr := match ifB3[(4 : Nat)]? with
  | some (.If t _ _ _) => lamIn t
  | _ => noE
noncomputable def lam4 : Expr := match ifB3[(5 : Nat)]? with
  | some (.If (.BoolOp _ (_ :: t :: _) _) _ _ _) => lamIn t
  | _ => noE
noncomputable def lam5 : Expr := match (defBody s_law)[(4 : Nat)]? with
  | some (.Return (some (.BoolOp _ (.Compare (.Call _ (l :: _) _ _) _ _ _ :: _) _)) _) => l
  | _ => noE
noncomputable def argsL (e : Expr) : Arguments := match e with
  | .Lambda x _ _ _ => x
  | _ => { posonlyargs := [], args := [], vararg := none, kwonlyargs := [], kw_defaults := [], kwarg := none, defaults := [] }
noncomputable def bodyL (e : Expr) : Expr := match e with
  | .Lambda _ b _ _ => b
  | e => e
noncomputable def scL (e : Expr) : Scope := match e with
  | .Lambda _ _ sc _ => sc
  | _ => { kind := .function, names := [], isGenerator := false, isCoroutine := false }
noncomputable abbrev clC (c1 c2 : Addr) : List (Str × Addr) := [("_law_other", c2), ("_law_one", c1)]
noncomputable abbrev clG (c3 : Addr) : List (Str × Addr) := [("_law_great", c3)]
theorem sc1 : LamScope ["_law_one", "_law_other"] [] (scL lam1) := ⟨rfl, rfl, rfl, by decide +kernel, by decide +kernel⟩
theorem sc2 : LamScope ["_law_one", "_law_other"] [] (scL lam2) := ⟨rfl, rfl, rfl, by decide +kernel, by decide +kernel⟩
theorem sc3 : LamScope ["_law_one", "_law_other"] [] (scL lam3) := ⟨rfl, rfl, rfl, by decide +kernel, by decide +kernel⟩
theorem sc4 : LamScope ["_law_one", "_law_other"] [] (scL lam4) := ⟨rfl, rfl, rfl, by decide +kernel, by decide +kernel⟩
theorem sc5 : LamScope ["_law_great"] [] (scL lam5) := ⟨rfl, rfl, rfl, by decide +kernel, by decide +kernel⟩
theorem cl1 (L fa c : Addr) : closureFor (scL lam1) (envOfC "law" (defScope s_law) L fa (.ref c)) = pure (clC (L + 1 + 1) (L + 1 + 1 + 1)) := by first | (rfl; done) | kernel_rfl
theorem cl2 (L fa c : Addr) : closureFor (scL lam2) (envOfC "law" (defScope s_law) L fa (.ref c)) = pure (clC (L + 1 + 1) (L + 1 + 1 + 1)) := by first | (rfl; done) | kernel_rfl
theorem cl3 (L fa c : Addr) : closureFor (scL lam3) (envOfC "law" (defScope s_law) L fa (.ref c)) = pure (clC (L + 1 + 1) (L + 1 + 1 + 1)) := by first | (rfl; done) | kernel_rfl
theorem cl4 (L fa c : Addr) : closureFor (scL lam4) (envOfC "law" (defScope s_law) L fa (.ref c)) = pure (clC (L + 1 + 1) (L + 1 + 1 + 1)) := by first | (rfl; done) | kernel_rfl
theorem cl5 (L fa c : Addr) : closureFor (scL lam5) (envOfC "law" (defScope s_law) L fa (.ref c)) = pure (clG (L + 1)) := by first | (rfl; done) | kernel_rfl
theorem two_of {c1 c2 c : Addr} {x : Str} (e : (clC c1 c2).lookup x = some c) : (x = "_law_one" ∧ c = c1) ∨ (x = "_law_other" ∧ c = c2) := by
  unfold clC at e
  rw [List.lookup_cons] at e
  by_cases z : x = "_law_other"
  · subst z
    simp only [beq_self_eq_true] at e
    exact .inr ⟨rfl, (Option.some.inj e).symm⟩
  · rw [show (x == ("_law_other" : Str)) = false from beq_eq_false_iff_ne.mpr z] at e
    dsimp only at e
    rw [List.lookup_cons] at e
    by_cases z2 : x = "_law_one"
    · subst z2
      simp only [beq_self_eq_true] at e
      exact .inl ⟨rfl, (Option.some.inj e).symm⟩
    · rw [show (x == ("_law_one" : Str)) = false from beq_eq_false_iff_ne.mpr z2] at e
      cases e
theorem one_of {c3 c : Addr} {x : Str} (e : (clG c3).lookup x = some c) : x = "_law_great" ∧ c = c3 := by
  unfold clG at e
  rw [List.lookup_cons] at e
  by_cases z : x = "_law_great"
  · subst z
    simp only [beq_self_eq_true] at e
    exact ⟨rfl, (Option.some.inj e).symm⟩
  · rw [show (x == ("_law_great" : Str)) = false from beq_eq_false_iff_ne.mpr z] at e
    cases e
section
variable {P : Program} {w : World} {K : Frag} {mg : Str → Option Value} {base : Heap} {C : Addr} {a : Ad}
noncomputable def Told (K : Frag) (C P1 P2 : Addr) (H : Hp) (res : Option AV) (Q : VK) : Prop := (∀ r, res = some r → ∀ v H', Keep H H' → LI P1 P2 H' → Rl K C H' r v → Q v H') ∧ (res = none → ∀ H', Keep H H' → LI P1 P2 H' → Q (.str "TooGreat") H')
noncomputable def spTold (K : Frag) (C P1 P2 : Addr) (lam : Expr) (G : GX) : Shared → Sp := fun s vs H Q _ => ∃ (f c' c1 c2 : Addr) (oc : Obj) (u1 u2 : Value) (v1 v2 : V) (x y : AV) (res : Option AV), vs = [.ref f] ∧ H f = some (lamO f "<lambda>" lawQ (argsL lam) (bodyL lam) (scL lam) (clC c1 c2) c') ∧ H c' = some (.frz oc (.own 0)) ∧ CdO oc lawQ ∧ LI P1 P2 H ∧ c1 ≠ c2 ∧
  (H c1 = none ∧ s.heap.IsCell c1 (some u1) ∧ RelV v1 u1 ∧ Rl K C H x v1) ∧ (H c2 = none ∧ s.heap.IsCell c2 (some u2) ∧ RelV v2 u2 ∧ Rl K C H y v2) ∧ G x y = some res ∧ Told K C P1 P2 H res Q
theorem ok_told {P1 P2 : Addr} {lam : Expr} {G : GX} (CL : Cl5 K mg a) (hx : exmOne K (.ref a.c2) (.ref a.cf) = some true) (g_word : FnGB P w K mg base CX0 false 44 "_law_word" ["_law_e"] (fun _ => spWord a)) (hA : argsL lam = argsL lam1) (scl : LamScope ["_law_one", "_law_other"] [] (scL lam))
    (hfr : ∀ y ∈ (scL lam).names, y.2 = .free → y.1 = "_law_one" ∨ y.1 = "_law_other") (hk1 : (scL lam).names.lookup ("_law_one" : Str) = some .free) (hk2 : (scL lam).names.lookup ("_law_other" : Str) = some .free)
    (hPE : ∀ (f c' c1 c2 : Addr) (A : Around) (outer : List Env) (s : Shared) (H : Hp) (E : XK), RoomG true 43 (A.deeper (envX lawQ (scL lam) s.heap.objs.size f (.ref c') (clC c1 c2))) → PE (cxL (CXF P w) true P w K mg base ["_law_one", "_law_other"] lawQ (scL lam) f (.ref c') (clC c1 c2) A outer s H E) (bodyL lam) (tCall (spX K C P2 a.c2 G) [] E (tCons (tVar 0) (tCons (tVar 1) tNil))))
    (D : DefB K mg "_law_told" s_law_told ["_law_rule"]) : FnGB P w K mg base CX0 true 45 "_law_told" ["_law_rule"] (spTold K C P1 P2 lam G) := by
  refine D.okG sc_law_told (fun s vs H Q E h => ?_) (fun f0 cdv A outer s H vs Q E hcd hr h => ?_)
  · obtain ⟨f, c', c1, c2, oc, u1, u2, v1, v2, x, y, res, rfl, _⟩ := h
    rfl
  obtain ⟨f, c', c1, c2, oc, u1, u2, v1, v2, x, y, res, rfl, hf, hc, hcdo, li, n12, ⟨z1, i1, e1, r1⟩, ⟨z2, i2, e2, r2⟩, hG, qn, qx⟩ := h
  obtain ⟨E1, hE1⟩ : ∃ E1 : XK, E1 = fun c d H1 => c = .ref a.c2 ∧ d = none ∧ Same H H1 ∧ res = none := ⟨_, rfl⟩
  obtain ⟨R, hR⟩ : ∃ R : Addr → Hp → VK → Prop, R = fun f1 H1 Q1 => f1 = f ∧ H1 = H ∧ ∀ r, res = some r → ∀ v Hf' H', StepX P2 (hfOf H) H Hf' H' → TbO P2 lamQ H' → Rl K C Hf' r v → Q1 v H' := ⟨_, rfl⟩
  have run : ∀ pins pins' σ1 H1 s1 f1 Q1, Inv (inTry (cxG CX0 true P w K mg base ["_law_rule", "_law_e"] "_law_told" (defScope s_law_told) f0 cdv A outer s H E) pins E1) pins' σ1 H1 s1 → R f1 H1 Q1 →
      FnAt f1 s1.heap ∧ codeAny (model P w) (A.deeper (envOfC "_law_told" (defScope s_law_told) s.heap.objs.size f0 cdv)) (.call (.ref f1) ⟨[], []⟩) (CR (CXF P w) (envOfC "_law_told" (defScope s_law_told) s.heap.objs.size f0 cdv :: outer) P w H1 s1 Q1 E1) s1 := by
    intro pins pins' σ1 H1 s1 f1 Q1 J r
    rw [hR] at r
    obtain ⟨rfl, rfl, q1⟩ := r
    obtain ⟨pm, ctv, ho⟩ := (J.hok _ _ hf).1
    have hoc := (J.hok _ _ hc).1
    obtain ⟨vs, tq, e5, e6⟩ := hcdo
    have cellK : ∀ {cell : Addr} {u : Value}, H1 cell = none → s.heap.IsCell cell (some u) → s1.heap.IsCell cell (some u) := fun {cell u} hn ⟨ob, hob, hod⟩ => by
      obtain ⟨sl, hob1⟩ := J.base.any hob hn (fun z => absurd (show cell ∈ ([] : List Addr) from z) (by simp))
      exact ⟨_, hob1, hod⟩
    have j1 := cellK z1 i1
    have j2 := cellK z2 i2
    refine ⟨⟨_, _, _, _, ho⟩, lam_run (CX := CXF P w) (cm := true) (k := 43) (N := ["_law_one", "_law_other"]) (ps := []) (us := []) scl ho ⟨c', oc, vs, tq, rfl, hoc, e5, e6⟩ J.env0 hr (by rw [hA]; rfl) (fun x c e => ?_) (fun x y c e1 e2 => ?_) (fun x e => ?_) (σ := [some v1, some v2]) rfl (fun i x v h1 h2 => ?_) fun hr2 => ⟨_, hPE _ _ _ _ _ _ _ _ _ hr2, ?_⟩⟩
    · rcases two_of e with ⟨_, rfl⟩ | ⟨_, rfl⟩
      · exact ⟨⟨_, j1⟩, z1⟩
      · exact ⟨⟨_, j2⟩, z2⟩
    · rcases two_of e1 with ⟨y1, y2⟩ | ⟨y1, y2⟩ <;> rcases two_of e2 with ⟨y3, y4⟩ | ⟨y3, y4⟩
      · exact y1.trans y3.symm
      · exact absurd (y2.symm.trans y4) n12
      · exact absurd (y4.symm.trans y2) n12
      · exact y1.trans y3.symm
    · rcases hfr _ (PySem.mem_of_lookup e) rfl with h | h
      · have h : x = "_law_one" := h
        subst h; exact ⟨c1, rfl⟩
      · have h : x = "_law_other" := h
        subst h; exact ⟨c2, rfl⟩
    · match i, h1, h2 with
      | 0, h1, h2 =>
        cases h1; cases h2
        exact .inr ⟨hk1, c1, u1, rfl, j1, e1⟩
      | 1, h1, h2 =>
        cases h1; cases h2
        exact .inr ⟨hk2, c2, u2, rfl, j2, e2⟩
      | i + 2, h1, h2 => cases h1
    · walk_at "sf"
      obtain ⟨ps2, hp2⟩ := li.t2.tb
      refine ⟨hfOf H1, x, y, res, hfOf_same _, hfOf_tbl hp2, .cons (rl_keep (hfOf_keep _) r1) (.cons (rl_keep (hfOf_keep _) r2) .nil), li.t2, hG, q1, fun hn H2 x tp mm s2 e1 e2 e3 => ?_⟩
      rw [hE1]
      have s3 := Same.new e2 (.tup [.str mm])
      exact ⟨rfl, rfl, s2.trans (s3.trans (Same.new (by rw [upd_ne e3]; exact e1) _)), hn⟩
  refine ⟨_, pss_one (ps_try (E := E1) (i := 1) (c := a.cf) rfl rfl (fun pins => pss_one (ps_ret (pe_run (CX := CXF P w) (E := E1) (i := 0) (R := R) rfl (Or.inl rfl) leaves_try.passes (run pins)))) (fun a' => pss_one (ps_ret (pe_fnG g_word hr.mark pass0 (pa_cons (pv 1) pa_nil)))) rfl CL.mf (fun C1 d H1 e => ?_) sc_law_told.nd rfl rfl), ?_⟩
  · rw [hE1] at e
    cases e.1
    exact hx
  · refine ⟨⟨f, rfl, ?_⟩, fun σ' H' a1 C1 t tb d H1 tb1 hl ha hsub h1 hE => ?_⟩
    · rw [hR]
      refine ⟨rfl, rfl, fun r er v Hf' H' sx t2 rl => ?_⟩
      exact qn r er v H' (keep_step li.t2.tb sx) (li.step sx t2) (rl.mono sx.fh)
    · rw [hE1] at hE
      obtain ⟨e1, rfl, s1, hn⟩ := hE
      cases e1
      obtain ⟨y0, y1, rfl⟩ : ∃ y0 y1, σ' = [y0, y1] := by
        match σ', hl with
        | [y0, y1], _ => exact ⟨y0, y1, rfl⟩
      obtain ⟨k1, l2⟩ := keep_sub s1 hsub h1 li
      walk_at "sf"
      refine ⟨a1, 2, t, tb, none, rfl, by decide, ha, .inl rfl, fun H2 s2 => ?_⟩
      exact qx hn H2 (k1.trans (Keep.of s2)) (l2.same s2)
end
end V25
namespace V25
open PySem PyProof.Rows L2 SF CV PySem.W
noncomputable def t0 : AV × Int := ((.root (.lst [(.int 3), (.int 1)]) (.tup [(.tup [(.int (-3)), (.int 1)]), (.tup [(.int (-3)), (.int 1)])]) (.int 1)), 1)
noncomputable def t1 : AV × Int := ((.root (.lst [(.int 2), (.int 1)]) (.tup [(.tup [(.int (-2)), (.int 1)]), (.tup [(.int (-2)), (.int 1)])]) (.int 1)), 1)
noncomputable def t2 : AV × Int := ((.root (.lst [(.int 1), (.int 1)]) (.tup [(.tup [(.int (-1)), (.int 1)]), (.tup [(.int (-1)), (.int 1)])]) (.int 1)), 1)
noncomputable def t3 : AV × Int := ((.root (.lst [(.int 0), (.int 1)]) (.tup [(.tup [(.int 0), (.int 1)]), (.tup [(.int 0), (.int 1)])]) (.int 1)), 1)
noncomputable def t4 : AV × Int := ((.root (.lst [(.int (-1)), (.int 1)]) (.tup [(.tup [(.int 1), (.int 1)]), (.tup [(.int 1), (.int 1)])]) (.int 1)), 1)
noncomputable def t5 : AV × Int := ((.root (.lst [(.int (-2)), (.int 1)]) (.tup [(.tup [(.int 2), (.int 1)]), (.tup [(.int 2), (.int 1)])]) (.int 1)), 1)
noncomputable def t6 : AV × Int := ((.root (.lst [(.int (-3)), (.int 1)]) (.tup [(.tup [(.int 3), (.int 1)]), (.tup [(.int 3), (.int 1)])]) (.int 1)), 1)
noncomputable def t7 : AV × Int := ((.root (.lst [(.int 3), (.int 2)]) (.tup [(.tup [(.int (-3)), (.int 2)]), (.tup [(.int (-3)), (.int 2)])]) (.int 1)), 1)
noncomputable def t8 : AV × Int := ((.root (.lst [(.int 1), (.int 2)]) (.tup [(.tup [(.int (-1)), (.int 2)]), (.tup [(.int (-1)), (.int 2)])]) (.int 1)), 1)
noncomputable def t9 : AV × Int := ((.root (.lst [(.int (-1)), (.int 2)]) (.tup [(.tup [(.int 1), (.int 2)]), (.tup [(.int 1), (.int 2)])]) (.int 1)), 1)
noncomputable def t10 : AV × Int := ((.root (.lst [(.int (-3)), (.int 2)]) (.tup [(.tup [(.int 3), (.int 2)]), (.tup [(.int 3), (.int 2)])]) (.int 1)), 1)
noncomputable def t11 : AV × Int := ((.root (.lst [(.int 2), (.int 3)]) (.tup [(.tup [(.int (-2)), (.int 3)]), (.tup [(.int (-2)), (.int 3)])]) (.int 1)), 1)
noncomputable def t12 : AV × Int := ((.root (.lst [(.int 1), (.int 3)]) (.tup [(.tup [(.int (-1)), (.int 3)]), (.tup [(.int (-1)), (.int 3)])]) (.int 1)), 1)
noncomputable def t13 : AV × Int := ((.root (.lst [(.int (-1)), (.int 3)]) (.tup [(.tup [(.int 1), (.int 3)]), (.tup [(.int 1), (.int 3)])]) (.int 1)), 1)
noncomputable def t14 : AV × Int := ((.root (.lst [(.int (-2)), (.int 3)]) (.tup [(.tup [(.int 2), (.int 3)]), (.tup [(.int 2), (.int 3)])]) (.int 1)), 1)
noncomputable def t15 : AV × Int := ((.root (.lst [(.int (-2)), (.int 0), (.int 1)]) (.tup [(.tup [(.int (-37)), (.int 24)]), (.tup [(.int (-11)), (.int 12)])]) (.int 2)), 2)
noncomputable def t16 : AV × Int := ((.root (.lst [(.int (-3)), (.int 0), (.int 1)]) (.tup [(.tup [(.int (-13)), (.int 6)]), (.tup [(.int (-37)), (.int 24)])]) (.int 2)), 2)
noncomputable def t17 : AV × Int := ((.root (.lst [(.int (-5)), (.int 0), (.int 1)]) (.tup [(.tup [(.int (-8)), (.int 3)]), (.tup [(.int (-23)), (.int 12)])]) (.int 2)), 2)
noncomputable def t18 : AV × Int := ((.root (.lst [(.int (-2)), (.int 0), (.int 0), (.int 1)]) (.tup [(.tup [(.int 23), (.int 24)]), (.tup [(.int 19), (.int 12)])]) (.int 3)), 3)
noncomputable def t19 : AV × Int := ((.root (.lst [(.int (-3)), (.int 0), (.int 0), (.int 1)]) (.tup [(.tup [(.int 23), (.int 24)]), (.tup [(.int 19), (.int 12)])]) (.int 3)), 3)
noncomputable def t20 : AV × Int := ((.root (.lst [(.int (-5)), (.int 0), (.int 0), (.int 1)]) (.tup [(.tup [(.int 19), (.int 12)]), (.tup [(.int 53), (.int 24)])]) (.int 3)), 3)
noncomputable def t21 : AV × Int := ((.root (.lst [(.int (-2)), (.int 0), (.int 0), (.int 0), (.int 1)]) (.tup [(.tup [(.int (-37)), (.int 24)]), (.tup [(.int (-11)), (.int 12)])]) (.int 4)), 4)
noncomputable def t22 : AV × Int := ((.root (.lst [(.int (-3)), (.int 0), (.int 0), (.int 0), (.int 1)]) (.tup [(.tup [(.int (-37)), (.int 24)]), (.tup [(.int (-11)), (.int 12)])]) (.int 4)), 4)
noncomputable def t23 : AV × Int := ((.root (.lst [(.int (-5)), (.int 0), (.int 0), (.int 0), (.int 1)]) (.tup [(.tup [(.int (-37)), (.int 24)]), (.tup [(.int (-11)), (.int 12)])]) (.int 4)), 4)
noncomputable def t24 : AV × Int := ((.root (.lst [(.int (-2)), (.int 0), (.int 0), (.int 0), (.int 0), (.int 1)]) (.tup [(.tup [(.int 23), (.int 24)]), (.tup [(.int 19), (.int 12)])]) (.int 5)), 5)
noncomputable def t25 : AV × Int := ((.root (.lst [(.int (-3)), (.int 0), (.int 0), (.int 0), (.int 0), (.int 1)]) (.tup [(.tup [(.int 23), (.int 24)]), (.tup [(.int 19), (.int 12)])]) (.int 5)), 5)
noncomputable def t26 : AV × Int := ((.root (.lst [(.int (-5)), (.int 0), (.int 0), (.int 0), (.int 0), (.int 1)]) (.tup [(.tup [(.int 23), (.int 24)]), (.tup [(.int 19), (.int 12)])]) (.int 5)), 5)
noncomputable def t27 : AV × Int := ((.root (.lst [(.int (-2)), (.int 0), (.int 0), (.int 0), (.int 0), (.int 0), (.int 1)]) (.tup [(.tup [(.int (-37)), (.int 24)]), (.tup [(.int (-11)), (.int 12)])]) (.int 6)), 6)
noncomputable def t28 : AV × Int := ((.root (.lst [(.int (-3)), (.int 0), (.int 0), (.int 0), (.int 0), (.int 0), (.int 1)]) (.tup [(.tup [(.int (-37)), (.int 24)]), (.tup [(.int (-11)), (.int 12)])]) (.int 6)), 6)
noncomputable def t29 : AV × Int := ((.root (.lst [(.int (-5)), (.int 0), (.int 0), (.int 0), (.int 0), (.int 0), (.int 1)]) (.tup [(.tup [(.int (-37)), (.int 24)]), (.tup [(.int (-11)), (.int 12)])]) (.int 6)), 6)
noncomputable def t30 : AV × Int := ((.root (.lst [(.int (-2)), (.int 0), (.int 0), (.int 0), (.int 0), (.int 0), (.int 0), (.int 1)]) (.tup [(.tup [(.int 23), (.int 24)]), (.tup [(.int 19), (.int 12)])]) (.int 7)), 7)
noncomputable def t31 : AV × Int := ((.root (.lst [(.int (-3)), (.int 0), (.int 0), (.int 0), (.int 0), (.int 0), (.int 0), (.int 1)]) (.tup [(.tup [(.int 23), (.int 24)]), (.tup [(.int 19), (.int 12)])]) (.int 7)), 7)
noncomputable def t32 : AV × Int := ((.root (.lst [(.int (-5)), (.int 0), (.int 0), (.int 0), (.int 0), (.int 0), (.int 0), (.int 1)]) (.tup [(.tup [(.int 23), (.int 24)]), (.tup [(.int 19), (.int 12)])]) (.int 7)), 7)
noncomputable def t33 : AV × Int := ((.root (.lst [(.int (-2)), (.int 0), (.int 0), (.int 0), (.int 0), (.int 0), (.int 0), (.int 0), (.int 0), (.int 0), (.int 0), (.int 0), (.int 1)]) (.tup [(.tup [(.int (-37)), (.int 24)]), (.tup [(.int (-11)), (.int 12)])]) (.int 12)), 12)
noncomputable def t34 : AV × Int := ((.root (.lst [(.int (-3)), (.int 0), (.int 0), (.int 0), (.int 0), (.int 0), (.int 0), (.int 0), (.int 0), (.int 0), (.int 0), (.int 0), (.int 1)]) (.tup [(.tup [(.int (-37)), (.int 24)]), (.tup [(.int (-11)), (.int 12)])]) (.int 12)), 12)
noncomputable def t35 : AV × Int := ((.root (.lst [(.int (-5)), (.int 0), (.int 0), (.int 0), (.int 0), (.int 0), (.int 0), (.int 0), (.int 0), (.int 0), (.int 0), (.int 0), (.int 1)]) (.tup [(.tup [(.int (-37)), (.int 24)]), (.tup [(.int (-11)), (.int 12)])]) (.int 12)), 12)
noncomputable def tbl : List (AV × Int) := [t0, t1, t2, t3, t4, t5, t6, t7, t8, t9, t10, t11, t12, t13, t14, t15, t16, t17, t18, t19, t20, t21, t22, t23, t24, t25, t26, t27, t28, t29, t30, t31, t32, t33, t34, t35]
noncomputable def great : AV := (.root (.lst [(.int (-2)), (.int 0), (.int 0), (.int 0), (.int 0), (.int 0), (.int 0), (.int 0), (.int 0), (.int 0), (.int 0), (.int 0), (.int 1)]) (.tup [(.tup [(.int 23), (.int 24)]), (.tup [(.int 19), (.int 12)])]) (.int 12))
noncomputable def zero : AV := (.root (.lst [(.int 0), (.int 1)]) (.tup [(.tup [(.int 0), (.int 1)]), (.tup [(.int 0), (.int 1)])]) (.int 1))
noncomputable def wtOf (x : AV) (k : Int → Bool) : Bool := AV.casesOn x false (fun _ => false) (fun _ => false) (fun _ => false) (fun _ => false) (fun _ => false) fun _ _ w => AV.casesOn w false (fun _ => false) (fun i => k i) (fun _ => false) (fun _ => false) (fun _ => false) (fun _ _ _ => false)
noncomputable def inB (x : AV) (k : Int → Bool) : Bool := AV.casesOn x false (fun _ => false) (fun i => k i) (fun _ => false) (fun _ => false) (fun _ => false) (fun _ _ _ => false)
noncomputable def onO (a : O) (k : AV → Bool) : Bool := Option.rec false k a
noncomputable def orB (a b : Bool) : Bool := Bool.rec b true a
noncomputable def okW (r : AV) (d : Int) : Bool := wtOf r fun i => onO (f_as_ratio [r]) fun ra => Bool.rec (eqI i 1) (eqI i d) (isN ra)
noncomputable def wd (res : Option (Option AV)) (d : Int) : Bool := Option.rec false (fun o => Bool.rec (Option.rec false (fun r => okW r d) o) (Option.rec true (fun _ => false) o) (ltI 12 d)) res
noncomputable def sgn (x : AV) (k : Int → Bool) : Bool := onO (f_sign_of [x]) fun a => inB a k
noncomputable def chkOne (e : AV × Int) : Bool := andB (wtOf e.1 fun i => eqI i e.2) (andB (onO (f_opposite [e.1]) fun o => wtOf o fun i => eqI i e.2) (sgn e.1 fun i => orB (is0 i) (onO (f_inverse [e.1]) fun o => wtOf o fun i => eqI i e.2)))
noncomputable def dueOf (d i j : Int) : Int := Bool.rec (Bool.rec d 1 (is0 j)) 1 (is0 i)
noncomputable def chkPair (e e' : AV × Int) : Bool := Bool.rec true (andB (wd (addF e.1 e'.1) (Int.mul e.2 e'.2)) (andB (wd (lessF e.1 e'.1) (Int.mul e.2 e'.2)) (sgn e.1 fun i => sgn e'.1 fun j => andB (wd (mulF e.1 e'.1) (dueOf (Int.mul e.2 e'.2) i j)) (orB (is0 j) (wd (overF e.1 e'.1) (dueOf (Int.mul e.2 e'.2) i j))))))
  (orB (ltI 12 (Int.mul e.2 e'.2)) (ltI (Int.mul e.2 e'.2) 5))
theorem row0 : tbl.all (chkPair t0) = true := by decide +kernel
theorem row1 : tbl.all (chkPair t1) = true := by decide +kernel
theorem row2 : tbl.all (chkPair t2) = true := by decide +kernel
theorem row3 : tbl.all (chkPair t3) = true := by decide +kernel
theorem row4 : tbl.all (chkPair t4) = true := by decide +kernel
theorem row5 : tbl.all (chkPair t5) = true := by decide +kernel
theorem row6 : tbl.all (chkPair t6) = true := by decide +kernel
theorem row7 : tbl.all (chkPair t7) = true := by decide +kernel
theorem row8 : tbl.all (chkPair t8) = true := by decide +kernel
theorem row9 : tbl.all (chkPair t9) = true := by decide +kernel
theorem row10 : tbl.all (chkPair t10) = true := by decide +kernel
theorem row11 : tbl.all (chkPair t11) = true := by decide +kernel
theorem row12 : tbl.all (chkPair t12) = true := by decide +kernel
theorem row13 : tbl.all (chkPair t13) = true := by decide +kernel
theorem row14 : tbl.all (chkPair t14) = true := by decide +kernel
theorem row15 : tbl.all (chkPair t15) = true := by decide +kernel
theorem row16 : tbl.all (chkPair t16) = true := by decide +kernel
theorem row17 : tbl.all (chkPair t17) = true := by decide +kernel
theorem row18 : tbl.all (chkPair t18) = true := by decide +kernel
theorem row19 : tbl.all (chkPair t19) = true := by decide +kernel
theorem row20 : tbl.all (chkPair t20) = true := by decide +kernel
theorem row21 : tbl.all (chkPair t21) = true := by decide +kernel
theorem row22 : tbl.all (chkPair t22) = true := by decide +kernel
theorem row23 : tbl.all (chkPair t23) = true := by decide +kernel
theorem row24 : tbl.all (chkPair t24) = true := by decide +kernel
theorem row25 : tbl.all (chkPair t25) = true := by decide +kernel
theorem row26 : tbl.all (chkPair t26) = true := by decide +kernel
theorem row27 : tbl.all (chkPair t27) = true := by decide +kernel
theorem row28 : tbl.all (chkPair t28) = true := by decide +kernel
theorem row29 : tbl.all (chkPair t29) = true := by decide +kernel
theorem row30 : tbl.all (chkPair t30) = true := by decide +kernel
theorem row31 : tbl.all (chkPair t31) = true := by decide +kernel
theorem row32 : tbl.all (chkPair t32) = true := by decide +kernel
theorem row33 : tbl.all (chkPair t33) = true := by decide +kernel
theorem row34 : tbl.all (chkPair t34) = true := by decide +kernel
theorem row35 : tbl.all (chkPair t35) = true := by decide +kernel
theorem one_all : tbl.all chkOne = true := by decide +kernel
theorem pair_all : ∀ e ∈ tbl, tbl.all (chkPair e) = true := (List.forall_mem_cons.mpr ⟨row0, (List.forall_mem_cons.mpr ⟨row1, (List.forall_mem_cons.mpr ⟨row2, (List.forall_mem_cons.mpr ⟨row3, (List.forall_mem_cons.mpr ⟨row4, (List.forall_mem_cons.mpr ⟨row5, (List.forall_mem_cons.mpr ⟨row6, (List.forall_mem_cons.mpr ⟨row7, (List.forall_mem_cons.mpr ⟨row8, (List.forall_mem_cons.mpr ⟨row9, (List.forall_mem_cons.mpr ⟨row10, (List.forall_mem_cons.mpr ⟨row11, (List.forall_mem_cons.mpr ⟨row12, (List.forall_mem_cons.mpr ⟨row13, (List.forall_mem_cons.mpr ⟨row14, (List.forall_mem_cons.mpr ⟨row15, (List.forall_mem_cons.mpr ⟨row16, (List.forall_mem_cons.mpr ⟨row17, (List.forall_mem_cons.mpr ⟨row18, (List.forall_mem_cons.mpr ⟨row19, (List.forall_mem_cons.mpr ⟨row20, (List.forall_mem_cons.mpr ⟨row21, (List.forall_mem_cons.mpr ⟨row22, (List.forall_mem_cons.mpr ⟨row23, (List.forall_mem_cons.mpr ⟨row24, (List.forall_mem_cons.mpr ⟨row25, (List.forall_mem_cons.mpr ⟨row26, (List.forall_mem_cons.mpr ⟨row27, (List.forall_mem_cons.mpr ⟨row28, (List.forall_mem_cons.mpr ⟨row29, (List.forall_mem_cons.mpr ⟨row30, (List.forall_mem_cons.mpr ⟨row31, (List.forall_mem_cons.mpr ⟨row32, (List.forall_mem_cons.mpr ⟨row33, (List.forall_mem_cons.mpr ⟨row34, (List.forall_mem_cons.mpr ⟨row35, (fun _ h => nomatch h)⟩)⟩)⟩)⟩)⟩)⟩)⟩)⟩)⟩)⟩)⟩)⟩)⟩)⟩)⟩)⟩)⟩)⟩)⟩)⟩)⟩)⟩)⟩)⟩)⟩)⟩)⟩)⟩)⟩)⟩)⟩)⟩)⟩)⟩)⟩)⟩)
end V25
namespace V25
open PySem PyProof.Rows L2 SF CV PySem.W
theorem rat_all : ∀ b c : Nat, b < 7 → c < 3 → ∃ e, e ∈ tbl ∧ e.2 = 1 ∧ (bnd (f_law_ratio [.int ((b : Int) - 3), .int (1 + (c : Int))]) fun r => f_of_ratio [r]) = some e.1
  | 0, 0, _, _ => ⟨t0, List.mem_of_getElem? (i := 0) rfl, rfl, by kernel_rfl⟩
  | 0, 1, _, _ => ⟨t7, List.mem_of_getElem? (i := 7) rfl, rfl, by kernel_rfl⟩
  | 0, 2, _, _ => ⟨t2, List.mem_of_getElem? (i := 2) rfl, rfl, by kernel_rfl⟩
  | 1, 0, _, _ => ⟨t1, List.mem_of_getElem? (i := 1) rfl, rfl, by kernel_rfl⟩
  | 1, 1, _, _ => ⟨t2, List.mem_of_getElem? (i := 2) rfl, rfl, by kernel_rfl⟩
  | 1, 2, _, _ => ⟨t11, List.mem_of_getElem? (i := 11) rfl, rfl, by kernel_rfl⟩
  | 2, 0, _, _ => ⟨t2, List.mem_of_getElem? (i := 2) rfl, rfl, by kernel_rfl⟩
  | 2, 1, _, _ => ⟨t8, List.mem_of_getElem? (i := 8) rfl, rfl, by kernel_rfl⟩
  | 2, 2, _, _ => ⟨t12, List.mem_of_getElem? (i := 12) rfl, rfl, by kernel_rfl⟩
  | 3, 0, _, _ => ⟨t3, List.mem_of_getElem? (i := 3) rfl, rfl, by kernel_rfl⟩
  | 3, 1, _, _ => ⟨t3, List.mem_of_getElem? (i := 3) rfl, rfl, by kernel_rfl⟩
  | 3, 2, _, _ => ⟨t3, List.mem_of_getElem? (i := 3) rfl, rfl, by kernel_rfl⟩
  | 4, 0, _, _ => ⟨t4, List.mem_of_getElem? (i := 4) rfl, rfl, by kernel_rfl⟩
  | 4, 1, _, _ => ⟨t9, List.mem_of_getElem? (i := 9) rfl, rfl, by kernel_rfl⟩
  | 4, 2, _, _ => ⟨t13, List.mem_of_getElem? (i := 13) rfl, rfl, by kernel_rfl⟩
  | 5, 0, _, _ => ⟨t5, List.mem_of_getElem? (i := 5) rfl, rfl, by kernel_rfl⟩
  | 5, 1, _, _ => ⟨t4, List.mem_of_getElem? (i := 4) rfl, rfl, by kernel_rfl⟩
  | 5, 2, _, _ => ⟨t14, List.mem_of_getElem? (i := 14) rfl, rfl, by kernel_rfl⟩
  | 6, 0, _, _ => ⟨t6, List.mem_of_getElem? (i := 6) rfl, rfl, by kernel_rfl⟩
  | 6, 1, _, _ => ⟨t10, List.mem_of_getElem? (i := 10) rfl, rfl, by kernel_rfl⟩
  | 6, 2, _, _ => ⟨t4, List.mem_of_getElem? (i := 4) rfl, rfl, by kernel_rfl⟩
  | b + 7, _, h, _ => absurd h (by lia)
  | _, c + 3, _, h => absurd h (by lia)
theorem nth_all : ∀ k : Int, k ∈ ([2, 3, 4, 5, 6, 7, 12] : List Int) → ∀ c : Int, c ∈ ([2, 3, 5] : List Int) → ∃ e, e ∈ tbl ∧ e.2 = k ∧ f_nth [.lst (([0 - c] ++ List.replicate (k - 1).toNat 0 ++ [1]).map AV.int), .int 0] = some e.1 := by
  intro k hk c hc
  simp only [List.mem_cons, List.not_mem_nil, or_false] at hk hc
  rcases hk with rfl | rfl | rfl | rfl | rfl | rfl | rfl <;> rcases hc with rfl | rfl | rfl
  · exact ⟨t15, List.mem_of_getElem? (i := 15) rfl, rfl, by kernel_rfl⟩
  · exact ⟨t16, List.mem_of_getElem? (i := 16) rfl, rfl, by kernel_rfl⟩
  · exact ⟨t17, List.mem_of_getElem? (i := 17) rfl, rfl, by kernel_rfl⟩
  · exact ⟨t18, List.mem_of_getElem? (i := 18) rfl, rfl, by kernel_rfl⟩
  · exact ⟨t19, List.mem_of_getElem? (i := 19) rfl, rfl, by kernel_rfl⟩
  · exact ⟨t20, List.mem_of_getElem? (i := 20) rfl, rfl, by kernel_rfl⟩
  · exact ⟨t21, List.mem_of_getElem? (i := 21) rfl, rfl, by kernel_rfl⟩
  · exact ⟨t22, List.mem_of_getElem? (i := 22) rfl, rfl, by kernel_rfl⟩
  · exact ⟨t23, List.mem_of_getElem? (i := 23) rfl, rfl, by kernel_rfl⟩
  · exact ⟨t24, List.mem_of_getElem? (i := 24) rfl, rfl, by kernel_rfl⟩
  · exact ⟨t25, List.mem_of_getElem? (i := 25) rfl, rfl, by kernel_rfl⟩
  · exact ⟨t26, List.mem_of_getElem? (i := 26) rfl, rfl, by kernel_rfl⟩
  · exact ⟨t27, List.mem_of_getElem? (i := 27) rfl, rfl, by kernel_rfl⟩
  · exact ⟨t28, List.mem_of_getElem? (i := 28) rfl, rfl, by kernel_rfl⟩
  · exact ⟨t29, List.mem_of_getElem? (i := 29) rfl, rfl, by kernel_rfl⟩
  · exact ⟨t30, List.mem_of_getElem? (i := 30) rfl, rfl, by kernel_rfl⟩
  · exact ⟨t31, List.mem_of_getElem? (i := 31) rfl, rfl, by kernel_rfl⟩
  · exact ⟨t32, List.mem_of_getElem? (i := 32) rfl, rfl, by kernel_rfl⟩
  · exact ⟨t33, List.mem_of_getElem? (i := 33) rfl, rfl, by kernel_rfl⟩
  · exact ⟨t34, List.mem_of_getElem? (i := 34) rfl, rfl, by kernel_rfl⟩
  · exact ⟨t35, List.mem_of_getElem? (i := 35) rfl, rfl, by kernel_rfl⟩
theorem great_ok : f_nth [.lst (([-2] ++ List.replicate 11 0 ++ [1]).map AV.int), .int 1] = some great := by kernel_rfl
theorem zero_ok : f_of_ratio [z01] = some zero := by kernel_rfl
theorem great_w : f_weight_of [great] = some (.int 12) := by kernel_rfl
theorem great_g : mulF great great = some none := by kernel_rfl
theorem zg_mul : ∃ r, mulF zero great = some (some r) ∧ f_as_ratio [r] = some (.tup [.int 0, .int 1]) := ⟨zero, by kernel_rfl, by kernel_rfl⟩
theorem zg_over : ∃ r, overF zero great = some (some r) ∧ f_as_ratio [r] = some (.tup [.int 0, .int 1]) := ⟨zero, by kernel_rfl, by kernel_rfl⟩
end V25
namespace V25
open PySem PyProof.Rows L2 SF CV PySem.W
section
variable {P : Program} {w : World} {K : Frag} {mg : Str → Option Value} {base : Heap} {C fI : Addr} {fd : FuncData} {a : Ad}
noncomputable def spTold5 (K : Frag) (C P1 P2 : Addr) (G : GX) : Shared → Sp := fun s vs H Q _ => ∃ (f c' c3 : Addr) (oc : Obj) (u3 : Value) (v3 : V) (x : AV) (res : Option AV), vs = [.ref f] ∧ H f = some (lamO f "<lambda>" lawQ (argsL lam5) (bodyL lam5) (scL lam5) (clG c3) c') ∧ H c' = some (.frz oc (.own 0)) ∧ CdO oc lawQ ∧ LI P1 P2 H ∧
  (H c3 = none ∧ s.heap.IsCell c3 (some u3) ∧ RelV v3 u3 ∧ Rl K C H x v3) ∧ G x x = some res ∧ Told K C P1 P2 H res Q
theorem ok_told5 {P1 P2 : Addr} (CL : Cl5 K mg a) (hx : exmOne K (.ref a.c2) (.ref a.cf) = some true) (g_word : FnGB P w K mg base CX0 false 44 "_law_word" ["_law_e"] (fun _ => spWord a)) (g_mul : FnGB P w K mg base (CXF P w) true 43 "multiplied_by" ["one", "other"] (fun _ => spX K C P2 a.c2 mulF))
    (D : DefB K mg "_law_told" s_law_told ["_law_rule"]) : FnGB P w K mg base CX0 true 45 "_law_told" ["_law_rule"] (spTold5 K C P1 P2 mulF) := by
  refine D.okG sc_law_told (fun s vs H Q E h => ?_) (fun f0 cdv A outer s H vs Q E hcd hr h => ?_)
  · obtain ⟨f, c', c3, oc, u3, v3, x, res, rfl, _⟩ := h
    rfl
  obtain ⟨f, c', c3, oc, u3, v3, x, res, rfl, hf, hc, hcdo, li, ⟨z3, i3, e3, r3⟩, hG, qn, qx⟩ := h
  obtain ⟨E1, hE1⟩ : ∃ E1 : XK, E1 = fun c d H1 => c = .ref a.c2 ∧ d = none ∧ Same H H1 ∧ res = none := ⟨_, rfl⟩
  obtain ⟨R, hR⟩ : ∃ R : Addr → Hp → VK → Prop, R = fun f1 H1 Q1 => f1 = f ∧ H1 = H ∧ ∀ r, res = some r → ∀ v Hf' H', StepX P2 (hfOf H) H Hf' H' → TbO P2 lamQ H' → Rl K C Hf' r v → Q1 v H' := ⟨_, rfl⟩
  have run : ∀ pins pins' σ1 H1 s1 f1 Q1, Inv (inTry (cxG CX0 true P w K mg base ["_law_rule", "_law_e"] "_law_told" (defScope s_law_told) f0 cdv A outer s H E) pins E1) pins' σ1 H1 s1 → R f1 H1 Q1 →
      FnAt f1 s1.heap ∧ codeAny (model P w) (A.deeper (envOfC "_law_told" (defScope s_law_told) s.heap.objs.size f0 cdv)) (.call (.ref f1) ⟨[], []⟩) (CR (CXF P w) (envOfC "_law_told" (defScope s_law_told) s.heap.objs.size f0 cdv :: outer) P w H1 s1 Q1 E1) s1 := by
    intro pins pins' σ1 H1 s1 f1 Q1 J r
    rw [hR] at r
    obtain ⟨rfl, rfl, q1⟩ := r
    obtain ⟨pm, ctv, ho⟩ := (J.hok _ _ hf).1
    have hoc := (J.hok _ _ hc).1
    obtain ⟨vs, tq, e5, e6⟩ := hcdo
    have j3 : s1.heap.IsCell c3 (some u3) := by
      obtain ⟨ob, hob, hod⟩ := i3
      obtain ⟨sl, hob1⟩ := J.base.any hob z3 (fun z => absurd (show c3 ∈ ([] : List Addr) from z) (by simp))
      exact ⟨_, hob1, hod⟩
    refine ⟨⟨_, _, _, _, ho⟩, lam_run (CX := CXF P w) (cm := true) (k := 43) (N := ["_law_great"]) (ps := []) (us := []) sc5 ho ⟨c', oc, vs, tq, rfl, hoc, e5, e6⟩ J.env0 hr rfl (fun x c e => ?_) (fun x y c e1 e2 => ?_) (fun x e => ?_) (σ := [some v3]) rfl (fun i x v h1 h2 => ?_) fun hr2 => ⟨_, pe_fnG (E := E1) g_mul hr2 leaves_cxL.passes (pa_cons (pv 0) (pa_cons (pv 0) pa_nil)), ?_⟩⟩
    · obtain ⟨_, rfl⟩ := one_of e
      exact ⟨⟨_, j3⟩, z3⟩
    · exact (one_of e1).1.trans (one_of e2).1.symm
    · have : x = "_law_great" := (by decide +kernel : ∀ y ∈ (scL lam5).names, y.2 = .free → y.1 = "_law_great") _ (PySem.mem_of_lookup e) rfl
      subst this; exact ⟨c3, rfl⟩
    · match i, h1, h2 with
      | 0, h1, h2 =>
        cases h1; cases h2
        exact .inr ⟨rfl, c3, u3, rfl, j3, e3⟩
      | i + 1, h1, h2 => cases h1
    · walk_at "sf"
      obtain ⟨ps2, hp2⟩ := li.t2.tb
      have r3' := rl_keep (hfOf_keep _) r3
      refine ⟨hfOf H1, x, x, res, hfOf_same _, hfOf_tbl hp2, .cons r3' (.cons r3' .nil), li.t2, hG, q1, fun hn H2 x tp mm s2 e1 e2 e3 => ?_⟩
      rw [hE1]
      have s3 := Same.new e2 (.tup [.str mm])
      exact ⟨rfl, rfl, s2.trans (s3.trans (Same.new (by rw [upd_ne e3]; exact e1) _)), hn⟩
  refine ⟨_, pss_one (ps_try (E := E1) (i := 1) (c := a.cf) rfl rfl (fun pins => pss_one (ps_ret (pe_run (CX := CXF P w) (E := E1) (i := 0) (R := R) rfl (Or.inl rfl) leaves_try.passes (run pins)))) (fun a' => pss_one (ps_ret (pe_fnG g_word hr.mark pass0 (pa_cons (pv 1) pa_nil)))) rfl CL.mf (fun C1 d H1 e => ?_) sc_law_told.nd rfl rfl), ?_⟩
  · rw [hE1] at e
    cases e.1
    exact hx
  · refine ⟨⟨f, rfl, ?_⟩, fun σ' H' a1 C1 t tb d H1 tb1 hl ha hsub h1 hE => ?_⟩
    · rw [hR]
      refine ⟨rfl, rfl, fun r er v Hf' H' sx t2 rl => ?_⟩
      exact qn r er v H' (keep_step li.t2.tb sx) (li.step sx t2) (rl.mono sx.fh)
    · rw [hE1] at hE
      obtain ⟨e1, rfl, s1, hn⟩ := hE
      cases e1
      obtain ⟨y0, y1, rfl⟩ : ∃ y0 y1, σ' = [y0, y1] := by
        match σ', hl with
        | [y0, y1], _ => exact ⟨y0, y1, rfl⟩
      obtain ⟨k1, l2⟩ := keep_sub s1 hsub h1 li
      walk_at "sf"
      refine ⟨a1, 2, t, tb, none, rfl, by decide, ha, .inl rfl, fun H2 s2 => ?_⟩
      exact qx hn H2 (k1.trans (Keep.of s2)) (l2.same s2)
theorem calmed {k : Nat} {x : Str} {ps : List Str} {sp sp' : Sp} (F : FnGB P w K mg base (CXF P w) true k x ps fun _ => sp) (hl : ∀ vs H Q E, sp' vs H Q E → vs.length = ps.length) (h : ∀ vs H Q E, sp' vs H Q E → sp vs H Q E0) : FnB P w K mg base k x ps sp' := by
  obtain ⟨f, fd, a, b, c, d⟩ := F.ex
  refine ⟨f, fd, ⟨hl, fun A outer s H args us vs Q E hr e0 hb rv z => ?_⟩, b, c, d⟩
  refine codeAny_mono (a.run A outer s H args us vs Q E0 (roomG hr) e0 hb rv (h vs H Q E z)) fun r s' q => ?_
  cases r with
  | error e =>
    obtain ⟨a, C, t, tb, d, H1, H', tb0, _, _, _, _, _, _, _, _, _, hE⟩ := q
    exact hE.elim
  | ok fl => cases fl <;> exact q
noncomputable def spM (K : Frag) (C P2 : Addr) (G : GX) : Sp := fun vs H Q _ => ∃ (x y r : AV), RlL K C H [x, y] vs ∧ TbO P2 lamQ H ∧ G x y = some (some r) ∧ ∀ v H', Keep H H' → (∀ P1, LI P1 P2 H → LI P1 P2 H') → Rl K C H' r v → Q v H'
theorem RlL.keep {H H' : Hp} (s : Keep H H') {xs : List AV} {vs : List V} (h : RlL K C H xs vs) : RlL K C H' xs vs :=
  RlL.rec (motive_1 := fun x v _ => Rl K C H' x v) (motive_2 := fun xs vs _ => RlL K C H' xs vs) .non .bl .int .str (fun h _ ih => .tup (s.tup h) ih) (fun h _ ih => .lst (s _ _ trivial h) ih) (fun h _ _ _ a b c => .root (s _ _ trivial h) a b c) .nil (fun _ _ a b => .cons a b) h
theorem m_of {k : Nat} {x : Str} {P2 : Addr} {G : GX} {c : Addr} (F : FnGB P w K mg base (CXF P w) true k x ["one", "other"] fun _ => spX K C P2 c G) : FnB P w K mg base k x ["one", "other"] (spM K C P2 G) := by
  refine calmed F (fun vs H Q E ⟨_, _, _, rl, _⟩ => rl.length) fun vs H Q E h => ?_
  obtain ⟨x, y, r, rl, tb, hG, q⟩ := h
  obtain ⟨ps2, hp2⟩ := tb.tb
  exact ⟨hfOf H, x, y, some r, hfOf_same _, hfOf_tbl hp2, RlL.keep (hfOf_keep _) rl, tb, hG, fun r' e v Hf' H' sx t2 rl => by cases e; exact q v H' (keep_step tb.tb sx) (fun P1 li => li.step sx t2) (rl.mono sx.fh), nofun⟩
structure RcI (K : Frag) (C : Addr) : Prop where
  ha : findIn K (.ref C) "__class__" = some (some (.builtin "object.__class__"))
  hn : specialIn K (.builtin "object.__class__") "__get__" = some (some (.builtin "getset_descriptor.__get__"))
  htk : takesIn K (.builtin "object.__class__") = some true
  hm : mroIn K C (.type "object") = some true
  hs : kitOne K (.ref C) (.type "str") = some false
theorem eq_same {H : Hp} {Q : VK} {x : V} (hs : scal x x = true) (h : Q (.bl true) H) : rEq x x H Q := ⟨hs, by rw [decide_eq_true rfl]; exact h⟩
noncomputable def spWd (K : Frag) (C : Addr) : Sp := fun vs H Q _ => ∃ (d : Int), (12 < d ∧ vs = [.str "TooGreat", .int d] ∧ ∀ H', Same H H' → Q (.bl true) H') ∨ (d ≤ 12 ∧ ∃ r v, vs = [v, .int d] ∧ Rl K C H r v ∧ okW r d = true ∧ ∀ H', Same H H' → Q (.bl true) H')
theorem wtOf_eq {x : AV} {k : Int → Bool} (h : wtOf x k = true) : ∃ p q i, x = .root p q (.int i) ∧ k i = true := by
  cases x with
  | root p q w =>
    cases w with
    | int i => exact ⟨p, q, i, rfl, h⟩
    | non => exact nomatch h
    | bl _ => exact nomatch h
    | str _ => exact nomatch h
    | tup _ => exact nomatch h
    | lst _ => exact nomatch h
    | root _ _ _ => exact nomatch h
  | non => exact nomatch h
  | bl _ => exact nomatch h
  | int _ => exact nomatch h
  | str _ => exact nomatch h
  | tup _ => exact nomatch h
  | lst _ => exact nomatch h
theorem onO_eq {a : O} {k : AV → Bool} (h : onO a k = true) : ∃ x, a = some x ∧ k x = true := by
  cases a with
  | none => exact nomatch h
  | some x => exact ⟨x, rfl, h⟩
theorem inB_eq {x : AV} {k : Int → Bool} (h : inB x k = true) : ∃ i, x = .int i ∧ k i = true := by
  cases x <;> first | exact ⟨_, rfl, h⟩ | exact nomatch h
theorem two_at {x y : V} {c : Bool} : atI [x, y] (if c then 1 else 0 : Int) = some (if c then y else x) := by cases c <;> rfl
theorem ok_law_weighed (T : Nm mg) (RC : Rc K mg C fI fd) (RI : RcI K C) (g_weight_of : FnB P w K mg base 45 "weight_of" ["number"] (spEv K C f_weight_of 1)) (g_as_ratio : FnB P w K mg base 45 "as_ratio" ["number"] (spEv K C f_as_ratio 1)) (D : DefB K mg "_law_weighed" s_law_weighed ["_law_told_here", "_law_due"]) :
    FnB P w K mg base 46 "_law_weighed" ["_law_told_here", "_law_due"] (spWd K C) := by
  refine D.ok sc_law_weighed (fun vs H Q E h => ?_) (fun f cdv A outer s H vs Q E hr h => ?_)
  · obtain ⟨d, ⟨_, rfl, _⟩ | ⟨_, r, v, rfl, _⟩⟩ := h <;> rfl
  obtain ⟨d, h⟩ := h
  refine ⟨_, (pss_cons (ps_if (pt_cmpR op_gt (pv 1) pe_int (nomark _))
    (pss_one (ps_ret (pe_cmpR op_eq (pv 0) pe_str (nomark _))))
    pss_nil)
    (pss_cons (ps_if (pt_val (pe_callB call_isinst rfl T.n_isinstance boot_isinstance (pa_cons (pv 0) (pa_cons (pe_ty rfl T.n_str boot_str) pa_nil))))
    (pss_one (ps_ret pe_bl))
    pss_nil)
    (pss_one (ps_ret (pe_cmpR op_eq (pe_fn g_weight_of hr (pa_cons (pv 0) pa_nil)) (pe_ix ix_list (pe_lst (pa_cons (pv 1) (pa_cons pe_int pa_nil))) (pe_callTy call_int1 rfl T.n_int boot_int (pa_cons (pe_cmpR op_notN (pe_fn g_as_ratio hr (pa_cons (pv 0) pa_nil)) pe_non (nomark _)) pa_nil)) (fun _ _ => rfl)) (nomark _)))))), ?_⟩
  rcases h with ⟨hd, rfl, q⟩ | ⟨hd, r, v, rfl, rl, hw, q⟩
  · walk_at "sf"
    rw [decide_eq_true hd]
    refine iteT ?_
    walk_at "sf"
    refine eq_same rfl ?_
    exact q _ (Same.refl' _)
  · obtain ⟨p, pq, i, rfl, hw1⟩ := wtOf_eq hw
    obtain ⟨ra, hra, hw2⟩ := onO_eq hw1
    obtain ⟨l, dx, vp, vq, vw, rfl, hl, rp, rq, rw⟩ := Rl.root' rl
    walk_at "sf"
    rw [decide_eq_false (by lia)]
    refine iteF ?_
    walk_at "sf"
    refine ⟨_, _, _, _, rfl, .ins hl RC.cl RI.ha RI.hn RI.htk RI.hm, RI.hs, ?_⟩
    walk_at "sf"
    refine iteF ?_
    walk_at "sf"
    refine ev_mk (Same.refl' H) (.cons rl .nil) rfl (r := .int i) rfl fun va Hfa Ha sa r1 => ?_
    cases r1
    walk_at "sf"
    intro p2 hp2
    have s2 := Step.new sa.fh hp2 (.lst [.int d, .int 1])
    walk_at "sf"
    have sa2 := sa.trans s2
    refine ev_mk s2.fh (.cons (rl.mono sa2.ff) .nil) rfl hra fun vb Hfb Hb sb rb => ?_
    walk_at "sf"
    refine ⟨rfl, ?_⟩
    rw [← rb.isN_eq]
    walk_at "sf"
    refine .inr ⟨_, rfl, ?_⟩
    refine r_ixL (SqL.of (sb.hh _ _ upd_same)) two_at ?_
    walk_at "sf"
    have e : (V.int i) = (if (!isN ra) = true then V.int 1 else V.int d) := by
      cases z : isN ra with
      | true =>
        rw [z] at hw2
        have : eqI i d = true := hw2
        rw [eqI_eq] at this
        have : i = d := by simpa using this
        subst this; rfl
      | false =>
        rw [z] at hw2
        have : eqI i 1 = true := hw2
        rw [eqI_eq] at this
        have : i = 1 := by simpa using this
        subst this; rfl
    rw [← e]
    refine eq_same rfl ?_
    exact q _ (sa2.trans sb).hh
end
end V25
namespace V25
open PySem PyProof.Rows L2 SF CV PySem.W
noncomputable def spOW (K : Frag) (C : Addr) : Sp := fun vs H Q _ => ∃ m : Int, vs = [.int m] ∧ 0 ≤ m ∧ Bd 128 m ∧ ∀ x wt, (x, wt) ∈ tbl → ∀ v H', Same H H' → Rl K C H' (.tup [x, .int wt]) v → Q v H'
theorem pick12 {n : Nat} (h : n < 12) : ∃ k : Int, atI (([1, 2, 3, 4, 5, 6, 7, 12, 1, 2, 3, 4] : List Int).map V.int) (n : Int) = some (.int k) ∧ (k = 1 ∨ k ∈ ([2, 3, 4, 5, 6, 7, 12] : List Int)) := by
  match n, h with
  | 0, _ => exact ⟨1, atI_nat rfl, by decide⟩
  | 1, _ => exact ⟨2, atI_nat rfl, by decide⟩
  | 2, _ => exact ⟨3, atI_nat rfl, by decide⟩
  | 3, _ => exact ⟨4, atI_nat rfl, by decide⟩
  | 4, _ => exact ⟨5, atI_nat rfl, by decide⟩
  | 5, _ => exact ⟨6, atI_nat rfl, by decide⟩
  | 6, _ => exact ⟨7, atI_nat rfl, by decide⟩
  | 7, _ => exact ⟨12, atI_nat rfl, by decide⟩
  | 8, _ => exact ⟨1, atI_nat rfl, by decide⟩
  | 9, _ => exact ⟨2, atI_nat rfl, by decide⟩
  | 10, _ => exact ⟨3, atI_nat rfl, by decide⟩
  | 11, _ => exact ⟨4, atI_nat rfl, by decide⟩
theorem pick3' {n : Nat} (h : n < 3) : ∃ k : Int, atI [V.int 2, V.int 3, V.int 5] (n : Int) = some (.int k) ∧ k ∈ ([2, 3, 5] : List Int) := by
  match n, h with
  | 0, _ => exact ⟨2, atI_nat rfl, by decide⟩
  | 1, _ => exact ⟨3, atI_nat rfl, by decide⟩
  | 2, _ => exact ⟨5, atI_nat rfl, by decide⟩
theorem nat_mod {m d : Int} (hd : 0 < d) : ∃ n : Nat, m.fmod d = (n : Int) ∧ (n : Int) < d := by
  obtain ⟨e, h1, h2⟩ := fm (x := m) hd
  obtain ⟨n, hn⟩ := Int.eq_ofNat_of_zero_le h1
  exact ⟨n, by rw [e, hn], by rw [← hn]; exact h2⟩
section
variable {P : Program} {w : World} {K : Frag} {mg : Str → Option Value} {base : Heap} {C fI : Addr} {fd : FuncData} {a : Ad}
theorem ok_law_of_weight (g_of_ratio : FnB P w K mg base 40 "of_ratio" ["given"] (spEv K C f_of_ratio 1)) (g_law_ratio : FnB P w K mg base 40 "_law_ratio" ["_law_top", "_law_under"] (spEv K C f_law_ratio 2)) (g_nth : FnB P w K mg base 40 "nth" ["poly", "k"] (spEv K C f_nth 2)) (D : DefB K mg "_law_of_weight" s_law_of_weight ["_law_more"]) :
    FnB P w K mg base 41 "_law_of_weight" ["_law_more"] (spOW K C) := by
  refine D.ok sc_law_of_weight (fun vs H Q E h => ?_) (fun f cdv A outer s H vs Q E hr h => ?_)
  · obtain ⟨m, rfl, _⟩ := h
    rfl
  obtain ⟨m, rfl, hm, hb, q⟩ := h
  refine' ⟨_, ?term, ?rest⟩
  case' term => refine' (pss_cons ?s1 ?s2)
  case' s1 => with_reducible refine' (ps_set (i := 1) ?nd ?hi ?hl ?x1 ?hs ?hf)
  case nd => exact sc_law_of_weight.nd
  case hi => rfl
  case hl => exact Or.inl rfl
  case hs => rfl
  case hf => first | exact .inl rfl | exact .inr rfl
  case' x1 => with_reducible refine' (pe_ix ?ix ?l ?k ?u)
  case' ix => refine' ix_list
  case' l => with_reducible refine' (pe_lst ?li)
  case' li => with_reducible refine' (pa_ints ?ii)
  case' ii => exact (.pos (.pos (.pos (.pos (.pos (.pos (.pos (.pos (.pos (.pos (.pos (.pos .nil))))))))))))
  case' k => exact (pe_op op_modN (pv 0) pe_int)
  case' u => exact (fun _ _ => rfl)
  case' s2 => exact (pss_cons (ps_if (pt_cmpR op_eq (pv 1) pe_int (nomark _))
    (pss_one (ps_ret (pe_tup (pa_cons (pe_fn g_of_ratio hr (pa_cons (pe_fn g_law_ratio hr (pa_cons (pe_op op_sub (pe_op op_modN (pe_op op_fdivL (pv 0) pe_int) pe_int) pe_int) (pa_cons (pe_op op_add pe_int (pe_op op_modN (pe_op op_fdivL (pv 0) pe_int) pe_int)) pa_nil))) pa_nil)) (pa_cons pe_int pa_nil)))))
    pss_nil)
    (pss_cons (ps_set (i := 2) sc_law_of_weight.nd rfl (Or.inl rfl) (pe_op op_cat (pe_op op_cat (pe_lst (pa_cons (pe_op op_sub pe_int (pe_ix ix_list (pe_lst (pa_cons pe_int (pa_cons pe_int (pa_cons pe_int pa_nil)))) (pe_op op_modN (pe_op op_fdivL (pv 0) pe_int) pe_int) (fun _ _ => rfl))) pa_nil)) (pe_op op_rep (pe_lst (pa_cons pe_int pa_nil)) (pe_op op_sub (pv 1) pe_int))) (pe_lst (pa_cons pe_int pa_nil))))
    (pss_one (ps_ret (pe_tup (pa_cons (pe_fn g_nth hr (pa_cons (pv 2) (pa_cons pe_int pa_nil))) (pa_cons (pv 1) pa_nil)))))))
  walk_at "sf"
  refine ⟨small4 (by decide), fun p1 hp1 => ?_⟩
  have s1 := Same.new hp1 (.lst (([1, 2, 3, 4, 5, 6, 7, 12, 1, 2, 3, 4] : List Int).map V.int))
  walk_at "sf"
  refine r_i (by decide) ?_
  obtain ⟨n, en, hn⟩ := nat_mod (m := m) (d := 12) (by decide)
  rw [en]
  obtain ⟨k, ek, hk⟩ := pick12 (n := n) (by lia)
  refine r_ixL (SqL.of upd_same) ek ?_
  generalize upd H p1 _ = H1 at *
  walk_at "sf"
  refine ite2 (fun c => ?_) (fun c => ?_)
  · have hk1 : k = 1 := by simpa using c
    subst hk1
    walk_at "sf"
    refine r_i (d64 16 (by decide) (by decide)) ?_
    walk_at "sf"
    refine r_i (by decide) ?_
    walk_at "sf"
    refine r_i (d64 128 (by decide) (by decide)) ?_
    walk_at "sf"
    refine r_i (by decide) ?_
    walk_at "sf"
    obtain ⟨b, eb, hb7⟩ := nat_mod (m := m.fdiv 16) (d := 7) (by decide)
    obtain ⟨c, ec, hc3⟩ := nat_mod (m := m.fdiv 128) (d := 3) (by decide)
    rw [eb, ec]
    obtain ⟨e, he, h1, h2⟩ := rat_all b c (by lia) (by lia)
    obtain ⟨r, hr1, hr2⟩ := bnd_eq h2
    refine ev_mk (Same.refl' _) (.cons .int (.cons .int .nil)) rfl hr1 fun v2 Hf2 H2 s2 r2 => ?_
    walk_at "sf"
    refine ev_mk s2.fh (.cons r2 .nil) rfl hr2 fun v3 Hf3 H3 s3 r3 => ?_
    walk_at "sf"
    intro p4 hp4
    have s4 := Same.new hp4 (.tup [v3, .int 1])
    refine q e.1 1 (by rw [← h1]; exact he) _ _ (s1.trans ((s2.trans s3).hh.trans s4)) (.tup (.inl (.inl upd_same)) (.cons ((r3.mono s3.fh).mono s4) (.cons .int .nil)))
  · have hk2 : k ∈ ([2, 3, 4, 5, 6, 7, 12] : List Int) := by
      rcases hk with hk | hk
      · exact absurd hk (by simpa using c)
      · exact hk
    have hkr : 2 ≤ k ∧ k ≤ 12 := by
      simp only [List.mem_cons, List.not_mem_nil, or_false] at hk2
      lia
    walk_at "sf"
    intro p2 hp2
    have s2 := Same.new hp2 (.lst [.int 2, .int 3, .int 5])
    walk_at "sf"
    refine r_i (d64 16 (by decide) (by decide)) ?_
    walk_at "sf"
    refine r_i (by decide) ?_
    obtain ⟨d, ed, hd⟩ := nat_mod (m := m.fdiv 16) (d := 3) (by decide)
    rw [ed]
    obtain ⟨cc, ecc, hcc⟩ := pick3' (n := d) (by lia)
    refine r_ixL (SqL.of upd_same) ecc ?_
    generalize upd H1 p2 _ = H2 at *
    walk_at "sf"
    intro p3 hp3
    have s3 := Same.new hp3 (.lst [.int (0 - cc)])
    have h3 : upd H2 p3 (.lst [.int (0 - cc)]) p3 = some (.lst [.int (0 - cc)]) := upd_same
    generalize upd H2 p3 _ = H3 at *
    walk_at "sf"
    intro p4 hp4
    have s4 := Same.new hp4 (.lst [.int 0])
    have h4 : upd H3 p4 (.lst [.int 0]) p4 = some (.lst [.int 0]) := upd_same
    generalize upd H3 p4 _ = H4 at *
    walk_at "sf"
    refine ⟨p4, _, _, rfl, rfl, h4, by lia, by lia, small4 (by rw [List.length_singleton]; lia), fun p5 hp5 => ?_⟩
    rw [rep_flat']
    have s5 := Same.new hp5 (.lst (List.replicate (k - 1).toNat (.int 0)))
    have h5 : upd H4 p5 (.lst (List.replicate (k - 1).toNat (.int 0))) p5 = some (.lst (List.replicate (k - 1).toNat (.int 0))) := upd_same
    generalize upd H4 p5 _ = H5 at *
    refine ⟨p3, p5, _, _, rfl, rfl, s5 _ _ (s4 _ _ h3), h5, small4 (by rw [List.length_singleton, List.length_replicate]; lia), fun p6 hp6 => ?_⟩
    have s6 := Same.new hp6 (.lst ([.int (0 - cc)] ++ List.replicate (k - 1).toNat (.int 0)))
    have h6 : upd H5 p6 (.lst ([.int (0 - cc)] ++ List.replicate (k - 1).toNat (.int 0))) p6 = some (.lst ([.int (0 - cc)] ++ List.replicate (k - 1).toNat (.int 0))) := upd_same
    generalize upd H5 p6 _ = H6 at *
    walk_at "sf"
    intro p7 hp7
    have s7 := Same.new hp7 (.lst [.int 1])
    have h7 : upd H6 p7 (.lst [.int 1]) p7 = some (.lst [.int 1]) := upd_same
    generalize upd H6 p7 _ = H7 at *
    walk_at "sf"
    refine ⟨p6, p7, _, _, rfl, rfl, s7 _ _ h6, h7, small4 (by simp; lia), fun p8 hp8 => ?_⟩
    have s8 := Same.new hp8 (.lst ([.int (0 - cc)] ++ List.replicate (k - 1).toNat (.int 0) ++ [.int 1]))
    have h8 : upd H7 p8 (.lst ([.int (0 - cc)] ++ List.replicate (k - 1).toNat (.int 0) ++ [.int 1])) p8 = some (.lst (([0 - cc] ++ List.replicate (k - 1).toNat 0 ++ [1]).map V.int)) := by
      rw [upd_same, List.map_append, List.map_append, List.map_replicate]; rfl
    generalize upd H7 p8 _ = H8 at *
    walk_at "sf"
    obtain ⟨e, he, h1, h2⟩ := nth_all k hk2 cc hcc
    refine ev_mk (Same.refl' _) (.cons (.lst h8 RlL.ofInts) (.cons .int .nil)) rfl h2 fun v9 Hf9 H9 s9 r9 => ?_
    walk_at "sf"
    intro pa hpa
    have sa := Same.new hpa (.tup [v9, .int k])
    have sall := s1.trans (s2.trans (s3.trans (s4.trans (s5.trans (s6.trans (s7.trans (s8.trans (s9.hh.trans sa))))))))
    exact q e.1 k (by rw [← h1]; exact he) _ _ sall (.tup (.inl (.inl upd_same)) (.cons ((r9.mono s9.fh).mono sa) (.cons .int .nil)))
end
end V25
namespace V25
open PySem PyProof.Rows L2 SF CV PySem.W
noncomputable def spLaw (K : Frag) (tabs : List (Addr × Addr)) : Sp := fun vs H Q _ => ∃ (sa : Addr) (ns : List Int), vs = [.ref sa] ∧ SqL K H sa (ns.map V.int) ∧ ns.length ≤ 63 ∧ (∀ p ∈ tabs, H p.2 = some (.tbl #[])) ∧ ∀ H', Q (.bl true) H'
theorem wt_all : tbl.all (fun e => andB (leI 1 e.2) (leI e.2 12)) = true := by decide +kernel
theorem seq_cut {a b : TS} {D : L2.Ends} {σ : L2.St} {H : Hp} (G : L2.St → Hp → Prop) (h1 : ∀ D' : L2.Ends, (∀ σ' H', G σ' H' → D'.nx σ' H') → a D' σ H) (h2 : ∀ σ' H', G σ' H' → b D σ' H') : tSeq a b D σ H := h1 _ h2
theorem in_two {i j : Int} : inV (.int 0) [V.int i, V.int j] = decide (i = 0 ∨ j = 0) := by
  have e : ∀ z : Int, eqV (V.int z) (V.int 0) = decide (z = 0) := fun z => by
    show (z == 0) = _
    rfl
  unfold inV
  rw [List.any_cons, List.any_cons, List.any_nil, e, e, Bool.or_false]
  by_cases h1 : i = 0 <;> by_cases h2 : j = 0 <;> simp [h1, h2]
theorem andB_and {x y : Bool} (h : andB x y = true) : x = true ∧ y = true := by
  cases x
  · exact nomatch h
  · exact ⟨rfl, h⟩
theorem wt_small {x : AV} {wx : Int} (h : (x, wx) ∈ tbl) : 1 ≤ wx ∧ wx ≤ 12 := by
  have h1 := List.all_eq_true.mp wt_all _ h
  obtain ⟨a, b⟩ := andB_and h1
  rw [leI_eq] at a b
  exact ⟨by simpa using a, by simpa using b⟩
theorem orB_or {x y : Bool} (h : orB x y = true) : x = true ∨ y = true := by
  cases x
  · exact .inr h
  · exact .inl rfl
theorem eqI_is {i j : Int} (h : eqI i j = true) : i = j := by
  rw [eqI_eq] at h
  simpa using h
structure One (x : AV) (wx : Int) (sx : Int) : Prop where
  root : ∃ p q, x = .root p q (.int wx)
  opp : ∃ p q, f_opposite [x] = some (.root p q (.int wx))
  sg : f_sign_of [x] = some (.int sx)
  inv : sx ≠ 0 → ∃ p q, f_inverse [x] = some (.root p q (.int wx))
theorem one_of_tbl {x : AV} {wx : Int} (h : (x, wx) ∈ tbl) : ∃ sx, One x wx sx := by
  have h1 := List.all_eq_true.mp one_all _ h
  obtain ⟨a1, a2⟩ := andB_and h1
  obtain ⟨a3, a4⟩ := andB_and a2
  obtain ⟨p, q, i, e1, e2⟩ := wtOf_eq a1
  have e2 := eqI_is e2
  obtain ⟨o, e3, e4⟩ := onO_eq a3
  obtain ⟨p1, q1, i1, e5, e6⟩ := wtOf_eq e4
  have e6 := eqI_is e6
  obtain ⟨sv, e7, e8⟩ := onO_eq a4
  obtain ⟨sx, e9, e10⟩ := inB_eq e8
  dsimp only at e1 e2 e3 e6 e7
  subst e2 e6 e5 e9
  refine ⟨sx, ⟨p, q, e1⟩, ⟨p1, q1, e3⟩, e7, fun hs => ?_⟩
  rcases orB_or e10 with z | z
  · rw [is0_eq] at z
    exact absurd (by simpa using z) hs
  · obtain ⟨o2, e11, e12⟩ := onO_eq z
    obtain ⟨p2, q2, i2, e13, e14⟩ := wtOf_eq e12
    have e14 := eqI_is e14
    dsimp only at e11 e14
    subst e13 e14
    exact ⟨p2, q2, e11⟩
noncomputable def Wd (res : Option (Option AV)) (d : Int) : Prop := ∃ o, res = some o ∧ ((12 < d ∧ o = none) ∨ (d ≤ 12 ∧ ∃ r, o = some r ∧ okW r d = true))
theorem wd_of {res : Option (Option AV)} {d : Int} (h : wd res d = true) : Wd res d := by
  cases res with
  | none => exact nomatch h
  | some o =>
    refine ⟨o, rfl, ?_⟩
    have h : (Bool.rec (Option.rec false (fun r => okW r d) o) (Option.rec true (fun _ => false) o) (ltI 12 d) : Bool) = true := h
    rw [ltI_eq] at h
    by_cases hd : 12 < d
    · rw [decide_eq_true hd] at h
      cases o with
      | none => exact .inl ⟨hd, rfl⟩
      | some r => exact nomatch h
    · rw [decide_eq_false hd] at h
      cases o with
      | none => exact nomatch h
      | some r => exact .inr ⟨by lia, r, rfl, h⟩
theorem dueOf_eq (d i j : Int) : dueOf d i j = if i = 0 ∨ j = 0 then 1 else d := by
  unfold dueOf
  rw [is0_eq, is0_eq]
  by_cases h1 : i = 0
  · rw [decide_eq_true h1, if_pos (.inl h1)]
  · rw [decide_eq_false h1]
    by_cases h2 : j = 0
    · rw [decide_eq_true h2, if_pos (.inr h2)]
    · rw [decide_eq_false h2, if_neg (by rintro (z | z) <;> contradiction)]
structure Two (x y : AV) (d sx sy : Int) : Prop where
  add : Wd (addF x y) d
  less : Wd (lessF x y) d
  mul : Wd (mulF x y) (if sx = 0 ∨ sy = 0 then 1 else d)
  over : sy ≠ 0 → Wd (overF x y) (if sx = 0 ∨ sy = 0 then 1 else d)
theorem two_of_tbl {x y : AV} {wx wy sx sy : Int} (hx : (x, wx) ∈ tbl) (hy : (y, wy) ∈ tbl) (ox : One x wx sx) (oy : One y wy sy) (hd : 12 < wx * wy ∨ wx * wy < 5) : Two x y (wx * wy) sx sy := by
  have h1 := List.all_eq_true.mp (pair_all _ hx) _ hy
  have hg : orB (ltI 12 (wx * wy)) (ltI (wx * wy) 5) = true := by
    rw [ltI_eq, ltI_eq]
    rcases hd with z | z
    · rw [decide_eq_true z]; rfl
    · rw [decide_eq_true z]
      cases decide (12 < wx * wy) <;> rfl
  have h2 : andB (wd (addF x y) (wx * wy)) (andB (wd (lessF x y) (wx * wy)) (sgn x fun i => sgn y fun j => andB (wd (mulF x y) (dueOf (wx * wy) i j)) (orB (is0 j) (wd (overF x y) (dueOf (wx * wy) i j))))) = true := by
    have h3 : (Bool.rec true (andB (wd (addF x y) (wx * wy)) (andB (wd (lessF x y) (wx * wy)) (sgn x fun i => sgn y fun j => andB (wd (mulF x y) (dueOf (wx * wy) i j)) (orB (is0 j) (wd (overF x y) (dueOf (wx * wy) i j)))))) (orB (ltI 12 (wx * wy)) (ltI (wx * wy) 5)) : Bool) = true := h1
    rw [hg] at h3; exact h3
  obtain ⟨a1, a2⟩ := andB_and h2
  obtain ⟨a3, a4⟩ := andB_and a2
  obtain ⟨v1, b1, b2⟩ := onO_eq a4
  rw [ox.sg] at b1; cases b1
  have b2 : (sgn y fun j => andB (wd (mulF x y) (dueOf (wx * wy) sx j)) (orB (is0 j) (wd (overF x y) (dueOf (wx * wy) sx j)))) = true := b2
  obtain ⟨v2, b3, b4⟩ := onO_eq b2
  rw [oy.sg] at b3; cases b3
  have b4 : andB (wd (mulF x y) (dueOf (wx * wy) sx sy)) (orB (is0 sy) (wd (overF x y) (dueOf (wx * wy) sx sy))) = true := b4
  rw [dueOf_eq] at b4
  obtain ⟨a5, a6⟩ := andB_and b4
  refine ⟨wd_of a1, wd_of a3, wd_of a5, fun hs => ?_⟩
  rcases orB_or a6 with z | z
  · rw [is0_eq] at z
    exact absurd (by simpa using z) hs
  · exact wd_of z
section
variable {P : Program} {w : World} {K : Frag} {mg : Str → Option Value} {base : Heap} {C fI : Addr} {fd : FuncData} {a : Ad}
theorem told_of {P1 P2 : Addr} {H : Hp} {G : GX} {x y : AV} {d : Int} {Q : VK} (h : Wd (G x y) d) (q : ∀ v H', Keep H H' → LI P1 P2 H' → ((12 < d ∧ v = .str "TooGreat") ∨ (d ≤ 12 ∧ ∃ r, Rl K C H' r v ∧ okW r d = true)) → Q v H') : ∃ res, G x y = some res ∧ Told K C P1 P2 H res Q := by
  obtain ⟨o, e, h⟩ := h
  refine ⟨o, e, fun r er v H' k l rl => q v H' k l ?_, fun en H' k l => q _ H' k l ?_⟩
  · rcases h with ⟨_, z⟩ | ⟨hd, r', z, ok⟩
    · rw [z] at er; cases er
    · rw [z] at er; cases er
      exact .inr ⟨hd, r, rl, ok⟩
  · rcases h with ⟨hd, z⟩ | ⟨hd, r', z, ok⟩
    · exact .inl ⟨hd, rfl⟩
    · rw [z] at en; cases en
theorem wd_call {H : Hp} {Q : VK} {E : XK} {v : V} {d : Int} (h : (12 < d ∧ v = .str "TooGreat") ∨ (d ≤ 12 ∧ ∃ r, Rl K C H r v ∧ okW r d = true)) (q : ∀ H', Same H H' → Q (.bl true) H') : spWd K C [v, .int d] H Q E := by
  rcases h with ⟨hd, rfl⟩ | ⟨hd, r, rl, ok⟩
  · exact ⟨d, .inl ⟨hd, rfl, q⟩⟩
  · exact ⟨d, .inr ⟨hd, r, v, rfl, rl, ok, q⟩⟩
theorem ok_law {fa c cr P1 P2 : Addr} {fdl : FuncData} (T : Nm mg) (RC : Rc K mg C fI fd)
    (g_law_cell : FnB P w K mg base 46 "_law_cell" ["_law_script", "_law_k"] (spCell K)) (g_law_drawn : FnB P w K mg base 46 "_law_drawn" ["_law_cell_here", "_law_k"] spDrawn) (g_law_of_weight : FnB P w K mg base 46 "_law_of_weight" ["_law_more"] (spOW K C))
    (g_weight_of : FnB P w K mg base 46 "weight_of" ["number"] (spEv K C f_weight_of 1)) (g_opposite : FnB P w K mg base 46 "opposite" ["number"] (spEv K C f_opposite 1)) (g_inverse : FnB P w K mg base 46 "inverse" ["number"] (spEv K C f_inverse 1)) (g_sign_of : FnB P w K mg base 46 "sign_of" ["number"] (spEv K C f_sign_of 1))
    (g_as_ratio : FnB P w K mg base 46 "as_ratio" ["number"] (spEv K C f_as_ratio 1)) (g_of_ratio : FnB P w K mg base 46 "of_ratio" ["given"] (spEv K C f_of_ratio 1)) (g_nth : FnB P w K mg base 46 "nth" ["poly", "k"] (spEv K C f_nth 2)) (g_law_weighed : FnB P w K mg base 46 "_law_weighed" ["_law_told_here", "_law_due"] (spWd K C))
    (g_multiplied_by : FnB P w K mg base 46 "multiplied_by" ["one", "other"] (spM K C P2 mulF)) (g_over : FnB P w K mg base 46 "over" ["one", "other"] (spM K C P2 overF))
    (g_told1 : FnGB P w K mg base CX0 true 46 "_law_told" ["_law_rule"] (spTold K C P1 P2 lam1 addF))
    (g_told2 : FnGB P w K mg base CX0 true 46 "_law_told" ["_law_rule"] (spTold K C P1 P2 lam2 lessF))
    (g_told3 : FnGB P w K mg base CX0 true 46 "_law_told" ["_law_rule"] (spTold K C P1 P2 lam3 mulF))
    (g_told4 : FnGB P w K mg base CX0 true 46 "_law_told" ["_law_rule"] (spTold K C P1 P2 lam4 overF))
    (g_told5 : FnGB P w K mg base CX0 true 46 "_law_told" ["_law_rule"] (spTold5 K C P1 P2 mulF))
    (F : Fun K "law" "law" s_law fa fdl) (hfd : fdl.code = .ref c) (hc : CodeHd base c P1) (B : SF.BMain base mg) (hne : P1 ≠ P2) : FnG P w K mg base CX0 true 47 fa fdl ["_law_script"] (fun _ => spLaw K [(c, P1), (cr, P2)]) := by
  refine F.okG sc_law (fun s vs H Q E h => ?_) (fun cdv A outer s H vs Q E hcd hcv hr0 h => ?_)
  · obtain ⟨sa, ns, rfl, _⟩ := h
    rfl
  obtain ⟨sa, ns, rfl, hS, hl, hP, q⟩ := h
  obtain rfl : Value.ref c = cdv := hfd.symm.trans hcv
  have hr := hr0.calm
  obtain ⟨c1, c2, c3, k1, k2, k3, n12, hcl1, hcl2, hcl3, hcl4, hcl5⟩ : ∃ c1 c2 c3, (envOfC "law" (defScope s_law) s.heap.objs.size fa (.ref c)).cells.lookup ("_law_one" : Str) = some c1 ∧ (envOfC "law" (defScope s_law) s.heap.objs.size fa (.ref c)).cells.lookup ("_law_other" : Str) = some c2 ∧ (envOfC "law" (defScope s_law) s.heap.objs.size fa (.ref c)).cells.lookup ("_law_great" : Str) = some c3 ∧ c1 ≠ c2 ∧
      closureFor (scL lam1) (envOfC "law" (defScope s_law) s.heap.objs.size fa (.ref c)) = pure (clC c1 c2) ∧ closureFor (scL lam2) (envOfC "law" (defScope s_law) s.heap.objs.size fa (.ref c)) = pure (clC c1 c2) ∧ closureFor (scL lam3) (envOfC "law" (defScope s_law) s.heap.objs.size fa (.ref c)) = pure (clC c1 c2) ∧ closureFor (scL lam4) (envOfC "law" (defScope s_law) s.heap.objs.size fa (.ref c)) = pure (clC c1 c2) ∧
      closureFor (scL lam5) (envOfC "law" (defScope s_law) s.heap.objs.size fa (.ref c)) = pure (clG c3) := ⟨_, _, _, rfl, rfl, rfl, by intro z; simp at z, cl1 _ _ _, cl2 _ _ _, cl3 _ _ _, cl4 _ _ _, cl5 _ _ _⟩
  obtain ⟨R1, hR1⟩ : ∃ R : List V → Hp → L2.St → VK → Prop, R = fun vs H1 σ Q1 => ∃ (f c' : Addr) (oc : Obj) (v1 v2 : V) (x y : AV) (res : Option AV), vs = [.ref f] ∧ H1 f = some (lamO f "<lambda>" lawQ (argsL lam1) (bodyL lam1) (scL lam1) (clC c1 c2) c') ∧ H1 c' = some (.frz oc (.own 0)) ∧ CdO oc lawQ ∧ LI P1 P2 H1 ∧ σ[2]? = some (some v1) ∧ Rl K C H1 x v1 ∧ σ[4]? = some (some v2) ∧ Rl K C H1 y v2 ∧ addF x y = some res ∧ Told K C P1 P2 H1 res Q1 := ⟨_, rfl⟩
  have hRR1 : ∀ pins σ1 H1 s1 vs Q1, Inv (cxG CX0 true P w K mg base ["_law_script", "_law_k", "_law_one", "_law_first", "_law_other", "_law_second", "_law_due", "_law_zero", "_law_great"] "law" (defScope s_law) fa (.ref c) A outer s H E).nox pins σ1 H1 s1 → R1 vs H1 σ1 Q1 → spTold K C P1 P2 lam1 addF s1 vs H1 Q1 E0 := by
    intro pins σ1 H1 s1 vs Q1 J r
    rw [hR1] at r
    obtain ⟨f, c', oc, v1, v2, x, y, res, rfl, e1, e2, e3, e4, e5, e6, e7, e8, e9, q1⟩ := r
    obtain ⟨m1, hn, hlo⟩ := J.loc
    obtain ⟨u1, ru1, lk1⟩ := hlo 2 "_law_one" v1 rfl e5 (Or.inr (Or.inl rfl))
    obtain ⟨u2, ru2, lk2⟩ := hlo 4 "_law_other" v2 rfl e7 (Or.inr (Or.inl rfl))
    rcases lk1 with ⟨y1, _⟩ | ⟨_, d1, y1, y2⟩
    · cases y1
    rcases lk2 with ⟨y1, _⟩ | ⟨_, d2, y3, y4⟩
    · cases y1
    have ec : d1 = c1 := Option.some.inj (y1.symm.trans k1)
    subst ec
    have ec : d2 = c2 := Option.some.inj (y3.symm.trans k2)
    subst ec
    exact ⟨f, c', d1, d2, oc, u1, u2, v1, v2, x, y, res, rfl, e1, e2, e3, e4, n12, ⟨J.freeC _ _ y1, y2, ru1, e6⟩, ⟨J.freeC _ _ y3, y4, ru2, e8⟩, e9, q1⟩
  obtain ⟨R2, hR2⟩ : ∃ R : List V → Hp → L2.St → VK → Prop, R = fun vs H1 σ Q1 => ∃ (f c' : Addr) (oc : Obj) (v1 v2 : V) (x y : AV) (res : Option AV), vs = [.ref f] ∧ H1 f = some (lamO f "<lambda>" lawQ (argsL lam2) (bodyL lam2) (scL lam2) (clC c1 c2) c') ∧ H1 c' = some (.frz oc (.own 0)) ∧ CdO oc lawQ ∧ LI P1 P2 H1 ∧ σ[2]? = some (some v1) ∧ Rl K C H1 x v1 ∧ σ[4]? = some (some v2) ∧ Rl K C H1 y v2 ∧ lessF x y = some res ∧ Told K C P1 P2 H1 res Q1 := ⟨_, rfl⟩
  have hRR2 : ∀ pins σ1 H1 s1 vs Q1, Inv (cxG CX0 true P w K mg base ["_law_script", "_law_k", "_law_one", "_law_first", "_law_other", "_law_second", "_law_due", "_law_zero", "_law_great"] "law" (defScope s_law) fa (.ref c) A outer s H E).nox pins σ1 H1 s1 → R2 vs H1 σ1 Q1 → spTold K C P1 P2 lam2 lessF s1 vs H1 Q1 E0 := by
    intro pins σ1 H1 s1 vs Q1 J r
    rw [hR2] at r
    obtain ⟨f, c', oc, v1, v2, x, y, res, rfl, e1, e2, e3, e4, e5, e6, e7, e8, e9, q1⟩ := r
    obtain ⟨m1, hn, hlo⟩ := J.loc
    obtain ⟨u1, ru1, lk1⟩ := hlo 2 "_law_one" v1 rfl e5 (Or.inr (Or.inl rfl))
    obtain ⟨u2, ru2, lk2⟩ := hlo 4 "_law_other" v2 rfl e7 (Or.inr (Or.inl rfl))
    rcases lk1 with ⟨y1, _⟩ | ⟨_, d1, y1, y2⟩
    · cases y1
    rcases lk2 with ⟨y1, _⟩ | ⟨_, d2, y3, y4⟩
    · cases y1
    have ec : d1 = c1 := Option.some.inj (y1.symm.trans k1)
    subst ec
    have ec : d2 = c2 := Option.some.inj (y3.symm.trans k2)
    subst ec
    exact ⟨f, c', d1, d2, oc, u1, u2, v1, v2, x, y, res, rfl, e1, e2, e3, e4, n12, ⟨J.freeC _ _ y1, y2, ru1, e6⟩, ⟨J.freeC _ _ y3, y4, ru2, e8⟩, e9, q1⟩
  obtain ⟨R3, hR3⟩ : ∃ R : List V → Hp → L2.St → VK → Prop, R = fun vs H1 σ Q1 => ∃ (f c' : Addr) (oc : Obj) (v1 v2 : V) (x y : AV) (res : Option AV), vs = [.ref f] ∧ H1 f = some (lamO f "<lambda>" lawQ (argsL lam3) (bodyL lam3) (scL lam3) (clC c1 c2) c') ∧ H1 c' = some (.frz oc (.own 0)) ∧ CdO oc lawQ ∧ LI P1 P2 H1 ∧ σ[2]? = some (some v1) ∧ Rl K C H1 x v1 ∧ σ[4]? = some (some v2) ∧ Rl K C H1 y v2 ∧ mulF x y = some res ∧ Told K C P1 P2 H1 res Q1 := ⟨_, rfl⟩
  have hRR3 : ∀ pins σ1 H1 s1 vs Q1, Inv (cxG CX0 true P w K mg base ["_law_script", "_law_k", "_law_one", "_law_first", "_law_other", "_law_second", "_law_due", "_law_zero", "_law_great"] "law" (defScope s_law) fa (.ref c) A outer s H E).nox pins σ1 H1 s1 → R3 vs H1 σ1 Q1 → spTold K C P1 P2 lam3 mulF s1 vs H1 Q1 E0 := by
    intro pins σ1 H1 s1 vs Q1 J r
    rw [hR3] at r
    obtain ⟨f, c', oc, v1, v2, x, y, res, rfl, e1, e2, e3, e4, e5, e6, e7, e8, e9, q1⟩ := r
    obtain ⟨m1, hn, hlo⟩ := J.loc
    obtain ⟨u1, ru1, lk1⟩ := hlo 2 "_law_one" v1 rfl e5 (Or.inr (Or.inl rfl))
    obtain ⟨u2, ru2, lk2⟩ := hlo 4 "_law_other" v2 rfl e7 (Or.inr (Or.inl rfl))
    rcases lk1 with ⟨y1, _⟩ | ⟨_, d1, y1, y2⟩
    · cases y1
    rcases lk2 with ⟨y1, _⟩ | ⟨_, d2, y3, y4⟩
    · cases y1
    have ec : d1 = c1 := Option.some.inj (y1.symm.trans k1)
    subst ec
    have ec : d2 = c2 := Option.some.inj (y3.symm.trans k2)
    subst ec
    exact ⟨f, c', d1, d2, oc, u1, u2, v1, v2, x, y, res, rfl, e1, e2, e3, e4, n12, ⟨J.freeC _ _ y1, y2, ru1, e6⟩, ⟨J.freeC _ _ y3, y4, ru2, e8⟩, e9, q1⟩
  obtain ⟨R4, hR4⟩ : ∃ R : List V → Hp → L2.St → VK → Prop, R = fun vs H1 σ Q1 => ∃ (f c' : Addr) (oc : Obj) (v1 v2 : V) (x y : AV) (res : Option AV), vs = [.ref f] ∧ H1 f = some (lamO f "<lambda>" lawQ (argsL lam4) (bodyL lam4) (scL lam4) (clC c1 c2) c') ∧ H1 c' = some (.frz oc (.own 0)) ∧ CdO oc lawQ ∧ LI P1 P2 H1 ∧ σ[2]? = some (some v1) ∧ Rl K C H1 x v1 ∧ σ[4]? = some (some v2) ∧ Rl K C H1 y v2 ∧ overF x y = some res ∧ Told K C P1 P2 H1 res Q1 := ⟨_, rfl⟩
  have hRR4 : ∀ pins σ1 H1 s1 vs Q1, Inv (cxG CX0 true P w K mg base ["_law_script", "_law_k", "_law_one", "_law_first", "_law_other", "_law_second", "_law_due", "_law_zero", "_law_great"] "law" (defScope s_law) fa (.ref c) A outer s H E).nox pins σ1 H1 s1 → R4 vs H1 σ1 Q1 → spTold K C P1 P2 lam4 overF s1 vs H1 Q1 E0 := by
    intro pins σ1 H1 s1 vs Q1 J r
    rw [hR4] at r
    obtain ⟨f, c', oc, v1, v2, x, y, res, rfl, e1, e2, e3, e4, e5, e6, e7, e8, e9, q1⟩ := r
    obtain ⟨m1, hn, hlo⟩ := J.loc
    obtain ⟨u1, ru1, lk1⟩ := hlo 2 "_law_one" v1 rfl e5 (Or.inr (Or.inl rfl))
    obtain ⟨u2, ru2, lk2⟩ := hlo 4 "_law_other" v2 rfl e7 (Or.inr (Or.inl rfl))
    rcases lk1 with ⟨y1, _⟩ | ⟨_, d1, y1, y2⟩
    · cases y1
    rcases lk2 with ⟨y1, _⟩ | ⟨_, d2, y3, y4⟩
    · cases y1
    have ec : d1 = c1 := Option.some.inj (y1.symm.trans k1)
    subst ec
    have ec : d2 = c2 := Option.some.inj (y3.symm.trans k2)
    subst ec
    exact ⟨f, c', d1, d2, oc, u1, u2, v1, v2, x, y, res, rfl, e1, e2, e3, e4, n12, ⟨J.freeC _ _ y1, y2, ru1, e6⟩, ⟨J.freeC _ _ y3, y4, ru2, e8⟩, e9, q1⟩
  obtain ⟨R5, hR5⟩ : ∃ R : List V → Hp → L2.St → VK → Prop, R = fun vs H1 σ Q1 => ∃ (f c' : Addr) (oc : Obj) (v3 : V) (x : AV) (res : Option AV), vs = [.ref f] ∧ H1 f = some (lamO f "<lambda>" lawQ (argsL lam5) (bodyL lam5) (scL lam5) (clG c3) c') ∧ H1 c' = some (.frz oc (.own 0)) ∧ CdO oc lawQ ∧ LI P1 P2 H1 ∧ σ[8]? = some (some v3) ∧ Rl K C H1 x v3 ∧ mulF x x = some res ∧ Told K C P1 P2 H1 res Q1 := ⟨_, rfl⟩
  have hRR5 : ∀ pins σ1 H1 s1 vs Q1, Inv (cxG CX0 true P w K mg base ["_law_script", "_law_k", "_law_one", "_law_first", "_law_other", "_law_second", "_law_due", "_law_zero", "_law_great"] "law" (defScope s_law) fa (.ref c) A outer s H E).nox pins σ1 H1 s1 → R5 vs H1 σ1 Q1 → spTold5 K C P1 P2 mulF s1 vs H1 Q1 E0 := by
    intro pins σ1 H1 s1 vs Q1 J r
    rw [hR5] at r
    obtain ⟨f, c', oc, v3, x, res, rfl, e1, e2, e3, e4, e5, e6, e9, q1⟩ := r
    obtain ⟨m1, hn, hlo⟩ := J.loc
    obtain ⟨u3, ru3, lk3⟩ := hlo 8 "_law_great" v3 rfl e5 (Or.inr (Or.inl rfl))
    rcases lk3 with ⟨y1, _⟩ | ⟨_, d3, y5, y6⟩
    · cases y1
    have ec : d3 = c3 := Option.some.inj (y5.symm.trans k3)
    subst ec
    exact ⟨f, c', d3, oc, u3, v3, x, res, rfl, e1, e2, e3, e4, ⟨J.freeC _ _ y5, y6, ru3, e6⟩, e9, q1⟩
  refine ⟨_, PSs.nox (pss_cons (ps_for PassesOwn.never rfl (pi_range1 rfl T.n_range (pa_cons (pe_callB (call_max2 rfl) rfl T.n_max boot_max (pa_cons pe_int (pa_cons (pe_callB (call_min2 rfl) rfl T.n_min boot_min (pa_cons pe_int (pa_cons (pe_callB call_len_seq rfl T.n_len boot_len (pa_cons (pv 0) pa_nil)) pa_nil))) pa_nil))) pa_nil)) (pg_name (i := 1) sc_law.nd rfl (Or.inl rfl))
    (pss_cons (ps_asg (pe_fn g_law_of_weight hr (pa_cons (pe_fn g_law_drawn hr (pa_cons (pe_fn g_law_cell hr (pa_cons (pv 0) (pa_cons (pv 1) pa_nil))) (pa_cons (pv 1) pa_nil))) pa_nil)) (pg_tup rfl (pgs_cons (pg_name (i := 2) sc_law.nd rfl (Or.inr rfl)) (pgs_cons (pg_name (i := 3) sc_law.nd rfl (Or.inl rfl)) pgs_nil))))
    (pss_cons (ps_asg (pe_fn g_law_of_weight hr (pa_cons (pe_fn g_law_drawn hr (pa_cons (pe_fn g_law_cell hr (pa_cons (pv 0) (pa_cons (pv 1) pa_nil))) (pa_cons (pe_op op_add (pv 1) pe_int) pa_nil))) pa_nil)) (pg_tup rfl (pgs_cons (pg_name (i := 4) sc_law.nd rfl (Or.inr rfl)) (pgs_cons (pg_name (i := 5) sc_law.nd rfl (Or.inl rfl)) pgs_nil))))
    (pss_cons (ps_if (PW.pt (pw_or (pt_cmpR op_ne (pe_fn g_weight_of hr (pa_cons (pv 2) pa_nil)) (pv 3) (nomark _)) (pw_or1 (pt_cmpR op_ne (pe_fn g_weight_of hr (pa_cons (pe_fn g_opposite hr (pa_cons (pv 2) pa_nil)) pa_nil)) (pv 3) (nomark _)))))
    (pss_one (ps_ret pe_bl))
    pss_nil)
    (pss_cons (ps_if (PW.pt (pw_or (pt_cmpR op_gt (pe_op op_mulL (pv 3) (pv 5)) pe_int (nomark _)) (pw_or1 (pt_cmpR op_lt (pe_op op_mulL (pv 3) (pv 5)) pe_int (nomark _)))))
    (pss_cons (ps_if (pt_not (pt_val (pe_fn g_law_weighed hr (pa_cons (pe_fnS (R := R1) (E := E0) g_told1 (roomG hr) pass0 (pa_cons (pe_lam2 (P := P1) (cl := clC c1 c2) rfl hc hcl1 rfl B) pa_nil) hRR1) (pa_cons (pe_op op_mulL (pv 3) (pv 5)) pa_nil)))))
    (pss_one (ps_ret pe_bl))
    pss_nil)
    (pss_cons (ps_if (pt_not (pt_val (pe_fn g_law_weighed hr (pa_cons (pe_fnS (R := R2) (E := E0) g_told2 (roomG hr) pass0 (pa_cons (pe_lam2 (P := P1) (cl := clC c1 c2) rfl hc hcl2 rfl B) pa_nil) hRR2) (pa_cons (pe_op op_mulL (pv 3) (pv 5)) pa_nil)))))
    (pss_one (ps_ret pe_bl))
    pss_nil)
    (pss_cons (ps_set (i := 6) sc_law.nd rfl (Or.inl rfl) (pe_op op_mulL (pv 3) (pv 5)))
    (pss_cons (ps_if (pt_cmpR op_in_seq pe_int (pe_lst (pa_cons (pe_fn g_sign_of hr (pa_cons (pv 2) pa_nil)) (pa_cons (pe_fn g_sign_of hr (pa_cons (pv 4) pa_nil)) pa_nil))) rfl)
    (pss_one (ps_set (i := 6) sc_law.nd rfl (Or.inl rfl) pe_int))
    pss_nil)
    (pss_cons (ps_if (pt_not (pt_val (pe_fn g_law_weighed hr (pa_cons (pe_fnS (R := R3) (E := E0) g_told3 (roomG hr) pass0 (pa_cons (pe_lam2 (P := P1) (cl := clC c1 c2) rfl hc hcl3 rfl B) pa_nil) hRR3) (pa_cons (pv 6) pa_nil)))))
    (pss_one (ps_ret pe_bl))
    pss_nil)
    (pss_one (ps_if (PW.pt (pw_and (pt_cmpR op_ne (pe_fn g_sign_of hr (pa_cons (pv 4) pa_nil)) pe_int (nomark _)) (pw_and1 (pt_not (pt_val (pe_fn g_law_weighed hr (pa_cons (pe_fnS (R := R4) (E := E0) g_told4 (roomG hr) pass0 (pa_cons (pe_lam2 (P := P1) (cl := clC c1 c2) rfl hc hcl4 rfl B) pa_nil) hRR4) (pa_cons (pv 6) pa_nil))))))))
    (pss_one (ps_ret pe_bl))
    pss_nil)))))))
    pss_nil)
    (pss_one (ps_if (PW.pt (pw_and (pt_cmpR op_ne (pe_fn g_sign_of hr (pa_cons (pv 2) pa_nil)) pe_int (nomark _)) (pw_and1 (pt_cmpR op_ne (pe_fn g_weight_of hr (pa_cons (pe_fn g_inverse hr (pa_cons (pv 2) pa_nil)) pa_nil)) (pv 3) (nomark _)))))
    (pss_one (ps_ret pe_bl))
    pss_nil)))))))
    (pss_cons (ps_set (i := 7) sc_law.nd rfl (Or.inl rfl) (pe_fn g_of_ratio hr (pa_cons (pe_tup (pa_cons pe_int (pa_cons pe_int pa_nil))) pa_nil)))
    (pss_cons (ps_set (i := 8) sc_law.nd rfl (Or.inr rfl) (pe_fn g_nth hr (pa_cons (pe_op op_cat (pe_op op_cat (pe_lst (pa_cons (pe_un un_neg pe_int) pa_nil)) (pe_op op_rep (pe_lst (pa_cons pe_int pa_nil)) pe_int)) (pe_lst (pa_cons pe_int pa_nil))) (pa_cons pe_int pa_nil))))
    (pss_cons (ps_if (PW.pt (pw_or (pt_cmpR (op_ne2 hr.units0) (pe_fn g_as_ratio hr (pa_cons (pe_fn g_multiplied_by hr (pa_cons (pv 7) (pa_cons (pv 8) pa_nil))) pa_nil)) (pe_tup (pa_cons pe_int (pa_cons pe_int pa_nil))) (nomark _)) (pw_or1 (pt_cmpR (op_ne2 hr.units0) (pe_fn g_as_ratio hr (pa_cons (pe_fn g_over hr (pa_cons (pv 7) (pa_cons (pv 8) pa_nil))) pa_nil)) (pe_tup (pa_cons pe_int (pa_cons pe_int pa_nil))) (nomark _)))))
    (pss_one (ps_ret pe_bl))
    pss_nil)
    (pss_one (ps_ret (pe_and (pe_cmpR op_eq (pe_fnS (R := R5) (E := E0) g_told5 (roomG hr) pass0 (pa_cons (pe_lam2 (P := P1) (cl := clG c3) rfl hc hcl5 rfl B) pa_nil) hRR5) pe_str (nomark _)) (pe_one (pe_cmpR op_eq (pe_fn g_weight_of hr (pa_cons (pv 8) pa_nil)) pe_int (nomark _)))))))))), ?_⟩
  have li0 : LI P1 P2 H := ⟨hne, ⟨#[], hP (c, P1) (by simp), trivial, fun pos v e => by cases e⟩, ⟨#[], hP (cr, P2) (by simp), trivial, fun pos v e => by cases e⟩⟩
  walk_at "sf"
  refine ⟨sa, _, rfl, .inl hS, ?_⟩
  generalize hln : (((ns.map V.int).length : Nat) : Int) = ln
  walk_at "sf"
  refine ⟨_, _, rfl, ?_⟩
  walk_at "sf"
  refine ⟨_, _, rfl, ?_⟩
  walk_at "sf"
  generalize hm : (if (if ln < 2 then ln else 2) > 1 then (if ln < 2 then ln else 2) else 1) = mm
  have m2 : 0 ≤ mm ∧ mm ≤ 2 := by rw [← hm]; split <;> (try split) <;> lia
  refine ⟨mm, rfl, by lia, by lia, ?_⟩
  refine for_range (fun k σ H' => (∃ (r1 r2 r3 r4 r5 r6 r7 r8 : Option V), σ = [some (.ref sa), r1, r2, r3, r4, r5, r6, r7, r8]) ∧ Keep H H' ∧ LI P1 P2 H') ⟨⟨_, _, _, _, _, _, _, _, rfl⟩, Keep.refl _, li0⟩ ?_ ?_
  · rintro k σ H' hk ⟨⟨r1, r2, r3, r4, r5, r6, r7, r8, rfl⟩, kp, li⟩
    walk_at "sf"
    refine ⟨sa, ns, _, rfl, kp.seq hS, hl, by lia, fun cc H1 s1 => ?_⟩
    walk_at "sf"
    refine ⟨cc, _, rfl, fun m hm hb => ?_⟩
    walk_at "sf"
    refine ⟨m, rfl, hm, hb, fun x wx hx v2 H2 s2 rt => ?_⟩
    obtain ⟨p2, vs2, rfl, e2, f2⟩ := rt.tup'
    obtain ⟨vx, vw, rfl, rx, rw⟩ := f2.two
    cases rw
    walk_at "sf"
    refine r_gtup e2 rfl ?_
    walk_at "sf"
    have s12 := s1.trans s2
    have kp2 := kp.trans (Keep.of s12)
    have li2 := li.same s12
    refine ⟨sa, ns, _, rfl, kp2.seq hS, hl, by lia, fun cc3 H3 s3 => ?_⟩
    walk_at "sf"
    refine ⟨cc3, _, rfl, fun m3 hm3 hb3 => ?_⟩
    walk_at "sf"
    refine ⟨m3, rfl, hm3, hb3, fun y wy hy v4 H4 s4 rt4 => ?_⟩
    obtain ⟨p4, vs4, rfl, e4, f4⟩ := rt4.tup'
    obtain ⟨vy, vw4, rfl, ry, rw4⟩ := f4.two
    cases rw4
    walk_at "sf"
    refine r_gtup e4 rfl ?_
    walk_at "sf"
    have s34 := s3.trans s4
    have kp4 := kp2.trans (Keep.of s34)
    have li4 := li2.same s34
    have rx4 := rx.mono s34
    obtain ⟨sx, ox⟩ := one_of_tbl hx
    obtain ⟨sy, oy⟩ := one_of_tbl hy
    obtain ⟨px, qx', ex⟩ := ox.root
    obtain ⟨py, qy', ey⟩ := oy.root
    obtain ⟨po, qo, eo⟩ := ox.opp
    have mul2 : IntMulOk wx wy := mulOk (m := 10) (n := 10) (Bd.of_range (by have := wt_small hx; lia) (by have := wt_small hx; lia)) (Bd.of_range (by have := wt_small hy; lia) (by have := wt_small hy; lia)) (by decide)
    refine ev_mk (Same.refl' H4) (.cons rx4 .nil) rfl (show f_weight_of [x] = some (.int wx) by rw [ex]; rfl) fun v5 Hf5 H5 s5 r5 => ?_
    cases r5
    walk_at "sf"
    rw [decide_eq_true rfl]
    refine iteF ?_
    walk_at "sf"
    refine ev_mk (Same.refl' H5) (.cons (rx4.mono s5.hh) .nil) rfl eo fun v6 Hf6 H6 s6 r6 => ?_
    walk_at "sf"
    refine ev_mk s6.fh (.cons r6 .nil) rfl (show f_weight_of [AV.root po qo (.int wx)] = some (.int wx) from rfl) fun v7 Hf7 H7 s7 r7 => ?_
    cases r7
    walk_at "sf"
    rw [decide_eq_true rfl]
    refine iteF ?_
    have s47 := s5.hh.trans (s6.trans s7).hh
    have kp7 := kp4.trans (Keep.of s47)
    have li7 := li4.same s47
    have rx7 := rx4.mono s47
    have ry7 := ry.mono s47
    clear r6 s5 s6 s7
    refine r_next ?_
    try dsimp only
    with_reducible refine seq_cut (fun σ' H' => (∃ (r6 r7 r8 : Option V), σ' = [some (.ref sa), some (.int (0 + (k : Int))), some vx, some (.int wx), some vy, some (.int wy), r6, r7, r8]) ∧ Keep H7 H' ∧ LI P1 P2 H') (fun D' hD => ?_) ?_
    · walk_at "sf"
      refine r_i mul2 ?_
      walk_at "sf"
      have two' : (12 < wx * wy ∨ wx * wy < 5) → Two x y (wx * wy) sx sy := two_of_tbl hx hy ox oy
      by_cases hg : 12 < wx * wy
      case' pos =>
        rw [decide_eq_true hg]
        refine iteT ?_
        refine iteT ?_
        have two := two' (.inl hg)
        clear two' hg
      case' neg =>
        rw [decide_eq_false hg]
        refine iteF ?_
        walk_at "sf"
        refine r_i mul2 ?_
        walk_at "sf"
        by_cases hg2 : wx * wy < 5
        case neg =>
          rw [decide_eq_false hg2]
          refine iteF ?_
          refine r_next ?_
          exact hD _ _ ⟨⟨_, _, _, rfl⟩, Keep.refl _, li7⟩
        case' pos =>
          rw [decide_eq_true hg2]
          refine iteT ?_
          have two := two' (.inr hg2)
          clear two' hg hg2
      all_goals
        walk_at "sf"
        refine r_callS ?_
        walk_at "sf"
        refine lam_step li7.t1 fun f8 c8' oc8 H8a k8 tb8 hf8 hc8 hcd8 => ?_
        have kp8a := keep_lam li7.t1.tb k8
        have li8a := li7.lam k8 tb8
        walk_at "sf"
        rw [hR1]
        refine (told_of (K := K) (C := C) (P1 := P1) (P2 := P2) (H := H8a) two.add fun v8 H8 kp8b li8 hv8 => ?_).elim fun res ht => ⟨f8, c8', oc8, _, _, x, y, res, rfl, hf8, hc8, hcd8, li8a, rfl, rl_keep kp8a rx7, rfl, rl_keep kp8a ry7, ht.1, ht.2⟩
        have kp8 := kp8a.trans kp8b
        have rx8 := rl_keep kp8 rx7
        have ry8 := rl_keep kp8 ry7
        walk_at "sf"
        refine r_i mul2 ?_
        walk_at "sf"
        refine wd_call hv8 fun H9 s9 => ?_
        walk_at "sf"
        refine iteF ?_
        refine r_next ?_
        have rx9 := rx8.mono s9
        have ry9 := ry8.mono s9
        have li9 := li8.same s9
        have kp9 := kp8.trans (Keep.of s9)
        walk_at "sf"
        refine r_callS ?_
        walk_at "sf"
        refine lam_step li9.t1 fun f10 c10' oc10 H10a k10 tb10 hf10 hc10 hcd10 => ?_
        have kp10a := keep_lam li9.t1.tb k10
        have li10a := li9.lam k10 tb10
        walk_at "sf"
        rw [hR2]
        refine (told_of (K := K) (C := C) (P1 := P1) (P2 := P2) (H := H10a) two.less fun v10 H10 kp10b li10 hv10 => ?_).elim fun res ht => ⟨f10, c10', oc10, _, _, x, y, res, rfl, hf10, hc10, hcd10, li10a, rfl, rl_keep kp10a rx9, rfl, rl_keep kp10a ry9, ht.1, ht.2⟩
        have kp10 := kp10a.trans kp10b
        have rx10 := rl_keep kp10 rx9
        have ry10 := rl_keep kp10 ry9
        walk_at "sf"
        refine r_i mul2 ?_
        walk_at "sf"
        refine wd_call hv10 fun H11 s11 => ?_
        walk_at "sf"
        refine iteF ?_
        refine r_next ?_
        have rx11 := rx10.mono s11
        have ry11 := ry10.mono s11
        have li11 := li10.same s11
        have kp11 := kp9.trans (kp10.trans (Keep.of s11))
        try dsimp only
        refine r_seq ?_
        refine r_set ?_
        refine r_op ?_
        walk_at "sf"
        refine r_i mul2 ?_
        try dsimp only
        with_reducible refine seq_cut (fun σ' H' => σ' = [some (.ref sa), some (.int (0 + (k : Int))), some vx, some (.int wx), some vy, some (.int wy), some (.int (if sx = 0 ∨ sy = 0 then 1 else wx * wy)), r7, r8] ∧ Same H11 H') (fun D2 hD2 => ?_) ?_
        · walk_at "sf"
          refine ev_mk (Same.refl' H11) (.cons rx11 .nil) rfl ox.sg fun v12 Hf12 H12 s12' r12 => ?_
          cases r12
          walk_at "sf"
          refine ev_mk (Same.refl' H12) (.cons (ry11.mono s12'.hh) .nil) rfl oy.sg fun v13 Hf13 H13 s13 r13 => ?_
          cases r13
          walk_at "sf"
          intro p14 hp14
          have s14 := Same.new hp14 (.lst [.int sx, .int sy])
          walk_at "sf"
          refine ⟨p14, _, rfl, .inl (SqL.of upd_same), rfl, rfl, ?_⟩
          rw [in_two]
          walk_at "sf"
          have s1114 := s12'.hh.trans (s13.hh.trans s14)
          by_cases hz : sx = 0 ∨ sy = 0
          · rw [decide_eq_true hz]
            refine iteT ?_
            walk_at "sf"
            exact hD2 _ _ ⟨by rw [if_pos hz]; rfl, s1114⟩
          · rw [decide_eq_false hz]
            refine iteF ?_
            refine r_next ?_
            exact hD2 _ _ ⟨by rw [if_neg hz]; rfl, s1114⟩
        rintro σ2 H15 ⟨rfl, s15⟩
        have rx15 := rx11.mono s15
        have ry15 := ry11.mono s15
        have li15 := li11.same s15
        have kp15 := kp11.trans (Keep.of s15)
        walk_at "sf"
        refine r_callS ?_
        walk_at "sf"
        refine lam_step li15.t1 fun f16 c16' oc16 H16a k16 tb16 hf16 hc16 hcd16 => ?_
        have kp16a := keep_lam li15.t1.tb k16
        have li16a := li15.lam k16 tb16
        walk_at "sf"
        rw [hR3]
        refine (told_of (K := K) (C := C) (P1 := P1) (P2 := P2) (H := H16a) two.mul fun v16 H16 kp16b li16 hv16 => ?_).elim fun res ht => ⟨f16, c16', oc16, _, _, x, y, res, rfl, hf16, hc16, hcd16, li16a, rfl, rl_keep kp16a rx15, rfl, rl_keep kp16a ry15, ht.1, ht.2⟩
        have kp16 := kp16a.trans kp16b
        have rx16 := rl_keep kp16 rx15
        have ry16 := rl_keep kp16 ry15
        walk_at "sf"
        refine wd_call hv16 fun H17 s17 => ?_
        walk_at "sf"
        refine iteF ?_
        refine r_next ?_
        have rx17 := rx16.mono s17
        have ry17 := ry16.mono s17
        have li17 := li16.same s17
        have kp17 := kp15.trans (kp16.trans (Keep.of s17))
        walk_at "sf"
        refine ev_mk (Same.refl' H17) (.cons ry17 .nil) rfl oy.sg fun v18 Hf18 H18 s18 r18 => ?_
        cases r18
        walk_at "sf"
        have rx18 := rx17.mono s18.hh
        have ry18 := ry17.mono s18.hh
        have li18 := li17.same s18.hh
        have kp18 := kp17.trans (Keep.of s18.hh)
        by_cases hsy : sy = 0
        · rw [decide_eq_true hsy]
          refine iteF ?_
          refine iteF ?_
          refine r_next ?_
          exact hD _ _ ⟨⟨_, _, _, rfl⟩, kp18, li18⟩
        · rw [decide_eq_false hsy]
          refine iteT ?_
          walk_at "sf"
          refine r_callS ?_
          walk_at "sf"
          refine lam_step li18.t1 fun f19 c19' oc19 H19a k19 tb19 hf19 hc19 hcd19 => ?_
          have kp19a := keep_lam li18.t1.tb k19
          have li19a := li18.lam k19 tb19
          walk_at "sf"
          rw [hR4]
          refine (told_of (K := K) (C := C) (P1 := P1) (P2 := P2) (H := H19a) (two.over hsy) fun v19 H19 kp19b li19 hv19 => ?_).elim fun res ht => ⟨f19, c19', oc19, _, _, x, y, res, rfl, hf19, hc19, hcd19, li19a, rfl, rl_keep kp19a rx18, rfl, rl_keep kp19a ry18, ht.1, ht.2⟩
          have kp19 := kp19a.trans kp19b
          have rx19 := rl_keep kp19 rx18
          have ry19 := rl_keep kp19 ry18
          walk_at "sf"
          refine wd_call hv19 fun H20 s20 => ?_
          walk_at "sf"
          refine iteF ?_
          refine r_next ?_
          exact hD _ _ ⟨⟨_, _, _, rfl⟩, kp18.trans (kp19.trans (Keep.of s20)), li19.same s20⟩
    · rintro σ' H8 ⟨⟨r6, r7, r8, rfl⟩, kp8, li8⟩
      have rx8 := rl_keep kp8 rx7
      have kp8' := kp7.trans kp8
      walk_at "sf"
      refine ev_mk (Same.refl' H8) (.cons rx8 .nil) rfl ox.sg fun v9 Hf9 H9 s9 r9 => ?_
      cases r9
      walk_at "sf"
      have li9 := li8.same s9.hh
      have kp9 := kp8'.trans (Keep.of s9.hh)
      by_cases hsx : sx = 0
      · rw [decide_eq_true hsx]
        refine iteF ?_
        refine iteF ?_
        refine r_next ?_
        exact ⟨⟨_, _, _, _, _, _, _, _, rfl⟩, kp9, li9⟩
      · rw [decide_eq_false hsx]
        refine iteT ?_
        obtain ⟨pi, qi, ei⟩ := ox.inv hsx
        walk_at "sf"
        refine ev_mk (Same.refl' H9) (.cons (rx8.mono s9.hh) .nil) rfl ei fun v10 Hf10 H10 s10 r10 => ?_
        walk_at "sf"
        refine ev_mk s10.fh (.cons r10 .nil) rfl (show f_weight_of [AV.root pi qi (.int wx)] = some (.int wx) from rfl) fun v11 Hf11 H11 s11 r11 => ?_
        cases r11
        walk_at "sf"
        rw [decide_eq_true rfl]
        refine iteF ?_
        refine r_next ?_
        have sl := (s10.trans s11).hh
        exact ⟨⟨_, _, _, _, _, _, _, _, rfl⟩, kp9.trans (Keep.of sl), li9.same sl⟩
  · rintro σ H' ⟨⟨r1, r2, r3, r4, r5, r6, r7, r8, rfl⟩, kp, li⟩
    walk_at "sf"
    intro p1 hp1
    have s1 := Same.new hp1 (.tup [.int 0, .int 1])
    have rz : Rl K C (upd H' p1 (.tup [.int 0, .int 1])) z01 (.ref p1) := .tup (.inl (.inl upd_same)) (.cons .int (.cons .int .nil))
    generalize upd H' p1 (.tup [.int 0, .int 1]) = H1 at *
    walk_at "sf"
    refine ev_mk (Same.refl' H1) (.cons rz .nil) rfl zero_ok fun v2 Hf2 H2 s2 r2 => ?_
    have rz2 := r2.mono s2.fh
    walk_at "sf"
    intro p3 hp3
    have s3 := Same.new hp3 (.lst [.int (-2)])
    have h3 : upd H2 p3 (.lst [.int (-2)]) p3 = some (.lst [.int (-2)]) := upd_same
    generalize upd H2 p3 _ = H3 at *
    walk_at "sf"
    intro p4 hp4
    have s4 := Same.new hp4 (.lst [.int 0])
    have h4 : upd H3 p4 (.lst [.int 0]) p4 = some (.lst [.int 0]) := upd_same
    generalize upd H3 p4 _ = H4 at *
    walk_at "sf"
    refine ⟨p4, _, _, rfl, rfl, h4, by decide, by decide, small4 (by decide), fun p5 hp5 => ?_⟩
    rw [rep_flat']
    have s5 := Same.new hp5 (.lst (List.replicate (11 : Int).toNat (.int 0)))
    have h5 : upd H4 p5 (.lst (List.replicate (11 : Int).toNat (.int 0))) p5 = some (.lst (List.replicate (11 : Int).toNat (.int 0))) := upd_same
    generalize upd H4 p5 _ = H5 at *
    refine ⟨p3, p5, _, _, rfl, rfl, s5 _ _ (s4 _ _ h3), h5, small4 (by decide), fun p6 hp6 => ?_⟩
    have s6 := Same.new hp6 (.lst ([.int (-2)] ++ List.replicate (11 : Int).toNat (.int 0)))
    have h6 : upd H5 p6 (.lst ([.int (-2)] ++ List.replicate (11 : Int).toNat (.int 0))) p6 = some (.lst ([.int (-2)] ++ List.replicate (11 : Int).toNat (.int 0))) := upd_same
    generalize upd H5 p6 _ = H6 at *
    walk_at "sf"
    intro p7 hp7
    have s7 := Same.new hp7 (.lst [.int 1])
    have h7 : upd H6 p7 (.lst [.int 1]) p7 = some (.lst [.int 1]) := upd_same
    generalize upd H6 p7 _ = H7 at *
    walk_at "sf"
    refine ⟨p6, p7, _, _, rfl, rfl, s7 _ _ h6, h7, small4 (by decide), fun p8 hp8 => ?_⟩
    have s8 := Same.new hp8 (.lst ([.int (-2)] ++ List.replicate (11 : Int).toNat (.int 0) ++ [.int 1]))
    have h8 : upd H7 p8 (.lst ([.int (-2)] ++ List.replicate (11 : Int).toNat (.int 0) ++ [.int 1])) p8 = some (.lst (([-2] ++ List.replicate 11 0 ++ [1]).map V.int)) := by
      rw [upd_same]; rfl
    generalize upd H7 p8 _ = H8 at *
    walk_at "sf"
    refine ev_mk (Same.refl' H8) (.cons (.lst h8 RlL.ofInts) (.cons .int .nil)) rfl great_ok fun v9 Hf9 H9 s9 r9 => ?_
    have s29 := s3.trans (s4.trans (s5.trans (s6.trans (s7.trans (s8.trans s9.hh)))))
    have rz9 := rz2.mono s29
    have rg9 := r9.mono s9.fh
    have li9 := li.same (s1.trans (s2.hh.trans s29))
    obtain ⟨rm, em, eam⟩ := zg_mul
    obtain ⟨ro, eo, eao⟩ := zg_over
    walk_at "sf"
    refine ⟨zero, great, rm, .cons rz9 (.cons rg9 .nil), li9.t2, em, fun v10 H10 kp10 l10 r10 => ?_⟩
    have li10 := l10 P1 li9
    walk_at "sf"
    refine ev_mk (Same.refl' H10) (.cons r10 .nil) rfl eam fun v11 Hf11 H11 s11 r11 => ?_
    obtain ⟨q11, rfl, e11⟩ := r11.two
    walk_at "sf"
    intro p12 hp12
    have s12 := Same.new hp12 (.tup [.int 0, .int 1])
    walk_at "sf"
    refine ⟨q11, p12, 0, 1, 0, 1, rfl, rfl, Same.tup s12 (Same.tup s11.fh e11), SqT.of upd_same, ?_⟩
    walk_at "sf"
    refine iteF ?_
    have s1012 := s11.hh.trans s12
    generalize upd H11 p12 (.tup [.int 0, .int 1]) = H12 at *
    have li12 := li10.same s1012
    have kp912 := kp10.trans (Keep.of s1012)
    have rz12 := rl_keep kp912 rz9
    have rg12 := rl_keep kp912 rg9
    walk_at "sf"
    refine ⟨zero, great, ro, .cons rz12 (.cons rg12 .nil), li12.t2, eo, fun v13 H13 kp13 l13 r13 => ?_⟩
    have li13 := l13 P1 li12
    walk_at "sf"
    refine ev_mk (Same.refl' H13) (.cons r13 .nil) rfl eao fun v14 Hf14 H14 s14 r14 => ?_
    obtain ⟨q14, rfl, e14⟩ := r14.two
    walk_at "sf"
    intro p15 hp15
    have s15 := Same.new hp15 (.tup [.int 0, .int 1])
    walk_at "sf"
    refine ⟨q14, p15, 0, 1, 0, 1, rfl, rfl, Same.tup s15 (Same.tup s14.fh e14), SqT.of upd_same, ?_⟩
    walk_at "sf"
    refine iteF ?_
    have s1315 := s14.hh.trans s15
    generalize upd H14 p15 (.tup [.int 0, .int 1]) = H15 at *
    have li15 := li13.same s1315
    have rg15 := rl_keep (kp13.trans (Keep.of s1315)) rg12
    refine r_next ?_
    walk_at "sf"
    refine r_callS ?_
    walk_at "sf"
    refine lam_step li15.t1 fun f16 c16' oc16 H16 k16 tb16 hf16 hc16 hcd16 => ?_
    have kp16 := keep_lam li15.t1.tb k16
    have li16 := li15.lam k16 tb16
    have rg16 := rl_keep kp16 rg15
    walk_at "sf"
    rw [hR5]
    refine ⟨f16, c16', oc16, _, great, none, rfl, hf16, hc16, hcd16, li16, rfl, rg16, great_g, nofun, fun _ H17 kp17 li17 => ?_⟩
    have rg17 := rl_keep kp17 rg16
    walk_at "sf"
    refine eq_same rfl ?_
    walk_at "sf"
    refine iteT ?_
    walk_at "sf"
    refine ev_mk (Same.refl' H17) (.cons rg17 .nil) rfl great_w fun v18 Hf18 H18 s18 r18 => ?_
    cases r18
    walk_at "sf"
    rw [decide_eq_true rfl]
    exact q _
end
end V25
namespace V25
open PySem PyProof.Rows L2 SF CV PySem.W
theorem fng_mono {P : Program} {w : World} {K : Frag} {mg : Str → Option Value} {base : Heap} {CX : CXT} {cm : Bool} {j k : Nat} {x : Str} {ps : List Str} {sp : Shared → Sp} (F : FnGB P w K mg base CX cm j x ps sp) (h : j ≤ k) : FnGB P w K mg base CX cm k x ps sp :=
  let ⟨f, fd, a, b, c, d⟩ := F.ex
  ⟨f, fd, ⟨a.len, fun A outer s H args us vs Q E hr => a.run A outer s H args us vs Q E (hr.mono h)⟩, b, c, d⟩
theorem fn_never {P : Program} {w : World} {K : Frag} {mg : Str → Option Value} {base : Heap} {x : Str} {st : Stmt} {N ps : List Str} {k : Nat} {sp : Sp} (D : DefB K mg x st ps) (S : FnScope N ps (defScope st)) (h : ∀ vs H Q E, ¬ sp vs H Q E) : FnB P w K mg base (k + 1) x ps sp :=
  D.ok S (fun vs H Q E z => (h vs H Q E z).elim) fun f cdv A outer s H vs Q E hr z => (h vs H Q E z).elim
theorem never {K : Frag} {C : Addr} {m : Nat} : ∀ vs H Q E, ¬ spEv K C (fun _ => none) m vs H Q E := fun vs H Q E ⟨_, _, _, _, _, _, z, _⟩ => nomatch z
theorem all_law {P : Program} {w : World} {K : Frag} {mg : Str → Option Value} {base : Heap} {a : Ad} {fa c cr P1 P2 C fI : Addr} {fdl fdI : FuncData} (T : Nm mg) (hT : P.given.tree = none) (hG_GREATEST_DEGREE : ∃ uG, mg "GREATEST_DEGREE" = some uG ∧ RelV (.int 12) uG) (hG_GREATEST_WEIGHT : ∃ uG, mg "GREATEST_WEIGHT" = some uG ∧ RelV (.int 12) uG)
    (RC : Rc K mg C fI fdI) (RI : RcI K C) (CL : Cl5 K mg a) (hx : exmOne K (.ref a.c2) (.ref a.cf) = some true) (F : Fun K "law" "law" s_law fa fdl) (d_result_of : DefC K mg "result_of" s_result_of ["one", "other", "poly_of", "pair_of"] cr)
    (d_common_divisor : DefB K mg "common_divisor" s_common_divisor ["one", "other"])
    (d_sign : DefB K mg "sign" s_sign ["number"])
    (d_power : DefB K mg "power" s_power ["number", "many"])
    (d_ratio : DefB K mg "ratio" s_ratio ["top", "under"])
    (d_plus : DefB K mg "plus" s_plus ["one", "other"])
    (d_times : DefB K mg "times" s_times ["one", "other"])
    (d_middle : DefB K mg "middle" s_middle ["one", "other"])
    (d_order_of : DefB K mg "order_of" s_order_of ["one", "other"])
    (d_trimmed : DefB K mg "trimmed" s_trimmed ["row"])
    (d_degree : DefB K mg "degree" s_degree ["poly"])
    (d_added : DefB K mg "added" s_added ["one", "other"])
    (d_multiplied : DefB K mg "multiplied" s_multiplied ["one", "other"])
    (d_scaled : DefB K mg "scaled" s_scaled ["poly", "factor"])
    (d_derivative : DefB K mg "derivative" s_derivative ["poly"])
    (d_content : DefB K mg "content" s_content ["poly"])
    (d_primitive : DefB K mg "primitive" s_primitive ["poly"])
    (d_value_at : DefB K mg "value_at" s_value_at ["poly", "point"])
    (d_spread : DefB K mg "spread" s_spread ["value", "point"])
    (d_divided : DefB K mg "divided" s_divided ["poly", "divisor"])
    (d_largest : DefB K mg "largest" s_largest ["poly"])
    (d_divisor_of : DefB K mg "divisor_of" s_divisor_of ["one", "other"])
    (d_quotient : DefB K mg "quotient" s_quotient ["one", "other"])
    (d_square_free : DefB K mg "square_free" s_square_free ["poly"])
    (d_composed : DefB K mg "composed" s_composed ["poly", "top", "under"])
    (d_height_at : DefB K mg "height_at" s_height_at ["poly", "top", "under"])
    (d_sign_at : DefB K mg "sign_at" s_sign_at ["poly", "given"])
    (d_changes_in : DefB K mg "changes_in" s_changes_in ["row"])
    (d_remainder : DefB K mg "remainder" s_remainder ["one", "other"])
    (d_chain_of : DefB K mg "chain_of" s_chain_of ["free"])
    (d_changes_at : DefB K mg "changes_at" s_changes_at ["chain", "given"])
    (d_is_within : DefB K mg "is_within" s_is_within ["free", "reach"])
    (d_bound_of : DefB K mg "bound_of" s_bound_of ["free"])
    (d_pair_around_all : DefB K mg "pair_around_all" s_pair_around_all ["free"])
    (d_marked : DefB K mg "marked" s_marked ["chain", "given"])
    (d_isolated : DefB K mg "isolated" s_isolated ["poly"])
    (d_stretch_of : DefB K mg "stretch_of" s_stretch_of ["pair"])
    (d_parts_needed : DefB K mg "parts_needed" s_parts_needed ["stretch", "width"])
    (d_part_between : DefB K mg "part_between" s_part_between ["free", "stretch", "parts", "near", "far"])
    (d_guessed : DefB K mg "guessed" s_guessed ["free", "stretch", "parts"])
    (d_halved : DefB K mg "halved" s_halved ["free", "stretch"])
    (d_narrowed : DefB K mg "narrowed" s_narrowed ["free", "pair", "width"])
    (d_is_alone : DefB K mg "is_alone" s_is_alone ["free", "pair"])
    (d_of_ratio : DefB K mg "of_ratio" s_of_ratio ["given"])
    (d_number_in : DefB K mg "number_in" s_number_in ["free", "pair", "weight"])
    (d_nth : DefB K mg "nth" s_nth ["poly", "k"])
    (d_as_ratio : DefB K mg "as_ratio" s_as_ratio ["number"])
    (d_weight_of : DefB K mg "weight_of" s_weight_of ["number"])
    (d_against : DefB K mg "against" s_against ["number", "given"])
    (d_sign_of : DefB K mg "sign_of" s_sign_of ["number"])
    (d_falling : DefB K mg "falling" s_falling ["poly", "scale"])
    (d_power_sums : DefB K mg "power_sums" s_power_sums ["row", "many"])
    (d_falling_of_sums : DefB K mg "falling_of_sums" s_falling_of_sums ["sums"])
    (d_with_power_sums : DefB K mg "with_power_sums" s_with_power_sums ["sums", "scale"])
    (d_sums_by_powers : DefB K mg "sums_by_powers" s_sums_by_powers ["one", "other"])
    (d_products_by_powers : DefB K mg "products_by_powers" s_products_by_powers ["one", "other"])
    (d_sums_of : DefB K mg "sums_of" s_sums_of ["one", "other"])
    (d_products_of : DefB K mg "products_of" s_products_of ["one", "other"])
    (d_opposites_of : DefB K mg "opposites_of" s_opposites_of ["poly"])
    (d_inverses_of : DefB K mg "inverses_of" s_inverses_of ["poly"])
    (d_near : DefB K mg "near" s_near ["number", "width"])
    (d_located : DefB K mg "located" s_located ["free", "pair_by"])
    (d_weight_of_two : DefB K mg "weight_of_two" s_weight_of_two ["one", "other"])
    (d_pair_of_sums : DefB K mg "pair_of_sums" s_pair_of_sums ["one", "other"])
    (d_pair_of_products : DefB K mg "pair_of_products" s_pair_of_products ["one", "other"])
    (d_added_to : DefB K mg "added_to" s_added_to ["one", "other"])
    (d_opposite : DefB K mg "opposite" s_opposite ["number"])
    (d_less : DefB K mg "less" s_less ["one", "other"])
    (d_multiplied_by : DefB K mg "multiplied_by" s_multiplied_by ["one", "other"])
    (d_pair_beside_nought : DefB K mg "pair_beside_nought" s_pair_beside_nought ["number"])
    (d_inverse : DefB K mg "inverse" s_inverse ["number"])
    (d_over : DefB K mg "over" s_over ["one", "other"])
    (d_law_cell : DefB K mg "_law_cell" s_law_cell ["_law_script", "_law_k"])
    (d_law_drawn : DefB K mg "_law_drawn" s_law_drawn ["_law_cell_here", "_law_k"])
    (d_law_word : DefB K mg "_law_word" s_law_word ["_law_e"])
    (d_law_told : DefB K mg "_law_told" s_law_told ["_law_rule"])
    (d_law_common : DefB K mg "_law_common" s_law_common ["_law_one", "_law_other"])
    (d_law_ratio : DefB K mg "_law_ratio" s_law_ratio ["_law_top", "_law_under"])
    (d_law_of_weight : DefB K mg "_law_of_weight" s_law_of_weight ["_law_more"])
    (d_law_weighed : DefB K mg "_law_weighed" s_law_weighed ["_law_told_here", "_law_due"])
    (hfd : fdl.code = .ref c) (hc : CodeHd base c P1) (hcr : CodeHd base cr P2) (B : SF.BMain base mg) (hne : P1 ≠ P2) : FnG P w K mg base CX0 true 47 fa fdl ["_law_script"] (fun _ => spLaw K [(c, P1), (cr, P2)]) := by
  have c_init := ok_init (P := P) (w := w) (base := base) RC
  have c_common_divisor := ok_common_divisor (P := P) (w := w) (base := base) (C := C) T d_common_divisor
  have c_sign := ok_sign (P := P) (w := w) (base := base) (C := C)  d_sign
  have c_power := ok_power (P := P) (w := w) (base := base) (C := C) hT d_power
  have c_ratio := ok_ratio (P := P) (w := w) (base := base) (C := C) hT (c_common_divisor.mono (by decide)) d_ratio
  have c_plus := ok_plus (P := P) (w := w) (base := base) (C := C) (c_ratio.mono (by decide)) d_plus
  have c_times := ok_times (P := P) (w := w) (base := base) (C := C) (c_ratio.mono (by decide)) d_times
  have c_middle := ok_middle (P := P) (w := w) (base := base) (C := C) (c_ratio.mono (by decide)) d_middle
  have c_order_of := ok_order_of (P := P) (w := w) (base := base) (C := C) (c_sign.mono (by decide)) d_order_of
  have c_trimmed := ok_trimmed (P := P) (w := w) (base := base) (C := C) T d_trimmed
  have c_degree := ok_degree (P := P) (w := w) (base := base) (C := C) T d_degree
  have c_added := ok_added (P := P) (w := w) (base := base) (C := C) T (c_trimmed.mono (by decide)) d_added
  have c_multiplied := ok_multiplied (P := P) (w := w) (base := base) (C := C) T d_multiplied
  have c_scaled := ok_scaled (P := P) (w := w) (base := base) (C := C)  d_scaled
  have c_derivative := ok_derivative (P := P) (w := w) (base := base) (C := C) T d_derivative
  have c_content := ok_content (P := P) (w := w) (base := base) (C := C) (c_common_divisor.mono (by decide)) d_content
  have c_primitive := ok_primitive (P := P) (w := w) (base := base) (C := C) hT (c_content.mono (by decide)) d_primitive
  have c_value_at := ok_value_at (P := P) (w := w) (base := base) (C := C) T d_value_at
  have c_spread := ok_spread (P := P) (w := w) (base := base) (C := C) hT d_spread
  have c_divided := ok_divided (P := P) (w := w) (base := base) (C := C) T hT d_divided
  have c_largest := ok_largest (P := P) (w := w) (base := base) (C := C) T d_largest
  have c_divisor_of := ok_divisor_of (P := P) (w := w) (base := base) (C := C) T (c_divided.mono (by decide)) (c_spread.mono (by decide)) (c_primitive.mono (by decide)) (c_value_at.mono (by decide)) (c_common_divisor.mono (by decide)) (c_largest.mono (by decide)) d_divisor_of
  have c_quotient := ok_quotient (P := P) (w := w) (base := base) (C := C) (c_primitive.mono (by decide)) (c_divided.mono (by decide)) d_quotient
  have c_square_free := ok_square_free (P := P) (w := w) (base := base) (C := C) (c_derivative.mono (by decide)) (c_divisor_of.mono (by decide)) (c_quotient.mono (by decide)) d_square_free
  have c_composed := ok_composed (P := P) (w := w) (base := base) (C := C) T (c_multiplied.mono (by decide)) (c_scaled.mono (by decide)) (c_added.mono (by decide)) d_composed
  have c_height_at := ok_height_at (P := P) (w := w) (base := base) (C := C) T d_height_at
  have c_sign_at := ok_sign_at (P := P) (w := w) (base := base) (C := C) (c_height_at.mono (by decide)) (c_sign.mono (by decide)) d_sign_at
  have c_changes_in := ok_changes_in (P := P) (w := w) (base := base) (C := C) (c_sign.mono (by decide)) d_changes_in
  have c_remainder := ok_remainder (P := P) (w := w) (base := base) (C := C) T (c_trimmed.mono (by decide)) (c_sign.mono (by decide)) d_remainder
  have c_chain_of := ok_chain_of (P := P) (w := w) (base := base) (C := C) T hT (c_power.mono (by decide)) (c_remainder.mono (by decide)) (c_derivative.mono (by decide)) d_chain_of
  have c_changes_at := ok_changes_at (P := P) (w := w) (base := base) (C := C) (c_sign_at.mono (by decide)) (c_changes_in.mono (by decide)) d_changes_at
  have c_is_within := ok_is_within (P := P) (w := w) (base := base) (C := C) T d_is_within
  have c_bound_of := ok_bound_of (P := P) (w := w) (base := base) (C := C) (c_is_within.mono (by decide)) d_bound_of
  have c_pair_around_all := ok_pair_around_all (P := P) (w := w) (base := base) (C := C) (c_ratio.mono (by decide)) (c_bound_of.mono (by decide)) d_pair_around_all
  have c_marked := ok_marked (P := P) (w := w) (base := base) (C := C) (c_changes_at.mono (by decide)) d_marked
  have c_isolated := ok_isolated (P := P) (w := w) (base := base) (C := C) hG_GREATEST_DEGREE (c_middle.mono (by decide)) (c_marked.mono (by decide)) (c_pair_around_all.mono (by decide)) (c_chain_of.mono (by decide)) (c_square_free.mono (by decide)) (c_degree.mono (by decide)) d_isolated
  have c_stretch_of := ok_stretch_of (P := P) (w := w) (base := base) (C := C)  d_stretch_of
  have c_parts_needed := ok_parts_needed (P := P) (w := w) (base := base) (C := C) hT d_parts_needed
  have c_part_between := ok_part_between (P := P) (w := w) (base := base) (C := C) (c_height_at.mono (by decide)) (c_sign.mono (by decide)) d_part_between
  have c_guessed := ok_guessed (P := P) (w := w) (base := base) (C := C) T hT (c_part_between.mono (by decide)) (c_height_at.mono (by decide)) d_guessed
  have c_halved := ok_halved (P := P) (w := w) (base := base) (C := C) (c_part_between.mono (by decide)) d_halved
  have c_narrowed := ok_narrowed (P := P) (w := w) (base := base) (C := C) T (c_ratio.mono (by decide)) (c_parts_needed.mono (by decide)) (c_halved.mono (by decide)) (c_guessed.mono (by decide)) (c_stretch_of.mono (by decide)) d_narrowed
  have c_is_alone := ok_is_alone (P := P) (w := w) (base := base) (C := C) T (c_changes_in.mono (by decide)) (c_composed.mono (by decide)) (c_stretch_of.mono (by decide)) d_is_alone
  have c_of_ratio := ok_of_ratio (P := P) (w := w) (base := base) (C := C) RC (c_init.mono (by decide)) d_of_ratio
  have c_number_in := ok_number_in (P := P) (w := w) (base := base) (C := C) hT RC (c_init.mono (by decide)) (c_sign_at.mono (by decide)) (c_order_of.mono (by decide)) (c_of_ratio.mono (by decide)) (c_ratio.mono (by decide)) (c_narrowed.mono (by decide)) d_number_in
  have c_nth := ok_nth (P := P) (w := w) (base := base) (C := C) T (c_degree.mono (by decide)) (c_number_in.mono (by decide)) (c_square_free.mono (by decide)) (c_isolated.mono (by decide)) d_nth
  have c_as_ratio := ok_as_ratio (P := P) (w := w) (base := base) (C := C) RC d_as_ratio
  have c_weight_of := ok_weight_of (P := P) (w := w) (base := base) (C := C) RC d_weight_of
  have c_against := ok_against (P := P) (w := w) (base := base) (C := C) RC (c_sign_at.mono (by decide)) (c_order_of.mono (by decide)) d_against
  have c_sign_of := ok_sign_of (P := P) (w := w) (base := base) (C := C) (c_against.mono (by decide)) d_sign_of
  have c_falling := ok_falling (P := P) (w := w) (base := base) (C := C) T hT d_falling
  have c_power_sums := ok_power_sums (P := P) (w := w) (base := base) (C := C) T d_power_sums
  have c_falling_of_sums := ok_falling_of_sums (P := P) (w := w) (base := base) (C := C) T hT d_falling_of_sums
  have c_with_power_sums := ok_with_power_sums (P := P) (w := w) (base := base) (C := C) T (c_primitive.mono (by decide)) (c_falling_of_sums.mono (by decide)) d_with_power_sums
  have c_sums_by_powers := ok_sums_by_powers (P := P) (w := w) (base := base) (C := C) T hT (c_with_power_sums.mono (by decide)) (c_multiplied.mono (by decide)) (c_falling.mono (by decide)) (c_power_sums.mono (by decide)) (c_common_divisor.mono (by decide)) (c_degree.mono (by decide)) d_sums_by_powers
  have c_products_by_powers := ok_products_by_powers (P := P) (w := w) (base := base) (C := C) T (c_with_power_sums.mono (by decide)) (c_falling.mono (by decide)) (c_power_sums.mono (by decide)) (c_degree.mono (by decide)) d_products_by_powers
  have c_sums_of0 := ok_sums_of0 (P := P) (w := w) (base := base) (C := C) (c_degree.mono (by decide)) ((fn_never (k := 0) d_sums_of sc_sums_of never).mono (by decide)) (c_sums_by_powers.mono (by decide)) (c_composed.mono (by decide)) (c_primitive.mono (by decide)) d_sums_of
  have c_sums_of := ok_sums_of (P := P) (w := w) (base := base) (C := C) (c_degree.mono (by decide)) (c_sums_of0.mono (by decide)) (c_sums_by_powers.mono (by decide)) (c_composed.mono (by decide)) (c_primitive.mono (by decide)) d_sums_of
  have c_products_of0 := ok_products_of0 (P := P) (w := w) (base := base) (C := C) (c_degree.mono (by decide)) ((fn_never (k := 0) d_products_of sc_products_of never).mono (by decide)) (c_products_by_powers.mono (by decide)) (c_composed.mono (by decide)) (c_primitive.mono (by decide)) d_products_of
  have c_products_of := ok_products_of (P := P) (w := w) (base := base) (C := C) (c_degree.mono (by decide)) (c_products_of0.mono (by decide)) (c_products_by_powers.mono (by decide)) (c_composed.mono (by decide)) (c_primitive.mono (by decide)) d_products_of
  have c_opposites_of := ok_opposites_of (P := P) (w := w) (base := base) (C := C) (c_composed.mono (by decide)) (c_primitive.mono (by decide)) d_opposites_of
  have c_inverses_of := ok_inverses_of (P := P) (w := w) (base := base) (C := C) (c_composed.mono (by decide)) (c_primitive.mono (by decide)) d_inverses_of
  have c_near := ok_near (P := P) (w := w) (base := base) (C := C) RC (c_narrowed.mono (by decide)) d_near
  have c_pair_of_sums := ok_pair_of_sums (P := P) (w := w) (base := base) (C := C) (c_plus.mono (by decide)) d_pair_of_sums
  have c_pair_of_products := ok_pair_of_products (P := P) (w := w) (base := base) (C := C) T (c_ratio.mono (by decide)) (c_stretch_of.mono (by decide)) d_pair_of_products
  have c_opposite := ok_opposite (P := P) (w := w) (base := base) (C := C) RC (c_init.mono (by decide)) (c_weight_of.mono (by decide)) (c_opposites_of.mono (by decide)) d_opposite
  have c_pair_beside_nought := ok_pair_beside_nought (P := P) (w := w) (base := base) (C := C) RC (c_sign.mono (by decide)) (c_times.mono (by decide)) (c_near.mono (by decide)) d_pair_beside_nought
  have c_inverse := ok_inverse (P := P) (w := w) (base := base) (C := C) RC (c_init.mono (by decide)) (c_weight_of.mono (by decide)) (c_inverses_of.mono (by decide)) (c_ratio.mono (by decide)) (c_pair_beside_nought.mono (by decide)) (c_sign_of.mono (by decide)) d_inverse
  have c_law_common := ok_law_common (P := P) (w := w) (base := base) (C := C) T hT d_law_common
  have c_law_ratio := ok_law_ratio (P := P) (w := w) (base := base) (C := C) hT (c_law_common.mono (by decide)) d_law_ratio
  have c_located := ok_located (c_near.mono (by decide)) (c_is_alone.mono (by decide)) (c_times.mono (by decide)) d_located
  have c_w2 := ok_weight_of_two (P := P) (w := w) (base := base) CL hG_GREATEST_WEIGHT (c_weight_of.mono (by decide)) d_weight_of_two
  have c_res := ok_result_of (P := P) (w := w) (base := base) RC (c_init.mono (by decide)) c_w2 (c_as_ratio.mono (by decide)) (c_square_free.mono (by decide)) (c_number_in.mono (by decide)) c_located d_result_of hcr B
  have c_add := ok_added_to c_res (c_sums_of.mono (by decide)) (c_pair_of_sums.mono (by decide)) d_added_to
  have c_less := ok_less c_add (c_opposite.mono (by decide)) d_less
  have c_mul := ok_multiplied_by c_res (c_products_of.mono (by decide)) (c_pair_of_products.mono (by decide)) (c_sign_of.mono (by decide)) (c_of_ratio.mono (by decide)) d_multiplied_by
  have c_over := ok_over c_mul (c_inverse.mono (by decide)) d_over
  have c_cell := ok_law_cell (P := P) (w := w) (base := base) T d_law_cell
  have c_drawn := ok_law_drawn (P := P) (w := w) (base := base) d_law_drawn
  have c_ow := ok_law_of_weight (c_of_ratio.mono (by decide)) (c_law_ratio.mono (by decide)) (c_nth.mono (by decide)) d_law_of_weight
  have c_wd := ok_law_weighed T RC RI (c_weight_of.mono (by decide)) (c_as_ratio.mono (by decide)) d_law_weighed
  have gw := fng_mono (ok_law_word (P := P) (w := w) (base := base) T CL d_law_word) (show 1 ≤ 44 by decide)
  have g1 := ok_told (P := P) (w := w) (base := base) (C := C) (P1 := P1) (P2 := P2) (lam := lam1) (G := addF) CL hx gw rfl sc1 (by decide +kernel) rfl rfl (fun f c' c1 c2 A outer s H E hr => pe_fnG (fng_mono c_add (by decide)) hr leaves_cxL.passes (pa_cons (pv 0) (pa_cons (pv 1) pa_nil))) d_law_told
  have g2 := ok_told (P := P) (w := w) (base := base) (C := C) (P1 := P1) (P2 := P2) (lam := lam2) (G := lessF) CL hx gw rfl sc2 (by decide +kernel) rfl rfl (fun f c' c1 c2 A outer s H E hr => pe_fnG (fng_mono c_less (by decide)) hr leaves_cxL.passes (pa_cons (pv 0) (pa_cons (pv 1) pa_nil))) d_law_told
  have g3 := ok_told (P := P) (w := w) (base := base) (C := C) (P1 := P1) (P2 := P2) (lam := lam3) (G := mulF) CL hx gw rfl sc3 (by decide +kernel) rfl rfl (fun f c' c1 c2 A outer s H E hr => pe_fnG (fng_mono c_mul (by decide)) hr leaves_cxL.passes (pa_cons (pv 0) (pa_cons (pv 1) pa_nil))) d_law_told
  have g4 := ok_told (P := P) (w := w) (base := base) (C := C) (P1 := P1) (P2 := P2) (lam := lam4) (G := overF) CL hx gw rfl sc4 (by decide +kernel) rfl rfl (fun f c' c1 c2 A outer s H E hr => pe_fnG (fng_mono c_over (by decide)) hr leaves_cxL.passes (pa_cons (pv 0) (pa_cons (pv 1) pa_nil))) d_law_told
  have g5 := ok_told5 (P := P) (w := w) (base := base) (C := C) (P1 := P1) (P2 := P2) CL hx gw (fng_mono c_mul (by decide)) d_law_told
  exact ok_law T RC (c_cell.mono (by decide)) (c_drawn.mono (by decide)) (c_ow.mono (by decide)) (c_weight_of.mono (by decide)) (c_opposite.mono (by decide)) (c_inverse.mono (by decide)) (c_sign_of.mono (by decide)) (c_as_ratio.mono (by decide)) (c_of_ratio.mono (by decide)) (c_nth.mono (by decide)) c_wd ((m_of c_mul).mono (by decide)) ((m_of c_over).mono (by decide)) (fng_mono g1 (by decide)) (fng_mono g2 (by decide)) (fng_mono g3 (by decide)) (fng_mono g4 (by decide)) (fng_mono g5 (by decide)) F hfd hc B hne
theorem rc_mk {K : PySem.W.Frag} {h : Heap} {mg : Str → Option Value} {C fI : Addr} {od an : Option Addr} {osl : Array (Option Value)} {kV doc pm cdv ct : Value} (X : K.In h) (G : h.Ns mainGlobals mg) (e : PySem.W.nsIn K mainGlobals "Root" = some (some (.ref C))) (o2 : PySem.W.findIn K (.ref C) "__init__" = some (some (.ref fI)))
    (lk : K.lookup fI = some ⟨.type "function", od, .func (PySem.W.fnOf "__init__" "Root.__init__" (defArgs s_init) (defBody s_init) (defScope s_init) .none kV doc pm an cdv ct), osl⟩) (hcd : PySem.W.codeIn K cdv "Root.__init__" = true)
    (o1 : PySem.W.makesIn K C = true) (o3 : PySem.W.isFn K (.ref fI) = true) (o4 : PySem.W.keepIn K (.ref C) = true) (cl : Cls K C) (n1 : PySem.W.findIn K (.ref C) "poly" = some none) (n2 : PySem.W.findIn K (.ref C) "pair" = some none) (n3 : PySem.W.findIn K (.ref C) "weight" = some none)
    (i1 : findIn K (.ref C) "__class__" = some (some (.builtin "object.__class__"))) (i2 : specialIn K (.builtin "object.__class__") "__get__" = some (some (.builtin "getset_descriptor.__get__"))) (i3 : takesIn K (.builtin "object.__class__") = some true) (i4 : mroIn K C (.type "object") = some true) (i5 : kitOne K (.ref C) (.type "str") = some false) : ∃ fI fd, Rc K mg C fI fd ∧ RcI K C := by
  refine ⟨fI, _, ⟨PySem.W.mg_of X G e, ⟨o1, o2, o3, o4⟩, cl, n1, n2, n3, ⟨.type "function", od, .none, kV, doc, pm, an, cdv, ct, osl, rfl, lk, hcd⟩, fun s us X hl => ?_⟩, ⟨i1, i2, i3, i4, i5⟩⟩
  have h2 : us.length = 4 := by simpa using hl
  match us, h2 with
  | [u1, u2, u3, u4], _ => exact BindsTo.of_eq rfl
theorem cl5_mk {K : Frag} {h : Heap} {mg : Str → Option Value} {cf c0 c1 c2 c3 c4 : Addr} (X : K.In h) (G : h.Ns mainGlobals mg) (ef : nsIn K mainGlobals "FootError" = some (some (.ref cf))) (e0 : nsIn K mainGlobals "NoRatio" = some (some (.ref c0))) (e1 : nsIn K mainGlobals "NoNumber" = some (some (.ref c1)))
    (e2 : nsIn K mainGlobals "TooGreat" = some (some (.ref c2))) (e3 : nsIn K mainGlobals "BadText" = some (some (.ref c3))) (e4 : nsIn K mainGlobals "BadRow" = some (some (.ref c4))) (ok : okB K ⟨cf, c0, c1, c2, c3, c4⟩ = true) : Cl5 K mg ⟨cf, c0, c1, c2, c3, c4⟩ :=
  ⟨mg_of X G ef, mg_of X G e0, mg_of X G e1, mg_of X G e2, mg_of X G e3, mg_of X G e4, ok⟩
theorem exm_mk {K : Frag} {mg : Str → Option Value} {cf c0 c1 c2 c3 c4 : Addr} (_C : Cl5 K mg ⟨cf, c0, c1, c2, c3, c4⟩) (h : exmOne K (.ref c2) (.ref cf) = some true) : exmOne K (.ref (Ad.mk cf c0 c1 c2 c3 c4).c2) (.ref (Ad.mk cf c0 c1 c2 c3 c4).cf) = some true := h
theorem tab_mk {K : Frag} {h : Heap} {x : Str} {f c P0 : Addr} {od an : Option Addr} {sl : Array (Option Value)} {oc kV doc pm ct : Value} {st : Stmt} {o1 : Value} {o2 : Option Addr} {vs : Array Value} {o3 : Array (Option Value)} (_X : K.In h) (a : nsIn K mainGlobals x = some (some (.ref f)))
    (l : K.lookup f = some ⟨oc, od, .func (fnOf x x (defArgs st) (defBody st) (defScope st) .none kV doc pm an (.ref c) ct), sl⟩) (lc : K.lookup c = some ⟨o1, o2, .fields vs, o3⟩) (v : vs[11]? = some (.ref P0)) : tabIn K x = some (c, P0) := by
  unfold tabIn
  rw [a]
  dsimp only
  rw [l]
  dsimp only [fnOf]
  rw [lc]
  dsimp only
  rw [v]
theorem defc_of {K : Frag} {h : Heap} {mg : Str → Option Value} {x : Str} {st : Stmt} {ps : List Str} {f c : Addr} {od an : Option Addr} {sl : Array (Option Value)} {oc kV doc pm ct : Value} (X : K.In h) (G : h.Ns mainGlobals mg)
    (a : nsIn K mainGlobals x = some (some (.ref f))) (l : K.lookup f = some ⟨oc, od, .func (fnOf x x (defArgs st) (defBody st) (defScope st) .none kV doc pm an (.ref c) ct), sl⟩)
    (cc : codeIn K (.ref c) x = true) (k : keepIn K (.ref f) = true)
    (b : ∀ (kV doc pm : Value) (an : Option Addr) (cdv ct : Value) (us : List Value), us.length = ps.length → bindArgs (fnOf x x (defArgs st) (defBody st) (defScope st) .none kV doc pm an cdv ct) ⟨us, []⟩ = pure (ps.zip us)) : DefC K mg x st ps c :=
  have F := fun_mk (st := st) l cc k
  ⟨_, _, F, mg_of X G a, F.binds b, rfl⟩
theorem law_mk {K : Frag} {h : Heap} {mg : Str → Option Value} {fa f c : Addr} {od an : Option Addr} {sl : Array (Option Value)} {oc kV doc pm ct : Value} (X : K.In h) (G : h.Ns mainGlobals mg) (hfa : mg "law" = some (.ref fa))
    (a : nsIn K mainGlobals "law" = some (some (.ref f))) (l : K.lookup f = some ⟨oc, od, .func (fnOf "law" "law" (defArgs s_law) (defBody s_law) (defScope s_law) .none kV doc pm an (.ref c) ct), sl⟩)
    (cc : codeIn K (.ref c) "law" = true) (k : keepIn K (.ref f) = true) : ∃ fd : FuncData, (∃ oc od sl, K.lookup fa = some ⟨oc, od, .func fd, sl⟩) ∧ (∀ (s : Shared) (v : Value), BindsTo s fd ⟨[v], []⟩ [("_law_script", v)]) ∧ Fun K "law" "law" s_law fa fd ∧ fd.code = .ref c := by
  have e := hfa.symm.trans (mg_of X G a)
  cases e
  exact ⟨_, ⟨_, _, _, l⟩, fun s v => .of_eq rfl, fun_mk (st := s_law) l cc k, rfl⟩
theorem tabs_mk {q : Program} {K : Frag} {c P1 cr P2 : Addr} (r1 : ((recsOf q).find? (fun r => r.name == ("law" : Str))).isSome = true) (t1 : tabIn K "law" = some (c, P1)) (r2 : ((recsOf q).find? (fun r => r.name == ("result_of" : Str))).isSome = true) (t2 : tabIn K "result_of" = some (cr, P2)) :
    ∀ p ∈ [(c, P1), (cr, P2)], ∃ y e, (recsOf q).find? (fun r => r.name == y) = some e ∧ tabIn K y = some p := by
  obtain ⟨e1, h1⟩ := Option.isSome_iff_exists.mp r1
  obtain ⟨e2, h2⟩ := Option.isSome_iff_exists.mp r2
  intro p hp
  rcases List.mem_cons.mp hp with rfl | hp
  · exact ⟨_, _, h1, t1⟩
  · rcases List.mem_cons.mp hp with rfl | hp
    · exact ⟨_, _, h2, t2⟩
    · cases hp
theorem walk {l : OpenLaw} {q : Program} {loose : List Str} {XP : (Str → Option Value) → Heap → Prop} {YP : World → Heap → Prop} {d : DefRec} {K : Params → Frag} (hn : l.most = some 63) (hdf : d.params.defaults = [])
    (hY : ∀ (w : World) (h : Heap), YP w h → (K w.params).In h) (hKt : ∀ w : World, noTabs (K w.params) = true)
    (F : ∀ (w : World) (mg : Str → Option Value) (fa : Addr) (h : Heap), (K w.params).In h → h.Ns mainGlobals mg → mg d.name = some (.ref fa) →
      ∃ fd : FuncData, (∃ oc od sl, (K w.params).lookup fa = some ⟨oc, od, .func fd, sl⟩) ∧ (∀ (s : Shared) (u : Value), BindsTo s fd ⟨[u], []⟩ [("_law_script", u)]) ∧
        ∃ tabs : List (Addr × Addr), (∀ p ∈ tabs, ∃ y e, (recsOf q).find? (fun r => r.name == y) = some e ∧ tabIn (K w.params) y = some p) ∧
        ∀ base : Heap, (K w.params).In base → base.Ns mainGlobals mg → SF.BMain base mg → (∀ p ∈ tabs, CodeHd base p.1 p.2) → FnG l.prog w (K w.params) mg base CX0 true 47 fa fd ["_law_script"] fun _ => spLaw (K w.params) tabs) (hi : importsNone q = true) :
    WalkO q loose XP YP l.row.toRowW d [] (fun f vs => PySem.call f vs) :=
  SF.walkT (n := 63) (k := 47) (x := "_law_script") (sp := spLaw) hn (by decide) hdf ⟨rfl, by decide, by decide⟩ hY hKt F (fun _ _ _ a ns hl hS hP => ⟨a, ns, rfl, hS, hl, hP, fun _ => rfl⟩) hi
end V25
def PySem.W.Fast.tw1228092337980380370 : Unit := ()
def PySem.W.Fast.tw2120407882260053684 : Unit := ()
def PySem.W.Fast.tw12369136899018112336 : Unit := ()
def PySem.W.Fast.tw16488668220404000595 : Unit := ()
def PySem.W.Fast.tw14925408034074635847 : Unit := ()
def PySem.W.Fast.tw3482065111162226169 : Unit := ()
def PySem.W.Fast.tw8535777818029549826 : Unit := ()
def PySem.W.Fast.tw3525879204406930552 : Unit := ()
def PySem.W.Fast.tw3022245656926126830 : Unit := ()
def PySem.W.Fast.tw17084628387576811774 : Unit := ()
def PySem.W.Fast.tw17886628517324423529 : Unit := ()
def PySem.W.Fast.tw16064832047585335858 : Unit := ()
def PySem.W.Fast.tw17376288607060028451 : Unit := ()
def PySem.W.Fast.tw3210316423137797062 : Unit := ()
def PySem.W.Fast.tw1661280137172078544 : Unit := ()
def PySem.W.Fast.tw3019266699262195247 : Unit := ()
def PySem.W.Fast.tw11435798321472998628 : Unit := ()
def PySem.W.Fast.tw1273254865233165652 : Unit := ()
def PySem.W.Fast.tw8106110842381730189 : Unit := ()
def PySem.W.Fast.tw15866791972042214046 : Unit := ()
def PySem.W.Fast.tw405319762627160646 : Unit := ()
def PySem.W.Fast.tw6973010876170045615 : Unit := ()
def PySem.W.Fast.tw2987627290877922613 : Unit := ()
def PySem.W.Fast.tw8907528500329728555 : Unit := ()
def PySem.W.Fast.tw1210731916840311740 : Unit := ()
def PySem.W.Fast.tw5557323715942851480 : Unit := ()
def PySem.W.Fast.tw9889760864259787280 : Unit := ()
def PySem.W.Fast.tw3930254201994233397 : Unit := ()
def PySem.W.Fast.tw11954955858970101951 : Unit := ()
def PySem.W.Fast.tw5663160879118531740 : Unit := ()
def PySem.W.Fast.tw11155602914448485291 : Unit := ()
def PySem.W.Fast.tw16316488527937149491 : Unit := ()
def PySem.W.Fast.tw8159034647041627155 : Unit := ()
def PySem.W.Fast.tw12333336203055928470 : Unit := ()
def PySem.W.Fast.tw14521730693386150843 : Unit := ()
def PySem.W.Fast.tw18231233720762753720 : Unit := ()
def PySem.W.Fast.tw891222302076540810 : Unit := ()
def PySem.W.Fast.tw15853207539210608684 : Unit := ()
def PySem.W.Fast.tw17415086386656190516 : Unit := ()
def PySem.W.Fast.tw1449334814780172709 : Unit := ()
def PySem.W.Fast.tw5514368293366026324 : Unit := ()
def PySem.W.Fast.tw18296124953986128137 : Unit := ()
def PySem.W.Fast.tw8347570577680464041 : Unit := ()
def PySem.W.Fast.tw16365215418675815157 : Unit := ()
def PySem.W.Fast.tw16936724308396642948 : Unit := ()
def PySem.W.Fast.tw6770185842588698856 : Unit := ()
def PySem.W.Fast.tw5922740819754760452 : Unit := ()
def PySem.W.Fast.tw14073535527051596726 : Unit := ()
def PySem.W.Fast.tw16199485420554964290 : Unit := ()
def PySem.W.Fast.tw1762966903041389223 : Unit := ()
def PySem.W.Fast.tw9329768948434981825 : Unit := ()
def PySem.W.Fast.tw9300624458712295341 : Unit := ()
def PySem.W.Fast.tw7401318903528252499 : Unit := ()
def PySem.W.Fast.tw1421844464143840849 : Unit := ()
def PySem.W.Fast.tw1785501958315489038 : Unit := ()
def PySem.W.Fast.tw15281635868296115046 : Unit := ()
def PySem.W.Fast.tw11658022535120684298 : Unit := ()
def PySem.W.Fast.tw3076875613482472783 : Unit := ()
def PySem.W.Fast.tw13706376829597506276 : Unit := ()
def PySem.W.Fast.tw9907271210740706865 : Unit := ()
def PySem.W.Fast.tw2189826256465758601 : Unit := ()
def PySem.W.Fast.tw5254018593212304132 : Unit := ()
def PySem.W.Fast.tw3734091550264999167 : Unit := ()
def PySem.W.Fast.tw3057516421734818305 : Unit := ()
def PySem.W.Fast.tw10618163509797292592 : Unit := ()
def PySem.W.Fast.tw9705647224464757875 : Unit := ()
def PySem.W.Fast.tw8600238110086017904 : Unit := ()
def PySem.W.Fast.tw18210729900601762377 : Unit := ()
def PySem.W.Fast.tw13881361945406293278 : Unit := ()
def PySem.W.Fast.tw11481498948026958564 : Unit := ()
def PySem.W.Fast.tw4579466014427195641 : Unit := ()
def PySem.W.Fast.tw7822625339676524557 : Unit := ()
def PySem.W.Fast.tw10282625757090005286 : Unit := ()
def PySem.W.Fast.tw5339053114337764017 : Unit := ()
def PySem.W.Fast.tw3775662382238814404 : Unit := ()
def PySem.W.Fast.tw10945927054115066249 : Unit := ()
def PySem.W.Fast.tw8812633185651186444 : Unit := ()
def PySem.W.Fast.tw11807355126204123852 : Unit := ()
def PySem.W.Fast.tw10891223563821466143 : Unit := ()
def PySem.W.Fast.tw6988679406669570544 : Unit := ()
def PySem.W.Fast.tw7378007098568259800 : Unit := ()
def PySem.W.Fast.tw804418940580485310 : Unit := ()
def PySem.W.Fast.tw5124228124025417524 : Unit := ()
def PySem.W.Fast.tw16744109733000814400 : Unit := ()
def PySem.W.Fast.tw1245390808401221739 : Unit := ()
def PySem.W.Fast.tw10891196409081964488 : Unit := ()
def PySem.W.Fast.tw16763361815288537615 : Unit := ()
def PySem.W.Fast.tw2683400150952030508 : Unit := ()
def PySem.W.Fast.tw10182176485203846837 : Unit := ()
def PySem.W.Fast.tw4811910057116545347 : Unit := ()
def PySem.W.Fast.tw9286219955027897395 : Unit := ()
def PySem.W.Fast.tw17644861367791630594 : Unit := ()
def PySem.W.Fast.tw13483300829443378932 : Unit := ()
def PySem.W.Fast.tw12124584295479655476 : Unit := ()
def PySem.W.Fast.tw12201074349648786622 : Unit := ()
def PySem.W.Fast.tw17957156396146590577 : Unit := ()
def PySem.W.Fast.tw478998988541064878 : Unit := ()
def PySem.W.Fast.tw14433217497874152963 : Unit := ()
def PySem.W.Fast.tw15410742011224030510 : Unit := ()
def PySem.W.Fast.tw10262694626537310945 : Unit := ()
def PySem.W.Fast.tw12671118300048481150 : Unit := ()
def PySem.W.Fast.tw10308471719729136113 : Unit := ()
def PySem.W.Fast.tw15200570578274197713 : Unit := ()
def PySem.W.Fast.tw6426663017340096875 : Unit := ()
def PySem.W.Fast.tw1436802823396376276 : Unit := ()
def PySem.W.Fast.tw3461091821011711791 : Unit := ()
def PySem.W.Fast.tw17535835328485959559 : Unit := ()
def PySem.W.Fast.tw18262968601536875674 : Unit := ()
def PySem.W.Fast.tw2273489802166433302 : Unit := ()
def PySem.W.Fast.tw5779078384867555947 : Unit := ()
def PySem.W.Fast.tw511274380003249133 : Unit := ()
def PySem.W.Fast.tw10048954017218752624 : Unit := ()
def PySem.W.Fast.tw9065804178746376178 : Unit := ()
def PySem.W.Fast.tw1954485777861157813 : Unit := ()
def PySem.W.Fast.tw6724893562147369266 : Unit := ()
def PySem.W.Fast.tw16106041260015936561 : Unit := ()
def PySem.W.Fast.tw13507366750593722478 : Unit := ()
def PySem.W.Fast.tw6930033359275594340 : Unit := ()
def PySem.W.Fast.tw84084633343941551 : Unit := ()
def PySem.W.Fast.tw6067118348423419865 : Unit := ()
def PySem.W.Fast.tw17456631142829428643 : Unit := ()
def PySem.W.Fast.tw10330722120887054011 : Unit := ()
def PySem.W.Fast.tw14329093979242102153 : Unit := ()
def PySem.W.Fast.tw16670051253095419307 : Unit := ()
def PySem.W.Fast.tw9842097459290490171 : Unit := ()
def PySem.W.Fast.tw17688627169738358460 : Unit := ()
def PySem.W.Fast.tw10139251416652176239 : Unit := ()
def PySem.W.Fast.tw2698085771297839152 : Unit := ()
def PySem.W.Fast.tw5209840866803983145 : Unit := ()
def PySem.W.Fast.tw6824698233026282126 : Unit := ()
def PySem.W.Fast.tw9598740177985632462 : Unit := ()
def PySem.W.Fast.tw13153124522029503490 : Unit := ()
def PySem.W.Fast.tw8300801031073308579 : Unit := ()
def PySem.W.Fast.tw4620478331925563897 : Unit := ()
def PySem.W.Fast.tw11673961487207678261 : Unit := ()
def PySem.W.Fast.tw8848718529380068677 : Unit := ()
def PySem.W.Fast.tw15153949395350364726 : Unit := ()
def PySem.W.Fast.tw9075883793213128428 : Unit := ()
def PySem.W.Fast.tw9256362185158405030 : Unit := ()
def PySem.W.Fast.tw12232394703771640729 : Unit := ()
def PySem.W.Fast.tw196650263261472623 : Unit := ()
def PySem.W.Fast.tw14160549504714279599 : Unit := ()
def PySem.W.Fast.tw204156732614818178 : Unit := ()
def PySem.W.Fast.tw7914465931487493423 : Unit := ()
def PySem.W.Fast.tw6106719779280250900 : Unit := ()
def PySem.W.Fast.tw6622050067925041041 : Unit := ()
def PySem.W.Fast.tw17820915384544296748 : Unit := ()
def PySem.W.Fast.tw4824323486623223034 : Unit := ()
def PySem.W.Fast.tw10770953954143809522 : Unit := ()
def PySem.W.Fast.tw16172413714598254551 : Unit := ()
def PySem.W.Fast.tw3882723580775815746 : Unit := ()
def PySem.W.Fast.tw11550509008033618415 : Unit := ()
def PySem.W.Fast.tw1930543280717492616 : Unit := ()
def PySem.W.Fast.tw12506075821512113507 : Unit := ()
def PySem.W.Fast.tw12687838113977429915 : Unit := ()
def PySem.W.Fast.tw12798488906100100390 : Unit := ()
def PySem.W.Fast.tw6624231493860809778 : Unit := ()
def PySem.W.Fast.tw8231082337440030070 : Unit := ()
def PySem.W.Fast.tw8839424103406304437 : Unit := ()
def PySem.W.Fast.tw12245035161013629687 : Unit := ()
def PySem.W.Fast.tw7322419234319498711 : Unit := ()
def PySem.W.Fast.tw12392630780805083163 : Unit := ()
def PySem.W.Fast.tw17749435546555881090 : Unit := ()
def PySem.W.Fast.tw6791940918076981505 : Unit := ()
def PySem.W.Fast.tw11024146152293918344 : Unit := ()
def PySem.W.Fast.tw11990159063007917983 : Unit := ()
def PySem.W.Fast.tw11393749374223541107 : Unit := ()
def PySem.W.Fast.tw12818032639189304218 : Unit := ()
def PySem.W.Fast.tw7986137245616729409 : Unit := ()
def PySem.W.Fast.tw655127469724876085 : Unit := ()
def PySem.W.Fast.tw8751352629445789008 : Unit := ()
def PySem.W.Fast.tw16685845825135914288 : Unit := ()
def PySem.W.Fast.tw18160455064823001400 : Unit := ()
def PySem.W.Fast.tw17315964469291037215 : Unit := ()
def PySem.W.Fast.tw7526452069153879512 : Unit := ()
def PySem.W.Fast.tw17553099956463537315 : Unit := ()
def PySem.W.Fast.tw5347374547137512955 : Unit := ()
def PySem.W.Fast.tw14720124632790154850 : Unit := ()
def PySem.W.Fast.tw2600037868891647573 : Unit := ()
def PySem.W.Fast.tw10661344379732605013 : Unit := ()
def PySem.W.Fast.tw11764131368678810763 : Unit := ()
def PySem.W.Fast.tw13655053976314562351 : Unit := ()
def PySem.W.Fast.tw14532182975633116083 : Unit := ()
def PySem.W.Fast.tw17859435731057128621 : Unit := ()
def PySem.W.Fast.tw10611522673947827417 : Unit := ()
def PySem.W.Fast.tw4521600751812733996 : Unit := ()
def PySem.W.Fast.tw6750948372346646157 : Unit := ()
def PySem.W.Fast.tw11593015857147921252 : Unit := ()
def PySem.W.Fast.tw14347574950918430947 : Unit := ()
def PySem.W.Fast.tw17903091322958686513 : Unit := ()
def PySem.W.Fast.tw1164500466830112944 : Unit := ()
def PySem.W.Fast.tw3284377319357297045 : Unit := ()
def PySem.W.Fast.tw11211118895359912553 : Unit := ()
def PySem.W.Fast.tw15739098306957537731 : Unit := ()
def PySem.W.Fast.tw10854533219704974440 : Unit := ()
def PySem.W.Fast.tw11684741320966518272 : Unit := ()
def PySem.W.Fast.tw10262296315332593936 : Unit := ()
def PySem.W.Fast.tw5978123958519270213 : Unit := ()
def PySem.W.Fast.tw11029036428141183431 : Unit := ()
def PySem.W.Fast.tw15497704754025481798 : Unit := ()
def PySem.W.Fast.tw6927863194457939828 : Unit := ()
def PySem.W.Fast.tw10070729136959720628 : Unit := ()
def PySem.W.Fast.tw10776261083330660832 : Unit := ()
def PySem.W.Fast.tw16218449506730812072 : Unit := ()
def PySem.W.Fast.tw17211750701326960697 : Unit := ()
def PySem.W.Fast.tw9144331545341837372 : Unit := ()
def PySem.W.Fast.tw14666612241754461233 : Unit := ()
def PySem.W.Fast.tw15901686013145613012 : Unit := ()
def PySem.W.Fast.tw11059686108251898237 : Unit := ()
def PySem.W.Fast.tw5990506434998144224 : Unit := ()
def PySem.W.Fast.tw14495061870504663626 : Unit := ()
def PySem.W.Fast.tw16560799633386163492 : Unit := ()
def PySem.W.Fast.tw13745532529483098022 : Unit := ()
def PySem.W.Fast.tw3699836954541997378 : Unit := ()
def PySem.W.Fast.tw15820166403405375644 : Unit := ()
def PySem.W.Fast.tw2305682746238768606 : Unit := ()
def PySem.W.Fast.tw17305991684308523711 : Unit := ()
def PySem.W.Fast.tw4271730086403590567 : Unit := ()
def PySem.W.Fast.tw7832403124505236891 : Unit := ()
def PySem.W.Fast.tw2531442138468940745 : Unit := ()
def PySem.W.Fast.tw8255282981954342187 : Unit := ()
def PySem.W.Fast.tw3749463800600763535 : Unit := ()
def PySem.W.Fast.tw17215078292170621679 : Unit := ()
def PySem.W.Fast.tw12613377654209165871 : Unit := ()
def PySem.W.Fast.tw17299541928854256776 : Unit := ()
def PySem.W.Fast.tw7932427670218992227 : Unit := ()
def PySem.W.Fast.tw1328480238854215014 : Unit := ()
def PySem.W.Fast.tw5422123430721679217 : Unit := ()
def PySem.W.Fast.tw7261254171513329338 : Unit := ()
def PySem.W.Fast.tw18205544112555568234 : Unit := ()
def PySem.W.Fast.tw2534245924073515037 : Unit := ()
def PySem.W.Fast.tw11368940883730738820 : Unit := ()
def PySem.W.Fast.tw15182615042563679048 : Unit := ()
def PySem.W.Fast.tw16606979200739230666 : Unit := ()
def PySem.W.Fast.tw16273352005235404205 : Unit := ()
def PySem.W.Fast.tw9432601279378768453 : Unit := ()
def PySem.W.Fast.tw9591008017328007051 : Unit := ()
def PySem.W.Fast.tw788028872583360921 : Unit := ()
def PySem.W.Fast.tw16441104581886951063 : Unit := ()
def PySem.W.Fast.tw15274866183226377951 : Unit := ()
def PySem.W.Fast.tw10639003803004225951 : Unit := ()
def PySem.W.Fast.tw17020882411266550316 : Unit := ()
def PySem.W.Fast.tw11702436003265984672 : Unit := ()
def PySem.W.Fast.tw606724389278202910 : Unit := ()
def PySem.W.Fast.tw2516747269119283352 : Unit := ()
def PySem.W.Fast.tw14338317266029598746 : Unit := ()
def PySem.W.Fast.tw6318026013666162025 : Unit := ()
def PySem.W.Fast.tw13686732181989893466 : Unit := ()
def PySem.W.Fast.tw17002564786889856512 : Unit := ()
def PySem.W.Fast.tw3001986721194562463 : Unit := ()
def PySem.W.Fast.tw17626086167421396974 : Unit := ()
def PySem.W.Fast.tw1499972871475993333 : Unit := ()
def PySem.W.Fast.tw8509874726807764108 : Unit := ()
def PySem.W.Fast.tw4020605228897088118 : Unit := ()
def PySem.W.Fast.tw14760857733538841870 : Unit := ()
def PySem.W.Fast.tw7074377476078149552 : Unit := ()
def PySem.W.Fast.tw14129960045808206279 : Unit := ()
def PySem.W.Fast.tw1469323265921858028 : Unit := ()
def PySem.W.Fast.tw4854600306219844113 : Unit := ()
def PySem.W.Fast.tw14346363925650844371 : Unit := ()
def PySem.W.Fast.tw13346414403748605048 : Unit := ()
def PySem.W.Fast.tw18228308502413704181 : Unit := ()
def PySem.W.Fast.tw11010919911451438726 : Unit := ()
def PySem.W.Fast.tw2248096110759007214 : Unit := ()
def PySem.W.Fast.tw15951775232696624956 : Unit := ()
def PySem.W.Fast.tw884115645195783148 : Unit := ()
def PySem.W.Fast.tw2331926004752045610 : Unit := ()
def PySem.W.Fast.tw413868304007938763 : Unit := ()
def PySem.W.Fast.tw11717419167600156583 : Unit := ()
def PySem.W.Fast.tw17804609201811315210 : Unit := ()
def PySem.W.Fast.tw3549805501621564512 : Unit := ()
def PySem.W.Fast.tw1630535928405535162 : Unit := ()
def PySem.W.Fast.tw11662919545380872545 : Unit := ()
def PySem.W.Fast.tw4282904032506406564 : Unit := ()
def PySem.W.Fast.tw7244011373344117361 : Unit := ()
def PySem.W.Fast.tw10432817642341122966 : Unit := ()
def PySem.W.Fast.tw11688219173120128188 : Unit := ()
def PySem.W.Fast.tw15889664541452904388 : Unit := ()
def PySem.W.Fast.tw10337699607497189466 : Unit := ()
def PySem.W.Fast.tw2685414424753442077 : Unit := ()
def PySem.W.Fast.tw11878180611342585568 : Unit := ()
def PySem.W.Fast.tw13552800288650573463 : Unit := ()
def PySem.W.Fast.tw16907685872145050771 : Unit := ()
def PySem.W.Fast.tw267432935162415327 : Unit := ()
def PySem.W.Fast.tw5699764878439463343 : Unit := ()
def PySem.W.Fast.tw9782046335979234501 : Unit := ()
def PySem.W.Fast.tw11710264152576978137 : Unit := ()
def PySem.W.Fast.tw6152799701914585593 : Unit := ()
def PySem.W.Fast.tw437827367463554664 : Unit := ()
def PySem.W.Fast.tw9515634805646852379 : Unit := ()
def PySem.W.Fast.tw9187582606914905299 : Unit := ()
def PySem.W.Fast.tw17932517563384668396 : Unit := ()
def PySem.W.Fast.tw4862378986884173386 : Unit := ()
def PySem.W.Fast.tw2740834757949564613 : Unit := ()
def PySem.W.Fast.tw10501154094550404569 : Unit := ()
def PySem.W.Fast.tw12818747676713438500 : Unit := ()
def PySem.W.Fast.tw11852013737040998702 : Unit := ()
def PySem.W.Fast.tw5698297849228476887 : Unit := ()
def PySem.W.Fast.tw1044652453020986867 : Unit := ()
def PySem.W.Fast.tw14761584896217444360 : Unit := ()
def PySem.W.Fast.tw12575070562280947287 : Unit := ()
def PySem.W.Fast.tw7543280710406392243 : Unit := ()
def PySem.W.Fast.tw156164442083197818 : Unit := ()
def PySem.W.Fast.tw8004536569971147920 : Unit := ()
def PySem.W.Fast.tw17714150697880123677 : Unit := ()
def PySem.W.Fast.tw10183692375858667463 : Unit := ()
def PySem.W.Fast.tw6234904072216799627 : Unit := ()
def PySem.W.Fast.tw5517948732303034538 : Unit := ()
def PySem.W.Fast.tw10775538082898832458 : Unit := ()
def PySem.W.Fast.tw11343678131693690670 : Unit := ()
def PySem.W.Fast.tw6127534311280539329 : Unit := ()
def PySem.W.Fast.tw17842283151254398497 : Unit := ()
def PySem.W.Fast.tw11874529647267709671 : Unit := ()
def PySem.W.Fast.tw7539812361895848345 : Unit := ()
def PySem.W.Fast.tw599863977557651771 : Unit := ()
def PySem.W.Fast.tw9579549585025159497 : Unit := ()
def PySem.W.Fast.tw14140163742482288438 : Unit := ()
def PySem.W.Fast.tw1052897376825639185 : Unit := ()
def PySem.W.Fast.tw6770263712179814765 : Unit := ()
def PySem.W.Fast.tw5703814988407949909 : Unit := ()
def PySem.W.Fast.tw11070271114576936777 : Unit := ()
def PySem.W.Fast.tw11780767106470612033 : Unit := ()
def PySem.W.Fast.tw17305835399854963000 : Unit := ()
def PySem.W.Fast.tw12592086915544549529 : Unit := ()
def PySem.W.Fast.tw15272325712175253305 : Unit := ()
def PySem.W.Fast.tw15495063375507245486 : Unit := ()
def PySem.W.Fast.tw11933255596834088290 : Unit := ()
def PySem.W.Fast.tw9003115363545070262 : Unit := ()
def PySem.W.Fast.tw968902662163333557 : Unit := ()
def PySem.W.Fast.tw14454383723575582652 : Unit := ()
def PySem.W.Fast.tw12412449680819330364 : Unit := ()
def PySem.W.Fast.tw11010160525393710207 : Unit := ()
def PySem.W.Fast.tw14777236025143003999 : Unit := ()
def PySem.W.Fast.tw948308598392329441 : Unit := ()
def PySem.W.Fast.tw6498467547401937071 : Unit := ()
def PySem.W.Fast.tw17988968251149618634 : Unit := ()
def PySem.W.Fast.tw1292255086812993924 : Unit := ()
def PySem.W.Fast.tw2393078948768879616 : Unit := ()
def PySem.W.Fast.tw15852110768990366719 : Unit := ()
def PySem.W.Fast.tw641260973820772119 : Unit := ()
def PySem.W.Fast.tw17321655419303712084 : Unit := ()
def PySem.W.Fast.tw6413701100967107256 : Unit := ()
def PySem.W.Fast.tw4679237858660366390 : Unit := ()
def PySem.W.Fast.tw906727308754892097 : Unit := ()
def PySem.W.Fast.tw16584805281190813558 : Unit := ()
def PySem.W.Fast.tw17560178041281198474 : Unit := ()
def PySem.W.Fast.tw17718150902156748528 : Unit := ()
def PySem.W.Fast.tw6141364317043812427 : Unit := ()
def PySem.W.Fast.tw12661253843617543201 : Unit := ()
def PySem.W.Fast.tw16427317624625719272 : Unit := ()
def PySem.W.Fast.tw2494656822801318610 : Unit := ()
def PySem.W.Fast.tw4973376941058482924 : Unit := ()
def PySem.W.Fast.tw17553014804712416331 : Unit := ()
def PySem.W.Fast.tw16074477884256977041 : Unit := ()
def PySem.W.Fast.tw3294926157130069947 : Unit := ()
def PySem.W.Fast.tw5865979262212641280 : Unit := ()
def PySem.W.Fast.tw2660619953094450621 : Unit := ()
def PySem.W.Fast.tw1732316887528587588 : Unit := ()
def PySem.W.Fast.tw10737182267075780373 : Unit := ()
def PySem.W.Fast.tw12692237851514472645 : Unit := ()
def PySem.W.Fast.tw17978876266309114221 : Unit := ()
def PySem.W.Fast.tw1900931418146109121 : Unit := ()
def PySem.W.Fast.tw11378119287432952486 : Unit := ()
def PySem.W.Fast.tw8098749467798866968 : Unit := ()
def PySem.W.Fast.tw13312084591340533517 : Unit := ()
def PySem.W.Fast.tw11774093491119738719 : Unit := ()
def PySem.W.Fast.tw12463839848861520078 : Unit := ()
def PySem.W.Fast.tw17728459492736171438 : Unit := ()
def PySem.W.Fast.tw4188343811954202423 : Unit := ()
def PySem.W.Fast.tw3433840574534516534 : Unit := ()
def PySem.W.Fast.tw7603160389016488340 : Unit := ()
def PySem.W.Fast.tw17666785365404882149 : Unit := ()
def PySem.W.Fast.tw13666978672318858786 : Unit := ()
def PySem.W.Fast.tw10376172081468560609 : Unit := ()
def PySem.W.Fast.tw2613404815928334700 : Unit := ()
def PySem.W.Fast.tw6498615263806448135 : Unit := ()
open PySem PySem.W PyProof.Rows
set_option maxRecDepth 100000 in
set_option maxHeartbeats 0 in
theorem PySem.Challenge.cw_surefoot_k25_weights_bound_holds : PySem.Challenge.rw_surefoot_k25_weights_bound.Holds := by
  w_on; o_law; k_head; (case hw => w_witness2)
  k_fill
  refine V25.walk (l := PySem.Challenge.rw_surefoot_k25_weights_bound) rfl rfl (fun w h Y => PySem.W.km_in_of Y) ?ntx ?F ?I
  case ntx => intro w; kernel_rfl
  case I => decide +kernel
  case F =>
    intro w mg fa h KX G hmg
    have T : V25.Nm mg := by
      refine' ⟨PySem.W.mg_none_of KX G ?t1, PySem.W.mg_none_of KX G ?t2, PySem.W.mg_none_of KX G ?t3, PySem.W.mg_none_of KX G ?t4, PySem.W.mg_none_of KX G ?t5, PySem.W.mg_none_of KX G ?t6, PySem.W.mg_none_of KX G ?t7, PySem.W.mg_none_of KX G ?t8, PySem.W.mg_none_of KX G ?t9, PySem.W.mg_none_of KX G ?t10, PySem.W.mg_none_of KX G ?t11, PySem.W.mg_none_of KX G ?t12, PySem.W.mg_none_of KX G ?t13, PySem.W.mg_none_of KX G ?t14, PySem.W.mg_none_of KX G ?t15⟩
      all_goals k_is
    have L := by
      refine' V25.law_mk KX G hmg ?a ?l ?c ?k
      (case a => k_is); (case l => k_is); (case c => k_is); (case k => k_is)
    obtain ⟨fd, lk, hb, F, hfd⟩ := L
    have T1 := by
      refine' V25.tab_mk (x := "law") (st := V25.s_law) KX ?a ?l ?lc ?v
      (case a => k_is); (case l => k_is); (case lc => k_is); (case v => rfl)
    have T2 := by
      refine' V25.tab_mk (x := "result_of") (st := V25.s_result_of) KX ?a ?l ?lc ?v
      (case a => k_is); (case l => k_is); (case lc => k_is); (case v => rfl)
    have DR := by
      refine' V25.defc_of (x := "result_of") (st := V25.s_result_of) (ps := ["one", "other", "poly_of", "pair_of"]) KX G ?a ?l ?c ?k ?b
      (case a => k_is); (case l => k_is); (case c => k_is); (case k => k_is); (case b => exact fun _ _ _ _ _ _ us hl => match us, hl with | [_, _, _, _], _ => rfl)
    have C := by
      refine' V25.cl5_mk KX G ?ef ?e0 ?e1 ?e2 ?e3 ?e4 ?ok
      (case ef => k_is); (case e0 => k_is); (case e1 => k_is); (case e2 => k_is); (case e3 => k_is); (case e4 => k_is)
      (case ok => kernel_rfl)
    have X := by
      refine' V25.exm_mk C ?x
      (case x => kernel_rfl)
    have R := by
      refine' V25.rc_mk KX G ?e ?o2 ?lk ?cd ?o1 ?o3 ?o4 ⟨?pg, ?hd, ?po, ?sa⟩ ?n1 ?n2 ?n3 ?i1 ?i2 ?i3 ?i4 ?i5
      (case e => k_is); (case o2 => k_is); (case lk => k_is); (case cd => k_is)
      all_goals kernel_rfl
    obtain ⟨fI, fdI, RC, RI⟩ := R
    refine ⟨fd, lk, hb, _, V25.tabs_mk ?r1 T1 ?r2 T2, fun base _ _ B hc => ?_⟩
    case r1 => kernel_rfl
    case r2 => kernel_rfl
    refine' V25.all_law T (by rfl) ⟨_, PySem.W.mg_of KX G ?g1, ?h1⟩ ⟨_, PySem.W.mg_of KX G ?g2, ?h2⟩ RC RI C X F DR (L2.def_of KX G ?a1 ?l1 ?c1 ?k1 ?b1) (L2.def_of KX G ?a2 ?l2 ?c2 ?k2 ?b2) (L2.def_of KX G ?a3 ?l3 ?c3 ?k3 ?b3) (L2.def_of KX G ?a4 ?l4 ?c4 ?k4 ?b4) (L2.def_of KX G ?a5 ?l5 ?c5 ?k5 ?b5) (L2.def_of KX G ?a6 ?l6 ?c6 ?k6 ?b6) (L2.def_of KX G ?a7 ?l7 ?c7 ?k7 ?b7) (L2.def_of KX G ?a8 ?l8 ?c8 ?k8 ?b8) (L2.def_of KX G ?a9 ?l9 ?c9 ?k9 ?b9) (L2.def_of KX G ?a10 ?l10 ?c10 ?k10 ?b10) (L2.def_of KX G ?a11 ?l11 ?c11 ?k11 ?b11) (L2.def_of KX G ?a12 ?l12 ?c12 ?k12 ?b12) (L2.def_of KX G ?a13 ?l13 ?c13 ?k13 ?b13) (L2.def_of KX G ?a14 ?l14 ?c14 ?k14 ?b14) (L2.def_of KX G ?a15 ?l15 ?c15 ?k15 ?b15) (L2.def_of KX G ?a16 ?l16 ?c16 ?k16 ?b16) (L2.def_of KX G ?a17 ?l17 ?c17 ?k17 ?b17) (L2.def_of KX G ?a18 ?l18 ?c18 ?k18 ?b18) (L2.def_of KX G ?a19 ?l19 ?c19 ?k19 ?b19) (L2.def_of KX G ?a20 ?l20 ?c20 ?k20 ?b20) (L2.def_of KX G ?a21 ?l21 ?c21 ?k21 ?b21) (L2.def_of KX G ?a22 ?l22 ?c22 ?k22 ?b22) (L2.def_of KX G ?a23 ?l23 ?c23 ?k23 ?b23) (L2.def_of KX G ?a24 ?l24 ?c24 ?k24 ?b24) (L2.def_of KX G ?a25 ?l25 ?c25 ?k25 ?b25) (L2.def_of KX G ?a26 ?l26 ?c26 ?k26 ?b26) (L2.def_of KX G ?a27 ?l27 ?c27 ?k27 ?b27) (L2.def_of KX G ?a28 ?l28 ?c28 ?k28 ?b28) (L2.def_of KX G ?a29 ?l29 ?c29 ?k29 ?b29) (L2.def_of KX G ?a30 ?l30 ?c30 ?k30 ?b30) (L2.def_of KX G ?a31 ?l31 ?c31 ?k31 ?b31) (L2.def_of KX G ?a32 ?l32 ?c32 ?k32 ?b32) (L2.def_of KX G ?a33 ?l33 ?c33 ?k33 ?b33) (L2.def_of KX G ?a34 ?l34 ?c34 ?k34 ?b34) (L2.def_of KX G ?a35 ?l35 ?c35 ?k35 ?b35) (L2.def_of KX G ?a36 ?l36 ?c36 ?k36 ?b36) (L2.def_of KX G ?a37 ?l37 ?c37 ?k37 ?b37) (L2.def_of KX G ?a38 ?l38 ?c38 ?k38 ?b38) (L2.def_of KX G ?a39 ?l39 ?c39 ?k39 ?b39) (L2.def_of KX G ?a40 ?l40 ?c40 ?k40 ?b40) (L2.def_of KX G ?a41 ?l41 ?c41 ?k41 ?b41) (L2.def_of KX G ?a42 ?l42 ?c42 ?k42 ?b42) (L2.def_of KX G ?a43 ?l43 ?c43 ?k43 ?b43) (L2.def_of KX G ?a44 ?l44 ?c44 ?k44 ?b44) (L2.def_of KX G ?a45 ?l45 ?c45 ?k45 ?b45) (L2.def_of KX G ?a46 ?l46 ?c46 ?k46 ?b46) (L2.def_of KX G ?a47 ?l47 ?c47 ?k47 ?b47) (L2.def_of KX G ?a48 ?l48 ?c48 ?k48 ?b48) (L2.def_of KX G ?a49 ?l49 ?c49 ?k49 ?b49) (L2.def_of KX G ?a50 ?l50 ?c50 ?k50 ?b50) (L2.def_of KX G ?a51 ?l51 ?c51 ?k51 ?b51) (L2.def_of KX G ?a52 ?l52 ?c52 ?k52 ?b52) (L2.def_of KX G ?a53 ?l53 ?c53 ?k53 ?b53) (L2.def_of KX G ?a54 ?l54 ?c54 ?k54 ?b54) (L2.def_of KX G ?a55 ?l55 ?c55 ?k55 ?b55) (L2.def_of KX G ?a56 ?l56 ?c56 ?k56 ?b56) (L2.def_of KX G ?a57 ?l57 ?c57 ?k57 ?b57) (L2.def_of KX G ?a58 ?l58 ?c58 ?k58 ?b58) (L2.def_of KX G ?a59 ?l59 ?c59 ?k59 ?b59) (L2.def_of KX G ?a60 ?l60 ?c60 ?k60 ?b60) (L2.def_of KX G ?a61 ?l61 ?c61 ?k61 ?b61) (L2.def_of KX G ?a62 ?l62 ?c62 ?k62 ?b62) (L2.def_of KX G ?a63 ?l63 ?c63 ?k63 ?b63) (L2.def_of KX G ?a64 ?l64 ?c64 ?k64 ?b64) (L2.def_of KX G ?a65 ?l65 ?c65 ?k65 ?b65) (L2.def_of KX G ?a66 ?l66 ?c66 ?k66 ?b66) (L2.def_of KX G ?a67 ?l67 ?c67 ?k67 ?b67) (L2.def_of KX G ?a68 ?l68 ?c68 ?k68 ?b68) (L2.def_of KX G ?a69 ?l69 ?c69 ?k69 ?b69) (L2.def_of KX G ?a70 ?l70 ?c70 ?k70 ?b70) (L2.def_of KX G ?a71 ?l71 ?c71 ?k71 ?b71) (L2.def_of KX G ?a72 ?l72 ?c72 ?k72 ?b72) (L2.def_of KX G ?a73 ?l73 ?c73 ?k73 ?b73) (L2.def_of KX G ?a74 ?l74 ?c74 ?k74 ?b74) (L2.def_of KX G ?a75 ?l75 ?c75 ?k75 ?b75) (L2.def_of KX G ?a76 ?l76 ?c76 ?k76 ?b76) (L2.def_of KX G ?a77 ?l77 ?c77 ?k77 ?b77) (L2.def_of KX G ?a78 ?l78 ?c78 ?k78 ?b78) (L2.def_of KX G ?a79 ?l79 ?c79 ?k79 ?b79) hfd (hc _ (List.mem_cons_self)) (hc _ (List.mem_cons_of_mem _ List.mem_cons_self)) B ?ne
    (case a1 => k_is); (case l1 => k_is); (case c1 => k_is); (case k1 => k_is); (case b1 => exact fun _ _ _ _ _ _ us hl => match us, hl with | [_, _], _ => rfl)
    (case a2 => k_is); (case l2 => k_is); (case c2 => k_is); (case k2 => k_is); (case b2 => exact fun _ _ _ _ _ _ us hl => match us, hl with | [_], _ => rfl)
    (case a3 => k_is); (case l3 => k_is); (case c3 => k_is); (case k3 => k_is); (case b3 => exact fun _ _ _ _ _ _ us hl => match us, hl with | [_, _], _ => rfl)
    (case a4 => k_is); (case l4 => k_is); (case c4 => k_is); (case k4 => k_is); (case b4 => exact fun _ _ _ _ _ _ us hl => match us, hl with | [_, _], _ => rfl)
    (case a5 => k_is); (case l5 => k_is); (case c5 => k_is); (case k5 => k_is); (case b5 => exact fun _ _ _ _ _ _ us hl => match us, hl with | [_, _], _ => rfl)
    (case a6 => k_is); (case l6 => k_is); (case c6 => k_is); (case k6 => k_is); (case b6 => exact fun _ _ _ _ _ _ us hl => match us, hl with | [_, _], _ => rfl)
    (case a7 => k_is); (case l7 => k_is); (case c7 => k_is); (case k7 => k_is); (case b7 => exact fun _ _ _ _ _ _ us hl => match us, hl with | [_, _], _ => rfl)
    (case a8 => k_is); (case l8 => k_is); (case c8 => k_is); (case k8 => k_is); (case b8 => exact fun _ _ _ _ _ _ us hl => match us, hl with | [_, _], _ => rfl)
    (case a9 => k_is); (case l9 => k_is); (case c9 => k_is); (case k9 => k_is); (case b9 => exact fun _ _ _ _ _ _ us hl => match us, hl with | [_], _ => rfl)
    (case a10 => k_is); (case l10 => k_is); (case c10 => k_is); (case k10 => k_is); (case b10 => exact fun _ _ _ _ _ _ us hl => match us, hl with | [_], _ => rfl)
    (case a11 => k_is); (case l11 => k_is); (case c11 => k_is); (case k11 => k_is); (case b11 => exact fun _ _ _ _ _ _ us hl => match us, hl with | [_, _], _ => rfl)
    (case a12 => k_is); (case l12 => k_is); (case c12 => k_is); (case k12 => k_is); (case b12 => exact fun _ _ _ _ _ _ us hl => match us, hl with | [_, _], _ => rfl)
    (case a13 => k_is); (case l13 => k_is); (case c13 => k_is); (case k13 => k_is); (case b13 => exact fun _ _ _ _ _ _ us hl => match us, hl with | [_, _], _ => rfl)
    (case a14 => k_is); (case l14 => k_is); (case c14 => k_is); (case k14 => k_is); (case b14 => exact fun _ _ _ _ _ _ us hl => match us, hl with | [_], _ => rfl)
    (case a15 => k_is); (case l15 => k_is); (case c15 => k_is); (case k15 => k_is); (case b15 => exact fun _ _ _ _ _ _ us hl => match us, hl with | [_], _ => rfl)
    (case a16 => k_is); (case l16 => k_is); (case c16 => k_is); (case k16 => k_is); (case b16 => exact fun _ _ _ _ _ _ us hl => match us, hl with | [_], _ => rfl)
    (case a17 => k_is); (case l17 => k_is); (case c17 => k_is); (case k17 => k_is); (case b17 => exact fun _ _ _ _ _ _ us hl => match us, hl with | [_, _], _ => rfl)
    (case a18 => k_is); (case l18 => k_is); (case c18 => k_is); (case k18 => k_is); (case b18 => exact fun _ _ _ _ _ _ us hl => match us, hl with | [_, _], _ => rfl)
    (case a19 => k_is); (case l19 => k_is); (case c19 => k_is); (case k19 => k_is); (case b19 => exact fun _ _ _ _ _ _ us hl => match us, hl with | [_, _], _ => rfl)
    (case a20 => k_is); (case l20 => k_is); (case c20 => k_is); (case k20 => k_is); (case b20 => exact fun _ _ _ _ _ _ us hl => match us, hl with | [_], _ => rfl)
    (case a21 => k_is); (case l21 => k_is); (case c21 => k_is); (case k21 => k_is); (case b21 => exact fun _ _ _ _ _ _ us hl => match us, hl with | [_, _], _ => rfl)
    (case a22 => k_is); (case l22 => k_is); (case c22 => k_is); (case k22 => k_is); (case b22 => exact fun _ _ _ _ _ _ us hl => match us, hl with | [_, _], _ => rfl)
    (case a23 => k_is); (case l23 => k_is); (case c23 => k_is); (case k23 => k_is); (case b23 => exact fun _ _ _ _ _ _ us hl => match us, hl with | [_], _ => rfl)
    (case a24 => k_is); (case l24 => k_is); (case c24 => k_is); (case k24 => k_is); (case b24 => exact fun _ _ _ _ _ _ us hl => match us, hl with | [_, _, _], _ => rfl)
    (case a25 => k_is); (case l25 => k_is); (case c25 => k_is); (case k25 => k_is); (case b25 => exact fun _ _ _ _ _ _ us hl => match us, hl with | [_, _, _], _ => rfl)
    (case a26 => k_is); (case l26 => k_is); (case c26 => k_is); (case k26 => k_is); (case b26 => exact fun _ _ _ _ _ _ us hl => match us, hl with | [_, _], _ => rfl)
    (case a27 => k_is); (case l27 => k_is); (case c27 => k_is); (case k27 => k_is); (case b27 => exact fun _ _ _ _ _ _ us hl => match us, hl with | [_], _ => rfl)
    (case a28 => k_is); (case l28 => k_is); (case c28 => k_is); (case k28 => k_is); (case b28 => exact fun _ _ _ _ _ _ us hl => match us, hl with | [_, _], _ => rfl)
    (case a29 => k_is); (case l29 => k_is); (case c29 => k_is); (case k29 => k_is); (case b29 => exact fun _ _ _ _ _ _ us hl => match us, hl with | [_], _ => rfl)
    (case a30 => k_is); (case l30 => k_is); (case c30 => k_is); (case k30 => k_is); (case b30 => exact fun _ _ _ _ _ _ us hl => match us, hl with | [_, _], _ => rfl)
    (case a31 => k_is); (case l31 => k_is); (case c31 => k_is); (case k31 => k_is); (case b31 => exact fun _ _ _ _ _ _ us hl => match us, hl with | [_, _], _ => rfl)
    (case a32 => k_is); (case l32 => k_is); (case c32 => k_is); (case k32 => k_is); (case b32 => exact fun _ _ _ _ _ _ us hl => match us, hl with | [_], _ => rfl)
    (case a33 => k_is); (case l33 => k_is); (case c33 => k_is); (case k33 => k_is); (case b33 => exact fun _ _ _ _ _ _ us hl => match us, hl with | [_], _ => rfl)
    (case a34 => k_is); (case l34 => k_is); (case c34 => k_is); (case k34 => k_is); (case b34 => exact fun _ _ _ _ _ _ us hl => match us, hl with | [_, _], _ => rfl)
    (case a35 => k_is); (case l35 => k_is); (case c35 => k_is); (case k35 => k_is); (case b35 => exact fun _ _ _ _ _ _ us hl => match us, hl with | [_], _ => rfl)
    (case a36 => k_is); (case l36 => k_is); (case c36 => k_is); (case k36 => k_is); (case b36 => exact fun _ _ _ _ _ _ us hl => match us, hl with | [_], _ => rfl)
    (case a37 => k_is); (case l37 => k_is); (case c37 => k_is); (case k37 => k_is); (case b37 => exact fun _ _ _ _ _ _ us hl => match us, hl with | [_, _], _ => rfl)
    (case a38 => k_is); (case l38 => k_is); (case c38 => k_is); (case k38 => k_is); (case b38 => exact fun _ _ _ _ _ _ us hl => match us, hl with | [_, _, _, _, _], _ => rfl)
    (case a39 => k_is); (case l39 => k_is); (case c39 => k_is); (case k39 => k_is); (case b39 => exact fun _ _ _ _ _ _ us hl => match us, hl with | [_, _, _], _ => rfl)
    (case a40 => k_is); (case l40 => k_is); (case c40 => k_is); (case k40 => k_is); (case b40 => exact fun _ _ _ _ _ _ us hl => match us, hl with | [_, _], _ => rfl)
    (case a41 => k_is); (case l41 => k_is); (case c41 => k_is); (case k41 => k_is); (case b41 => exact fun _ _ _ _ _ _ us hl => match us, hl with | [_, _, _], _ => rfl)
    (case a42 => k_is); (case l42 => k_is); (case c42 => k_is); (case k42 => k_is); (case b42 => exact fun _ _ _ _ _ _ us hl => match us, hl with | [_, _], _ => rfl)
    (case a43 => k_is); (case l43 => k_is); (case c43 => k_is); (case k43 => k_is); (case b43 => exact fun _ _ _ _ _ _ us hl => match us, hl with | [_], _ => rfl)
    (case a44 => k_is); (case l44 => k_is); (case c44 => k_is); (case k44 => k_is); (case b44 => exact fun _ _ _ _ _ _ us hl => match us, hl with | [_, _, _], _ => rfl)
    (case a45 => k_is); (case l45 => k_is); (case c45 => k_is); (case k45 => k_is); (case b45 => exact fun _ _ _ _ _ _ us hl => match us, hl with | [_, _], _ => rfl)
    (case a46 => k_is); (case l46 => k_is); (case c46 => k_is); (case k46 => k_is); (case b46 => exact fun _ _ _ _ _ _ us hl => match us, hl with | [_], _ => rfl)
    (case a47 => k_is); (case l47 => k_is); (case c47 => k_is); (case k47 => k_is); (case b47 => exact fun _ _ _ _ _ _ us hl => match us, hl with | [_], _ => rfl)
    (case a48 => k_is); (case l48 => k_is); (case c48 => k_is); (case k48 => k_is); (case b48 => exact fun _ _ _ _ _ _ us hl => match us, hl with | [_, _], _ => rfl)
    (case a49 => k_is); (case l49 => k_is); (case c49 => k_is); (case k49 => k_is); (case b49 => exact fun _ _ _ _ _ _ us hl => match us, hl with | [_], _ => rfl)
    (case a50 => k_is); (case l50 => k_is); (case c50 => k_is); (case k50 => k_is); (case b50 => exact fun _ _ _ _ _ _ us hl => match us, hl with | [_, _], _ => rfl)
    (case a51 => k_is); (case l51 => k_is); (case c51 => k_is); (case k51 => k_is); (case b51 => exact fun _ _ _ _ _ _ us hl => match us, hl with | [_, _], _ => rfl)
    (case a52 => k_is); (case l52 => k_is); (case c52 => k_is); (case k52 => k_is); (case b52 => exact fun _ _ _ _ _ _ us hl => match us, hl with | [_], _ => rfl)
    (case a53 => k_is); (case l53 => k_is); (case c53 => k_is); (case k53 => k_is); (case b53 => exact fun _ _ _ _ _ _ us hl => match us, hl with | [_, _], _ => rfl)
    (case a54 => k_is); (case l54 => k_is); (case c54 => k_is); (case k54 => k_is); (case b54 => exact fun _ _ _ _ _ _ us hl => match us, hl with | [_, _], _ => rfl)
    (case a55 => k_is); (case l55 => k_is); (case c55 => k_is); (case k55 => k_is); (case b55 => exact fun _ _ _ _ _ _ us hl => match us, hl with | [_, _], _ => rfl)
    (case a56 => k_is); (case l56 => k_is); (case c56 => k_is); (case k56 => k_is); (case b56 => exact fun _ _ _ _ _ _ us hl => match us, hl with | [_, _], _ => rfl)
    (case a57 => k_is); (case l57 => k_is); (case c57 => k_is); (case k57 => k_is); (case b57 => exact fun _ _ _ _ _ _ us hl => match us, hl with | [_, _], _ => rfl)
    (case a58 => k_is); (case l58 => k_is); (case c58 => k_is); (case k58 => k_is); (case b58 => exact fun _ _ _ _ _ _ us hl => match us, hl with | [_], _ => rfl)
    (case a59 => k_is); (case l59 => k_is); (case c59 => k_is); (case k59 => k_is); (case b59 => exact fun _ _ _ _ _ _ us hl => match us, hl with | [_], _ => rfl)
    (case a60 => k_is); (case l60 => k_is); (case c60 => k_is); (case k60 => k_is); (case b60 => exact fun _ _ _ _ _ _ us hl => match us, hl with | [_, _], _ => rfl)
    (case a61 => k_is); (case l61 => k_is); (case c61 => k_is); (case k61 => k_is); (case b61 => exact fun _ _ _ _ _ _ us hl => match us, hl with | [_, _], _ => rfl)
    (case a62 => k_is); (case l62 => k_is); (case c62 => k_is); (case k62 => k_is); (case b62 => exact fun _ _ _ _ _ _ us hl => match us, hl with | [_, _], _ => rfl)
    (case a63 => k_is); (case l63 => k_is); (case c63 => k_is); (case k63 => k_is); (case b63 => exact fun _ _ _ _ _ _ us hl => match us, hl with | [_, _], _ => rfl)
    (case a64 => k_is); (case l64 => k_is); (case c64 => k_is); (case k64 => k_is); (case b64 => exact fun _ _ _ _ _ _ us hl => match us, hl with | [_, _], _ => rfl)
    (case a65 => k_is); (case l65 => k_is); (case c65 => k_is); (case k65 => k_is); (case b65 => exact fun _ _ _ _ _ _ us hl => match us, hl with | [_, _], _ => rfl)
    (case a66 => k_is); (case l66 => k_is); (case c66 => k_is); (case k66 => k_is); (case b66 => exact fun _ _ _ _ _ _ us hl => match us, hl with | [_], _ => rfl)
    (case a67 => k_is); (case l67 => k_is); (case c67 => k_is); (case k67 => k_is); (case b67 => exact fun _ _ _ _ _ _ us hl => match us, hl with | [_, _], _ => rfl)
    (case a68 => k_is); (case l68 => k_is); (case c68 => k_is); (case k68 => k_is); (case b68 => exact fun _ _ _ _ _ _ us hl => match us, hl with | [_, _], _ => rfl)
    (case a69 => k_is); (case l69 => k_is); (case c69 => k_is); (case k69 => k_is); (case b69 => exact fun _ _ _ _ _ _ us hl => match us, hl with | [_], _ => rfl)
    (case a70 => k_is); (case l70 => k_is); (case c70 => k_is); (case k70 => k_is); (case b70 => exact fun _ _ _ _ _ _ us hl => match us, hl with | [_], _ => rfl)
    (case a71 => k_is); (case l71 => k_is); (case c71 => k_is); (case k71 => k_is); (case b71 => exact fun _ _ _ _ _ _ us hl => match us, hl with | [_, _], _ => rfl)
    (case a72 => k_is); (case l72 => k_is); (case c72 => k_is); (case k72 => k_is); (case b72 => exact fun _ _ _ _ _ _ us hl => match us, hl with | [_, _], _ => rfl)
    (case a73 => k_is); (case l73 => k_is); (case c73 => k_is); (case k73 => k_is); (case b73 => exact fun _ _ _ _ _ _ us hl => match us, hl with | [_, _], _ => rfl)
    (case a74 => k_is); (case l74 => k_is); (case c74 => k_is); (case k74 => k_is); (case b74 => exact fun _ _ _ _ _ _ us hl => match us, hl with | [_], _ => rfl)
    (case a75 => k_is); (case l75 => k_is); (case c75 => k_is); (case k75 => k_is); (case b75 => exact fun _ _ _ _ _ _ us hl => match us, hl with | [_], _ => rfl)
    (case a76 => k_is); (case l76 => k_is); (case c76 => k_is); (case k76 => k_is); (case b76 => exact fun _ _ _ _ _ _ us hl => match us, hl with | [_, _], _ => rfl)
    (case a77 => k_is); (case l77 => k_is); (case c77 => k_is); (case k77 => k_is); (case b77 => exact fun _ _ _ _ _ _ us hl => match us, hl with | [_, _], _ => rfl)
    (case a78 => k_is); (case l78 => k_is); (case c78 => k_is); (case k78 => k_is); (case b78 => exact fun _ _ _ _ _ _ us hl => match us, hl with | [_], _ => rfl)
    (case a79 => k_is); (case l79 => k_is); (case c79 => k_is); (case k79 => k_is); (case b79 => exact fun _ _ _ _ _ _ us hl => match us, hl with | [_, _], _ => rfl)
    (case g1 => k_is)
    (case h1 => exact ⟨_, rfl⟩)
    (case g2 => k_is)
    (case h2 => exact ⟨_, rfl⟩)
    (case ne => decide)
#print axioms PySem.Challenge.cw_surefoot_k25_weights_bound_holds
