import PyProof.Rows.All
import Wide.All
import OpenK.AllK
import Wide.FinOn
import Lean
import PyProof.EqAt
import PyProof.EqKinds
import PyProof.TupleCall
import KE.KIntText
import KE.KTryMore
import KE.KLam
import PySem.Challenge.RW_surefoot_k24_texts_refused
set_option Elab.async false
set_option linter.all false
set_option maxRecDepth 100000
namespace L2
open PySem PySem.Spec PyProof.Rows
noncomputable abbrev Key := Sum Int Str
noncomputable def keyIs : Key → Value → Bool
  | .inl k, v => Value.isInt k v
  | .inr x, v => Value.isStrOf x v
noncomputable def keyH (w : World) : Key → Int
  | .inl k => hashInt k
  | .inr x => hashStr w x
theorem keyIs_shape : ∀ {k : Key} {v : Value}, keyIs k v = true → (∃ i t, k = Sum.inl i ∧ v = Value.int i t) ∨ (∃ x t, k = Sum.inr x ∧ v = Value.str x t)
  | .inl i, v, h => by
    obtain ⟨t, e⟩ := Value.isInt_shape (k := i) (v := v) h
    exact .inl ⟨i, t, rfl, e⟩
  | .inr x, v, h => by
    obtain ⟨t, e⟩ := Value.isStrOf_shape (x := x) (v := v) h
    exact .inr ⟨x, t, rfl, e⟩
theorem key_ll (a b : Int) : decide ((Sum.inl a : Key) = Sum.inl b) = (a == b) := by
  by_cases e : a = b
  · subst e; simp
  · have h : ¬ (Sum.inl a : Key) = Sum.inl b := fun q => e (Sum.inl.inj q)
    rw [decide_eq_false h]
    exact (beq_eq_false_iff_ne.mpr e).symm
theorem key_rr (a b : Str) : decide ((Sum.inr a : Key) = Sum.inr b) = decide (a = b) := by
  by_cases e : a = b
  · subst e; simp
  · have h : ¬ (Sum.inr a : Key) = Sum.inr b := fun q => e (Sum.inr.inj q)
    rw [decide_eq_false h, decide_eq_false e]
theorem key_lr (a : Int) (b : Str) : decide ((Sum.inl a : Key) = Sum.inr b) = false := decide_eq_false (fun q => nomatch q)
theorem key_rl (a : Str) (b : Int) : decide ((Sum.inr a : Key) = Sum.inl b) = false := decide_eq_false (fun q => nomatch q)
noncomputable def mixKind (prog : Program) (w : World) : PySem.KeyKind prog w Key where
  is := keyIs
  hash := keyH w
  inj := fun v a b ha hb => by
    rcases keyIs_shape ha with ⟨i, t, rfl, rfl⟩ | ⟨x, t, rfl, rfl⟩
    · rcases keyIs_shape hb with ⟨j, u, rfl, e⟩ | ⟨y, u, rfl, e⟩
      · injection e with e1 _; rw [e1]
      · exact nomatch e
    · rcases keyIs_shape hb with ⟨j, u, rfl, e⟩ | ⟨y, u, rfl, e⟩
      · exact nomatch e
      · injection e with e1 _; rw [e1]
  byValue := fun k v h => by
    rcases keyIs_shape h with ⟨i, t, rfl, rfl⟩ | ⟨x, t, rfl, rfl⟩ <;> rfl
  pyHash := fun hv h => by
    rcases keyIs_shape hv with ⟨i, t, rfl, rfl⟩ | ⟨x, t, rfl, rfl⟩
    · exact wpAny_pyHash_int h
    · exact wpAny_pyHash_str h
  eqBool := fun hu hv h => by
    rcases keyIs_shape hu with ⟨i, t, rfl, rfl⟩ | ⟨x, t, rfl, rfl⟩
    · rcases keyIs_shape hv with ⟨j, u, rfl, rfl⟩ | ⟨y, u, rfl, rfl⟩
      · rw [key_ll] at h; exact wpAny_eqBool_int h
      · rw [key_lr] at h; exact SeqAt.EqAt.int_str i t y u _ _ _ _ h
    · rcases keyIs_shape hv with ⟨j, u, rfl, rfl⟩ | ⟨y, u, rfl, rfl⟩
      · rw [key_rl] at h; exact SeqAt.EqAt.str_int x t j u _ _ _ _ h
      · rw [key_rr] at h; exact wpAny_eqBool_str h
  «strs» := fun k x t v h => by
    rcases keyIs_shape h with ⟨i, u, rfl, e⟩ | ⟨y, u, rfl, e⟩
    · exact nomatch e
    · injection e with e1 _
      subst e1
      cases v <;> rfl
end L2
namespace L2
open PySem PySem.Spec PyProof.Rows
inductive V where
  | non | bl (b : Bool) | int (i : Int) | str (x : Str) | byt (b : Array UInt8) | flt (b : UInt64) | ref (a : Addr) | ty (n : String)
  deriving DecidableEq
noncomputable def RelV : V → Value → Prop
  | .non, u => u = Value.none
  | .bl b, u => u = Value.bool b
  | .int i, u => ∃ t, u = Value.int i t
  | .str x, u => ∃ t, u = Value.str x t
  | .byt b, u => ∃ t, u = Value.bytes b t
  | .flt b, u => ∃ t, u = Value.float b t
  | .ref a, u => u = Value.ref a
  | .ty n, u => u = Value.type n
noncomputable abbrev Vals : List V → List Value → Prop := Paired RelV
theorem Vals.length {xs : List V} {us : List Value} (r : Vals xs us) : xs.length = us.length := Paired.length r
theorem Vals.get : ∀ {xs : List V} {us : List Value} {i : Nat} {x : V}, Vals xs us → xs[i]? = some x → ∃ u, us[i]? = some u ∧ RelV x u
  | _, _, _, _, .nil, e => by simp at e
  | _, _, 0, _, .cons r _, e => by simp at e; subst e; exact ⟨_, rfl, r⟩
  | _, _, i + 1, x, .cons _ t, e => by
    obtain ⟨u, h1, h2⟩ := Vals.get (i := i) (x := x) t (by simpa using e)
    exact ⟨u, by simpa using h1, h2⟩
theorem Vals.set {x : V} {u : Value} (r : RelV x u) : ∀ {xs : List V} {us : List Value} (i : Nat), Vals xs us → Vals (xs.set i x) (us.set i u)
  | _, _, _, .nil => .nil
  | _, _, 0, .cons _ t => .cons r t
  | _, _, i + 1, .cons q t => .cons q (Vals.set r i t)
theorem Vals.append : ∀ {xs ys : List V} {us ws : List Value}, Vals xs us → Vals ys ws → Vals (xs ++ ys) (us ++ ws)
  | _, _, _, _, .nil, s => s
  | _, _, _, _, .cons r t, s => .cons r (Vals.append t s)
theorem Vals.take : ∀ {xs : List V} {us : List Value} (n : Nat), Vals xs us → Vals (xs.take n) (us.take n)
  | _, _, 0, _ => .nil
  | _, _, _ + 1, .nil => .nil
  | _, _, n + 1, .cons r t => .cons r (Vals.take n t)
theorem Vals.drop : ∀ {xs : List V} {us : List Value} (n : Nat), Vals xs us → Vals (xs.drop n) (us.drop n)
  | _, _, 0, r => r
  | _, _, _ + 1, .nil => .nil
  | _, _, n + 1, .cons _ t => Vals.drop n t
noncomputable def RelO : Option V → Option Value → Prop
  | some v, some u => RelV v u
  | none, none => True
  | _, _ => False
noncomputable def KV {κ : Type} : List (κ × V) → List (κ × Value) → Prop := Paired fun (p : κ × V) (q : κ × Value) => p.1 = q.1 ∧ RelV p.2 q.2
noncomputable def kV : Key → V
  | .inl i => .int i
  | .inr x => .str x
inductive HO where
    | lst (xs : List V)
    | tup (xs : List V)
    | dK (kvs : List (Key × V)) | dT (kvs : List (List Key × V))
    | set (S : Int → Bool) (n : Nat)
    | ins (C dx : Addr) (fs : List (Str × V))
    | own (x : Addr)
    | xd (fs : List (Str × V))
    | met (f x : Addr)
    | rng (lo hi : Int)
    | frz (o : Obj) (u : HO)
    | tbl (ps : Array Value)
    | ext (φ : Heap → Prop)
noncomputable abbrev Hp := Addr → Option HO
noncomputable def upd (H : Hp) (a : Addr) (o : HO) : Hp := fun b => if b = a then some o else H b
theorem upd_same {H : Hp} {a : Addr} {o : HO} : upd H a o a = some o := by unfold upd; rw [if_pos rfl]
theorem upd_ne {H : Hp} {a b : Addr} {o : HO} (h : b ≠ a) : upd H a o b = H b := by unfold upd; rw [if_neg h]
theorem upd_upd {H : Hp} {a : Addr} {o u : HO} : upd (upd H a o) a u = upd H a u := by
  funext b; unfold upd; split <;> rfl
theorem ne_of_none {H : Hp} {a b : Addr} {o : HO} (h : H a = some o) (h' : H b = none) : a ≠ b := by
  intro e; subst e; rw [h] at h'; cases h'
section
variable (P : Program) (w : World)
noncomputable def ObjOk (H : Hp) (h : Heap) (a : Addr) : HO → Prop
  | .lst xs => xs.length ≤ sizeLine ∧ ∃ (its : List Value) (n : Nat), Vals xs its ∧ h.get? a = some { cls := .type "list", data := .seq its.toArray n }
  | .tup xs => xs.length ≤ sizeLine ∧ ∃ its : List Value, Vals xs its ∧ IsTup h a its.toArray
  | .dK kvs => kvs.length ≤ sizeLine ∧ (a == sysModules) = false ∧ ∃ vs, KV kvs vs ∧ h.DictOf (mixKind P w) a vs
  | .dT kvs => kvs.length ≤ sizeLine ∧ (a == sysModules) = false ∧ ∃ xs : List (List Key × Addr × Value),
      Paired (fun (p : List Key × V) (q : List Key × Addr × Value) => p.1 = q.1 ∧ H q.2.1 = some (.tup (p.1.map kV)) ∧ RelV p.2 q.2.2) kvs xs ∧
      ∃ o es ep, h.get? a = some o ∧ o.ExactDict ∧ o.data = .dict es ep ∧ es.toList = xs.map (entryOfKey (tupleKind (mixKind P w))) ∧ (xs.map (·.1)).Nodup
  | .set S n => h.SetOf (intKind P w) a S n
  | .ins C dx fs => H dx = some (.own a) ∧ fs.length ≤ 1000 ∧ dx ≠ a ∧ h.get? a = some (PySem.W.instObj C dx) ∧
      ∃ mA, h.Ns1 dx mA ∧ (∀ f, RelO (fs.lookup f) (mA f)) ∧ PySem.Within mA (fs.map (·.1))
  | .own _ => ∃ o, h.get? a = some o
  | .xd fs => ∃ mA, h.Ns1 a mA ∧ ∀ f, RelO (fs.lookup f) (mA f)
  | .rng lo hi => ∃ t u v, h.get? a = some { cls := .type "range", data := .fields #[.int lo t, .int hi u, .int 1 v] }
  | .frz o u => h.get? a = some o ∧ ObjOk H h a u
  | .tbl ps => h.get? a = some { cls := .none, data := .fields ps }
  | .met f x => h.get? a = some (PySem.W.methodObj (.ref f) (.ref x))
  | .ext φ => φ h ∧ (∃ o, h.get? a = some o) ∧ ∀ h1 h2 : Heap, φ h1 → (∀ o, h1.get? a = some o → h2.get? a = some o) → φ h2
noncomputable def HOk (H : Hp) (h : Heap) : Prop := ∀ a o, H a = some o → ObjOk P w H h a o
end
section
variable {P : Program} {w : World} {H H' : Hp} {h h' : Heap} {a : Addr} {o : HO}
theorem ObjOk.lt (x : ObjOk P w H h a o) : a < h.objs.size := by
  cases o with
  | lst xs => obtain ⟨_, _, _, _, e⟩ := x; exact Heap.lt_size e
  | tup xs => obtain ⟨_, _, _, p⟩ := x; exact p.lt
  | dK kvs => obtain ⟨_, _, _, _, o, _, _, e, _⟩ := x; exact Heap.lt_size e
  | dT kvs => obtain ⟨_, _, _, _, o, _, _, e, _⟩ := x; exact Heap.lt_size e
  | set S n => obtain ⟨o, _, _, _, e, _⟩ := x; exact Heap.lt_size e
  | ins C dx fs => obtain ⟨_, _, _, e, _⟩ := x; exact Heap.lt_size e
  | own y => obtain ⟨_, e⟩ := x; exact Heap.lt_size e
  | xd fs => obtain ⟨_, ⟨_, _, _, e, _⟩, _⟩ := x; exact Heap.lt_size e
  | rng lo hi => obtain ⟨_, _, _, e⟩ := x; exact Heap.lt_size e
  | frz ob u => obtain ⟨e, _⟩ := x; exact Heap.lt_size e
  | tbl ps => exact Heap.lt_size (show h.get? a = some _ from x)
  | met f y => exact Heap.lt_size (show h.get? a = some _ from x)
  | ext φ => obtain ⟨_, ⟨_, e⟩, _⟩ := x; exact Heap.lt_size e
theorem Paired.mapP {α β : Type} {F G : α → β → Prop} : ∀ {l₁ : List α} {l₂ : List β}, Paired F l₁ l₂ → (∀ a b, F a b → G a b) → Paired G l₁ l₂
  | _, _, .nil, _ => .nil
  | _, _, .cons r t, f => .cons (f _ _ r) (Paired.mapP t f)
theorem ObjOk.stay (x : ObjOk P w H h a o) (k : ∀ b u, (b = a ∨ H b = some (.own a)) → h.get? b = some u → h'.get? b = some u)
    (ho : ∀ b, H b = some (.own a) → H' b = some (.own a)) (ht : ∀ b xs, H b = some (.tup xs) → H' b = some (.tup xs)) : ObjOk P w H' h' a o := by
  induction o with
  | lst xs => obtain ⟨z, its, n, r, e⟩ := x; exact ⟨z, its, n, r, k _ _ (.inl rfl) e⟩
  | tup xs => obtain ⟨z, its, r, ob, e, c⟩ := x; exact ⟨z, its, r, ob, k _ _ (.inl rfl) e, c⟩
  | dK kvs => obtain ⟨z, y, vs, r, ob, es, ep, e, c⟩ := x; exact ⟨z, y, vs, r, ob, es, ep, k _ _ (.inl rfl) e, c⟩
  | dT kvs =>
    obtain ⟨z, y, xs, r, ob, es, ep, e, c⟩ := x
    exact ⟨z, y, xs, Paired.mapP r fun p q z => ⟨z.1, ht _ _ z.2.1, z.2.2⟩, ob, es, ep, k _ _ (.inl rfl) e, c⟩
  | set S n => obtain ⟨ob, es, ep, t, e, c⟩ := x; exact ⟨ob, es, ep, t, k _ _ (.inl rfl) e, c⟩
  | ins C dx fs =>
    obtain ⟨d, z, ne, e, mA, ⟨od, es, ep, e2, c⟩, r⟩ := x
    exact ⟨ho _ d, z, ne, k _ _ (.inl rfl) e, mA, ⟨od, es, ep, k _ _ (.inr d) e2, c⟩, r⟩
  | own y => obtain ⟨ob, e⟩ := x; exact ⟨ob, k _ _ (.inl rfl) e⟩
  | xd fs => obtain ⟨mA, ⟨od, es, ep, e, c⟩, r⟩ := x; exact ⟨mA, ⟨od, es, ep, k _ _ (.inl rfl) e, c⟩, r⟩
  | rng lo hi => obtain ⟨t, u, v, e⟩ := x; exact ⟨t, u, v, k _ _ (.inl rfl) e⟩
  | frz ob u ih => obtain ⟨e, q⟩ := x; exact ⟨k _ _ (.inl rfl) e, ih q⟩
  | tbl ps =>
    have e : h.get? a = some { cls := .none, data := .fields ps } := x
    show h'.get? a = some { cls := .none, data := .fields ps }
    exact k a _ (.inl rfl) e
  | met f y =>
    have e : h.get? a = some (PySem.W.methodObj (.ref f) (.ref y)) := x
    show h'.get? a = some (PySem.W.methodObj (.ref f) (.ref y))
    exact k a _ (.inl rfl) e
  | ext φ => obtain ⟨p, ⟨o, e⟩, st⟩ := x; exact ⟨st _ _ p fun o q => k _ _ (.inl rfl) q, ⟨o, k _ _ (.inl rfl) e⟩, st⟩
theorem HOk.lt (x : HOk P w H h) (e : H a = some o) : a < h.objs.size := (x a o e).lt
theorem HOk.fresh (x : HOk P w H h) (e : h.objs.size ≤ a) : H a = none := by
  cases q : H a with
  | none => rfl
  | some u => exact absurd (Nat.lt_of_lt_of_le (x.lt q) e) (Nat.lt_irrefl _)
theorem HOk.kept (x : HOk P w H h) (k : ∀ b u, h.get? b = some u → h'.get? b = some u) : HOk P w H h' := fun a o e =>
  (x a o e).stay (fun b u _ q => k b u q) (fun _ q => q) fun _ _ q => q
theorem HOk.laid (x : HOk P w H h) (k : ∀ b u, h.get? b = some u → h'.get? b = some u) (hp : h.objs.size ≤ a) (new : ObjOk P w (upd H a o) h' a o) : HOk P w (upd H a o) h' := fun b u e => by
  have hn := x.fresh hp
  by_cases hb : b = a
  · subst hb; rw [upd_same] at e; cases e; exact new
  · rw [upd_ne hb] at e
    exact (x b u e).stay (fun c v _ q => k c v q) (fun c q => by rw [upd_ne (ne_of_none q hn)]; exact q) fun c xs q => by rw [upd_ne (ne_of_none q hn)]; exact q
end
noncomputable def Rd (H : Hp) (a : Addr) (u : HO) : Prop := H a = some u ∨ ∃ o, H a = some (.frz o u)
theorem Rd.ok {P : Program} {w : World} {H : Hp} {h : Heap} {a : Addr} {u : HO} (r : Rd H a u) (x : HOk P w H h) : ObjOk P w H h a u := by
  rcases r with r | ⟨o, r⟩
  · exact x a u r
  · obtain ⟨_, q⟩ := x a _ r
    exact q
noncomputable def Mut : Option HO → Prop
  | some (.lst _) => True
  | some (.dK _) => True
  | some (.dT _) => True
  | some (.set _ _) => True
  | some (.ins _ _ _) => True
  | some (.ext _) => True
  | _ => False
section
variable {P : Program} {w : World} {H : Hp} {h h' : Heap} {x e : Addr} {o' : HO}
theorem HOk.write (ok : HOk P w H h) (mu : Mut (H x)) (he : e = x ∨ H e = some (.own x)) (k : ∀ b u, b ≠ e → h.get? b = some u → h'.get? b = some u) (heo : ∃ u, h'.get? e = some u)
    (new : ObjOk P w (upd H x o') h' x o') : HOk P w (upd H x o') h' := fun b u q => by
  have nown : ∀ c y, H c = some (.own y) → c ≠ x := fun c y r z => by subst z; rw [r] at mu; exact mu
  have ntup : ∀ c xs, H c = some (.tup xs) → c ≠ x := fun c xs r z => by subst z; rw [r] at mu; exact mu
  by_cases hb : b = x
  · subst hb; rw [upd_same] at q; cases q; exact new
  · rw [upd_ne hb] at q
    by_cases hbe : b = e
    · have q' : H b = some (.own x) := by
        rcases he with z | z
        · exact absurd (hbe.trans z) hb
        · rw [hbe]; exact z
      rw [q] at q'; cases q'
      obtain ⟨v, hv⟩ := heo
      exact ⟨v, by rw [hbe]; exact hv⟩
    · refine (ok b u q).stay (fun c v hc r => k c v ?_ r) (fun c r => by rw [upd_ne (nown c b r)]; exact r) fun c xs r => by rw [upd_ne (ntup c xs r)]; exact r
      rcases hc with rfl | hc
      · exact hbe
      · rintro rfl
        rcases he with z | z
        · exact nown c b hc z
        · rw [hc] at z; cases z; exact hb rfl
end
structure Un (fs ex : List Addr) (H H' : Hp) (h h' : Heap) : Prop where
  keep : ∀ b o, h.get? b = some o → H b = none → b ∉ fs → b ∉ ex → h'.get? b = some o
  slot : ∀ b o, h.get? b = some o → H b = none → b ∈ fs → b ∉ ex → ∃ sl, h'.get? b = some { o with slots := sl }
  free : ∀ b o, h.get? b = some o → H b = none → b ∉ ex → H' b = none
  there : ∀ b o, h.get? b = some o → b ∉ ex → ∃ o', h'.get? b = some o'
  tups : ∀ b xs, H b = some (.tup xs) → H' b = some (.tup xs)
  frzs : ∀ b o u, H b = some (.frz o u) → H' b = some (.frz o u)
  tbls : ∀ b ps, H b = some (.tbl ps) → ∃ more, H' b = some (.tbl (ps ++ more))
section
variable {fs fs' ex ex' : List Addr} {H H1 H2 : Hp} {h h1 h2 h' : Heap} {a x e : Addr} {o : HO}
theorem Un.any (u : Un fs ex H H1 h h1) {b : Addr} {ob : Obj} (q : h.get? b = some ob) (n : H b = none) (hx : b ∉ ex) : ∃ sl, h1.get? b = some { ob with slots := sl } := by
  by_cases hb : b ∈ fs
  · exact u.slot b ob q n hb hx
  · exact ⟨ob.slots, u.keep b ob q n hb hx⟩
theorem Un.kept (k : ∀ b u, h.get? b = some u → h'.get? b = some u) : Un fs ex H H h h' :=
  ⟨fun b ob q _ _ _ => k b ob q, fun b ob q _ _ _ => ⟨ob.slots, k b ob q⟩, fun _ _ _ n _ => n, fun b ob q _ => ⟨ob, k b ob q⟩, fun _ _ q => q, fun _ _ _ q => q, fun _ ps q => ⟨#[], by rw [q]; simp⟩⟩
theorem Un.refl : Un fs ex H H h h := Un.kept fun _ _ q => q
theorem Un.laid (k : ∀ b u, h.get? b = some u → h'.get? b = some u) (hp : h.objs.size ≤ a) (hn : H a = none) : Un fs ex H (upd H a o) h h' where
  keep := fun b u q _ _ _ => k b u q
  slot := fun b u q _ _ _ => ⟨u.slots, k b u q⟩
  free := fun b u q n _ => by rw [upd_ne (Nat.ne_of_lt (Nat.lt_of_lt_of_le (Heap.lt_size q) hp))]; exact n
  there := fun b u q _ => ⟨u, k b u q⟩
  tups := fun b xs q => by rw [upd_ne (ne_of_none q hn)]; exact q
  frzs := fun b u xs q => by rw [upd_ne (ne_of_none q hn)]; exact q
  tbls := fun b ps q => ⟨#[], by rw [upd_ne (ne_of_none q hn), q]; simp⟩
theorem Un.write (mu : Mut (H x)) (he : e = x ∨ H e = some (.own x)) (k : ∀ b u, b ≠ e → h.get? b = some u → h'.get? b = some u) (heo : ∃ u, h'.get? e = some u) : Un fs ex H (upd H x o) h h' := by
  have hx : ∀ b, H b = none → b ≠ x := fun b n z => by subst z; rw [n] at mu; exact mu
  have hb : ∀ b, H b = none → b ≠ e := fun b n z => by
    subst z
    rcases he with r | r
    · exact hx b n r
    · rw [n] at r; cases r
  have hm : ∀ b u, H b = some u → ¬ Mut (some u) → b ≠ x := fun b u q nm z => by subst z; rw [q] at mu; exact nm mu
  refine ⟨fun b u q n _ _ => k b u (hb b n) q, fun b u q n _ _ => ⟨u.slots, k b u (hb b n) q⟩, fun b u q n _ => by rw [upd_ne (hx b n)]; exact n, fun b u q _ => ?_,
    fun b xs q => by rw [upd_ne (hm b _ q fun z => z)]; exact q, fun b u xs q => by rw [upd_ne (hm b _ q fun z => z)]; exact q, fun b ps q => ⟨#[], by rw [upd_ne (hm b _ q fun z => z), q]; simp⟩⟩
  by_cases hbe : b = e
  · subst hbe; exact heo
  · exact ⟨u, k b u hbe q⟩
end
noncomputable def trk (h : Heap) (H : Hp) : List Addr := (List.range h.objs.size).filter fun a => (H a).isSome
noncomputable def hidT (h : Heap) (H : Hp) : Heap := PySem.W.hideAll h (trk h H)
theorem hidT_size (h : Heap) (H : Hp) : (hidT h H).objs.size = h.objs.size := PySem.W.hideAll_size _ _
theorem hidT_get {h : Heap} {H : Hp} {b : Addr} {o : Obj} (e : h.get? b = some o) (n : H b = none) : (hidT h H).get? b = some o :=
  PySem.W.hideAll_get _ e fun hm => by
    have q : (H b).isSome = true := (List.mem_filter.mp hm).2
    rw [n] at q; simp at q
theorem of_hidT {h : Heap} {H : Hp} {b : Addr} {o : Obj} (e : (hidT h H).get? b = some o) : h.get? b = some o ∧ H b = none := by
  have e' : h.get? b = some o := PySem.W.of_hideAll (trk h H) e
  refine ⟨e', ?_⟩
  cases q : H b with
  | none => rfl
  | some x =>
    have hm : b ∈ trk h H := List.mem_filter.mpr ⟨List.mem_range.mpr (Heap.lt_size e'), by simp [q]⟩
    have z : (hidT h H).get? b = none := PySem.W.hideAll_none (trk h H) hm
    rw [z] at e; cases e
noncomputable def allNews (g h : Heap) (L : Addr) : List (Addr × Obj) := (List.range h.objs.size).filterMap fun a => if a = L ∨ (g.get? a).isSome = true then none else (h.get? a).map fun o => (a, o)
noncomputable def rest (g h : Heap) (L d : Addr) : List (Addr × Obj) := (allNews g h L).filter fun p => decide (p.1 ≠ d)
end L2
namespace L2
open PySem PySem.Spec PyProof.Rows
structure Mod (K : PySem.W.Frag) (mg : Str → Option Value) (base : Heap) : Prop where
  kin : K.In base
  glob : base.Ns mainGlobals mg
  blt : ∃ mb, base.Ns builtinsNs mb ∧ ∀ x : Str, x ≠ "__name__" → mb x = bootBuiltins x
  nolimit : base.NoLimit
  seer : base.NoSeer
structure Cx where
  prog : Program
  w : World
  K : PySem.W.Frag
  mg : Str → Option Value
  base : Heap
  A : Around
  N : List Str
  s₀ : Shared
  H₀ : Hp
  env : Env
  outer : List Env
  stack : List Env
  ex : List Addr
  fn : Str → Bool
  calm : Bool
  pn : List (Addr × Obj)
  xe : Value → Shared → Prop
noncomputable def frs (l : List Env) : List Addr := l.filterMap (·.frame)
noncomputable abbrev Cx.fs (X : Cx) : List Addr := frs X.outer
noncomputable def Vis (sc : Scope) (x : Str) : Prop := sc.names.lookup x = some .local ∨ sc.names.lookup x = some .cell ∨ sc.names.lookup x = some .free
noncomputable def Loc (sc : Scope) (x : Str) : Prop := sc.names.lookup x = some .local ∨ sc.names.lookup x = some .cell
noncomputable def Look (env : Env) (h : Heap) (m : Str → Option Value) (x : Str) (u : Value) : Prop :=
  (env.kindOf x = some .local ∧ m x = some u) ∨ ((env.kindOf x = some .cell ∨ env.kindOf x = some .free) ∧ ∃ c, env.cells.lookup x = some c ∧ h.IsCell c (some u))
structure Cx.Ok (X : Cx) : Prop where
  mod : Mod X.K X.mg X.base
  kind : X.env.scope.kind = .function
  glob : X.env.globals = mainGlobals
  blt : X.env.builtins = builtinsNs
  above : X.s₀.heap.objs.size ≤ X.env.locals
  inj : ∀ x y c, X.env.cells.lookup x = some c → X.env.cells.lookup y = some c → x = y
  has : ∀ x, (X.env.kindOf x = some .cell ∨ X.env.kindOf x = some .free) → ∃ c, X.env.cells.lookup x = some c
  cab : ∀ x c, X.fn x = true → X.env.cells.lookup x = some c → X.s₀.heap.objs.size ≤ c
  hd : X.calm = true → X.A.handled = none
  frames : X.A.frames = some X.stack
  stk : X.stack = X.outer ∨ (X.stack = X.env :: X.outer ∧ X.env.frame = some X.env.locals)
  exf : ∀ b ∈ X.ex, b ≠ X.env.locals ∧ ∀ x c, X.env.cells.lookup x = some c → c ≠ b
  bs : ∀ b o, X.base.get? b = some o → X.s₀.heap.get? b = some o ∧ X.H₀ b = none
  bsz : X.base.objs.size ≤ X.s₀.heap.objs.size
  noex : ∀ b o, X.base.get? b = some o → b ∉ X.ex
  exfs : ∀ b ∈ X.ex, b ∉ X.fs
  funs : X.s₀.heap.FunFrames X.base X.outer
  frf : ∀ b ∈ X.fs, X.H₀ b = none
structure Inv (X : Cx) (pins : List (Addr × Obj)) (σ : List (Option V)) (H : Hp) (s : Shared) : Prop where
  ok : X.Ok
  os : s.os = X.s₀.os
  bare : AllBare s.gens
  base : Un X.fs X.ex X.H₀ H X.s₀.heap s.heap
  loc : ∃ m, s.heap.Ns X.env.locals m ∧ ∀ (i : Nat) (x : Str) (v : V), X.N[i]? = some x → σ[i]? = some (some v) → Vis X.env.scope x → ∃ u, RelV v u ∧ Look X.env s.heap m x u
  cell : ∀ x c, X.env.cells.lookup x = some c → ∃ v, s.heap.IsCell c v
  free : H X.env.locals = none
  freeC : ∀ x c, X.env.cells.lookup x = some c → H c = none
  pin : ∀ p ∈ X.pn ++ pins, s.heap.get? p.1 = some p.2 ∧ H p.1 = none ∧ p.1 ≠ X.env.locals ∧ p.1 ∉ X.fs ∧ ∀ v, p.2.data ≠ .cell v
  hok : HOk X.prog X.w H s.heap
  len : σ.length = X.N.length
section
variable {X : Cx} {pins : List (Addr × Obj)} {σ : List (Option V)} {H H' : Hp} {s : Shared} {h' : Heap}
theorem Cx.Ok.nofr (ok : X.Ok) {b : Addr} {o : Obj} (e : X.base.get? b = some o) : b ∉ X.fs := fun hb => by
  have := (ok.funs.mem hb).1
  rw [e] at this; cases this
theorem Inv.bs (I : Inv X pins σ H s) : ∀ b o, X.base.get? b = some o → s.heap.get? b = some o ∧ H b = none := fun b o e =>
  ⟨I.base.keep b o (I.ok.bs b o e).1 (I.ok.bs b o e).2 (I.ok.nofr e) (I.ok.noex b o e), I.base.free b o (I.ok.bs b o e).1 (I.ok.bs b o e).2 (I.ok.noex b o e)⟩
theorem Inv.bk (I : Inv X pins σ H s) : ∀ b o, X.base.get? b = some o → s.heap.get? b = some o := fun b o e => (I.bs b o e).1
theorem Inv.mod (I : Inv X pins σ H s) : Mod X.K X.mg X.base := I.ok.mod
theorem Inv.kIn (I : Inv X pins σ H s) : X.K.In s.heap := I.ok.mod.kin.keeps I.bk
theorem Inv.lt (I : Inv X pins σ H s) : X.env.locals < s.heap.objs.size := let ⟨_, hn, _⟩ := I.loc; hn.lt
theorem Inv.sz (I : Inv X pins σ H s) : X.s₀.heap.objs.size ≤ s.heap.objs.size := Nat.le_trans I.ok.above (Nat.le_of_lt I.lt)
theorem Inv.nofs (I : Inv X pins σ H s) {a : Addr} (h : s.heap.objs.size ≤ a) : a ∉ X.fs := fun hb => by
  obtain ⟨_, o, ho, _⟩ := I.ok.funs.mem hb
  exact absurd (Nat.lt_of_lt_of_le (Heap.lt_size ho) (Nat.le_trans I.sz h)) (Nat.lt_irrefl _)
theorem Inv.cne (I : Inv X pins σ H s) : ∀ x c, X.env.cells.lookup x = some c → c ≠ X.env.locals := fun x c e z => by
  obtain ⟨v, o, ho, hd⟩ := I.cell x c e
  obtain ⟨m, ⟨o', es, ep, ho', hd', _⟩, _⟩ := I.loc
  rw [z, ho'] at ho; cases ho; rw [hd'] at hd; cases hd
theorem Inv.funs (I : Inv X pins σ H s) : s.heap.FunFrames X.base X.outer := by
  have all : ∀ (l : List Env), (∀ b ∈ frs l, b ∈ X.fs) → X.s₀.heap.FunFrames X.base l → s.heap.FunFrames X.base l := by
    intro l
    induction l with
    | nil => intro _ _; trivial
    | cons env r ih =>
      intro hs hl
      obtain ⟨hk, ⟨L, o, hf, hn, ho, hd⟩, hr⟩ := hl
      have hL : L ∈ X.fs := hs L (by unfold frs; rw [List.filterMap_cons, hf]; exact List.mem_cons_self)
      obtain ⟨sl, e⟩ := I.base.slot L o ho (I.ok.frf L hL) hL fun z => I.ok.exfs L z hL
      exact ⟨hk, ⟨L, _, hf, hn, e, hd⟩, ih (fun b hb => hs b (by unfold frs; rw [List.filterMap_cons, hf]; exact List.mem_cons_of_mem _ hb)) hr⟩
  exact all X.outer (fun _ hb => hb) I.ok.funs
theorem Inv.stack (I : Inv X pins σ H s) : s.heap.FunFrames X.base X.stack := by
  rcases I.ok.stk with e | ⟨e, hf⟩
  · rw [e]; exact I.funs
  · rw [e]
    obtain ⟨m, hn, _⟩ := I.loc
    refine .cons (by rw [I.ok.kind]; decide) hf hn ?_ I.funs
    exact Heap.get?_none_of_le (Nat.le_trans I.ok.bsz I.ok.above)
theorem Inv.stkSub (I : Inv X pins σ H s) : ∀ b ∈ frs X.stack, b ∈ X.env.locals :: X.fs := fun b hb => by
  rcases I.ok.stk with e | ⟨e, hf⟩
  · rw [e] at hb; exact List.mem_cons_of_mem _ hb
  · rw [e] at hb
    unfold frs at hb
    rw [List.filterMap_cons, hf] at hb
    exact hb
theorem Inv.stkFree (I : Inv X pins σ H s) : ∀ b ∈ frs X.stack, H b = none := fun b hb => by
  rcases List.mem_cons.mp (I.stkSub b hb) with e | hb
  · rw [e]; exact I.free
  · obtain ⟨_, o, ho, _⟩ := I.ok.funs.mem hb
    exact I.base.free b o ho (I.ok.frf b hb) fun z => I.ok.exfs b z hb
theorem Inv.step {g' : Array GenState} {t' : Nat} {d' : Drawn} {ch : List Addr} (I : Inv X pins σ H s)
    (hch : ∀ b ∈ ch, (b ∈ X.ex ∨ X.s₀.heap.objs.size ≤ b) ∧ b ≠ X.env.locals ∧ (∀ x c, X.env.cells.lookup x = some c → c ≠ b) ∧ ∀ p ∈ X.pn ++ pins, p.1 ≠ b)
    (keep : ∀ b o, b ≠ X.env.locals → b ∉ X.fs → b ∉ ch → s.heap.get? b = some o → H b = none → h'.get? b = some o)
    (slot : ∀ b o, b ≠ X.env.locals → b ∈ X.fs → b ∉ ch → s.heap.get? b = some o → H b = none → ∃ sl, h'.get? b = some { o with slots := sl }) (free : ∀ b o, b ∉ ch → s.heap.get? b = some o → H b = none → H' b = none)
    (there : ∀ b o, b ∉ ch → s.heap.get? b = some o → ∃ o', h'.get? b = some o')
    (tups : ∀ b xs, H b = some (.tup xs) → H' b = some (.tup xs)) (frzs : ∀ b o u, H b = some (.frz o u) → H' b = some (.frz o u)) (tbls : ∀ b ps, H b = some (.tbl ps) → ∃ more, H' b = some (.tbl (ps ++ more)))
    (ns : ∀ m, s.heap.Ns X.env.locals m → h'.Ns X.env.locals m) (hok : HOk X.prog X.w H' h') (hg : AllBare g') :
    Inv X pins σ H' { s with heap := h', gens := g', drawn := d', toks := t' } := by
  have neL : ∀ b o, X.s₀.heap.get? b = some o → b ≠ X.env.locals := fun b o e => Nat.ne_of_lt (Nat.lt_of_lt_of_le (Heap.lt_size e) I.ok.above)
  have neC : ∀ b o, X.s₀.heap.get? b = some o → b ∉ X.ex → b ∉ ch := fun b o e hx hb => by
    rcases (hch b hb).1 with z | z
    · exact hx z
    · exact absurd (Nat.lt_of_lt_of_le (Heap.lt_size e) z) (Nat.lt_irrefl _)
  have cellK : ∀ x c, X.env.cells.lookup x = some c → ∀ v, s.heap.IsCell c v → h'.IsCell c v := fun x c e v ⟨o, ho, hd⟩ => by
    have nch : c ∉ ch := fun z => (hch c z).2.2.1 x c e rfl
    by_cases hc : c ∈ X.fs
    · obtain ⟨sl, q⟩ := slot c o (I.cne x c e) hc nch ho (I.freeC x c e)
      exact ⟨_, q, hd⟩
    · exact ⟨o, keep c o (I.cne x c e) hc nch ho (I.freeC x c e), hd⟩
  refine ⟨I.ok, I.os, hg, ⟨fun b o e n hb hx => ?_, fun b o e n hb hx => ?_, fun b o e n hx => ?_, fun b o e hx => ?_, fun b xs e => tups b xs (I.base.tups b xs e), fun b o xs e => frzs b o xs (I.base.frzs b o xs e), fun b ps e => ?_⟩, ?_, fun x c e => ?_, ?_, fun x c e => ?_, fun p hp => ?_, hok, I.len⟩
  · exact keep b o (neL b o e) hb (neC b o e hx) (I.base.keep b o e n hb hx) (I.base.free b o e n hx)
  · obtain ⟨sl, e1⟩ := I.base.slot b o e n hb hx
    obtain ⟨sl', e2⟩ := slot b _ (neL b o e) hb (neC b o e hx) e1 (I.base.free b o e n hx)
    exact ⟨sl', e2⟩
  · obtain ⟨o', e1⟩ := I.base.there b o e hx
    exact free b o' (neC b o e hx) e1 (I.base.free b o e n hx)
  · obtain ⟨o', e1⟩ := I.base.there b o e hx
    exact there b o' (neC b o e hx) e1
  · obtain ⟨m1, e1⟩ := I.base.tbls b ps e
    obtain ⟨m2, e2⟩ := tbls b _ e1
    exact ⟨m1 ++ m2, by rw [e2, Array.append_assoc]⟩
  · obtain ⟨m, hn, hl⟩ := I.loc
    refine ⟨m, ns m hn, fun i x v e1 e2 e3 => ?_⟩
    obtain ⟨u, r, l⟩ := hl i x v e1 e2 e3
    refine ⟨u, r, ?_⟩
    rcases l with l | ⟨k, c, e, z⟩
    · exact .inl l
    · exact .inr ⟨k, c, e, cellK x c e _ z⟩
  · obtain ⟨v, z⟩ := I.cell x c e
    exact ⟨v, cellK x c e v z⟩
  · obtain ⟨m, ⟨o, _, _, ho, _⟩, _⟩ := I.loc
    exact free _ o (fun z => (hch _ z).2.1 rfl) ho I.free
  · obtain ⟨v, o, ho, hd⟩ := I.cell x c e
    exact free c o (fun z => (hch c z).2.2.1 x c e rfl) ho (I.freeC x c e)
  · obtain ⟨e, n, ne, nf, d⟩ := I.pin p hp
    have nch : p.1 ∉ ch := fun z => (hch p.1 z).2.2.2 p hp rfl
    exact ⟨keep p.1 p.2 ne nf nch e n, free p.1 p.2 nch e n, ne, nf, d⟩
theorem Inv.un {t' : Nat} (I : Inv X pins σ H s) (u : Un X.fs [] H H' s.heap h') (hok : HOk X.prog X.w H' h') : Inv X pins σ H' { s with heap := h', toks := t' } := by
  obtain ⟨m, ⟨o, es, ep, ho, r⟩, _⟩ := id I.loc
  obtain ⟨sl, hL⟩ := u.any ho I.free (by simp)
  exact I.step (g' := s.gens) (d' := s.drawn) (ch := []) (fun _ z => nomatch z) (fun b o _ hb _ e n => u.keep b o e n hb (by simp)) (fun b o _ hb _ e n => u.slot b o e n hb (by simp)) (fun b o _ e n => u.free b o e n (by simp)) (fun b o _ e => u.there b o e (by simp)) u.tups u.frzs u.tbls (fun m' hm => by
    obtain ⟨o', es', ep', ho', r'⟩ := hm
    rw [ho] at ho'; cases ho'
    exact ⟨_, es', ep', hL, r'⟩) hok I.bare
theorem Inv.call {g' : Array GenState} {t' : Nat} {d' : Drawn} {ch : List Addr} (I : Inv X pins σ H s) (u : Un (frs X.stack) ch H H' s.heap h') (hok : HOk X.prog X.w H' h') (hg : AllBare g')
    (hch : ∀ b ∈ ch, (b ∈ X.ex ∨ X.s₀.heap.objs.size ≤ b) ∧ b ≠ X.env.locals ∧ (∀ x c, X.env.cells.lookup x = some c → c ≠ b) ∧ ∀ p ∈ X.pn ++ pins, p.1 ≠ b) :
    Inv X pins σ H' { s with heap := h', gens := g', drawn := d', toks := t' } := by
  obtain ⟨m, ⟨o, es, ep, ho, r⟩, _⟩ := id I.loc
  obtain ⟨sl, hL⟩ := u.any ho I.free fun z => (hch _ z).2.1 rfl
  exact I.step (ch := ch) hch (fun b o hL hb hc e n => u.keep b o e n (fun z => (List.mem_cons.mp (I.stkSub b z)).elim hL hb) hc) (fun b o _ _ hc e n => u.any e n hc) (fun b o hc e n => u.free b o e n hc) (fun b o hc e => u.there b o e hc) u.tups u.frzs u.tbls (fun m' hm => by
    obtain ⟨o', es', ep', ho', r'⟩ := hm
    rw [ho] at ho'; cases ho'
    exact ⟨_, es', ep', hL, r'⟩) hok hg
theorem Inv.turned {t' : Nat} {it : Addr} (I : Inv X pins σ H s) (k : ∀ b o, b ≠ it → s.heap.get? b = some o → h'.get? b = some o) (hn : H it = none) (hL : it ≠ X.env.locals)
    (h1 : it ∈ X.ex ∨ X.s₀.heap.objs.size ≤ it) (h2 : ∀ x c, X.env.cells.lookup x = some c → c ≠ it) (h3 : ∀ p ∈ X.pn ++ pins, p.1 ≠ it) : Inv X pins σ H { s with heap := h', toks := t' } := by
  have nit : ∀ b u, H b = some u → b ≠ it := fun b u e z => by rw [z, hn] at e; cases e
  refine I.step (g' := s.gens) (d' := s.drawn) (ch := [it]) (fun b hb => ?_) (fun b o _ _ hc e _ => k b o (fun z => hc (by simp [z])) e) (fun b o _ _ hc e _ => ⟨o.slots, k b o (fun z => hc (by simp [z])) e⟩) (fun _ _ _ _ n => n)
    (fun b o hc e => ⟨o, k b o (fun z => hc (by simp [z])) e⟩) (fun _ _ e => e) (fun _ _ _ e => e) (fun b ps e => ⟨#[], by rw [e]; simp⟩) (fun m hm => ?_) (fun b u e => ?_) I.bare
  · have e : b = it := by simpa using hb
    subst e
    exact ⟨h1, hL, h2, h3⟩
  · obtain ⟨o, es, ep, ho, r⟩ := hm
    exact ⟨o, es, ep, k _ o (Ne.symm hL) ho, r⟩
  · refine (I.hok b u e).stay (fun c v hc q => k c v ?_ q) (fun _ q => q) fun _ _ q => q
    rcases hc with z | z
    · rw [z]; exact nit b u e
    · exact nit c _ z
theorem Inv.tok (I : Inv X pins σ H s) (t : Nat) : Inv X pins σ H { s with toks := t } := I.un (h' := s.heap) (t' := t) Un.refl I.hok
theorem Inv.kept {t' : Nat} (I : Inv X pins σ H s) (k : ∀ b u, s.heap.get? b = some u → h'.get? b = some u) : Inv X pins σ H { s with heap := h', toks := t' } := I.un (Un.kept k) (I.hok.kept k)
theorem Inv.laid {a : Addr} {o : HO} {t' : Nat} (I : Inv X pins σ H s) (k : ∀ b u, s.heap.get? b = some u → h'.get? b = some u) (hp : s.heap.objs.size ≤ a) (new : ObjOk X.prog X.w (upd H a o) h' a o) :
    Inv X pins σ (upd H a o) { s with heap := h', toks := t' } := I.un (Un.laid k hp (I.hok.fresh hp)) (I.hok.laid k hp new)
theorem Inv.write {x e : Addr} {o : HO} {t' : Nat} (I : Inv X pins σ H s) (mu : Mut (H x)) (he : e = x ∨ H e = some (.own x)) (k : ∀ b u, b ≠ e → s.heap.get? b = some u → h'.get? b = some u) (heo : ∃ u, h'.get? e = some u)
    (new : ObjOk X.prog X.w (upd H x o) h' x o) : Inv X pins σ (upd H x o) { s with heap := h', toks := t' } := I.un (Un.write mu he k heo) (I.hok.write mu he k heo new)
theorem Inv.pins_of {pins' : List (Addr × Obj)} (I : Inv X pins σ H s) (h : ∀ p ∈ pins', s.heap.get? p.1 = some p.2 ∧ H p.1 = none ∧ p.1 ≠ X.env.locals ∧ p.1 ∉ X.fs ∧ ∀ v, p.2.data ≠ .cell v) : Inv X pins' σ H s :=
  ⟨I.ok, I.os, I.bare, I.base, I.loc, I.cell, I.free, I.freeC, fun p hp => (List.mem_append.mp hp).elim (fun z => I.pin p (List.mem_append_left _ z)) (h p), I.hok, I.len⟩
theorem nodup_ix {N : List Str} (hN : N.Nodup) {i j : Nat} {x : Str} (a : N[i]? = some x) (b : N[j]? = some x) : i = j := by
  obtain ⟨h1, e1⟩ := List.getElem?_eq_some_iff.mp a
  obtain ⟨h2, e2⟩ := List.getElem?_eq_some_iff.mp b
  exact (List.getElem_inj hN).mp (e1.trans e2.symm)
theorem store_ok2 {M : Model} {A : Around} {E : Value → Shared → Prop} {i : Nat} {x : Str} {v : V} {u : Value} {Q : Unit → Shared → Prop} (I : Inv X pins σ H s) (hN : X.N.Nodup) (hi : X.N[i]? = some x) (hx : Loc X.env.scope x) (r : RelV v u)
    (h : ∀ s', Inv X pins (σ.set i (some v)) H s' → (∃ a, Heap.SameBut a s.heap s'.heap ∧ (a = X.env.locals ∨ X.env.cells.lookup x = some a)) → Q () s') (hf : X.fn x = true ∨ X.env.scope.names.lookup x = some .local := by first | exact .inl rfl | exact .inr rfl | assumption) : wpAny M A (storeName X.env x u) Q E s := by
  obtain ⟨m, hn, hl⟩ := id I.loc
  have hcls : (X.env.scope.kind == .class || (X.env.scope.kind == .module && X.env.locals != X.env.globals)) = false := by rw [I.ok.kind]; rfl
  have hiσ : i < σ.length := by rw [I.len]; exact (List.getElem?_eq_some_iff.mp hi).1
  have cne := I.cne
  have tracked : ∀ {a : Addr} {h' : Heap}, (∃ o, s.heap.get? a = some o ∧ H a = none) → Heap.SameBut a s.heap h' → HOk X.prog X.w H h' := fun {a h'} ha hs b ob e => by
    obtain ⟨_, _, hfree⟩ := ha
    refine (I.hok b ob e).stay (fun c w' hc q => (hs.2 c ?_).trans q) (fun _ q => q) fun _ _ q => q
    rintro rfl
    rcases hc with rfl | hc
    · rw [hfree] at e; cases e
    · rw [hfree] at hc; cases hc
  rcases hx with hk | hk
  · refine wpAny_storeName_local hk hn (fun h' hn' hs => ?_) hcls
    obtain ⟨oL, _, _, hoL, _⟩ := id hn
    refine h _ ⟨I.ok, I.os, I.bare, ⟨fun b o e n hb hx => ?_, fun b o e n hb hx => ?_, I.base.free, fun b o e hx => ?_, I.base.tups, I.base.frzs, I.base.tbls⟩, ⟨_, hn', fun j y v' e1 e2 e3 => ?_⟩, fun y c e => ?_, I.free, I.freeC, fun p hp => ?_, tracked ⟨oL, hoL, I.free⟩ hs, by simpa using I.len⟩ ⟨_, hs, .inl rfl⟩
    · exact (hs.2 b (Nat.ne_of_lt (Nat.lt_of_lt_of_le (Heap.lt_size e) I.ok.above))).trans (I.base.keep b o e n hb hx)
    · obtain ⟨sl, e1⟩ := I.base.slot b o e n hb hx
      exact ⟨sl, (hs.2 b (Nat.ne_of_lt (Nat.lt_of_lt_of_le (Heap.lt_size e) I.ok.above))).trans e1⟩
    · obtain ⟨o', e1⟩ := I.base.there b o e hx
      exact ⟨o', (hs.2 b (Nat.ne_of_lt (Nat.lt_of_lt_of_le (Heap.lt_size e) I.ok.above))).trans e1⟩
    · by_cases hj : j = i
      · subst hj
        rw [hi] at e1; cases e1
        rw [List.getElem?_set_self hiσ] at e2
        cases e2
        exact ⟨u, r, .inl ⟨hk, by simp⟩⟩
      · rw [List.getElem?_set_ne (Ne.symm hj)] at e2
        obtain ⟨u', r', q⟩ := hl j y v' e1 e2 e3
        refine ⟨u', r', ?_⟩
        rcases q with ⟨k, e⟩ | ⟨k, c, e, z⟩
        · refine .inl ⟨k, ?_⟩
          have : y ≠ x := fun e => hj (nodup_ix hN e1 (e ▸ hi))
          simp [this, e]
        · exact .inr ⟨k, c, e, z.sameBut hs (cne y c e)⟩
    · obtain ⟨w', z⟩ := I.cell y c e
      exact ⟨w', z.sameBut hs (cne y c e)⟩
    · obtain ⟨e, n, ne, nf, d⟩ := I.pin p hp
      exact ⟨(hs.2 p.1 ne).trans e, n, ne, nf, d⟩
  · have hfn : X.fn x = true := by
      rcases hf with z | z
      · exact z
      · rw [z] at hk; cases hk
    obtain ⟨c, hc⟩ := I.ok.has x (.inl hk)
    obtain ⟨w', z⟩ := I.cell x c hc
    refine wpAny_storeName_cell I.ok.kind hk hc z (fun h' hc' hs => ?_)
    obtain ⟨oc, hoc, hocd⟩ := id z
    refine h { s with heap := h' } ⟨I.ok, I.os, I.bare, ⟨fun b o e n hb hx => ?_, fun b o e n hb hx => ?_, I.base.free, fun b o e hx => ?_, I.base.tups, I.base.frzs, I.base.tbls⟩, ⟨m, hn.sameBut hs (Ne.symm (cne x c hc)), fun j y v' e1 e2 e3 => ?_⟩, fun y c' e => ?_, I.free, I.freeC, fun p hp => ?_, tracked ⟨oc, hoc, I.freeC x c hc⟩ hs, by simpa using I.len⟩ ⟨c, hs, .inr hc⟩
    · exact (hs.2 b (Nat.ne_of_lt (Nat.lt_of_lt_of_le (Heap.lt_size e) (I.ok.cab x c hfn hc)))).trans (I.base.keep b o e n hb hx)
    · obtain ⟨sl, e1⟩ := I.base.slot b o e n hb hx
      exact ⟨sl, (hs.2 b (Nat.ne_of_lt (Nat.lt_of_lt_of_le (Heap.lt_size e) (I.ok.cab x c hfn hc)))).trans e1⟩
    · obtain ⟨o', e1⟩ := I.base.there b o e hx
      exact ⟨o', (hs.2 b (Nat.ne_of_lt (Nat.lt_of_lt_of_le (Heap.lt_size e) (I.ok.cab x c hfn hc)))).trans e1⟩
    · by_cases hj : j = i
      · subst hj
        rw [hi] at e1; cases e1
        rw [List.getElem?_set_self hiσ] at e2
        cases e2
        exact ⟨u, r, .inr ⟨.inl hk, c, hc, hc'⟩⟩
      · rw [List.getElem?_set_ne (Ne.symm hj)] at e2
        obtain ⟨u', r', q⟩ := hl j y v' e1 e2 e3
        refine ⟨u', r', ?_⟩
        rcases q with q | ⟨k, c', e, z'⟩
        · exact .inl q
        · refine .inr ⟨k, c', e, z'.sameBut hs ?_⟩
          rintro rfl
          exact hj (nodup_ix hN e1 (I.ok.inj _ _ _ e hc ▸ hi))
    · by_cases hcc : c' = c
      · subst hcc; exact ⟨_, hc'⟩
      · obtain ⟨w2, z2⟩ := I.cell y c' e
        exact ⟨w2, z2.sameBut hs hcc⟩
    · obtain ⟨e, n, ne, nf, d⟩ := I.pin p hp
      refine ⟨(hs.2 p.1 ?_).trans e, n, ne, nf, d⟩
      intro q
      rw [q, hoc] at e
      have q' : oc = p.2 := Option.some.inj e
      exact d w' (by rw [← q']; exact hocd)
theorem store_ok {M : Model} {A : Around} {E : Value → Shared → Prop} {i : Nat} {x : Str} {v : V} {u : Value} {Q : Unit → Shared → Prop} (I : Inv X pins σ H s) (hN : X.N.Nodup) (hi : X.N[i]? = some x) (hx : Loc X.env.scope x) (r : RelV v u)
    (h : ∀ s', Inv X pins (σ.set i (some v)) H s' → Q () s') (hf : X.fn x = true ∨ X.env.scope.names.lookup x = some .local := by first | exact .inl rfl | exact .inr rfl | assumption) : wpAny M A (storeName X.env x u) Q E s :=
  store_ok2 I hN hi hx r (fun s' I' _ => h s' I') hf
theorem Inv.call' {s' : Shared} {ch : List Addr} (I : Inv X pins σ H s) (ho : s'.os = s.os) (u : Un (frs X.stack) ch H H' s.heap s'.heap) (hok : HOk X.prog X.w H' s'.heap) (hg : AllBare s'.gens)
    (hch : ∀ b ∈ ch, (b ∈ X.ex ∨ X.s₀.heap.objs.size ≤ b) ∧ b ≠ X.env.locals ∧ (∀ x c, X.env.cells.lookup x = some c → c ≠ b) ∧ ∀ p ∈ X.pn ++ pins, p.1 ≠ b) : Inv X pins σ H' s' := by
  obtain ⟨h', g', d', t', o'⟩ := s'
  have e : o' = s.os := ho
  subst e
  exact I.call (g' := g') (t' := t') (d' := d') u hok hg hch
end
noncomputable abbrev XK := Value → Option Addr → Hp → Prop
noncomputable abbrev St := List (Option V)
noncomputable abbrev VK := V → Hp → Prop
noncomputable abbrev TE := St → Hp → VK → Prop
noncomputable abbrev TT := St → Hp → (Bool → Hp → Prop) → Prop
noncomputable abbrev TA := St → Hp → (List V → Hp → Prop) → Prop
structure Ends where
  nx : St → Hp → Prop
  rt : VK
  bk : St → Hp → Prop := fun _ _ => False
  ct : St → Hp → Prop := fun _ _ => False
noncomputable abbrev TS := Ends → St → Hp → Prop
noncomputable def EP (X : Cx) (pins : List (Addr × Obj)) (σ : St) (Q : VK) (u : Value) (s' : Shared) : Prop := ∃ v H', Inv X pins σ H' s' ∧ RelV v u ∧ Q v H'
noncomputable def TP (X : Cx) (pins : List (Addr × Obj)) (σ : St) (Q : Bool → Hp → Prop) (b : Bool) (s' : Shared) : Prop := ∃ H', Inv X pins σ H' s' ∧ Q b H'
noncomputable def AP (X : Cx) (pins : List (Addr × Obj)) (σ : St) (Q : List V → Hp → Prop) (us : List Value) (s' : Shared) : Prop := ∃ vs H', Inv X pins σ H' s' ∧ Vals vs us ∧ Q vs H'
noncomputable def SP (X : Cx) (pins : List (Addr × Obj)) (D : Ends) (f : Flow) (s' : Shared) : Prop :=
  match f with
  | .next => ∃ σ' H', Inv X pins σ' H' s' ∧ D.nx σ' H'
  | .brk => ∃ σ' H', Inv X pins σ' H' s' ∧ D.bk σ' H'
  | .cont => ∃ σ' H', Inv X pins σ' H' s' ∧ D.ct σ' H'
  | .ret u => ∃ v σ' H', Inv X pins σ' H' s' ∧ RelV v u ∧ D.rt v H'
noncomputable def PE (X : Cx) (e : Expr) (t : TE) : Prop :=
  ∀ (pins : List (Addr × Obj)) (s : Shared) (σ : St) (H : Hp) (Q : VK), Inv X pins σ H s → t σ H Q → wpAny (model X.prog X.w) X.A (eval e X.env) (EP X pins σ Q) X.xe s
noncomputable def PT (X : Cx) (e : Expr) (t : TT) : Prop :=
  ∀ (pins : List (Addr × Obj)) (s : Shared) (σ : St) (H : Hp) (Q : Bool → Hp → Prop), Inv X pins σ H s → t σ H Q → wpAny (model X.prog X.w) X.A (isTrue e X.env (eval e X.env)) (TP X pins σ Q) X.xe s
noncomputable def PW (X : Cx) (e : Expr) (t : TT) : Prop :=
  ∀ (whole : Sem Value) (pins : List (Addr × Obj)) (s : Shared) (σ : St) (H : Hp) (Q : Bool → Hp → Prop), Inv X pins σ H s → t σ H Q → wpAny (model X.prog X.w) X.A (isTrue e X.env whole) (TP X pins σ Q) X.xe s
theorem PW.pt {X : Cx} {e : Expr} {t : TT} (h : PW X e t) : PT X e t := h _
noncomputable def PA (X : Cx) (es : List Expr) (t : TA) : Prop :=
  ∀ (pos : Pos) (pins : List (Addr × Obj)) (s : Shared) (σ : St) (H : Hp) (Q : List V → Hp → Prop), Inv X pins σ H s → t σ H Q → wpAny (model X.prog X.w) X.A (spliced (backTo pos (starEach es X.env))) (AP X pins σ Q) X.xe s
noncomputable def PS (X : Cx) (st : Stmt) (t : TS) : Prop :=
  ∀ (pins : List (Addr × Obj)) (s : Shared) (σ : St) (H : Hp) (D : Ends), Inv X pins σ H s → t D σ H → wpAny (model X.prog X.w) X.A (exec st X.env) (SP X pins D) X.xe s
noncomputable def PSs (X : Cx) (st : List Stmt) (t : TS) : Prop :=
  ∀ (pins : List (Addr × Obj)) (s : Shared) (σ : St) (H : Hp) (D : Ends), Inv X pins σ H s → t D σ H → wpAny (model X.prog X.w) X.A (execs st X.env) (SP X pins D) X.xe s
theorem thn {α : Type} {t : Sem α} {Q Q' : α → Shared → Prop} {M : Model} {A : Around} {E : Value → Shared → Prop} {s : Shared} (h : wpAny M A t Q E s) (hQ : ∀ a s, Q a s → Q' a s) : wpAny M A t Q' E s := wpAny_mono h hQ fun _ _ x => x
end L2
namespace L2
open PySem PySem.Spec PyProof.Rows
section
variable {X : Cx}
noncomputable def tVar (i : Nat) : TE := fun σ H Q => ∃ v, σ[i]? = some (some v) ∧ Q v H
noncomputable def tC (v : V) : TE := fun _ H Q => Q v H
theorem pe_var {i : Nat} {x : Str} {pos : Pos} (hN : X.N[i]? = some x) (hv : Vis X.env.scope x) (hd : (x == ("__debug__" : Str)) = false := by decide) (hcd : (x == ("__classdict__" : Str)) = false := by decide) : PE X (.Name x pos) (tVar i) := by
  intro pins s σ H Q I h
  obtain ⟨v, e, h⟩ := h
  obtain ⟨m, hn, hl⟩ := I.loc
  obtain ⟨u, r, l⟩ := hl i x v hN e hv
  have fin : EP X pins σ Q u s := ⟨v, H, I, r, h⟩
  rcases l with ⟨hk, hm⟩ | ⟨hk, c, hc, hcell⟩
  · exact wpAny_Name (wpAny_loadName_local I.ok.kind hk hn hm fin) hd
  · rcases hk with hk | hk
    · exact wpAny_Name (wpAny_loadName_cell I.ok.kind hk hc hcell fin) hd
    · exact wpAny_Name (wpAny_loadName_free I.ok.kind hk hc hcell fin hcd) hd
theorem pe_int {i j pos} : PE X (.Constant (.int i) j pos) (tC (.int i)) := fun _ _ _ H _ I h => wpAny_Constant_int ⟨.int i, H, I.tok _, ⟨_, rfl⟩, h⟩
theorem pe_bl {b j pos} : PE X (.Constant (.bool b) j pos) (tC (.bl b)) := fun _ _ _ H _ I h => Constant_bool ⟨.bl b, H, I, rfl, h⟩
theorem pe_non {j pos} : PE X (.Constant .none j pos) (tC .non) := fun _ _ _ H _ I h => Constant_none ⟨.non, H, I, rfl, h⟩
theorem pe_str {x j pos} : PE X (.Constant (.str x) j pos) (tC (.str x)) := fun _ _ _ H _ I h => Calls.Constant_str ⟨.str x, H, I.tok _, ⟨_, rfl⟩, h⟩
noncomputable def Gl (X : Cx) (x : Str) : Prop := X.env.kindOf x = some .globalImplicit
theorem ld_glob {E : Value → Shared → Prop} {pins : List (Addr × Obj)} {s : Shared} {σ : St} {H : Hp} {x : Str} {u : Value} {pos : Pos} {Q : Value → Shared → Prop} (I : Inv X pins σ H s) (hg : Gl X x) (hm : X.mg x = some u) (h : Q u s)
    (hd : (x == ("__debug__" : Str)) = false := by decide) : wpAny (model X.prog X.w) X.A (eval (.Name x pos) X.env) Q E s :=
  Calls.Name_function_global I.ok.kind hg (Calls.loadGlobal_global (by rw [I.ok.glob]; exact I.mod.glob.keeps I.bk) hm h) hd
theorem ld_blt {E : Value → Shared → Prop} {pins : List (Addr × Obj)} {s : Shared} {σ : St} {H : Hp} {x : Str} {u : Value} {pos : Pos} {Q : Value → Shared → Prop} (I : Inv X pins σ H s) (hg : Gl X x) (hm : X.mg x = none) (hv : bootBuiltins x = some u) (h : Q u s)
    (hn : x ≠ "__name__" := by decide) (hd : (x == ("__debug__" : Str)) = false := by decide) : wpAny (model X.prog X.w) X.A (eval (.Name x pos) X.env) Q E s := by
  obtain ⟨mb, h1, h2⟩ := I.mod.blt
  exact Calls.Name_function_global I.ok.kind hg (Calls.loadGlobal_builtin (by rw [I.ok.glob]; exact I.mod.glob.keeps I.bk) hm (by rw [I.ok.blt]; exact h1.keeps I.bk) ((h2 x hn).trans hv) h) hd
theorem pe_glob {x : Str} {v : V} {u : Value} {pos : Pos} (hg : Gl X x) (hm : X.mg x = some u) (r : RelV v u) (hd : (x == ("__debug__" : Str)) = false := by decide) : PE X (.Name x pos) (tC v) :=
  fun _ _ _ H _ I h => ld_glob I hg hm ⟨v, H, I, r, h⟩ hd
theorem pe_bltn {x : Str} {v : V} {u : Value} {pos : Pos} (hg : Gl X x) (hm : X.mg x = none) (hv : bootBuiltins x = some u) (r : RelV v u) (hn : x ≠ "__name__" := by decide) (hd : (x == ("__debug__" : Str)) = false := by decide) : PE X (.Name x pos) (tC v) :=
  fun _ _ _ H _ I h => ld_blt I hg hm hv ⟨v, H, I, r, h⟩ hn hd
variable {a b : Expr} {ta tb : TE} {pos : Pos}
noncomputable def tB (t : TE) : TT := fun σ H Q => t σ H fun x H1 => ∃ c, x = .bl c ∧ Q c H1
theorem pt_val {e : Expr} {t : TE} (h : PE X e t) (he : ∀ whole, isTrue e X.env whole = (do let v ← whole; standAt e.pos; holding [v] (truthy v)) := by intro _; rfl) : PT X e (tB t) := by
  intro pins s σ H Q I hw
  refine isTrue_plain (thn (h pins s σ H _ I hw) fun v s1 ⟨x, H1, I1, r1, q1⟩ => ?_) (he _)
  obtain ⟨d, rfl, q⟩ := q1
  cases r1
  exact wpAny_truthy_bool ⟨H1, I1, q⟩
variable {tA tB' : TT} {rest : List Expr}
noncomputable def tAnd (t u : TT) : TT := fun σ H Q => t σ H fun c H1 => if c = true then u σ H1 Q else Q false H1
noncomputable def tOr (t u : TT) : TT := fun σ H Q => t σ H fun c H1 => if c = true then Q true H1 else u σ H1 Q
noncomputable def tNot (t : TT) : TT := fun σ H Q => t σ H fun c H1 => Q (!c) H1
theorem pw_and1 (ha : PT X a tA) : PW X (.BoolOp .And [a] pos) tA := by
  intro wh pins s σ H Q I h
  refine isTrue_and (thn (ha pins s σ H Q I h) fun c s1 e => ?_)
  cases c with
  | true => exact isTrue_and_nil e
  | false => exact e
theorem pw_or1 (ha : PT X a tA) : PW X (.BoolOp .Or [a] pos) tA := by
  intro wh pins s σ H Q I h
  refine isTrue_or (thn (ha pins s σ H Q I h) fun c s1 e => ?_)
  cases c with
  | false => exact isTrue_or_nil e
  | true => exact e
theorem pw_and (ha : PT X a tA) (hb : PW X (.BoolOp .And (b :: rest) pos) tB') : PW X (.BoolOp .And (a :: b :: rest) pos) (tAnd tA tB') := by
  intro wh pins s σ H Q I h
  refine isTrue_and (thn (ha pins s σ H _ I h) fun c s1 ⟨H1, I1, q1⟩ => ?_)
  cases c with
  | true => exact hb wh pins s1 σ H1 Q I1 q1
  | false => exact ⟨H1, I1, q1⟩
theorem pw_or (ha : PT X a tA) (hb : PW X (.BoolOp .Or (b :: rest) pos) tB') : PW X (.BoolOp .Or (a :: b :: rest) pos) (tOr tA tB') := by
  intro wh pins s σ H Q I h
  refine isTrue_or (thn (ha pins s σ H _ I h) fun c s1 ⟨H1, I1, q1⟩ => ?_)
  cases c with
  | true => exact ⟨H1, I1, q1⟩
  | false => exact hb wh pins s1 σ H1 Q I1 q1
theorem pt_not (ha : PT X a tA) : PT X (.UnaryOp .Not a pos) (tNot tA) := by
  intro pins s σ H Q I h
  exact isTrue_not (ha pins s σ H (fun c H1 => Q (!c) H1) I h)
noncomputable def tAndV (ta tb : TE) : TE := fun σ H Q => ta σ H fun x H1 => ∃ c, x = .bl c ∧ if c = true then tb σ H1 Q else Q (.bl false) H1
noncomputable def tOrV (ta tb : TE) : TE := fun σ H Q => ta σ H fun x H1 => ∃ c, x = .bl c ∧ if c = true then Q (.bl true) H1 else tb σ H1 Q
noncomputable def tNotV (ta : TE) : TE := fun σ H Q => ta σ H fun x H1 => ∃ c, x = .bl c ∧ Q (.bl (!c)) H1
theorem pe_one {op} {t : TE} (h : PE X a t) : PE X (.BoolOp op [a] pos) t := fun pins s σ H Q I hw => BoolOp_one (h pins s σ H Q I hw)
theorem pe_and (ha : PE X a ta) (hb : PE X (.BoolOp .And (b :: rest) pos) tb) : PE X (.BoolOp .And (a :: b :: rest) pos) (tAndV ta tb) := by
  intro pins s σ H Q I h
  refine BoolOp_and (thn (ha pins s σ H _ I h) fun v s1 ⟨x, H1, I1, r1, q1⟩ => ?_)
  obtain ⟨c, rfl, q1⟩ := q1
  cases r1
  refine wpAny_truthy_bool ?_
  cases c with
  | true => exact hb pins s1 σ H1 Q I1 q1
  | false => exact ⟨.bl false, H1, I1, rfl, q1⟩
noncomputable def tIf (t : TT) (ta tb : TE) : TE := fun σ H Q => t σ H fun c H1 => if c = true then ta σ H1 Q else tb σ H1 Q
theorem pe_ifExp {c : Expr} (hc : PT X c tA) (ha : PE X a ta) (hb : PE X b tb) : PE X (.IfExp c a b pos) (tIf tA ta tb) := by
  intro pins s σ H Q I h
  refine wpAny_IfExp (thn (hc pins s σ H _ I h) fun d s1 ⟨H1, I1, q1⟩ => ?_)
  cases d with
  | true => exact ha pins s1 σ H1 Q I1 q1
  | false => exact hb pins s1 σ H1 Q I1 q1
end
end L2
namespace L2
open PySem PySem.Spec PyProof.Rows
noncomputable def SqL (K : PySem.W.Frag) (H : Hp) (a : Addr) (xs : List V) : Prop :=
  Rd H a (.lst xs) ∨
    ∃ (o : Obj) (its : Array Value) (n : Nat), K.lookup a = some o ∧ o.cls = .type "list" ∧ o.dict = none ∧ o.data = .seq its n ∧ its.size ≤ sizeLine ∧ Vals xs its.toList
noncomputable def SqT (K : PySem.W.Frag) (H : Hp) (a : Addr) (xs : List V) : Prop :=
  Rd H a (.tup xs) ∨
    ∃ (o : Obj) (its : Array Value) (n : Nat), K.lookup a = some o ∧ o.cls = .type "tuple" ∧ o.data = .seq its n ∧ its.size ≤ sizeLine ∧ Vals xs its.toList
section
variable {X : Cx} {pins : List (Addr × Obj)} {σ : St} {H : Hp} {s : Shared} {a : Addr} {xs ys : List V}
theorem SqL.of {K : PySem.W.Frag} (h : H a = some (.lst xs)) : SqL K H a xs := .inl (.inl h)
theorem SqT.of {K : PySem.W.Frag} (h : H a = some (.tup xs)) : SqT K H a xs := .inl (.inl h)
theorem Inv.list (I : Inv X pins σ H s) (h : SqL X.K H a xs) : ∃ its : List Value, Vals xs its ∧ PlainL s.heap a its.toArray ∧ xs.length ≤ sizeLine := by
  rcases h with h | ⟨o, its, n, hk, hc, hd, hs, hz, r⟩
  · obtain ⟨z, its, n, r, e⟩ := h.ok I.hok
    exact ⟨its, r, ⟨_, n, e, rfl, rfl, rfl⟩, z⟩
  · refine ⟨its.toList, r, ⟨o, n, I.kIn a o hk, hc, hd, by simpa using hs⟩, ?_⟩
    have e := r.length
    simp only [Array.length_toList] at e
    lia
theorem Inv.tuple (I : Inv X pins σ H s) (h : SqT X.K H a xs) : ∃ its : List Value, Vals xs its ∧ IsTup s.heap a its.toArray ∧ xs.length ≤ sizeLine := by
  rcases h with h | ⟨o, its, n, hk, hc, hs, hz, r⟩
  · obtain ⟨z, its, r, p⟩ := h.ok I.hok
    exact ⟨its, r, p, z⟩
  · refine ⟨its.toList, r, ⟨o, I.kIn a o hk, hc, n, by simpa using hs⟩, ?_⟩
    have e := r.length
    simp only [Array.length_toList] at e
    lia
end
noncomputable abbrev Cx.wish (X : Cx) (E : Value → Shared → Prop) : Cx := { X with xe := E }
noncomputable abbrev Cx.nox (X : Cx) : Cx := X.wish fun _ _ => False
theorem Cx.Ok.wish {X : Cx} (ok : X.Ok) (E : Value → Shared → Prop) : (X.wish E).Ok :=
  ⟨ok.mod, ok.kind, ok.glob, ok.blt, ok.above, ok.inj, ok.has, ok.cab, ok.hd, ok.frames, ok.stk, ok.exf, ok.bs, ok.bsz, ok.noex, ok.exfs, ok.funs, ok.frf⟩
theorem Cx.Ok.unwish {X : Cx} {E : Value → Shared → Prop} (ok : (X.wish E).Ok) : X.Ok :=
  ⟨ok.mod, ok.kind, ok.glob, ok.blt, ok.above, ok.inj, ok.has, ok.cab, ok.hd, ok.frames, ok.stk, ok.exf, ok.bs, ok.bsz, ok.noex, ok.exfs, ok.funs, ok.frf⟩
section
variable {X : Cx} {pins : List (Addr × Obj)} {σ : St} {H : Hp} {s : Shared} {E : Value → Shared → Prop}
theorem Inv.wish (I : Inv X pins σ H s) (E : Value → Shared → Prop) : Inv (X.wish E) pins σ H s := ⟨I.ok.wish E, I.os, I.bare, I.base, I.loc, I.cell, I.free, I.freeC, I.pin, I.hok, I.len⟩
theorem Inv.unwish (I : Inv (X.wish E) pins σ H s) : Inv X pins σ H s := ⟨I.ok.unwish, I.os, I.bare, I.base, I.loc, I.cell, I.free, I.freeC, I.pin, I.hok, I.len⟩
theorem SP.unwish {D : Ends} {f : Flow} {s' : Shared} (h : SP (X.wish E) pins D f s') : SP X pins D f s' := by
  cases f with
  | next => obtain ⟨σ', H', I, q⟩ := h; exact ⟨σ', H', I.unwish, q⟩
  | brk => obtain ⟨σ', H', I, q⟩ := h; exact ⟨σ', H', I.unwish, q⟩
  | cont => obtain ⟨σ', H', I, q⟩ := h; exact ⟨σ', H', I.unwish, q⟩
  | ret u => obtain ⟨v, σ', H', I, r, q⟩ := h; exact ⟨v, σ', H', I.unwish, r, q⟩
theorem PSs.nox {st : List Stmt} {t : TS} (h : PSs X.nox st t) : PSs X st t := fun pins s σ H D I hw =>
  wpAny_mono (h pins s σ H D (I.wish _) hw) (fun _ _ q => q.unwish) fun _ _ z => False.elim z
end
section
variable {X : Cx} {st : Stmt} {rest : List Stmt} {t u : TS} {e : Expr} {te : TE} {pos : Pos}
noncomputable def tNext : TS := fun D σ H => D.nx σ H
noncomputable def tSeq (t u : TS) : TS := fun D σ H => t { D with nx := u D } σ H
theorem pss_nil : PSs X [] tNext := fun _ _ σ H _ I h => wpAny_execs_nil ⟨σ, H, I, h⟩
theorem pss_cons (h1 : PS X st t) (h2 : PSs X rest u) : PSs X (st :: rest) (tSeq t u) := by
  intro pins s σ H D I h
  refine wpAny_execs_cons (thn (h1 pins s σ H { D with nx := u D } I h) fun f s1 q => ?_)
  cases f with
  | next =>
    obtain ⟨σ', H', I', q⟩ := q
    exact h2 pins s1 σ' H' D I' q
  | ret v => exact q
  | brk => exact q
  | cont => exact q
theorem pss_one (h1 : PS X st t) : PSs X [st] t := by
  intro pins s σ H D I h
  refine wpAny_execs_cons (thn (h1 pins s σ H D I h) fun f s1 q => ?_)
  cases f with
  | next => exact wpAny_execs_nil q
  | ret v => exact q
  | brk => exact q
  | cont => exact q
theorem Inv.quiet {pins : List (Addr × Obj)} {σ : St} {H : Hp} {s : Shared} (I : Inv X pins σ H s) : interactive X.env = false := by simp [interactive, I.ok.kind]
noncomputable def tDrop (te : TE) : TS := fun D σ H => te σ H fun _ H1 => D.nx σ H1
theorem ps_expr (he : PE X e te) (hs : swapsWith e none pos.line X.env = pure false := by rfl) : PS X (.Expr e pos) (tDrop te) := by
  intro pins s σ H D I h
  exact wpAny_Expr_any (thn (he pins s σ H _ I h) fun v s1 ⟨x, H1, I1, r1, q1⟩ => ⟨σ, H1, I1, q1⟩) I.quiet hs
noncomputable def tRet (te : TE) : TS := fun D σ H => te σ H D.rt
theorem ps_ret (he : PE X e te) : PS X (.Return (some e) pos) (tRet te) := by
  intro pins s σ H D I h
  exact wpAny_Return_some (thn (he pins s σ H _ I h) fun v s1 ⟨x, H1, I1, r1, q1⟩ => ⟨x, σ, H1, I1, r1, q1⟩)
noncomputable def tIfS (c : TT) (t u : TS) : TS := fun D σ H => c σ H fun b H1 => if b = true then t D σ H1 else u D σ H1
theorem ps_if {c : Expr} {a b : List Stmt} {tc : TT} (hc : PT X c tc) (ha : PSs X a t) (hb : PSs X b u) : PS X (.If c a b pos) (tIfS tc t u) := by
  intro pins s σ H D I h
  refine wpAny_If (thn (hc pins s σ H _ I h) fun d s1 ⟨H1, I1, q1⟩ => ?_)
  cases d with
  | true => exact ha pins s1 σ H1 D I1 q1
  | false => exact hb pins s1 σ H1 D I1 q1
end
noncomputable abbrev TG := V → St → Hp → (St → Hp → Prop) → Prop
noncomputable abbrev TGs := List V → St → Hp → (St → Hp → Prop) → Prop
noncomputable def PG (X : Cx) (target : Expr) (t : TG) : Prop :=
  ∀ (pins : List (Addr × Obj)) (s : Shared) (σ : St) (H : Hp) (v : V) (u : Value) (Q : St → Hp → Prop), Inv X pins σ H s → RelV v u → t v σ H Q →
    wpAny (model X.prog X.w) X.A (assign target X.env u) (fun _ s' => ∃ σ' H', Inv X pins σ' H' s' ∧ Q σ' H') X.xe s
noncomputable def PGs (X : Cx) (ts : List Expr) (t : TGs) : Prop :=
  ∀ (pins : List (Addr × Obj)) (s : Shared) (σ : St) (H : Hp) (vs : List V) (us : List Value) (Q : St → Hp → Prop), Inv X pins σ H s → Vals vs us → t vs σ H Q →
    wpAny (model X.prog X.w) X.A (assignInOrder ((assignEach ts X.env).map (·.2)) us) (fun _ s' => ∃ σ' H', Inv X pins σ' H' s' ∧ Q σ' H') X.xe s
noncomputable abbrev TSet := V → V → V → Hp → (Hp → Prop) → Prop
noncomputable def PSet (X : Cx) (t : TSet) : Prop :=
  ∀ (pins : List (Addr × Obj)) (s : Shared) (σ : St) (H : Hp) (o i v : V) (ov iv u : Value) (Q : Hp → Prop), Inv X pins σ H s → RelV o ov → RelV i iv → RelV v u → t o i v H Q →
    wpAny (model X.prog X.w) X.A (setItem ov iv u) (fun _ s' => ∃ H', Inv X pins σ H' s' ∧ Q H') X.xe s
section
variable {X : Cx} {pos : Pos}
noncomputable def gName (i : Nat) : TG := fun v σ H Q => Q (σ.set i (some v)) H
theorem pg_name {i : Nat} {x : Str} (hN : X.N.Nodup) (hi : X.N[i]? = some x) (hx : Loc X.env.scope x) (hf : X.fn x = true ∨ X.env.scope.names.lookup x = some .local := by first | exact .inl rfl | exact .inr rfl | assumption) : PG X (.Name x pos) (gName i) := by
  intro pins s σ H v u Q I r h
  exact wpAny_assign_Name (store_ok I hN hi hx r (fun s' I' => ⟨_, H, I', h⟩) hf)
noncomputable def gNil : TGs := fun vs σ H Q => vs = [] ∧ Q σ H
noncomputable def gCons (t : TG) (u : TGs) : TGs := fun vs σ H Q => ∃ v r, vs = v :: r ∧ t v σ H fun σ' H' => u r σ' H' Q
theorem pgs_nil : PGs X [] gNil := by
  intro pins s σ H vs us Q I r h
  obtain ⟨e, h⟩ := h
  subst e
  cases r
  exact assignInOrder_nil ⟨σ, H, I, h⟩
theorem pgs_cons {e : Expr} {es : List Expr} {t : TG} {u : TGs} (h1 : PG X e t) (h2 : PGs X es u)
    (hs : (assignEach (e :: es) X.env).map (·.2) = assign e X.env :: (assignEach es X.env).map (·.2) := by rfl) : PGs X (e :: es) (gCons t u) := by
  intro pins s σ H vs us Q I r h
  obtain ⟨v, vr, e1, h⟩ := h
  subst e1
  cases r with
  | cons r rr =>
    rw [hs]
    refine assignInOrder_cons (thn (h1 pins s σ H _ _ _ I r h) fun _ s1 ⟨σ1, H1, I1, q1⟩ => ?_)
    exact h2 pins s1 σ1 H1 _ _ Q I1 rr q1
noncomputable def gTup (K : PySem.W.Frag) (n : Nat) (t : TGs) : TG := fun v σ H Q => ∃ a xs, v = .ref a ∧ SqT K H a xs ∧ xs.length = n ∧ t xs σ H Q
theorem pg_tup {es : List Expr} {k : Nat} {t : TGs} {n : Nat} (hc : X.calm = true) (h : PGs X es t)
    (hn : (assignEach es X.env).length = n := by rfl) (hst : (assignEach es X.env).findIdx? (·.1) = none := by rfl) : PG X (.Tuple es k pos) (gTup X.K n t) := by
  intro pins s σ H v u Q I r hw
  obtain ⟨a, xs, e1, hq, hl, hw⟩ := hw
  subst e1
  cases r
  obtain ⟨its, rv, ht, hz⟩ := I.tuple hq
  refine assign_Tuple_tuple (I.ok.hd hc) ht (by simp [hn, ← hl, rv.length]) hst fun h' hx => ?_
  have I1 : Inv X pins σ H { s with heap := h' } := I.kept (t' := s.toks) fun b o e => hx b o (Nat.ne_of_lt (Heap.lt_size e)) e
  exact h pins _ σ H xs _ Q I1 (by simpa using rv) hw
noncomputable def gSub (to ti : TE) (t : TSet) : TG := fun v σ H Q => to σ H fun o H1 => ti σ H1 fun i H2 => t o i v H2 fun H3 => Q σ H3
theorem pg_sub {o i : Expr} {to ti : TE} {t : TSet} (ho : PE X o to) (hi : PE X i ti) (hs : PSet X t)
    (ha : ∀ v, assign (.Subscript o i pos) X.env v = (do
      let ov ← holding [v] (eval o X.env)
      let iv ← holding [v, ov] (eval i X.env)
      standAt pos
      holding [v, ov, iv] (setItem ov iv v)
      release [v, ov, iv] []) := by intro _; rfl) : PG X (.Subscript o i pos) (gSub to ti t) := by
  intro pins s σ H v u Q I r h
  rw [ha]
  refine wpAny_bind (wpAny_holding (thn (ho pins s σ H _ I h) fun ov s1 ⟨x, H1, I1, r1, q1⟩ => ?_))
  refine wpAny_bind (wpAny_holding (thn (hi pins s1 σ H1 _ I1 q1) fun iv s2 ⟨y, H2, I2, r2, q2⟩ => ?_))
  refine wpAny_bind (wpAny_standAt (wpAny_bind (wpAny_holding (thn (hs pins s2 σ H2 x y v ov iv u _ I2 r1 r2 r q2) fun _ s3 ⟨H3, I3, q3⟩ => ?_))))
  exact wpAny_release ⟨σ, H3, I3, q3⟩
noncomputable def tAsg (te : TE) (g : TG) : TS := fun D σ H => te σ H fun x H1 => g x σ H1 D.nx
theorem ps_asg {tg e : Expr} {te : TE} {g : TG} (he : PE X e te) (hg : PG X tg g) (hs : swapsWithSole [tg] e pos.line X.env = pure false := by rfl) (hw : swappedStores [tg] e X.env = pure none := by rfl)
    (h1 : (assignEach [tg] X.env).map (·.2) = [assign tg X.env] := by rfl) : PS X (.Assign [tg] e pos) (tAsg te g) := by
  intro pins s σ H D I h
  refine wpAny_Assign_stores (thn (he pins s σ H _ I h) fun v s1 ⟨x, H1, I1, r1, q1⟩ => ?_) hs hw
  rw [h1]
  exact thn (hg pins s1 σ H1 x v _ I1 r1 q1) fun _ s2 q => q
theorem ps_set {i : Nat} {x : Str} {e : Expr} {te : TE} {pos' : Pos} (hN : X.N.Nodup) (hi : X.N[i]? = some x) (hx : Loc X.env.scope x) (he : PE X e te) (hs : swapsWith e (some (.Name x pos')) pos.line X.env = pure false := by rfl) (hf : X.fn x = true ∨ X.env.scope.names.lookup x = some .local := by first | exact .inl rfl | exact .inr rfl | assumption) :
    PS X (.Assign [.Name x pos'] e pos) (tAsg te (gName i)) := by
  intro pins s σ H D I h
  refine wpAny_Assign_Name (thn (he pins s σ H _ I h) fun v s1 ⟨y, H1, I1, r1, q1⟩ => ?_) hs
  exact store_ok I1 hN hi hx r1 (fun s2 I2 => ⟨_, H1, I2, q1⟩) hf
end
section
variable {X : Cx} {pos : Pos}
noncomputable def tWhile (c : TT) (tb : TS) : TS := fun D σ H => ∃ W : Nat → St → Hp → Prop, (∃ m, W m σ H) ∧ ∀ m σ H, W m σ H →
  c σ H fun b H1 => if b = true then ∃ N : St → Hp → Prop, (∀ σ' H', N σ' H' → ∃ m', m' < m ∧ W m' σ' H') ∧ tb { D with nx := N, ct := N, bk := D.nx } σ H1 else D.nx σ H1
theorem ps_while {c : Expr} {body : List Stmt} {tc : TT} {tb : TS} (hp : PassesOwn (model X.prog X.w) X.A X.env X.xe) (hc : PT X c tc) (hb : PSs X body tb) : PS X (.While c body [] pos) (tWhile tc tb) := by
  intro pins s σ H D I h
  obtain ⟨W, ⟨m0, w0⟩, turn⟩ := h
  refine wpAny_While (codeAny_whileLoop (fun n s' => ∃ σ' H', Inv X pins σ' H' s' ∧ W n σ' H') ?_ m0 ⟨σ, H, I, w0⟩)
  rintro n s1 ⟨σ1, H1, I1, w1⟩
  refine wpAny_passesOwn hp (thn (hc pins s1 σ1 H1 _ I1 (turn n σ1 H1 w1)) fun b s2 ⟨H2, I2, q2⟩ => ?_)
  cases b with
  | true =>
    obtain ⟨N, hN, q2⟩ := q2
    rw [if_pos rfl]
    refine wpAny_passesOwn hp (thn (hb pins s2 σ1 H2 _ I2 q2) fun f s3 q3 => ?_)
    cases f with
    | next =>
      obtain ⟨σ3, H3, I3, n3⟩ := q3
      obtain ⟨m', hm, w3⟩ := hN σ3 H3 n3
      exact ⟨m', hm, σ3, H3, I3, w3⟩
    | cont =>
      obtain ⟨σ3, H3, I3, n3⟩ := q3
      obtain ⟨m', hm, w3⟩ := hN σ3 H3 n3
      exact ⟨m', hm, σ3, H3, I3, w3⟩
    | brk => exact q3
    | ret v => exact q3
  | false =>
    rw [if_neg Bool.false_ne_true]
    exact wpAny_execs_nil ⟨σ1, H2, I2, q2⟩
end
structure It where
  go : Nat → Hp → Prop
  yld : Nat → Hp → V → Hp → Prop
  stop : Nat → Hp → Prop
noncomputable def FpOk (X : Cx) (pins : List (Addr × Obj)) (H : Hp) (b : Addr) : Prop :=
  H b = none ∧ b ≠ X.env.locals ∧ b ∉ X.fs ∧ (b ∈ X.ex ∨ X.s₀.heap.objs.size ≤ b) ∧ (∀ x c, X.env.cells.lookup x = some c → c ≠ b) ∧ ∀ p ∈ X.pn ++ pins, p.1 ≠ b
theorem Inv.fpOk {X : Cx} {pins : List (Addr × Obj)} {σ : St} {H H' : Hp} {s : Shared} {b : Addr} (I : Inv X pins σ H s) (hb : s.heap.objs.size ≤ b) (hn : H' b = none) : FpOk X pins H' b := by
  refine ⟨hn, Nat.ne_of_gt (Nat.lt_of_lt_of_le I.lt hb), I.nofs hb, .inr (Nat.le_trans I.sz hb), fun x c e z => ?_, fun p hp z => ?_⟩
  · obtain ⟨v, q⟩ := I.cell x c e
    exact absurd (Nat.lt_of_lt_of_le q.lt (by rw [z]; exact hb)) (Nat.lt_irrefl _)
  · exact absurd (Nat.lt_of_lt_of_le (Heap.lt_size (I.pin p hp).1) (by rw [z]; exact hb)) (Nat.lt_irrefl _)
structure Turn (P : Program) (w : World) (K : PySem.W.Frag) (tg : Expr) (J : It) (fp : List Addr) (it : Addr) (tn : Nat → Heap → Prop) : Prop where
  mem : it ∈ fp
  obj : ∀ i h, tn i h → ∀ b ∈ fp, ∃ o, h.get? b = some o ∧ ∀ v, o.data ≠ .cell v
  keep : ∀ i h h', tn i h → (∀ b ∈ fp, ∀ o, h.get? b = some o → h'.get? b = some o) → tn i h'
  item : ∀ (X : Cx), X.prog = P → X.w = w → X.K = K → X.calm = true → ∀ (i : Nat) (pins : List (Addr × Obj)) (s : Shared) (σ : St) (H : Hp) (E : Value → Shared → Prop), Inv X pins σ H s → (∀ b ∈ fp, FpOk X pins H b) → tn i s.heap → J.go i H →
    wpAny (model P w) X.A (pyNext (.ref it)) (fun r s1 => ∃ u, r = some u ∧
      wpAny (model P w) X.A (letOwnedTupleGo tg (.ref it) u) (fun _ s2 => ∃ x H', Inv X pins σ H' s2 ∧ RelV x u ∧ J.yld i H x H' ∧ tn (i + 1) s2.heap ∧ ∀ b ∈ fp, H' b = none) E s1) E s
  done : ∀ (X : Cx), X.prog = P → X.w = w → X.K = K → X.calm = true → ∀ (i : Nat) (pins : List (Addr × Obj)) (s : Shared) (σ : St) (H : Hp) (E : Value → Shared → Prop), Inv X pins σ H s → (∀ b ∈ fp, FpOk X pins H b) → tn i s.heap → J.stop i H →
    wpAny (model P w) X.A (pyNext (.ref it)) (fun r s1 => r = none ∧ Inv X pins σ H s1) E s
  self : ∀ (A : Around) (i : Nat) (s : Shared) (Q : Value → Shared → Prop) (E : Value → Shared → Prop), tn i s.heap → Q (.ref it) s → wpAny (model P w) A (pyIter (.ref it)) Q E s
noncomputable abbrev TI := St → Hp → (It → Hp → Prop) → Prop
noncomputable def PIE (X : Cx) (pins : List (Addr × Obj)) (σ : St) (tg : Expr) (R : It → Hp → Prop) (itv : Value) (s2 : Shared) : Prop :=
  ∃ (it : Addr) (fp : List Addr) (tn : Nat → Heap → Prop) (J : It) (H' : Hp), itv = .ref it ∧ Inv X pins σ H' s2 ∧ Turn X.prog X.w X.K tg J fp it tn ∧ tn 0 s2.heap ∧ (∀ b ∈ fp, FpOk X pins H' b) ∧ R J H'
noncomputable def PI (X : Cx) (tg iter : Expr) (wi : TI) : Prop :=
  ∀ (pins : List (Addr × Obj)) (s : Shared) (σ : St) (H : Hp) (R : It → Hp → Prop), Inv X pins σ H s → wi σ H R →
    wpAny (model X.prog X.w) X.A (eval iter X.env) (fun v s1 => wpAny (model X.prog X.w) X.A (pyIter v) (PIE X pins σ tg R) X.xe s1) X.xe s
theorem go_of {M : Model} {A : Around} {E : Value → Shared → Prop} {s : Shared} {tg : Expr} {it : Addr} {u : Value} {o : Obj} {n : String} {vs : Array Value} {Q : Unit → Shared → Prop} (ho : s.heap.get? it = some o) (hc : o.cls = .type n) (hd : o.data = .fields vs)
    (hn : ["enumerate", "zip", "dict_itemiterator", "dict_reverseitemiterator", "odict_iterator", "itertools.zip_longest", "itertools.pairwise"].contains n = false) (hQ : Q () s) : wpAny M A (letOwnedTupleGo tg (.ref it) u) Q E s := by
  unfold letOwnedTupleGo
  cases tg <;> first
    | exact wpAny_pure hQ
    | (cases u <;> first
        | exact wpAny_pure hQ
        | (refine wpAny_bind (wpAny_load ho ?_)
           rw [hc, hd]
           show wpAny M A (if (["enumerate", "zip", "dict_itemiterator", "dict_reverseitemiterator", "odict_iterator", "itertools.zip_longest", "itertools.pairwise"].contains n && vs[0]? == some (rawInt _)) = true then _ else _) Q E s
           rw [if_neg (by intro h; rw [hn, Bool.false_and] at h; cases h)]
           exact wpAny_pure hQ))
noncomputable def Itl (K : PySem.W.Frag) (a : Addr) : It :=
  ⟨fun i H => ∃ xs x, SqL K H a xs ∧ xs[i]? = some x, fun i H x H' => H' = H ∧ ∀ xs, SqL K H a xs → xs[i]? = some x, fun i H => ∃ xs, SqL K H a xs ∧ xs.length ≤ i⟩
noncomputable def Itr (lo : Int) (n : Nat) : It := ⟨fun i _ => i < n, fun i H x H' => H' = H ∧ x = .int (lo + i), fun i _ => n ≤ i⟩
theorem turn_range {P : Program} {w : World} {K : PySem.W.Frag} {tg : Expr} (it : Addr) (lo : Int) (n : Nat) : Turn P w K tg (Itr lo n) [it] it (fun i h => IsRangeIter h it (lo + (i : Nat) * 1) ((n : Int) - (i : Nat)) 1) where
  mem := by simp
  obj := fun i h st b hb => by
    have e : b = it := by simpa using hb
    subst e
    exact ⟨_, st, fun v z => by
      have z' : Data.fields _ = Data.cell v := z
      cases z'⟩
  keep := fun i h h' st k => k it (by simp) _ st
  item := by
    intro X hP hw hK hc i pins s σ H E I hf st hg
    subst hP hw hK
    obtain ⟨f0, f1, f2, f3, f4, f5⟩ := hf it (by simp)
    have W := Walks.range (prog := X.prog) (w := X.w) (I.ok.hd hc) it lo 1 n
    refine W.item i s _ _ hg st fun v h' tk hv st' kk => ?_
    obtain ⟨t, rfl⟩ := hv
    have I1 : Inv X pins σ H { s with heap := h', toks := tk } := I.turned (fun b o hb e => kk b o (by simpa using hb) e) f0 f1 f3 f4 f5
    refine ⟨_, rfl, go_of (s := { s with heap := h', toks := tk }) (n := "range_iterator") st' rfl rfl (by decide) ⟨.int (lo + i), H, I1, ⟨t, ?_⟩, ⟨rfl, rfl⟩, st', fun b hb => (hf b hb).1⟩⟩
    rw [Int.mul_one]
  done := by
    intro X hP hw hK hc i pins s σ H E I hf st hg
    subst hP hw hK
    obtain ⟨f0, f1, f2, f3, f4, f5⟩ := hf it (by simp)
    exact wpAny_pyNext_range_end (I.ok.hd hc) st (by have : n ≤ i := hg; lia) fun h' eb => ⟨rfl, I.turned (t' := s.toks) (fun b o hb e => eb b o hb e) f0 f1 f3 f4 f5⟩
  self := fun _ _ _ _ _ st h => wpAny_pyIter_rangeiter st h
end L2
namespace L2
open PySem PySem.Spec PyProof.Rows
section
variable {X : Cx} {tg : Expr}
noncomputable def iList (K : PySem.W.Frag) (tl : TE) : TI := fun σ H R => tl σ H fun x H1 => ∃ a, x = .ref a ∧ (∃ xs, SqL K H1 a xs) ∧ R (Itl K a) H1
theorem range_it {pins : List (Addr × Obj)} {σ : St} {H : Hp} {s : Shared} {R : It → Hp → Prop} {E : Value → Shared → Prop} {lo hi : Int} {t u v : Tok} {tk : Nat} (I : Inv X pins σ H s) (h1 : -(2 ^ 62) ≤ lo) (h2 : lo < 2 ^ 62) (h3 : -(2 ^ 62) ≤ hi) (h4 : hi < 2 ^ 62)
    (q : R (Itr lo (hi - lo).toNat) H) : wpAny (model X.prog X.w) X.A (pyIter (.ref s.heap.objs.size)) (PIE X pins σ tg R) E { s with heap := s.heap.push { cls := .type "range", data := .fields #[.int lo t, .int hi u, .int 1 v] }, toks := tk } := by
  refine wpAny_pyIter_range (IsRange.new ..) (small_one h1 h2 h3 h4) ?_
  have I1 : Inv X pins σ H { s with heap := s.heap.push { cls := .type "range", data := .fields #[.int lo t, .int hi u, .int 1 v] }, toks := tk } := I.kept fun b o e => Heap.get?_push_of_some _ e
  refine ⟨(s.heap.push { cls := .type "range", data := .fields #[.int lo t, .int hi u, .int 1 v] }).objs.size, [(s.heap.push { cls := .type "range", data := .fields #[.int lo t, .int hi u, .int 1 v] }).objs.size], _, _, H, rfl,
    I1.kept (t' := tk) fun b o e => Heap.get?_push_of_some _ e, turn_range _ lo (hi - lo).toNat, ?_, fun b hb => ?_, q⟩
  · have e1 : lo + ((0 : Nat) : Int) * 1 = lo := by simp
    have e2 : (((hi - lo).toNat : Nat) : Int) - ((0 : Nat) : Int) = Builtin.Range.rangeSize lo hi 1 := by rw [rangeSize_one]; split <;> lia
    show IsRangeIter _ _ (lo + ((0 : Nat) : Int) * 1) ((((hi - lo).toNat : Nat) : Int) - ((0 : Nat) : Int)) 1
    rw [e1, e2]
    exact Heap.get?_push_size _ rfl
  · have e : b = (s.heap.push { cls := .type "range", data := .fields #[.int lo t, .int hi u, .int 1 v] }).objs.size := by simpa using hb
    subst e
    exact I1.fpOk (Nat.le_refl _) (I1.hok.fresh (Nat.le_refl _))
noncomputable def iRng1 (ta : TA) : TI := fun σ H R => ta σ H fun vs H1 => ∃ j : Int, vs = [.int j] ∧ -(2 ^ 62) ≤ j ∧ j < 2 ^ 62 ∧ R (Itr 0 j.toNat) H1
noncomputable def iRng2 (ta : TA) : TI := fun σ H R => ta σ H fun vs H1 => ∃ i j : Int, vs = [.int i, .int j] ∧ (-(2 ^ 62) ≤ i ∧ i < 2 ^ 62 ∧ -(2 ^ 62) ≤ j ∧ j < 2 ^ 62) ∧ R (Itr i (j - i).toNat) H1
theorem pi_range1 {a : Expr} {ta : TA} {p pos : Pos} (hg : Gl X "range") (hm : X.mg "range" = none) (ha : PA X [a] ta) (hs : starEach [a] X.env = [(false, eval a X.env)] := by rfl) : PI X tg (.Call (.Name "range" p) [a] [] pos) (iRng1 ta) := by
  intro pins s σ H R I h
  refine Call_ (ld_blt I hg hm boot_range (PyProof.Rows.callWith_type1 (thn (ha pos pins s σ H _ I h) fun us s1 ⟨vs, H1, I1, r1, q1⟩ => ?_) hs rfl))
  obtain ⟨j, e, q1, q2, q⟩ := q1
  subst e
  cases r1 with
  | cons r rr =>
    cases rr
    obtain ⟨t, rfl⟩ := r
    exact call_range_1 (range_it I1 (by lia) (by lia) q1 q2 (by simpa using q))
noncomputable def tFor (wi : TI) (g : TG) (tb : TS) : TS := fun D σ H => wi σ H fun J H1 => ∃ W : Nat → Nat → St → Hp → Prop, (∃ m, W 0 m σ H1) ∧ ∀ i m σ H, W i m σ H →
  (J.stop i H ∧ D.nx σ H) ∨ (J.go i H ∧ ∃ N : St → Hp → Prop, (∀ σ' H', N σ' H' → ∃ m', m' < m ∧ W (i + 1) m' σ' H') ∧ ∀ x H', J.yld i H x H' → g x σ H' fun σ2 H2 => tb { D with nx := N, ct := N, bk := D.nx } σ2 H2)
noncomputable def pinsAt (fp : List Addr) (h : Heap) : List (Addr × Obj) := fp.filterMap fun b => (h.get? b).map fun o => (b, o)
theorem mem_pinsAt {fp : List Addr} {h : Heap} {b : Addr} {o : Obj} (hb : b ∈ fp) (e : h.get? b = some o) : (b, o) ∈ pinsAt fp h := List.mem_filterMap.mpr ⟨b, hb, by rw [e]; rfl⟩
theorem of_pinsAt {fp : List Addr} {h : Heap} {p : Addr × Obj} (hp : p ∈ pinsAt fp h) : p.1 ∈ fp ∧ h.get? p.1 = some p.2 := by
  obtain ⟨b, hb, e⟩ := List.mem_filterMap.mp hp
  cases q : h.get? b with
  | none => rw [q] at e; cases e
  | some o =>
    rw [q] at e
    have e' : (b, o) = p := Option.some.inj e
    subst e'
    exact ⟨hb, q⟩
theorem Inv.pinned {pins : List (Addr × Obj)} {σ : St} {H : Hp} {s : Shared} {fp : List Addr} (I : Inv X pins σ H s) (hf : ∀ b ∈ fp, FpOk X pins H b) (ho : ∀ b ∈ fp, ∃ o, s.heap.get? b = some o ∧ ∀ v, o.data ≠ .cell v) : Inv X (pins ++ pinsAt fp s.heap) σ H s :=
  I.pins_of fun p hp => (List.mem_append.mp hp).elim (fun z => I.pin p (List.mem_append_right _ z)) fun z => by
    obtain ⟨hb, e⟩ := of_pinsAt z
    obtain ⟨f0, f1, f2, _⟩ := hf p.1 hb
    obtain ⟨o, e', d⟩ := ho p.1 hb
    rw [e] at e'; cases e'
    exact ⟨e, f0, f1, f2, d⟩
theorem Inv.unpinned {pins pl : List (Addr × Obj)} {σ : St} {H : Hp} {s : Shared} (I : Inv X (pins ++ pl) σ H s) : Inv X pins σ H s := I.pins_of fun p hp => I.pin p (List.mem_append_right _ (List.mem_append_left _ hp))
theorem ps_for {iter : Expr} {body : List Stmt} {wi : TI} {g : TG} {tb : TS} {pos : Pos} (hp : PassesOwn (model X.prog X.w) X.A X.env X.xe) (hc : X.calm = true) (hi : PI X tg iter wi) (hg : PG X tg g) (hb : PSs X body tb)
    (hs : ∀ x, foldedSetIterable iter X.env x = pure x := by intro _; rfl) : PS X (.For tg iter body [] pos) (tFor wi g tb) := by
  intro pins s σ H D I h
  refine wpAny_For (thn (hi pins s σ H _ I h) fun v s1 h1 => thn h1 fun itv s2 h2 => ?_) hs
  obtain ⟨it, fp, tn, J, H2, e, I2, T, st2, f2, W, ⟨m0, w0⟩, turn⟩ := h2
  subst e
  have stat : ∀ {H' : Hp}, (∀ b ∈ fp, H' b = none) → ∀ b ∈ fp, FpOk X pins H' b := fun hn b hb => ⟨hn b hb, (f2 b hb).2⟩
  refine codeAny_forLoop_any (fun n s' => ∃ i σ' H', Inv X pins σ' H' s' ∧ tn i s'.heap ∧ (∀ b ∈ fp, H' b = none) ∧ W i n σ' H') ?_ m0 ⟨0, σ, H2, I2, st2, fun b hb => (f2 b hb).1, w0⟩
  rintro n s3 ⟨i, σ3, H3, I3, st3, fr3, w3⟩
  rcases turn i n σ3 H3 w3 with ⟨stop, qn⟩ | ⟨go, N, hN, step⟩
  · refine wpAny_passesOwn hp (thn (T.done X rfl rfl rfl hc i pins s3 σ3 H3 X.xe I3 (stat fr3) st3 stop) fun r s4 ⟨hr, I4⟩ => ?_)
    subst hr
    exact wpAny_execs_nil ⟨σ3, H3, I4, qn⟩
  · refine wpAny_passesOwn hp (thn (T.item X rfl rfl rfl hc i pins s3 σ3 H3 X.xe I3 (stat fr3) st3 go) fun r s4 ⟨u, hr, h4⟩ => ?_)
    subst hr
    refine wpAny_passesOwn hp (thn h4 fun _ s5 ⟨x, H5, I5, r5, y5, st5, fr5⟩ => ?_)
    have I5' := I5.pinned (stat fr5) (T.obj _ _ st5)
    refine wpAny_passesOwn hp (thn (hg _ s5 σ3 H5 x u _ I5' r5 (step x H5 y5)) fun _ s6 ⟨σ6, H6, I6, q6⟩ => ?_)
    refine wpAny_passesOwn hp (thn (hb _ s6 σ6 H6 _ I6 q6) fun f s7 q7 => ?_)
    have again : ∀ {σ7 : St} {H7 : Hp}, Inv X (pins ++ pinsAt fp s5.heap) σ7 H7 s7 → N σ7 H7 → ∃ m, m < n ∧ ∃ i σ' H', Inv X pins σ' H' s7 ∧ tn i s7.heap ∧ (∀ b ∈ fp, H' b = none) ∧ W i m σ' H' := fun {σ7 H7} I7 n7 => by
      obtain ⟨m', hm, w7⟩ := hN σ7 H7 n7
      refine ⟨m', hm, i + 1, σ7, H7, I7.unpinned, T.keep _ _ _ st5 fun b hb o e => (I7.pin (b, o) (List.mem_append_right _ (List.mem_append_right _ (mem_pinsAt hb e)))).1, fun b hb => ?_, w7⟩
      obtain ⟨o, e, d⟩ := T.obj _ _ st5 b hb
      exact (I7.pin (b, o) (List.mem_append_right _ (List.mem_append_right _ (mem_pinsAt hb e)))).2.1
    cases f with
    | next => obtain ⟨σ7, H7, I7, n7⟩ := q7; exact again I7 n7
    | cont => obtain ⟨σ7, H7, I7, n7⟩ := q7; exact again I7 n7
    | brk => obtain ⟨σ7, H7, I7, q7⟩ := q7; exact ⟨σ7, H7, I7.unpinned, q7⟩
    | ret v => obtain ⟨x7, σ7, H7, I7, r7, q7⟩ := q7; exact ⟨x7, σ7, H7, I7.unpinned, r7, q7⟩
end
theorem for_range {lo : Int} {n : Nat} {g : TG} {tb : TS} {D : Ends} {σ : St} {H : Hp} (Pv : Nat → St → Hp → Prop) (h0 : Pv 0 σ H)
    (hs : ∀ i σ H, i < n → Pv i σ H → g (.int (lo + i)) σ H fun σ2 H2 => tb { D with nx := Pv (i + 1), ct := Pv (i + 1), bk := D.nx } σ2 H2) (hd : ∀ σ H, Pv n σ H → D.nx σ H) :
    ∃ W : Nat → Nat → St → Hp → Prop, (∃ m, W 0 m σ H) ∧ ∀ i m σ H, W i m σ H →
      ((Itr lo n).stop i H ∧ D.nx σ H) ∨ ((Itr lo n).go i H ∧ ∃ N : St → Hp → Prop, (∀ σ' H', N σ' H' → ∃ m', m' < m ∧ W (i + 1) m' σ' H') ∧ ∀ x H', (Itr lo n).yld i H x H' → g x σ H' fun σ2 H2 => tb { D with nx := N, ct := N, bk := D.nx } σ2 H2) := by
  refine ⟨fun i m σ H => m = n - i ∧ i ≤ n ∧ Pv i σ H, ⟨n, by simp, Nat.zero_le _, h0⟩, ?_⟩
  rintro i m σ H ⟨rfl, hi, p⟩
  by_cases hlt : i < n
  · refine .inr ⟨hlt, Pv (i + 1), fun σ' H' p' => ⟨n - (i + 1), by lia, rfl, hlt, p'⟩, fun x H' y => ?_⟩
    obtain ⟨e, y⟩ := y
    subst e y
    exact hs i σ _ hlt p
  · have e : i = n := by lia
    subst e
    exact .inl ⟨Nat.le_refl _, hd σ H p⟩
end L2
namespace L2
open PySem PySem.Spec PyProof.Rows
noncomputable abbrev R2 := V → V → Hp → VK → Prop
noncomputable def OpR (X : Cx) (f : Value → Value → Sem Value) (r : R2) : Prop :=
  ∀ (pins : List (Addr × Obj)) (s : Shared) (σ : St) (H : Hp) (x y : V) (v u : Value) (Q : VK), Inv X pins σ H s → RelV x v → RelV y u → r x y H Q →
    wpAny (model X.prog X.w) X.A (f v u) (EP X pins σ Q) X.xe s
noncomputable def UnR (X : Cx) (f : Value → Sem Value) (r : V → Hp → VK → Prop) : Prop :=
  ∀ (pins : List (Addr × Obj)) (s : Shared) (σ : St) (H : Hp) (x : V) (v : Value) (Q : VK), Inv X pins σ H s → RelV x v → r x H Q →
    wpAny (model X.prog X.w) X.A (f v) (EP X pins σ Q) X.xe s
noncomputable def CallR (X : Cx) (f : Value) (r : List V → Hp → VK → Prop) : Prop :=
  ∀ (pins : List (Addr × Obj)) (s : Shared) (σ : St) (H : Hp) (xs : List V) (us : List Value) (Q : VK), Inv X pins σ H s → Vals xs us → r xs H Q →
    wpAny (model X.prog X.w) X.A (call f us) (EP X pins σ Q) X.xe s
noncomputable def TruR (X : Cx) (r : V → Hp → (Bool → Hp → Prop) → Prop) : Prop :=
  ∀ (pins : List (Addr × Obj)) (s : Shared) (σ : St) (H : Hp) (x : V) (v : Value) (Q : Bool → Hp → Prop), Inv X pins σ H s → RelV x v → r x H Q →
    wpAny (model X.prog X.w) X.A (truthy v) (TP X pins σ Q) X.xe s
noncomputable def tOp (r : R2) (ta tb : TE) : TE := fun σ H Q => ta σ H fun x H1 => tb σ H1 fun y H2 => r x y H2 Q
noncomputable def tUn (r : V → Hp → VK → Prop) (ta : TE) : TE := fun σ H Q => ta σ H fun x H1 => r x H1 Q
noncomputable def rI (C : Int → Int → Prop) (g : Int → Int → V) : R2 := fun x y H Q => ∃ i j, x = .int i ∧ y = .int j ∧ C i j ∧ Q (g i j) H
noncomputable def rI0 (g : Int → Int → V) : R2 := fun x y H Q => ∃ i j, x = .int i ∧ y = .int j ∧ Q (g i j) H
noncomputable def rU (g : Int → V) : V → Hp → VK → Prop := fun x H Q => ∃ i, x = .int i ∧ Q (g i) H
section
variable {X : Cx} {a b c : Expr} {ta tb tc : TE} {pos : Pos}
theorem binT (ha : PE X a ta) (hb : PE X b tb) {pins : List (Addr × Obj)} {s : Shared} {σ : St} {H : Hp} {R : V → V → Hp → Prop} (I : Inv X pins σ H s)
    (h : ta σ H fun x H1 => tb σ H1 fun y H2 => R x y H2) {Q : Value → Shared → Prop} {f : Value → Value → Sem Value}
    (hf : ∀ v u s2 x y H2, Inv X pins σ H2 s2 → RelV x v → RelV y u → R x y H2 → wpAny (model X.prog X.w) X.A (f v u) Q X.xe s2) :
    wpAny (model X.prog X.w) X.A (eval a X.env) (fun v s₁ => wpAny (model X.prog X.w) X.A (eval b X.env) (fun u s₂ => wpAny (model X.prog X.w) X.A (f v u) Q X.xe s₂) X.xe s₁) X.xe s := by
  refine thn (ha pins s σ H _ I h) fun v s1 ⟨x, H1, I1, r1, q1⟩ => ?_
  refine thn (hb pins s1 σ H1 _ I1 q1) fun u s2 ⟨y, H2, I2, r2, q2⟩ => ?_
  exact hf v u s2 x y H2 I2 r1 r2 q2
theorem pe_op {op : Operator} {r : R2} (ho : OpR X (binaryOp op) r) (ha : PE X a ta) (hb : PE X b tb) : PE X (.BinOp a op b pos) (tOp r ta tb) := by
  intro pins s σ H Q I h
  exact wpAny_BinOp (binT ha hb I h fun v u s2 x y H2 I2 rx ry q => ho pins s2 σ H2 x y v u Q I2 rx ry q)
theorem pe_un {op : UnaryOp} {r : V → Hp → VK → Prop} (ho : UnR X (unaryOp op) r) (ha : PE X a ta) : PE X (.UnaryOp op a pos) (tUn r ta) := by
  intro pins s σ H Q I h
  exact UnaryOp_ (thn (ha pins s σ H _ I h) fun v s1 ⟨x, H1, I1, r1, q1⟩ => ho pins s1 σ H1 x v Q I1 r1 q1)
theorem opI {f : Value → Value → Sem Value} {C : Int → Int → Prop} {g : Int → Int → Int}
    (rule : ∀ (i j : Int) (t u : Tok) (s : Shared) (Q : Value → Shared → Prop) (E : Value → Shared → Prop), C i j → Q (.int (g i j) s.toks) { s with toks := s.toks + 1 } → wpAny (model X.prog X.w) X.A (f (.int i t) (.int j u)) Q E s) :
    OpR X f (rI C fun i j => .int (g i j)) := by
  intro pins s σ H x y v u Q I rx ry h
  obtain ⟨i, j, rfl, rfl, hc, q⟩ := h
  obtain ⟨t, rfl⟩ := rx
  obtain ⟨t', rfl⟩ := ry
  exact rule i j t t' s _ _ hc ⟨.int (g i j), H, I.tok _, ⟨_, rfl⟩, q⟩
theorem opI0 {f : Value → Value → Sem Value} {g : Int → Int → Int}
    (rule : ∀ (i j : Int) (t u : Tok) (s : Shared) (Q : Value → Shared → Prop) (E : Value → Shared → Prop), Q (.int (g i j) s.toks) { s with toks := s.toks + 1 } → wpAny (model X.prog X.w) X.A (f (.int i t) (.int j u)) Q E s) :
    OpR X f (rI0 fun i j => .int (g i j)) := by
  intro pins s σ H x y v u Q I rx ry h
  obtain ⟨i, j, rfl, rfl, q⟩ := h
  obtain ⟨t, rfl⟩ := rx
  obtain ⟨t', rfl⟩ := ry
  exact rule i j t t' s _ _ ⟨.int (g i j), H, I.tok _, ⟨_, rfl⟩, q⟩
theorem opB0 {f : Value → Value → Sem Value} {g : Int → Int → Bool}
    (rule : ∀ (i j : Int) (t u : Tok) (s : Shared) (Q : Value → Shared → Prop) (E : Value → Shared → Prop), Q (.bool (g i j)) s → wpAny (model X.prog X.w) X.A (f (.int i t) (.int j u)) Q E s) :
    OpR X f (rI0 fun i j => .bl (g i j)) := by
  intro pins s σ H x y v u Q I rx ry h
  obtain ⟨i, j, rfl, rfl, q⟩ := h
  obtain ⟨t, rfl⟩ := rx
  obtain ⟨t', rfl⟩ := ry
  exact rule i j t t' s _ _ ⟨.bl (g i j), H, I, rfl, q⟩
noncomputable def CPow (i j : Int) : Prop := 0 ≤ j ∧ j ≤ 1000000 ∧ i.natAbs < 2 ^ 64
theorem op_add : OpR X (binaryOp .Add) (rI0 fun i j => .int (i + j)) := opI0 fun _ _ _ _ _ _ _ q => add_int q
theorem op_sub : OpR X (binaryOp .Sub) (rI0 fun i j => .int (i - j)) := opI0 fun _ _ _ _ _ _ _ q => sub_int q
theorem op_modN : OpR X (binaryOp .Mod) (rI (fun _ j => j ≠ 0) fun i j => .int (i.fmod j)) := opI fun _ _ _ _ _ _ _ hc q => mod_int' hc q
theorem op_shl : OpR X (binaryOp .LShift) (rI CPow fun i j => .int (i * 2 ^ j.toNat)) := opI fun _ _ _ _ _ _ _ hc q => lshift_int_small hc.1 hc.2.1 hc.2.2 q
theorem unI {f : Value → Sem Value} {g : Int → Int}
    (rule : ∀ (i : Int) (t : Tok) (s : Shared) (Q : Value → Shared → Prop) (E : Value → Shared → Prop), Q (.int (g i) s.toks) { s with toks := s.toks + 1 } → wpAny (model X.prog X.w) X.A (f (.int i t)) Q E s) :
    UnR X f (rU fun i => .int (g i)) := by
  intro pins s σ H x v Q I rx h
  obtain ⟨i, rfl, q⟩ := h
  obtain ⟨t, rfl⟩ := rx
  exact rule i t s _ _ ⟨.int (g i), H, I.tok _, ⟨_, rfl⟩, q⟩
theorem un_neg : UnR X (unaryOp .USub) (rU fun i => .int (-i)) := unI fun _ _ _ _ _ q => neg_int q
end
noncomputable def scal : V → V → Bool
  | .non, .non => true | .non, .int _ => true | .int _, .non => true | .non, .bl _ => true | .bl _, .non => true | .non, .str _ => true | .str _, .non => true
  | .int _, .int _ => true | .bl _, .bl _ => true | .str _, .str _ => true | .byt _, .byt _ => true
  | .int _, .str _ => true | .str _, .int _ => true | .bl _, .str _ => true | .str _, .bl _ => true
  | _, _ => false
noncomputable def rEq : R2 := fun x y H Q => scal x y = true ∧ Q (.bl (decide (x = y))) H
noncomputable def rNe : R2 := fun x y H Q => scal x y = true ∧ Q (.bl (!decide (x = y))) H
theorem dec_int {i j : Int} : decide (V.int i = V.int j) = (i == j) := by
  rw [Bool.eq_iff_iff]
  simp
theorem dec_bl {i j : Bool} : decide (V.bl i = V.bl j) = (i == j) := by
  rw [Bool.eq_iff_iff]
  simp
theorem dec_str {i j : Str} : decide (V.str i = V.str j) = (i == j) := by
  rw [Bool.eq_iff_iff]
  simp
theorem dec_byt {i j : Array UInt8} : decide (V.byt i = V.byt j) = (i.toList == j.toList) := by
  rw [Bool.eq_iff_iff]
  cases i
  cases j
  simp
section
variable {X : Cx} {a b c : Expr} {ta tb tc : TE} {pos : Pos}
theorem fin_bl {pins : List (Addr × Obj)} {σ : St} {H : Hp} {s : Shared} {Q : VK} {k k' : Bool} (I : Inv X pins σ H s) (q : Q (.bl k) H) (e : k = k') : EP X pins σ Q (.bool k') s := by
  subst e
  exact ⟨.bl k, H, I, rfl, q⟩
theorem op_eq : OpR X (compareOp .Eq) rEq := by
  intro pins s σ H x y v u Q I rx ry h
  obtain ⟨hs, q⟩ := h
  cases x with
  | non =>
    cases rx
    cases y with
    | non => cases ry; exact PySem.EqNone.eq_none_none (fin_bl I q (by simp))
    | bl j => cases ry; exact PySem.EqNone.eq_none_bool (fin_bl I q (by simp))
    | int j => obtain ⟨t', rfl⟩ := ry; exact PySem.EqNone.eq_none_int (fin_bl I q (by simp))
    | str j => obtain ⟨t', rfl⟩ := ry; exact PySem.EqNone.eq_none_str (fin_bl I q (by simp))
    | _ => exact absurd (show false = true from hs) Bool.false_ne_true
  | bl i =>
    cases rx
    cases y with
    | non => cases ry; exact PySem.EqNone.eq_bool_none (fin_bl I q (by simp))
    | bl j => cases ry; exact eq_bool (fin_bl I q dec_bl)
    | str j => obtain ⟨t', rfl⟩ := ry; exact PySem.EqMixed.eq_bool_str (fin_bl I q (by simp))
    | _ => exact absurd (show false = true from hs) Bool.false_ne_true
  | int i =>
    obtain ⟨t, rfl⟩ := rx
    cases y with
    | non => cases ry; exact PySem.EqNone.eq_int_none (fin_bl I q (by simp))
    | int j => obtain ⟨t', rfl⟩ := ry; exact eq_int (fin_bl I q dec_int)
    | str j => obtain ⟨t', rfl⟩ := ry; exact PySem.EqMixed.eq_int_str (fin_bl I q (by simp))
    | _ => exact absurd (show false = true from hs) Bool.false_ne_true
  | str i =>
    obtain ⟨t, rfl⟩ := rx
    cases y with
    | non => cases ry; exact PySem.EqNone.eq_str_none (fin_bl I q (by simp))
    | bl j => cases ry; exact PySem.EqMixed.eq_str_bool (fin_bl I q (by simp))
    | int j => obtain ⟨t', rfl⟩ := ry; exact PySem.EqMixed.eq_str_int (fin_bl I q (by simp))
    | str j => obtain ⟨t', rfl⟩ := ry; exact eq_str (fin_bl I q dec_str)
    | _ => exact absurd (show false = true from hs) Bool.false_ne_true
  | byt i =>
    obtain ⟨t, rfl⟩ := rx
    cases y with
    | byt j => obtain ⟨t', rfl⟩ := ry; exact PySem.W.eq_bytes (fin_bl I q dec_byt)
    | _ => exact absurd (show false = true from hs) Bool.false_ne_true
  | _ => cases y <;> exact absurd (show false = true from hs) Bool.false_ne_true
theorem op_ne : OpR X (compareOp .NotEq) rNe := by
  intro pins s σ H x y v u Q I rx ry h
  obtain ⟨hs, q⟩ := h
  cases x with
  | non =>
    cases rx
    cases y with
    | non => cases ry; exact PySem.EqNone.ne_none_none (fin_bl I q (by simp))
    | bl j => cases ry; exact PySem.EqNone.ne_none_bool (fin_bl I q (by simp))
    | int j => obtain ⟨t', rfl⟩ := ry; exact PySem.EqNone.ne_none_int (fin_bl I q (by simp))
    | str j => obtain ⟨t', rfl⟩ := ry; exact PySem.EqNone.ne_none_str (fin_bl I q (by simp))
    | _ => exact absurd (show false = true from hs) Bool.false_ne_true
  | bl i =>
    cases rx
    cases y with
    | non => cases ry; exact PySem.EqNone.ne_bool_none (fin_bl I q (by simp))
    | bl j => cases ry; exact ne_bool (fin_bl I q (congrArg not dec_bl))
    | str j => obtain ⟨t', rfl⟩ := ry; exact PySem.EqMixed.ne_bool_str (fin_bl I q (by simp))
    | _ => exact absurd (show false = true from hs) Bool.false_ne_true
  | int i =>
    obtain ⟨t, rfl⟩ := rx
    cases y with
    | non => cases ry; exact PySem.EqNone.ne_int_none (fin_bl I q (by simp))
    | int j => obtain ⟨t', rfl⟩ := ry; exact ne_int (fin_bl I q (congrArg not dec_int))
    | str j => obtain ⟨t', rfl⟩ := ry; exact PySem.EqMixed.ne_int_str (fin_bl I q (by simp))
    | _ => exact absurd (show false = true from hs) Bool.false_ne_true
  | str i =>
    obtain ⟨t, rfl⟩ := rx
    cases y with
    | non => cases ry; exact PySem.EqNone.ne_str_none (fin_bl I q (by simp))
    | bl j => cases ry; exact PySem.EqMixed.ne_str_bool (fin_bl I q (by simp))
    | int j => obtain ⟨t', rfl⟩ := ry; exact PySem.EqMixed.ne_str_int (fin_bl I q (by simp))
    | str j => obtain ⟨t', rfl⟩ := ry; exact ne_str (fin_bl I q (congrArg not dec_str))
    | _ => exact absurd (show false = true from hs) Bool.false_ne_true
  | byt i =>
    obtain ⟨t, rfl⟩ := rx
    cases y with
    | byt j => obtain ⟨t', rfl⟩ := ry; exact PySem.W.ne_bytes (fin_bl I q (congrArg not dec_byt))
    | _ => exact absurd (show false = true from hs) Bool.false_ne_true
  | _ => cases y <;> exact absurd (show false = true from hs) Bool.false_ne_true
theorem op_lt : OpR X (compareOp .Lt) (rI0 fun i j => .bl (decide (i < j))) := opB0 fun _ _ _ _ _ _ _ q => lt_int q
theorem op_gt : OpR X (compareOp .Gt) (rI0 fun i j => .bl (decide (j < i))) := opB0 fun _ _ _ _ _ _ _ q => gt_int q
theorem op_ge : OpR X (compareOp .GtE) (rI0 fun i j => .bl (decide (j ≤ i))) := opB0 fun _ _ _ _ _ _ _ q => ge_int q
theorem op_in_str : OpR X (compareOp .In) (fun x y H Q => ∃ i j, x = .str i ∧ y = .str j ∧ Q (.bl (!(Builtin.Str.occurrences j i 0 j.length 1).isEmpty)) H) := by
  intro pins s σ H x y v u Q I rx ry h
  obtain ⟨i, j, rfl, rfl, q⟩ := h
  obtain ⟨t, rfl⟩ := rx
  obtain ⟨t', rfl⟩ := ry
  exact in_str (fin_bl I q rfl)
theorem nomark (b : Expr) {op : CmpOp} (h : op ≠ .In := by decide) (h2 : op ≠ .NotIn := by decide) : behindInMarks op b = false := by
  have e1 : (op == CmpOp.In) = false := by cases op <;> first | rfl | exact absurd rfl h
  have e2 : (op == CmpOp.NotIn) = false := by cases op <;> first | rfl | exact absurd rfl h2
  cases b <;> simp [behindInMarks, e1, e2]
theorem pe_cmpR {op : CmpOp} {r : R2} (ho : OpR X (compareOp op) r) (ha : PE X a ta) (hb : PE X b tb) (hm : behindInMarks op b = false) : PE X (.Compare a [op] [b] pos) (tOp r ta tb) := by
  intro pins s σ H Q I h
  exact wpAny_Compare1 (binT ha hb I h fun v u s2 x y H2 I2 rx ry q => ho pins s2 σ H2 x y v u Q I2 rx ry q) hm
noncomputable def tTest (t : TE) : TT := fun σ H Q => t σ H fun x H' => ∃ k, x = .bl k ∧ Q k H'
theorem pt_cmpR {op : CmpOp} {r : R2} (ho : OpR X (compareOp op) r) (ha : PE X a ta) (hb : PE X b tb) (hm : behindInMarks op b = false) : PT X (.Compare a [op] [b] pos) (tTest (tOp r ta tb)) := by
  intro pins s σ H Q I h
  refine wpAny_isTrue_Compare1 (thn (ha pins s σ H _ I h) fun v s1 ⟨x, H1, I1, r1, q1⟩ => thn (hb pins s1 σ H1 _ I1 q1) fun u s2 ⟨y, H2, I2, r2, q2⟩ =>
    thn (ho pins s2 σ H2 x y v u _ I2 r1 r2 q2) fun c s3 ⟨z, H3, I3, r3, k, e, q3⟩ => ?_) hm
  subst e
  cases r3
  exact wpAny_truthy_bool ⟨H3, I3, q3⟩
noncomputable def TruV (K : PySem.W.Frag) (x : V) (H : Hp) (k : Bool) : Prop :=
  match x with
  | .non => k = false
  | .bl b => k = b
  | .int i => k = (i != 0)
  | .str y => y.length ≤ sizeLine ∧ k = ((y.length : Int) != 0)
  | .byt y => y.size ≤ sizeLine ∧ k = ((y.size : Int) != 0)
  | .ref p => (∃ xs, SqL K H p xs ∧ k = !xs.isEmpty) ∨ (∃ xs, SqT K H p xs ∧ k = !xs.isEmpty) ∨ ∃ kvs, H p = some (.dK kvs) ∧ k = !kvs.isEmpty
  | _ => False
theorem isEmpty_kv {κ : Type} {kvs : List (κ × V)} {vs : List (κ × Value)} (r : KV kvs vs) : (!vs.isEmpty) = !kvs.isEmpty := by
  cases r <;> rfl
theorem isEmpty_of {xs : List V} {its : List Value} (r : Vals xs its) : (!its.toArray.isEmpty) = !xs.isEmpty := by
  cases r <;> simp
theorem line63 : (sizeLine : Nat) < 2 ^ 63 := by rw [sizeLine_eq]; decide
theorem tru_ok : TruR X (fun x H Q => ∃ k, TruV X.K x H k ∧ Q k H) := by
  intro pins s σ H x v Q I rx h
  obtain ⟨k, e, q⟩ := h
  have hl := line63
  have hs : sizeLine = 16777216 := sizeLine_eq
  cases x with
  | non =>
    cases rx
    have e' : k = false := e
    subst e'
    exact truthy_none ⟨H, I, q⟩
  | bl b =>
    cases rx
    have e' : k = b := e
    subst e'
    exact wpAny_truthy_bool ⟨H, I, q⟩
  | int i =>
    obtain ⟨t, rfl⟩ := rx
    have e' : k = (i != 0) := e
    subst e'
    exact PySem.P.truthy_int ⟨H, I, q⟩
  | str y =>
    obtain ⟨t, rfl⟩ := rx
    obtain ⟨hy, e'⟩ : y.length ≤ sizeLine ∧ k = ((y.length : Int) != 0) := e
    subst e'
    exact PySem.P.truthy_str (by lia) ⟨H, I.tok _, q⟩
  | byt y =>
    obtain ⟨t, rfl⟩ := rx
    obtain ⟨hy, e'⟩ : y.size ≤ sizeLine ∧ k = ((y.size : Int) != 0) := e
    subst e'
    exact PySem.W.truthy_bytes (by lia) ⟨H, I.tok _, q⟩
  | ref p =>
    cases rx
    have e' : (∃ xs, SqL X.K H p xs ∧ k = !xs.isEmpty) ∨ (∃ xs, SqT X.K H p xs ∧ k = !xs.isEmpty) ∨ ∃ kvs, H p = some (.dK kvs) ∧ k = !kvs.isEmpty := e
    rcases e' with ⟨xs, hx, e'⟩ | ⟨xs, hx, e'⟩ | ⟨kvs, hx, e'⟩
    · subst e'
      obtain ⟨its, r, pl, hz⟩ := I.list hx
      have hlen := r.length
      exact wpAny_truthy_list pl.isList (by simp only [List.size_toArray]; lia) ⟨H, I.tok _, by rw [isEmpty_of r]; exact q⟩
    · subst e'
      obtain ⟨its, r, pl, hz⟩ := I.tuple hx
      have hlen := r.length
      exact truthy_tuple pl (by simp only [List.size_toArray]; lia) ⟨H, I.tok _, by rw [isEmpty_of r]; exact q⟩
    · subst e'
      obtain ⟨hz, hS, vs, r, m⟩ : kvs.length ≤ sizeLine ∧ (p == sysModules) = false ∧ ∃ vs, KV kvs vs ∧ s.heap.DictOf (mixKind X.prog X.w) p vs := I.hok p _ hx
      have hlen : kvs.length = vs.length := Paired.length r
      exact wpAny_truthy_dict hS m (by lia) ⟨H, I.tok _, by rw [isEmpty_kv r]; exact q⟩
  | _ => exact (show False from e).elim
theorem pt_truth (ha : PE X a ta) (he : ∀ whole, isTrue a X.env whole = (do let v ← whole; standAt a.pos; holding [v] (truthy v))) :
    PT X a (fun σ H Q => ta σ H fun x H' => ∃ k, TruV X.K x H' k ∧ Q k H') := by
  intro pins s σ H Q I h
  exact isTrue_plain (thn (ha pins s σ H _ I h) fun v s1 ⟨x, H1, I1, r1, q1⟩ => tru_ok pins s1 σ H1 x v Q I1 r1 q1) (he _)
theorem op_add_str : OpR X (binaryOp .Add) (fun x y H Q => ∃ i j, x = .str i ∧ y = .str j ∧ i.length + j.length ≤ sizeLine ∧ Q (.str (i ++ j)) H) := by
  intro pins s σ H x y v u Q I rx ry h
  obtain ⟨i, j, rfl, rfl, hz, q⟩ := h
  obtain ⟨t, rfl⟩ := rx
  obtain ⟨t', rfl⟩ := ry
  exact add_str (fun t' tk => ⟨.str (i ++ j), H, I.tok _, ⟨_, rfl⟩, q⟩) hz
theorem vals1 {x : V} {us : List Value} (r : Vals [x] us) : ∃ u, us = [u] ∧ RelV x u := by
  cases r with
  | cons r1 r2 => cases r2; exact ⟨_, rfl, r1⟩
theorem vals2 {x y : V} {us : List Value} (r : Vals [x, y] us) : ∃ u w', us = [u, w'] ∧ RelV x u ∧ RelV y w' := by
  cases r with
  | cons r1 r2 =>
    cases r2 with
    | cons r3 r4 => cases r4; exact ⟨_, _, rfl, r1, r3⟩
theorem call_abs : CallR X (.builtin "abs") (fun xs H Q => ∃ i, xs = [.int i] ∧ Q (.int (if i < 0 then -i else i)) H) := by
  intro pins s σ H xs us Q I r h
  obtain ⟨i, rfl, q⟩ := h
  obtain ⟨u, rfl, t, rfl⟩ := vals1 r
  exact call_abs_int fun u tk => ⟨.int (if i < 0 then -i else i), H, I.tok _, ⟨_, rfl⟩, q⟩
theorem call_max2 (hc : X.calm = true) : CallR X (.builtin "max") (fun xs H Q => ∃ i j, xs = [.int i, .int j] ∧ Q (.int (if j > i then j else i)) H) := by
  intro pins s σ H xs us Q I r h
  obtain ⟨i, j, rfl, q⟩ := h
  obtain ⟨u, w', rfl, ⟨t, rfl⟩, ⟨t', rfl⟩⟩ := vals2 r
  refine max_two_ints (I.ok.hd hc) fun h' tk k => ⟨_, H, I.kept k, ?_, q⟩
  by_cases hj : j > i
  · rw [if_pos hj, if_pos hj]; exact ⟨_, rfl⟩
  · rw [if_neg hj, if_neg hj]; exact ⟨_, rfl⟩
theorem call_min2 (hc : X.calm = true) : CallR X (.builtin "min") (fun xs H Q => ∃ i j, xs = [.int i, .int j] ∧ Q (.int (if j < i then j else i)) H) := by
  intro pins s σ H xs us Q I r h
  obtain ⟨i, j, rfl, q⟩ := h
  obtain ⟨u, w', rfl, ⟨t, rfl⟩, ⟨t', rfl⟩⟩ := vals2 r
  refine min_two_ints (I.ok.hd hc) fun h' tk k => ⟨_, H, I.kept k, ?_, q⟩
  by_cases hj : j < i
  · rw [if_pos hj, if_pos hj]; exact ⟨_, rfl⟩
  · rw [if_neg hj, if_neg hj]; exact ⟨_, rfl⟩
theorem call_int1 : CallR X (.type "int") (fun xs H Q => (∃ i, xs = [.int i] ∧ Q (.int i) H) ∨ ∃ k, xs = [.bl k] ∧ Q (.int (if k then 1 else 0)) H) := by
  intro pins s σ H xs us Q I r h
  rcases h with ⟨i, rfl, q⟩ | ⟨k, rfl, q⟩
  · obtain ⟨u, rfl, t, rfl⟩ := vals1 r
    exact call_int_int ⟨.int i, H, I, ⟨_, rfl⟩, q⟩
  · obtain ⟨u, rfl, r1⟩ := vals1 r
    cases r1
    exact call_int_bool ⟨.int (if k then 1 else 0), H, I.tok _, ⟨_, rfl⟩, q⟩
theorem call_str_int : CallR X (.type "str") (fun xs H Q => ∃ i, xs = [.int i] ∧ i.natAbs.log2 < 1920 ∧ Q (.str (toString i)) H) := by
  intro pins s σ H xs us Q I r h
  obtain ⟨i, rfl, hz, q⟩ := h
  obtain ⟨u, rfl, t, rfl⟩ := vals1 r
  exact PySem.P.str_of_int hz ⟨.str _, H, I.tok _, ⟨_, rfl⟩, q⟩
end
end L2
namespace L2
open PySem PySem.Spec PyProof.Rows
structure ObjM (h : Heap) (x dx C : Addr) (mA : Str → Option Value) : Prop where
  obj : h.get? x = some (PySem.W.instObj C dx)
  ns : h.Ns1 dx mA
  ne : dx ≠ x
theorem lookIn_ns {h : Heap} {dx : Addr} {mA : Str → Option Value} (n : h.Ns1 dx mA) : ∃ od, h.get? dx = some od ∧ ∀ name, PySem.W.lookIn name od = some (mA name) := by
  obtain ⟨o, es, ep, ho, hd, hk, _, hm⟩ := n
  refine ⟨o, ho, fun name => ?_⟩
  have e := hm name
  unfold nsFind findBy at e
  rw [← Array.find?_toList] at e
  unfold PySem.W.lookIn
  rw [hd]
  dsimp only
  split
  · rename_i y q
    rw [q] at e
    exact congrArg some e
  · rename_i q
    rw [q] at e
    have a : es.toList.any (·.refKey) = false := by
      rw [List.any_eq_false]
      intro y hy
      obtain ⟨z, t, hkey⟩ := hk y (Array.mem_toList_iff.mp hy)
      simp [DictEntry.refKey, hkey]
    have a' : ¬ es.toList.any (·.refKey) = true := by rw [a]; exact Bool.false_ne_true
    rw [if_neg a']
    exact congrArg some e
section
variable {prog : Program} {w : World} {A : Around} {E : Value → Shared → Prop} {s : Shared} {K : PySem.W.Frag} {x dx C f : Addr} {mA : Str → Option Value} {name : Str} {v : Value}
end
theorem RelO.some_of {v : V} {o : Option Value} (r : RelO (some v) o) : ∃ u, o = some u ∧ RelV v u := by
  cases o with
  | none => exact (show False from r).elim
  | some u => exact ⟨u, rfl, r⟩
theorem handed_of {v : V} {u : Value} (r : RelV v u) : PySem.W.handedIn u = true := by
  cases v with
  | non => cases (show u = Value.none from r); rfl
  | bl b => cases (show u = Value.bool b from r); rfl
  | int i => obtain ⟨t, e⟩ := (show ∃ t, u = Value.int i t from r); cases e; rfl
  | str x => obtain ⟨t, e⟩ := (show ∃ t, u = Value.str x t from r); cases e; rfl
  | byt b => obtain ⟨t, e⟩ := (show ∃ t, u = Value.bytes b t from r); cases e; rfl
  | flt b => obtain ⟨t, e⟩ := (show ∃ t, u = Value.float b t from r); cases e; rfl
  | ref a => cases (show u = Value.ref a from r); rfl
  | ty n => cases (show u = Value.type n from r); rfl
section
variable {P : Program} {w : World} {H H' : Hp} {h h' : Heap} {a C dx : Addr} {fs fs' : List (Str × V)}
end
structure Cls (K : PySem.W.Frag) (C : Addr) : Prop where
  pg : PySem.W.plainGet K C Str.empty = true
  hd : PySem.W.hasDictIn K C = true
  po : PySem.W.plainOver K C = true
  sa : PySem.W.findIn K (.ref C) "__setattr__" = some (some (.builtin "object.__setattr__"))
structure Con (K : PySem.W.Frag) (C : Addr) (f : Str) (v : V) (u : Value) : Prop where
  at_ : PySem.W.findIn K (.ref C) f = some (some u)
  rel : RelV v u
  get : PySem.W.specialIn K u "__get__" = some none
  cp : PySem.W.copiedNames.contains f = false
structure Meth (K : PySem.W.Frag) (C : Addr) (m : Str) (f : Addr) : Prop where
  at_ : PySem.W.findIn K (.ref C) m = some (some (.ref f))
  fn : PySem.W.isFn K (.ref f) = true
  kp : PySem.W.keepIn K (.ref f) = true
section
variable {X : Cx} {pins : List (Addr × Obj)} {σ : St} {H : Hp} {s : Shared} {a C dx : Addr} {fs : List (Str × V)} {f : Str} {v : V} {A : Around} {E : Value → Shared → Prop}
theorem attr_of {prog : Program} {w : World} {env : Env} {e : Expr} {f : Str} {pos : Pos} {s : Shared} {Q : Value → Shared → Prop} (hb : attributeBase e f env (eval e env) = eval e env)
    (h : wpAny (model prog w) A (eval e env) (fun o s₁ => wpAny (model prog w) A (getAttr o f true) Q E s₁) E s) : wpAny (model prog w) A (eval (.Attribute e f pos) env) Q E s :=
  Attribute_any_ h (by rw [arm_eval_Attribute, hb])
end
section
variable {X : Cx} {o e value : Expr} {f : Str} {pos pos' tpos : Pos} {ta tv : TE}
end
section
variable {X : Cx} {pins : List (Addr × Obj)} {σ : St} {H : Hp} {s : Shared} {A : Around} {E : Value → Shared → Prop} {Q : Value → Shared → Prop} {c : Value} {b : Bool}
inductive TyOf (K : PySem.W.Frag) (H : Hp) : V → Value → Prop where
  | non : TyOf K H .non (.type "NoneType")
  | bl (x : Bool) : TyOf K H (.bl x) (.type "bool")
  | int (i : Int) : TyOf K H (.int i) (.type "int")
  | str (x : Str) : TyOf K H (.str x) (.type "str")
  | flt (x : UInt64) : TyOf K H (.flt x) (.type "float")
  | lst {a : Addr} {xs : List V} (e : H a = some (.lst xs)) : TyOf K H (.ref a) (.type "list")
  | frz {a : Addr} {o : Obj} {xs : List V} (e : H a = some (.frz o (.lst xs))) : TyOf K H (.ref a) (.type "list")
  | tup {a : Addr} {xs : List V} (e : H a = some (.tup xs)) : TyOf K H (.ref a) (.type "tuple")
  | dK {a : Addr} {kvs : List (Key × V)} (e : H a = some (.dK kvs)) : TyOf K H (.ref a) (.type "dict")
  | dT {a : Addr} {kvs : List (List Key × V)} (e : H a = some (.dT kvs)) : TyOf K H (.ref a) (.type "dict")
  | ins {a C dx : Addr} {fs : List (Str × V)} (e : H a = some (.ins C dx fs)) (cl : Cls K C) (ha : PySem.W.findIn K (.ref C) "__class__" = some (some (.builtin "object.__class__")))
      (hn : PySem.W.specialIn K (.builtin "object.__class__") "__get__" = some (some (.builtin "getset_descriptor.__get__"))) (htk : PySem.W.takesIn K (.builtin "object.__class__") = some true)
      (hm : PySem.W.mroIn K C (.type "object") = some true) : TyOf K H (.ref a) (.ref C)
end
end L2
namespace L2
open PySem PySem.Spec PyProof.Rows
structure Room (k : Nat) (A : Around) : Prop where
  hd : A.handled = none
  dp : A.depth + 3 * k + 5 < recursionLimit
  un : A.units + 16 * k + 200 < cLine
theorem Room.mono {j k : Nat} {A : Around} (r : Room k A) (h : j ≤ k) : Room j A := ⟨r.hd, by have := r.dp; lia, by have := r.un; lia⟩
theorem Room.deeper {k : Nat} {A : Around} (r : Room (k + 1) A) (env : Env) : Room k (A.deeper env) :=
  ⟨r.hd, by have := r.dp; show A.depth + 1 + 3 * k + 5 < _; lia, by have := r.un; show A.units + 3 + 16 * k + 200 < _; lia⟩
theorem make_depth {A : Around} {C : Addr} {us : List Value} {kw : List (Str × Value)} : (A.under (.builtin "type.__call__" ⟨.ref C :: us, kw⟩)).depth = A.depth + 1 := by
  first | rfl | simp [Around.under, Code.weight, Code.isCreation, Code.isGuard, Code.isCaller, Code.frames, Code.isFrame, guardIds]
theorem make_units {A : Around} {C : Addr} {us : List Value} {kw : List (Str × Value)} : (A.under (.builtin "type.__call__" ⟨.ref C :: us, kw⟩)).units = A.units + 1 := by
  first | rfl | simp [Around.under, Code.cUnits, Code.frames, Code.isFrame]
theorem Room.make {k : Nat} {A : Around} (r : Room (k + 1) A) (C : Addr) (us : List Value) (kw : List (Str × Value)) : Room k (A.under (.builtin "type.__call__" ⟨.ref C :: us, kw⟩)) :=
  ⟨r.hd, by have := r.dp; rw [make_depth]; lia, by have := r.un; rw [make_units]; lia⟩
theorem Room.depth {k : Nat} {A : Around} (r : Room k A) : A.depth < recursionLimit := by have := r.dp; lia
theorem Room.units0 {k : Nat} {A : Around} (r : Room k A) : A.units < cLine := by have := r.un; lia
noncomputable def tNil : TA := fun _ H Q => Q [] H
noncomputable def tCons (ta : TE) (tr : TA) : TA := fun σ H Q => ta σ H fun x H1 => tr σ H1 fun xs H2 => Q (x :: xs) H2
section
variable {X : Cx} {e : Expr} {es : List Expr} {te : TE} {t : TA} {pos : Pos}
theorem pa_nil : PA X [] tNil := fun _ _ _ _ H Q I h => Calls.spliced_nil ⟨[], H, I, .nil, h⟩
theorem pa_cons (ha : PE X e te) (hr : PA X es t) (hs : starEach (e :: es) X.env = (false, eval e X.env) :: starEach es X.env := by rfl) : PA X (e :: es) (tCons te t) := by
  intro pos pins s σ H Q I h
  rw [hs]
  show wpAny _ _ (spliced ((false, eval e X.env) :: backTo pos (starEach es X.env))) _ _ s
  refine Calls.spliced_cons (thn (ha pins s σ H _ I h) fun u s1 ⟨x, H1, I1, r1, q1⟩ => ?_)
  exact thn (hr pos pins s1 σ H1 _ I1 q1) fun us s2 ⟨xs, H2, I2, r2, q2⟩ => ⟨x :: xs, H2, I2, .cons r1 r2, q2⟩
noncomputable def tTup (t : TA) : TE := fun σ H Q => t σ H fun xs H1 => xs.length ≤ sizeLine ∧ ∀ p, H1 p = none → Q (.ref p) (upd H1 p (.tup xs))
noncomputable def tLst (t : TA) : TE := fun σ H Q => t σ H fun xs H1 => xs.length ≤ sizeLine ∧ ∀ p, H1 p = none → Q (.ref p) (upd H1 p (.lst xs))
theorem pe_tup {x1} (h : PA X es t) : PE X (.Tuple es x1 pos) (tTup t) := by
  intro pins s σ H Q I hq
  refine wpAny_Tuple_spliced (thn (h pos pins s σ H _ I hq) fun us s1 ⟨xs, H1, I1, r, z, q⟩ => ⟨by rw [← r.length]; exact z, ?_⟩)
  have hf : H1 s1.heap.objs.size = none := I1.hok.fresh (Nat.le_refl _)
  refine ⟨.ref s1.heap.objs.size, upd H1 s1.heap.objs.size (.tup xs), I1.laid (t' := s1.toks) (fun b u e => Heap.get?_push_of_some _ e) (Nat.le_refl _) ?_, rfl, q _ hf⟩
  exact ⟨z, us, r, ⟨_, Heap.get?_push_size _ rfl, rfl, _, rfl⟩⟩
theorem pe_lst (h : PA X es t) : PE X (.List es pos) (tLst t) := by
  intro pins s σ H Q I hq
  refine wpAny_List_spliced (thn (h pos pins s σ H _ I hq) fun us s1 ⟨xs, H1, I1, r, z, q⟩ => ⟨by rw [← r.length]; exact z, ?_⟩)
  have hf : H1 s1.heap.objs.size = none := I1.hok.fresh (Nat.le_refl _)
  refine ⟨.ref s1.heap.objs.size, upd H1 s1.heap.objs.size (.lst xs), I1.laid (t' := s1.toks) (fun b u e => Heap.get?_push_of_some _ e) (Nat.le_refl _) ?_, rfl, q _ hf⟩
  exact ⟨z, us, 0, r, Heap.get?_push_size _ rfl⟩
end
noncomputable abbrev Sp := List V → Hp → VK → XK → Prop
noncomputable abbrev CXT := List Env → Hp → Shared → XK → Value → Shared → Prop
structure Env0 (P : Program) (w : World) (K : PySem.W.Frag) (mg : Str → Option Value) (base : Heap) (A : Around) (outer : List Env) (s : Shared) (H : Hp) : Prop where
  frames : A.frames = some outer
  mod : Mod K mg base
  bs : ∀ b o, base.get? b = some o → s.heap.get? b = some o ∧ H b = none
  bsz : base.objs.size ≤ s.heap.objs.size
  funs : s.heap.FunFrames base outer
  frf : ∀ b ∈ frs outer, H b = none
  hok : HOk P w H s.heap
  bare : AllBare s.gens
noncomputable def CE (outer : List Env) (P : Program) (w : World) (H : Hp) (s : Shared) (Q : VK) (u : Value) (s' : Shared) : Prop :=
  ∃ v H', s'.os = s.os ∧ AllBare s'.gens ∧ Un (frs outer) [] H H' s.heap s'.heap ∧ HOk P w H' s'.heap ∧ RelV v u ∧ Q v H'
noncomputable def CR (CX : CXT) (outer : List Env) (P : Program) (w : World) (H : Hp) (s : Shared) (Q : VK) (E : XK) (r : Result) (s' : Shared) : Prop :=
  match r with
  | .ok (.ret u) => CE outer P w H s Q u s'
  | .ok _ => False
  | .error e => CX outer H s E e s'
structure FnOk (P : Program) (w : World) (K : PySem.W.Frag) (mg : Str → Option Value) (base : Heap) (CX : CXT) (k : Nat) (f : Addr) (fd : FuncData) (ps : List Str) (sp : Sp) : Prop where
  len : ∀ vs H Q E, sp vs H Q E → vs.length = ps.length
  run : ∀ (A : Around) (outer : List Env) (s : Shared) (H : Hp) (args : Args) (us : List Value) (vs : List V) (Q : VK) (E : XK), Room k A → Env0 P w K mg base A outer s H → BindsTo s fd args (ps.zip us) → Vals vs us → sp vs H Q E →
    codeAny (model P w) A (.call (.ref f) args) (CR CX outer P w H s Q E) s
theorem FnOk.mono {P : Program} {w : World} {K : PySem.W.Frag} {mg : Str → Option Value} {base : Heap} {CX : CXT} {j k : Nat} {f : Addr} {fd : FuncData} {ps : List Str} {sp : Sp} (F : FnOk P w K mg base CX j f fd ps sp) (h : j ≤ k) :
    FnOk P w K mg base CX k f fd ps sp := ⟨F.len, fun A outer s H args us vs Q E hr => F.run A outer s H args us vs Q E (hr.mono h)⟩
theorem Env0.make {P : Program} {w : World} {K : PySem.W.Frag} {mg : Str → Option Value} {base : Heap} {A : Around} {outer : List Env} {s : Shared} {H : Hp} (e : Env0 P w K mg base A outer s H) (C : Addr) (us : List Value) (kw : List (Str × Value)) :
    Env0 P w K mg base (A.under (.builtin "type.__call__" ⟨.ref C :: us, kw⟩)) outer s H := ⟨by first | exact e.frames | (simpa [Around.under, Code.envs, Code.isFrame, pushEnvs] using e.frames), e.mod, e.bs, e.bsz, e.funs, e.frf, e.hok, e.bare⟩
section
variable {X : Cx} {pins : List (Addr × Obj)} {σ : St} {H : Hp} {s s' : Shared}
theorem Inv.env0 (I : Inv X pins σ H s) : Env0 X.prog X.w X.K X.mg X.base X.A X.stack s H :=
  ⟨I.ok.frames, I.ok.mod, I.bs, Nat.le_trans I.ok.bsz I.sz, I.stack, I.stkFree, I.hok, I.bare⟩
theorem Inv.after {Q : VK} {u : Value} (I : Inv X pins σ H s) (h : CE X.stack X.prog X.w H s Q u s') : EP X pins σ Q u s' := by
  obtain ⟨v, H', os, bare, un, hok, r, q⟩ := h
  obtain ⟨hh, g, d, t, os'⟩ := s'
  obtain rfl : os' = s.os := os
  exact ⟨v, H', I.call (h' := hh) (g' := g) (d' := d) (t' := t) (ch := []) un hok bare (fun b z => absurd z (by simp)), r, q⟩
end
noncomputable def tCall (sp : Sp) (dvs : List V) (E : XK) (t : TA) : TE := fun σ H Q => t σ H fun vs H1 => sp (vs ++ dvs) H1 Q E
noncomputable def Binds (K : PySem.W.Frag) (fd : FuncData) (ps : List Str) (ds : List Value) : Prop :=
  ∀ (s : Shared) (us : List Value), K.In s.heap → (us ++ ds).length = ps.length → BindsTo s fd ⟨us, []⟩ (ps.zip (us ++ ds))
theorem Binds.all {K : PySem.W.Frag} {fd : FuncData} {ps : List Str} (h : ∀ us : List Value, us.length = ps.length → bindArgs fd ⟨us, []⟩ = pure (ps.zip us)) : Binds K fd ps [] := fun s us _ hl => by
  rw [List.append_nil] at hl ⊢
  exact .of_eq (h us hl)
noncomputable def Passes (CX : CXT) (X : Cx) (E : XK) : Prop := ∀ (pins : List (Addr × Obj)) (σ : St) (H : Hp) (s : Shared) (e : Value) (s' : Shared), Inv X pins σ H s → CX X.stack H s E e s' → X.xe e s'
section
variable {X : Cx} {CX : CXT} {k : Nat} {f C : Addr} {fd : FuncData} {ps : List Str} {sp : Sp} {dvs : List V} {ds : List Value} {E : XK} {x m : Str} {p pos apos : Pos} {e o : Expr} {es : List Expr} {ta : TE} {t : TA}
theorem run_fn {pins : List (Addr × Obj)} {σ : St} {H : Hp} {s : Shared} {Q : VK} {us : List Value} {vs : List V} (F : FnOk X.prog X.w X.K X.mg X.base CX k f fd ps sp) (hr : Room k X.A) (hb : Binds X.K fd ps ds) (hd : Vals dvs ds) (hx : Passes CX X E)
    (I : Inv X pins σ H s) (r : Vals vs us) (h : sp (vs ++ dvs) H Q E) : wpAny (model X.prog X.w) X.A (call (.ref f) us) (EP X pins σ Q) X.xe s := by
  have r2 : Vals (vs ++ dvs) (us ++ ds) := r.append hd
  have hl : (us ++ ds).length = ps.length := by rw [← r2.length]; exact F.len _ _ _ _ h
  refine wpAny_call (codeAny_mono (F.run X.A X.stack s H ⟨us, []⟩ (us ++ ds) (vs ++ dvs) Q E hr I.env0 (hb s us I.kIn hl) r2 h) fun r s' hq => ?_)
  cases r with
  | error e => exact hx pins σ H s e s' I hq
  | ok fl =>
    cases fl with
    | ret u => exact I.after hq
    | next => exact False.elim hq
    | brk => exact False.elim hq
    | cont => exact False.elim hq
theorem pe_call (F : FnOk X.prog X.w X.K X.mg X.base CX k f fd ps sp) (hr : Room k X.A) (hg : Gl X x) (hm : X.mg x = some (.ref f)) (hk : PySem.W.keepIn X.K (.ref f) = true) (hb : Binds X.K fd ps ds) (hd : Vals dvs ds) (hx : Passes CX X E)
    (ha : PA X (e :: es) t) (hdb : (x == ("__debug__" : Str)) = false := by decide) (he : starEach (e :: es) X.env = (false, eval e X.env) :: starEach es X.env := by rfl) (hpl : (backTo pos (starEach es X.env)).any (·.1) = false := by rfl) :
    PE X (.Call (.Name x p) (e :: es) [] pos) (tCall sp dvs E t) := by
  intro pins s σ H Q I h
  refine wpAny_Call_Name_kw (ld_glob I hg hm ?_ hdb)
  refine PySem.W.callWith_K (h₀ := X.base) I.ok.mod.kin hk (thn (ha pos pins s σ H _ I h) fun us s1 ⟨vs, H1, I1, r, q⟩ => ⟨I1.kIn, ?_⟩) he hpl
  exact run_fn F hr hb hd hx I1 r q
structure Mk (K : PySem.W.Frag) (C f : Addr) : Prop where
  makes : PySem.W.makesIn K C = true
  init : PySem.W.findIn K (.ref C) "__init__" = some (some (.ref f))
  fn : PySem.W.isFn K (.ref f) = true
  kp : PySem.W.keepIn K (.ref C) = true
end
section
variable {X : Cx} {CX : CXT} {k : Nat} {f C : Addr} {fd : FuncData} {ps ks : List Str} {sp : Sp} {E : XK} {x m : Str} {p pos apos kpos : Pos} {e o : Expr} {es : List Expr} {kws : List Keyword} {te ta : TE} {t tk : TA} {nm : Option Str}
structure KBinds (K : PySem.W.Frag) (fd : FuncData) (ps ks : List Str) (g : List Value → List Value → List Value) (gV : List V → List V → List V) : Prop where
  to : ∀ (s : Shared) (us ws : List Value), K.In s.heap → (g us ws).length = ps.length → BindsTo s fd ⟨us, ks.zip ws⟩ (ps.zip (g us ws))
  rel : ∀ {vs : List V} {us : List Value} {zs : List V} {ws : List Value}, Vals vs us → Vals zs ws → Vals (gV vs zs) (g us ws)
variable {g : List Value → List Value → List Value} {gV : List V → List V → List V}
end
structure FnScope (N P : List Str) (sc : Scope) : Prop where
  kind : sc.kind = .function
  co : sc.isCoroutine = false
  gen : sc.isGenerator = false
  nd : N.Nodup
  pre : N.take P.length = P
  par : ∀ x ∈ P, sc.names.lookup x = some .local ∨ sc.names.lookup x = some .cell
  nofree : ∀ y ∈ sc.names, y.2 ≠ .free
theorem bindL_out {kindOf : Str → Option NameKind} {x : Str} : ∀ {binds : List (Str × Value)} {m : Str → Option Value}, (∀ v, (x, v) ∉ binds) → bindL kindOf binds m x = m x
  | [], _, _ => rfl
  | (n, v) :: r, m, h => by
    unfold bindL
    rw [bindL_out fun w hw => h w (List.mem_cons_of_mem _ hw)]
    split
    · have : x ≠ n := by rintro rfl; exact h v List.mem_cons_self
      simp [this]
    · rfl
theorem bindC_out {kindOf : Str → Option NameKind} {x : Str} : ∀ {binds : List (Str × Value)} {m : Str → Option Value}, (∀ v, (x, v) ∉ binds) → bindC kindOf binds m x = m x
  | [], _, _ => rfl
  | (n, v) :: r, m, h => by
    unfold bindC
    rw [bindC_out fun w hw => h w (List.mem_cons_of_mem _ hw)]
    split
    · rfl
    · have : x ≠ n := by rintro rfl; exact h v List.mem_cons_self
      simp [this]
theorem bindL_get {kindOf : Str → Option NameKind} {x : Str} {v : Value} : ∀ {P : List Str} {vs : List Value} {i : Nat} {m : Str → Option Value}, P.Nodup → P[i]? = some x → vs[i]? = some v → kindOf x = some .local →
    bindL kindOf (P.zip vs) m x = some v
  | [], _, _, _, _, h, _, _ => by simp at h
  | _ :: _, [], _, _, _, _, h, _ => by simp at h
  | p :: P, w :: vs, 0, m, nd, h1, h2, hk => by
    simp at h1 h2; subst h1; subst h2
    show bindL kindOf ((p, w) :: P.zip vs) m p = _
    unfold bindL
    rw [bindL_out fun v hv => (List.nodup_cons.mp nd).1 (List.of_mem_zip hv).1, if_pos hk]
    simp
  | p :: P, w :: vs, i + 1, m, nd, h1, h2, hk => by
    show bindL kindOf ((p, w) :: P.zip vs) m x = _
    unfold bindL
    exact bindL_get (i := i) (List.nodup_cons.mp nd).2 (by simpa using h1) (by simpa using h2) hk
theorem bindC_get {kindOf : Str → Option NameKind} {x : Str} {v : Value} : ∀ {P : List Str} {vs : List Value} {i : Nat} {m : Str → Option Value}, P.Nodup → P[i]? = some x → vs[i]? = some v → kindOf x ≠ some .local →
    bindC kindOf (P.zip vs) m x = some v
  | [], _, _, _, _, h, _, _ => by simp at h
  | _ :: _, [], _, _, _, _, h, _ => by simp at h
  | p :: P, w :: vs, 0, m, nd, h1, h2, hk => by
    simp at h1 h2; subst h1; subst h2
    show bindC kindOf ((p, w) :: P.zip vs) m p = _
    unfold bindC
    rw [bindC_out fun v hv => (List.nodup_cons.mp nd).1 (List.of_mem_zip hv).1, if_neg hk]
    simp
  | p :: P, w :: vs, i + 1, m, nd, h1, h2, hk => by
    show bindC kindOf ((p, w) :: P.zip vs) m x = _
    unfold bindC
    exact bindC_get (i := i) (List.nodup_cons.mp nd).2 (by simpa using h1) (by simpa using h2) hk
noncomputable def start (N : List Str) (vs : List V) : St := vs.map some ++ List.replicate (N.length - vs.length) none
noncomputable def cxOf (CX : CXT) (P : Program) (w : World) (K : PySem.W.Frag) (mg : Str → Option Value) (base : Heap) (N : List Str) (qual : Str) (scope : Scope) (f : Addr) (cd : Value) (A : Around) (outer : List Env) (s : Shared) (H : Hp) (E : XK) : Cx where
  prog := P
  w := w
  K := K
  mg := mg
  base := base
  A := A.deeper (envOfC qual scope s.heap.objs.size f cd)
  N := N
  s₀ := s
  H₀ := H
  env := envOfC qual scope s.heap.objs.size f cd
  outer := outer
  stack := envOfC qual scope s.heap.objs.size f cd :: outer
  ex := []
  calm := true
  fn := fun _ => true
  pn := []
  xe := fun e s' => wpAny (model P w) (A.deeper (envOfC qual scope s.heap.objs.size f cd)) (leaving (envOfC qual scope s.heap.objs.size f cd) e) (fun _ s'' => CX outer H s E e s'') (fun e' s'' => CX outer H s E e' s'') s'
theorem cell_has {sc : Scope} {n : Nat} {x : Str} (h : sc.names.lookup x = some .cell) : ∃ c, (cellsFrom n sc.names []).lookup x = some c := by
  have q := PySem.W.cellsFrom_some sc.names n [] (.inl h)
  exact Option.isSome_iff_exists.mp q
theorem inv_start {CX : CXT} {P : Program} {w : World} {K : PySem.W.Frag} {mg : Str → Option Value} {base : Heap} {N ps : List Str} {qual : Str} {scope : Scope} {f : Addr} {cd : Value} {A : Around} {outer : List Env} {s s1 : Shared} {H : Hp} {E : XK} {us : List Value} {vs : List V}
    (S : FnScope N ps scope) (hd : A.handled = none) (e0 : Env0 P w K mg base A outer s H) (hl : vs.length = ps.length) (r : Vals vs us)
    (x : InCallC s s.heap.objs.size (bindL (envOfC qual scope s.heap.objs.size f cd).kindOf (ps.zip us) fun _ => none) (cellsFrom (s.heap.objs.size + 1) scope.names []) (bindC (envOfC qual scope s.heap.objs.size f cd).kindOf (ps.zip us) fun _ => none) s1) :
    Inv (cxOf CX P w K mg base N qual scope f cd A outer s H E) [] (start N vs) H s1 := by
  have hpl : ps.length ≤ N.length := by have := congrArg List.length S.pre; rw [List.length_take] at this; lia
  obtain ⟨h1, tk, rfl, hk⟩ := x.done
  have noA : ∀ b : Addr, b ∉ (cxOf CX P w K mg base N qual scope f cd A outer s H E).ex := fun b z => absurd (show b ∈ ([] : List Addr) from z) (by simp)
  refine ⟨⟨e0.mod, S.kind, rfl, rfl, Nat.le_refl _, fun y z c h1 h2 => ?_, fun y hy => ?_, fun y c _ h => ?_, fun _ => hd, Around.frames_deeper e0.frames, .inr ⟨rfl, rfl⟩, fun b z => absurd z (noA b), e0.bs, e0.bsz, fun b _ _ => noA b, fun b z => absurd z (noA b), e0.funs, e0.frf⟩,
    rfl, e0.bare, Un.kept hk, ⟨_, x.toInCall.ns, fun i y v h1 h2 h3 => ?_⟩, fun y c h => ⟨_, x.cell y c h⟩, e0.hok.fresh (Nat.le_refl _), fun y c h => ?_, fun p hp => absurd (show p ∈ ([] : List (Addr × Obj)) from hp) (by simp), e0.hok.kept hk, ?_⟩
  · exact name_of_addr x.apart (PySem.mem_of_lookup h1) (PySem.mem_of_lookup h2)
  · have hy : scope.names.lookup y = some .cell ∨ scope.names.lookup y = some .free := hy
    rcases hy with hy | hy
    · exact cell_has hy
    · exact absurd rfl (S.nofree _ (PySem.mem_of_lookup hy))
  · exact Nat.le_of_lt (x.above y c (PySem.mem_of_lookup h))
  · have hi : i < vs.length := by
      unfold start at h2
      by_cases hi : i < vs.length
      · exact hi
      · rw [List.getElem?_append_right (by simpa using hi)] at h2
        rw [List.getElem?_replicate] at h2
        split at h2 <;> cases h2
    have ha : vs[i]? = some v := by
      unfold start at h2
      rw [List.getElem?_append_left (by simpa using hi), List.getElem?_map] at h2
      cases e : vs[i]? with
      | none => rw [e] at h2; cases h2
      | some a => rw [e] at h2; cases h2; rfl
    obtain ⟨u, hu, rv⟩ := r.get ha
    have hp : ps[i]? = some y := by
      rw [← S.pre, List.getElem?_take_of_lt (by lia)]; exact h1
    have ndP : ps.Nodup := by rw [← S.pre]; exact S.nd.sublist (List.take_sublist _ _)
    refine ⟨u, rv, ?_⟩
    rcases S.par y (List.mem_of_getElem? hp) with k | k
    · exact .inl ⟨k, bindL_get ndP hp hu k⟩
    · obtain ⟨c, e⟩ := cell_has (n := s.heap.objs.size + 1) k
      refine .inr ⟨.inl k, c, e, ?_⟩
      have q := x.cell y c e
      rw [bindC_get ndP hp hu (by show scope.names.lookup y ≠ _; rw [k]; decide)] at q
      exact q
  · exact e0.hok.fresh (Nat.le_of_lt (x.above y c (PySem.mem_of_lookup h)))
  · unfold start
    show _ = N.length
    rw [List.length_append, List.length_map, List.length_replicate]
    lia
theorem fn_of {CX : CXT} {P : Program} {w : World} {K : PySem.W.Frag} {mg : Str → Option Value} {base : Heap} {k : Nat} {f : Addr} {name qual : Str} {params : Arguments} {body : List Stmt} {scope : Scope} {dV kV doc pm cdv ct oc : Value} {an od : Option Addr}
    {osl : Array (Option Value)} {N ps : List Str} {sp : Sp} (lk : K.lookup f = some ⟨oc, od, .func (PySem.W.fnOf name qual params body scope dV kV doc pm an cdv ct), osl⟩) (hcd : PySem.W.codeIn K cdv qual = true) (S : FnScope N ps scope)
    (len : ∀ vs H Q E, sp vs H Q E → vs.length = ps.length)
    (hbody : ∀ (A : Around) (outer : List Env) (s : Shared) (H : Hp) (vs : List V) (Q : VK) (E : XK), Room k (A.deeper (envOfC qual scope s.heap.objs.size f cdv)) → sp vs H Q E →
      ∃ t, PSs (cxOf CX P w K mg base N qual scope f cdv A outer s H E) body t ∧ t { nx := fun _ H' => Q .non H', rt := Q } (start N vs) H) :
    FnOk P w K mg base CX (k + 1) f (PySem.W.fnOf name qual params body scope dV kV doc pm an cdv ct) ps sp := by
  refine ⟨len, fun A outer s H args us vs Q E hr e0 hb r hsp => ?_⟩
  have hl := len _ _ _ _ hsp
  have KX : K.In s.heap := e0.mod.kin.keeps fun b o e => (e0.bs b o e).1
  have lim : s.heap.NoLimit := e0.mod.nolimit.keeps fun b o e => (e0.bs b o e).1
  have hkind : ∀ y ∈ ps.zip us, scope.names.lookup y.1 = some .local ∨ (scope.names.lookup y.1 = some .cell ∧ ((cellsFrom (s.heap.objs.size + 1) scope.names []).lookup y.1).isSome = true) := fun ⟨n, v⟩ hy => by
    rcases S.par n (List.of_mem_zip hy).1 with q | q
    · exact .inl q
    · exact .inr ⟨q, PySem.W.cellsFrom_some _ _ _ (.inl q)⟩
  refine codeAny_call_function hr.depth (KX _ _ lk) rfl S.co S.gen rfl (PySem.W.codeRec_of KX hcd) (hb _ _ _ _ ?_)
  refine wpAny_newFunctionEnv_cells S.kind hkind fun env he s1 x => ?_
  subst he
  refine ⟨lim.keeps x.toInCall.keep, codeAny_func ?_⟩
  obtain ⟨t, ht, hq⟩ := hbody A outer s H vs Q E (hr.deeper _) hsp
  have I : Inv (cxOf CX P w K mg base N qual scope f cdv A outer s H E) [] (start N vs) H s1 := inv_start S hr.hd e0 hl r x
  refine wpAny_mono (ht [] s1 (start N vs) H _ I hq) (fun fl s' hs => ?_) fun e s' hs => hs
  have fin : ∀ {σ' : St} {H' : Hp} {v : V} {u : Value}, Inv (cxOf CX P w K mg base N qual scope f cdv A outer s H E) [] σ' H' s' → RelV v u → Q v H' → CE outer P w H s Q u s' :=
    fun {σ' H' v u} J rv q => ⟨v, H', J.os, J.bare, J.base, J.hok, rv, q⟩
  cases fl with
  | ret u =>
    obtain ⟨v, σ', H', J, rv, q⟩ := hs
    exact fin J rv q
  | next =>
    obtain ⟨σ', H', J, q⟩ := hs
    exact fin (v := V.non) (u := Value.none) J rfl q
  | brk =>
    obtain ⟨_, _, _, q⟩ := hs
    exact False.elim q
  | cont =>
    obtain ⟨_, _, _, q⟩ := hs
    exact False.elim q
end L2
namespace L2
open PySem PySem.Spec PyProof.Rows
section
variable {X : Cx} {x : Str} {p pos : Pos} {e : Expr} {es : List Expr} {t : TA} {id T : String} {r : List V → Hp → VK → Prop}
noncomputable def tCB (r : List V → Hp → VK → Prop) (t : TA) : TE := fun σ H Q => t σ H fun vs H1 => r vs H1 Q
theorem pe_callB (hc : CallR X (.builtin id) r) (hg : Gl X x) (hm : X.mg x = none) (hv : bootBuiltins x = some (.builtin id)) (ha : PA X (e :: es) t) (hn : x ≠ "__name__" := by decide) (hdb : (x == ("__debug__" : Str)) = false := by decide)
    (he : starEach (e :: es) X.env = (false, eval e X.env) :: starEach es X.env := by rfl) (hpl : (backTo pos (starEach es X.env)).any (·.1) = false := by rfl) : PE X (.Call (.Name x p) (e :: es) [] pos) (tCB r t) := by
  intro pins s σ H Q I h
  refine wpAny_Call_Name_kw (ld_blt I hg hm hv ?_ hn hdb)
  exact PyProof.Rows.callWith_builtin1 (thn (ha pos pins s σ H _ I h) fun us s1 ⟨vs, H1, I1, r1, q1⟩ => hc pins s1 σ H1 vs us Q I1 r1 q1) he hpl
theorem pe_callTy (hc : CallR X (.type T) r) (hg : Gl X x) (hm : X.mg x = none) (hv : bootBuiltins x = some (.type T)) (ha : PA X (e :: es) t) (hn : x ≠ "__name__" := by decide) (hdb : (x == ("__debug__" : Str)) = false := by decide)
    (he : starEach (e :: es) X.env = (false, eval e X.env) :: starEach es X.env := by rfl) (hpl : (backTo pos (starEach es X.env)).any (·.1) = false := by rfl) : PE X (.Call (.Name x p) (e :: es) [] pos) (tCB r t) := by
  intro pins s σ H Q I h
  refine wpAny_Call_Name_kw (ld_blt I hg hm hv ?_ hn hdb)
  exact PyProof.Rows.callWith_type1 (thn (ha pos pins s σ H _ I h) fun us s1 ⟨vs, H1, I1, r1, q1⟩ => hc pins s1 σ H1 vs us Q I1 r1 q1) he hpl
end
end L2
namespace HT
open PySem PyProof.Rows
section
open PySem.SeqAt
open PySem.AutoSeq1 (wpAny_loadPart')
open PySem.MeetsSeq PySem.MeetsSeq2 PySem.MeetsSeq3
end
section
variable {prog : Program} {w : World} {A : Around} {E : Value → Shared → Prop} {s : Shared}
noncomputable def sIx (n d : Nat) : Option Int → Nat
  | none => d
  | some v => if v < 0 then (v + (n : Int)).toNat else min v.toNat n
theorem sIx_none (n d : Nat) : sIx n d none = d := rfl
theorem sIx_nat (n d k : Nat) : sIx n d (some (k : Int)) = min k n := by
  show (if (k : Int) < 0 then ((k : Int) + (n : Int)).toNat else min (k : Int).toNat n) = min k n
  rw [if_neg (by lia), Int.toNat_natCast]
end
end HT
namespace L2
open PySem PySem.Spec PyProof.Rows
noncomputable abbrev TO := St → Hp → (Option Int → Hp → Prop) → Prop
noncomputable def PO (X : Cx) (e : Option Expr) (t : TO) : Prop :=
  ∀ (pins : List (Addr × Obj)) (s : Shared) (σ : St) (H : Hp) (Q : Option Int → Hp → Prop), Inv X pins σ H s → t σ H Q →
    wpAny (model X.prog X.w) X.A (evalPart e X.env) (fun u s' => ∃ o H', Inv X pins σ H' s' ∧ IsPart u o ∧ Q o H') X.xe s
noncomputable def tNoPart : TO := fun _ H Q => Q none H
noncomputable def tPart (t : TE) : TO := fun σ H Q => t σ H fun x H1 => ∃ i, x = .int i ∧ Q (some i) H1
section
variable {X : Cx} {e : Expr} {te : TE} {lo hi : Option Expr} {tl th : TO} {pos p2 : Pos}
theorem po_none : PO X none tNoPart := by
  intro pins s σ H Q I h
  rw [evalPart_none]
  exact wpAny_pure ⟨none, H, I, .none, h⟩
theorem po_some (h : PE X e te) : PO X (some e) (tPart te) := by
  intro pins s σ H Q I hw
  rw [evalPart_some]
  refine thn (h pins s σ H _ I hw) fun u s1 ⟨x, H1, I1, r1, q1⟩ => ?_
  obtain ⟨i, rfl, q⟩ := q1
  obtain ⟨t, rfl⟩ := r1
  exact ⟨some i, H1, I1, .int i t, q⟩
noncomputable def SlR (X : Cx) (r : V → Option Int → Option Int → Hp → VK → Prop) : Prop :=
  ∀ (pins : List (Addr × Obj)) (s : Shared) (σ : St) (H : Hp) (x : V) (v vl vu : Value) (lo hi : Option Int) (sl : Addr) (Q : VK), Inv X pins σ H s → RelV x v → s.heap.IsSliceOf sl vl vu .none → IsPart vl lo → IsPart vu hi → r x lo hi H Q →
    ∃ T id, typeLookup (.type T) "__getitem__" = pure (some (.builtin id)) ∧ s.TypeIs v T ∧ wpAny (model X.prog X.w) X.A (getItem v (.ref sl)) (EP X pins σ Q) X.xe s
noncomputable def tSl (r : V → Option Int → Option Int → Hp → VK → Prop) (te : TE) (tl th : TO) : TE := fun σ H Q => te σ H fun x H1 => tl σ H1 fun l H2 => th σ H2 fun u H3 => r x l u H3 Q
theorem pe_slice {r : V → Option Int → Option Int → Hp → VK → Prop} (hr : SlR X r) (he : PE X e te) (hl : PO X lo tl) (hu : PO X hi th) : PE X (.Subscript e (.Slice lo hi none p2) pos) (tSl r te tl th) := by
  intro pins s σ H Q I h
  refine Subscript_ (thn (he pins s σ H _ I h) fun v s1 ⟨x, H1, I1, r1, q1⟩ => ?_)
  refine wpAny_Slice (thn (hl pins s1 σ H1 _ I1 q1) fun vl s2 ⟨l, H2, I2, pl, q2⟩ => thn (hu pins s2 σ H2 _ I2 q2) fun vu s3 ⟨u, H3, I3, pu, q3⟩ => ?_)
  rw [evalPart_none]
  refine wpAny_pure ?_
  have I4 : Inv X pins σ H3 { s3 with heap := s3.heap.push { cls := .type "slice", data := .fields #[vl, vu, .none] } } := I3.kept (t' := s3.toks) fun b ob q => Heap.get?_push_of_some _ q
  obtain ⟨T, id, hT, ht, hg⟩ := hr pins { s3 with heap := s3.heap.push { cls := .type "slice", data := .fields #[vl, vu, .none] } } σ H3 x v vl vu l u s3.heap.objs.size Q I4 r1 (Heap.IsSliceOf.new ..) pl pu q3
  show wpAny (model X.prog X.w) X.A (subscriptTail e (.Slice lo hi none p2) v (.ref s3.heap.objs.size)) (EP X pins σ Q) X.xe { s3 with heap := s3.heap.push { cls := .type "slice", data := .fields #[vl, vu, .none] } }
  exact tail_any (ops := [.ref s3.heap.objs.size, v]) ht hT hg (by with_unfolding_all rfl)
noncomputable def cutV (xs : List V) (lo hi : Option Int) : List V := (xs.drop (HT.sIx xs.length 0 lo)).take (HT.sIx xs.length xs.length hi - HT.sIx xs.length 0 lo)
theorem cutV_length (xs : List V) (lo hi : Option Int) : (cutV xs lo hi).length ≤ xs.length := by
  unfold cutV
  rw [List.length_take, List.length_drop]
  lia
end
end L2
namespace L2
open PySem PySem.Spec PyProof.Rows
noncomputable def ixN (n : Nat) (i : Int) : Option Nat := if 0 ≤ i then (if i < n then some i.toNat else none) else if -(n : Int) ≤ i then some (i + n).toNat else none
noncomputable def atI {α : Type} (xs : List α) (i : Int) : Option α := (ixN xs.length i).bind fun j => xs[j]?
theorem ixN_seq {n : Nat} {i : Int} {j : Nat} (h : ixN n i = some j) : seqIndex? i n = some j ∧ j < n ∧ -(n : Int) ≤ i ∧ i < n := by
  unfold ixN at h
  by_cases h0 : 0 ≤ i
  · rw [if_pos h0] at h
    by_cases h1 : i < n
    · rw [if_pos h1] at h
      have e : i.toNat = j := Option.some.inj h
      exact ⟨by rw [seqIndex_of h0 h1, e], by lia, by lia, h1⟩
    · rw [if_neg h1] at h; cases h
  · rw [if_neg h0] at h
    by_cases h1 : -(n : Int) ≤ i
    · rw [if_pos h1] at h
      have e : (i + n).toNat = j := Option.some.inj h
      exact ⟨by rw [seqIndex_neg (by lia) h1, e], by lia, h1, by lia⟩
    · rw [if_neg h1] at h; cases h
theorem atI_get {α : Type} {xs : List α} {i : Int} {v : α} (h : atI xs i = some v) : ∃ j, seqIndex? i xs.length = some j ∧ xs[j]? = some v ∧ j < xs.length ∧ -(xs.length : Int) ≤ i ∧ i < xs.length := by
  unfold atI at h
  cases e : ixN xs.length i with
  | none => rw [e] at h; cases h
  | some j =>
    rw [e] at h
    obtain ⟨h1, h2, h3, h4⟩ := ixN_seq e
    exact ⟨j, h1, h, h2, h3, h4⟩
theorem atI_nat {α : Type} {xs : List α} {j : Nat} {v : α} (h : xs[j]? = some v) : atI xs (j : Int) = some v := by
  have hj : j < xs.length := (List.getElem?_eq_some_iff.mp h).1
  have e : ixN xs.length (j : Int) = some j := by
    unfold ixN
    rw [if_pos (by lia), if_pos (by lia)]; simp
  unfold atI; rw [e]; exact h
noncomputable def PlainIx (b : Expr) : Prop := ∀ o i, subscripted b false o i = operate [o, i] (getItem o i)
noncomputable def IxR (X : Cx) (r : R2) : Prop :=
  ∀ (value slice : Expr) (pins : List (Addr × Obj)) (s : Shared) (σ : St) (H : Hp) (x y : V) (v u : Value) (Q : VK), Inv X pins σ H s → RelV x v → RelV y u → r x y H Q →
    subscripted slice false v u = operate [v, u] (getItem v u) → wpAny (model X.prog X.w) X.A (subscriptTail value slice v u) (EP X pins σ Q) X.xe s
noncomputable def MtR (X : Cx) (id : String) (r : V → List V → Hp → VK → Prop) : Prop :=
  ∀ (pins : List (Addr × Obj)) (s : Shared) (σ : St) (H : Hp) (x : V) (xs : List V) (v : Value) (us : List Value) (Q : VK), Inv X pins σ H s → RelV x v → Vals xs us → r x xs H Q →
    wpAny (model X.prog X.w) X.A (call (.builtin id) (v :: us)) (EP X pins σ Q) X.xe s
section
variable {X : Cx} {a b : Expr} {ta tb : TE} {pos : Pos}
theorem pe_ix {r : R2} (hr : IxR X r) (ha : PE X a ta) (hb : PE X b tb) (hs : PlainIx b) : PE X (.Subscript a b pos) (tOp r ta tb) := by
  intro pins s σ H Q I h
  exact Subscript_ (binT ha hb I h fun v u s2 x y H2 I2 rx ry q => hr a b pins s2 σ H2 x y v u Q I2 rx ry q (hs _ _))
noncomputable def rIxL (K : PySem.W.Frag) : R2 := fun x y H Q => ∃ p xs i v, x = .ref p ∧ y = .int i ∧ SqL K H p xs ∧ atI xs i = some v ∧ Q v H
noncomputable def rIxT (K : PySem.W.Frag) : R2 := fun x y H Q => ∃ p xs i v, x = .ref p ∧ y = .int i ∧ SqT K H p xs ∧ atI xs i = some v ∧ Q v H
noncomputable def rIxS : R2 := fun x y H Q => ∃ z i c, x = .str z ∧ y = .int i ∧ z.length ≤ sizeLine ∧ atI z.cps.toList i = some c ∧ Q (.str ⟨#[c]⟩) H
theorem ix_list : IxR X (rIxL X.K) := by
  intro value slice pins s σ H x y v u Q I rx ry h hs
  obtain ⟨p, xs, i, z, rfl, rfl, hq, he, q⟩ := h
  cases rx
  obtain ⟨t, rfl⟩ := ry
  obtain ⟨its, r, pl, hz⟩ := I.list hq
  obtain ⟨j, h1, h2, h3, h4, h5⟩ := atI_get he
  obtain ⟨w, ew, rw'⟩ := r.get h2
  have hl := r.length
  have hn := line63
  have fin : EP X pins σ Q w s := ⟨z, H, I, rw', q⟩
  by_cases h0 : 0 ≤ i
  · have hj : i.toNat = j := by
      rw [seqIndex_of h0 h5] at h1
      exact Option.some.inj h1
    exact item_listR pl.isList h0 (by lia) (by rw [hj]; simpa using ew) fin hs
  · have hj : (i + (its.toArray.size : Int)).toNat = j := by
      rw [seqIndex_neg (by lia) h4] at h1
      rw [List.size_toArray, ← hl]
      exact Option.some.inj h1
    exact subscriptTail_builtinR (x := w) pl.isList.typeIs slot_list_getitem.lookup
      (wpAny_getItem_list_neg (Q := fun r s' => r = w ∧ EP X pins σ Q r s') pl.isList (by lia) (by rw [List.size_toArray] <;> lia) (by lia) (by rw [hj]; simpa using ew) ⟨rfl, fin⟩) hs
theorem ix_tup : IxR X (rIxT X.K) := by
  intro value slice pins s σ H x y v u Q I rx ry h hs
  obtain ⟨p, xs, i, z, rfl, rfl, hq, he, q⟩ := h
  cases rx
  obtain ⟨t, rfl⟩ := ry
  obtain ⟨its, r, pl, hz⟩ := I.tuple hq
  obtain ⟨j, h1, h2, h3, h4, h5⟩ := atI_get he
  obtain ⟨w, ew, rw'⟩ := r.get h2
  have hl := r.length
  have hn := line63
  have fin : EP X pins σ Q w s := ⟨z, H, I, rw', q⟩
  exact subscriptTail_builtinR (x := w) pl.typeIs slot_tuple_getitem.lookup
    (getItem_tuple (j := j) (Q := fun r s' => r = w ∧ EP X pins σ Q r s') pl (by lia) (by lia) (by rw [List.size_toArray, ← hl]; exact h1) (by simpa using ew) ⟨rfl, fin⟩) hs
theorem ix_str : IxR X rIxS := by
  intro value slice pins s σ H x y v u Q I rx ry h hs
  obtain ⟨z, i, c, rfl, rfl, hz, he, q⟩ := h
  obtain ⟨t, rfl⟩ := rx
  obtain ⟨t', rfl⟩ := ry
  obtain ⟨j, h1, h2, h3, h4, h5⟩ := atI_get he
  have hl : z.cps.toList.length = z.length := by simp [Str.length]
  rw [hl] at h1 h4 h5
  have hn := line63
  exact tail_any (typeIs_str s z t) slot_str_getitem.lookup (getItem_str (c := c) (by
    have e1 : decide (i < -(2 ^ 63 : Int)) = false := decide_eq_false (by lia)
    have e2 : decide (i ≥ 2 ^ 63) = false := decide_eq_false (by lia)
    rw [e1, e2, Bool.or_false]) (by rw [h1]; simpa using h2) ⟨.str ⟨#[c]⟩, H, I.tok _, ⟨_, rfl⟩, q⟩) hs
theorem mapSeq_set (its : List Value) (n j : Nat) (u : Value) : Obj.mapSeq (·.setIfInBounds j u) { cls := .type "list", data := .seq its.toArray n } = { cls := .type "list", data := .seq (its.set j u).toArray n } := by
  simp [Obj.mapSeq]
theorem Inv.lst {pins : List (Addr × Obj)} {σ : St} {H : Hp} {s : Shared} {p : Addr} {xs : List V} (I : Inv X pins σ H s) (h : H p = some (.lst xs)) :
    ∃ (its : List Value) (n : Nat), Vals xs its ∧ s.heap.get? p = some { cls := .type "list", data := .seq its.toArray n } ∧ xs.length ≤ sizeLine := by
  obtain ⟨z, its, n, r, e⟩ := I.hok p _ h
  exact ⟨its, n, r, e, z⟩
theorem Inv.lstUpd {pins : List (Addr × Obj)} {σ : St} {H : Hp} {s : Shared} {p : Addr} {xs ys : List V} {its its' : List Value} {n n' : Nat} {f : Obj → Obj} (I : Inv X pins σ H s) (h : H p = some (.lst xs))
    (ho : s.heap.get? p = some { cls := .type "list", data := .seq its.toArray n }) (hf : f { cls := .type "list", data := .seq its.toArray n } = { cls := .type "list", data := .seq its'.toArray n' }) (r : Vals ys its') (hz : ys.length ≤ sizeLine) (t : Nat) :
    Inv X pins σ (upd H p (.lst ys)) { s with heap := s.heap.update p f, toks := t } := by
  have e : (s.heap.update p f).get? p = some { cls := .type "list", data := .seq its'.toArray n' } := by
    rw [Heap.get?_update_self f ho (by rw [hf] <;> rfl), hf]
  refine I.write (x := p) (e := p) (by rw [h]; trivial) (.inl rfl) (fun b u hb q => (Heap.get?_update_other _ _ (Ne.symm hb)).trans q) ⟨_, e⟩ ?_
  exact ⟨hz, its', n', r, e⟩
noncomputable def rSetL : V → V → V → Hp → (Hp → Prop) → Prop := fun o i v H Q => ∃ p xs k j, o = .ref p ∧ i = .int k ∧ H p = some (.lst xs) ∧ ixN xs.length k = some j ∧ Q (upd H p (.lst (xs.set j v)))
theorem set_list : PSet X rSetL := by
  intro pins s σ H o i v ov iv u Q I ro ri rv h
  obtain ⟨p, xs, k, j, rfl, rfl, hp, hj, q⟩ := h
  cases ro
  obtain ⟨t, rfl⟩ := ri
  obtain ⟨its, n, r, ho, hz⟩ := I.lst hp
  obtain ⟨h1, h2, h3, h4⟩ := ixN_seq hj
  have hl := r.length
  have hn := line63
  have I' : Inv X pins σ (upd H p (.lst (xs.set j v))) { s with heap := s.heap.update p (Obj.mapSeq (·.setIfInBounds j u)) } :=
    I.lstUpd hp ho (mapSeq_set its n j u) (r.set rv j) (by rw [List.length_set]; exact hz) s.toks
  by_cases h0 : 0 ≤ k
  · have hk : k.toNat = j := by
      rw [seqIndex_of h0 h4] at h1
      exact Option.some.inj h1
    exact PySem.W.ki_setAt ho h0 (by lia) (by rw [List.size_toArray, ← hl]; exact h4) (by rw [hk]; exact ⟨_, I', q⟩)
  · have hk : (k + (its.toArray.size : Int)).toNat = j := by
      rw [seqIndex_neg (by lia) h3] at h1
      rw [List.size_toArray, ← hl]
      exact Option.some.inj h1
    exact PySem.W.ki_setBack ho (by lia) (by rw [List.size_toArray, ← hl]; exact h3) (by lia) (by rw [hk]; exact ⟨_, I', q⟩)
theorem slice_bounds (lo hi : Option Int) (n : Nat) : (sliceBounds lo hi none n).1 = ((HT.sIx n 0 lo : Nat) : Int) ∧ (sliceBounds lo hi none n).2.1 = ((HT.sIx n n hi : Nat) : Int) ∧ (sliceBounds lo hi none n).2.2 = 1 := by
  refine ⟨?_, ?_, rfl⟩
  · cases lo with
    | none => simp [sliceBounds, HT.sIx]
    | some i =>
      simp only [sliceBounds, HT.sIx, Option.getD_none, show (1 : Int) > 0 by decide, if_true]
      by_cases h : i < 0
      · simp only [h, if_true] <;> lia
      · simp only [h, if_false] <;> lia
  · cases hi with
    | none => simp [sliceBounds, HT.sIx]
    | some i =>
      simp only [sliceBounds, HT.sIx, Option.getD_none, show (1 : Int) > 0 by decide, if_true]
      by_cases h : i < 0
      · simp only [h, if_true] <;> lia
      · simp only [h, if_false] <;> lia
theorem slicePick_cut (its : List Value) (lo hi : Option Int) : slicePick its.toArray lo hi none = ((its.drop (HT.sIx its.length 0 lo)).take (HT.sIx its.length its.length hi - HT.sIx its.length 0 lo)).toArray := by
  obtain ⟨h1, h2, h3⟩ := slice_bounds lo hi its.toArray.size
  unfold slicePick
  rw [h1, h2, h3]
  simp only [sliceRange_one, pick_run, List.size_toArray] <;> rfl
noncomputable def rSlL (K : PySem.W.Frag) : V → Option Int → Option Int → Hp → VK → Prop := fun x lo hi H Q => ∃ a xs, x = .ref a ∧ SqL K H a xs ∧ ∀ p, H p = none → Q (.ref p) (upd H p (.lst (cutV xs lo hi)))
theorem sl_list : SlR X (rSlL X.K) := by
  intro pins s σ H x v vl vu lo hi sl Q I rx hs pl pu h
  obtain ⟨a, xs, rfl, hx, q⟩ := h
  cases rx
  obtain ⟨its, r, ht, hz⟩ := I.list hx
  have hlen := r.length
  refine ⟨"list", _, slot_list_getitem.lookup, ht.isList.typeIs, ?_⟩
  refine wpAny_getItem_list_slice ht.isList hs pl pu .none (by simp) ?_ (by rw [List.size_toArray] <;> lia)
  rw [slicePick_cut, ← hlen]
  refine ⟨.ref s.heap.objs.size, _, I.laid (t' := s.toks) (o := .lst (cutV xs lo hi)) (fun b ob q => Heap.get?_push_of_some _ q) (Nat.le_refl _) ?_, rfl, q _ (I.hok.fresh (Nat.le_refl _))⟩
  exact ⟨Nat.le_trans (cutV_length xs lo hi) hz, _, 0, (r.drop (HT.sIx xs.length 0 lo)).take (HT.sIx xs.length xs.length hi - HT.sIx xs.length 0 lo), Heap.get?_push_size _ rfl⟩
noncomputable def flatV : V → Bool
  | .non => true
  | .bl _ => true
  | .int _ => true
  | .str _ => true
  | _ => false
noncomputable def eqV : V → V → Bool
  | .non, .non => true
  | .bl a, .bl b => a == b
  | .bl a, .int b => (if a then 1 else 0) == b
  | .int a, .bl b => a == (if b then 1 else 0)
  | .int a, .int b => a == b
  | .str a, .str b => a == b
  | _, _ => false
theorem eqAt_V {A : Around} {s : Shared} {y x : V} {u v : Value} (ry : RelV y u) (rx : RelV x v) (fy : flatV y = true) (fx : flatV x = true) : SeqAt.EqAt A s u v (eqV y x) := by
  cases y with
  | non =>
    cases ry
    cases x with
    | non => cases rx; exact SeqAt.EqAt.same _
    | bl b => cases rx; exact SeqAt.EqAt.none_bool b
    | int b => obtain ⟨t, rfl⟩ := rx; exact SeqAt.EqAt.none_int b t
    | str b => obtain ⟨t, rfl⟩ := rx; exact SeqAt.EqAt.none_str b t
    | _ => exact absurd (show false = true from fx) Bool.false_ne_true
  | bl a =>
    cases ry
    cases x with
    | non => cases rx; exact SeqAt.EqAt.bool_none a
    | bl b => cases rx; exact SeqAt.EqAt.bool_bool a b
    | int b => obtain ⟨t, rfl⟩ := rx; exact SeqAt.EqAt.bool_int a b t
    | str b => obtain ⟨t, rfl⟩ := rx; exact SeqAt.EqAt.bool_str a b t
    | _ => exact absurd (show false = true from fx) Bool.false_ne_true
  | int a =>
    obtain ⟨t', rfl⟩ := ry
    cases x with
    | non => cases rx; exact SeqAt.EqAt.int_none a t'
    | bl b => cases rx; exact SeqAt.EqAt.int_bool a t' b
    | int b => obtain ⟨t, rfl⟩ := rx; exact SeqAt.EqAt.int_int a t' b t
    | str b => obtain ⟨t, rfl⟩ := rx; exact SeqAt.EqAt.int_str a t' b t
    | _ => exact absurd (show false = true from fx) Bool.false_ne_true
  | str a =>
    obtain ⟨t', rfl⟩ := ry
    cases x with
    | non => cases rx; exact SeqAt.EqAt.str_none a t'
    | bl b => cases rx; exact SeqAt.EqAt.str_bool a t' b
    | int b => obtain ⟨t, rfl⟩ := rx; exact SeqAt.EqAt.str_int a t' b t
    | str b => obtain ⟨t, rfl⟩ := rx; exact SeqAt.EqAt.str_str a t' b t
    | _ => exact absurd (show false = true from fx) Bool.false_ne_true
  | _ => exact absurd (show false = true from fy) Bool.false_ne_true
noncomputable def eqU (x : V) (u : Value) : Bool := match u with
  | .none => eqV .non x
  | .bool b => eqV (.bl b) x
  | .int i _ => eqV (.int i) x
  | .str z _ => eqV (.str z) x
  | _ => false
theorem eqU_of {x y : V} {u : Value} (r : RelV y u) (f : flatV y = true) : eqU x u = eqV y x := by
  cases y with
  | non => cases r; rfl
  | bl b => cases r; rfl
  | int i => obtain ⟨t, rfl⟩ := r; rfl
  | str z => obtain ⟨t, rfl⟩ := r; rfl
  | _ => exact absurd (show false = true from f) Bool.false_ne_true
theorem any_eqU {x : V} : ∀ {xs : List V} {us : List Value}, Vals xs us → xs.all flatV = true → us.any (eqU x) = xs.any fun y => eqV y x
  | _, _, .nil, _ => rfl
  | y :: xs, u :: us, .cons r t, f => by
    rw [List.all_cons, Bool.and_eq_true] at f
    rw [List.any_cons, List.any_cons, eqU_of r f.1, any_eqU t f.2]
theorem mem_eqAt {A : Around} {s : Shared} {x : V} {v : Value} (rx : RelV x v) (fx : flatV x = true) : ∀ {xs : List V} {us : List Value}, Vals xs us → xs.all flatV = true → ∀ u ∈ us, SeqAt.EqAt A s u v (eqU x u)
  | _, _, .nil, _ => fun u hu => by cases hu
  | y :: xs, u :: us, .cons r t, f => fun u' hu => by
    rw [List.all_cons, Bool.and_eq_true] at f
    rcases List.mem_cons.mp hu with rfl | hu
    · rw [eqU_of r f.1]; exact eqAt_V r rx f.1 fx
    · exact mem_eqAt rx fx t f.2 u' hu
noncomputable def inV (x : V) (xs : List V) : Bool := xs.any fun y => eqV y x
noncomputable def rIn (K : PySem.W.Frag) (neg : Bool) : R2 := fun x y H Q => ∃ p xs, y = .ref p ∧ (SqL K H p xs ∨ SqT K H p xs) ∧ flatV x = true ∧ xs.all flatV = true ∧ Q (.bl (if neg then !inV x xs else inV x xs)) H
theorem op_notIn_seq : OpR X (compareOp .NotIn) (rIn X.K true) := by
  intro pins s σ H x y v u Q I rx ry h
  obtain ⟨p, xs, rfl, hq, fx, fs, q⟩ := h
  cases ry
  rcases hq with hq | hq
  · obtain ⟨its, r, pl, hz⟩ := I.list hq
    refine SeqAt.notIn_listAt (eqU x) pl.isList (fun w hw => mem_eqAt rx fx r fs w (by simpa using hw)) ⟨.bl _, H, I, rfl, ?_⟩
    rw [show its.toArray.any (eqU x) = its.any (eqU x) by simp, any_eqU r fs]
    exact q
  · obtain ⟨its, r, pl, hz⟩ := I.tuple hq
    refine SeqAt.notIn_tupleAt (eqU x) pl (fun w hw => mem_eqAt rx fx r fs w (by simpa using hw)) ⟨.bl _, H, I, rfl, ?_⟩
    rw [show its.toArray.any (eqU x) = its.any (eqU x) by simp, any_eqU r fs]
    exact q
theorem call_len_seq : CallR X (.builtin "len") (fun xs H Q => ∃ p ys, xs = [.ref p] ∧ (SqL X.K H p ys ∨ SqT X.K H p ys) ∧ Q (.int ys.length) H) := by
  intro pins s σ H xs us Q I r h
  obtain ⟨p, ys, rfl, hq, q⟩ := h
  obtain ⟨u, rfl, rx⟩ := vals1 r
  cases rx
  have hn := line63
  rcases hq with hq | hq
  · obtain ⟨its, r', pl, hz⟩ := I.list hq
    have hlen := r'.length
    exact Calls.call_len_list pl.isList (by simp only [List.size_toArray] <;> lia) ⟨.int ys.length, H, I.tok _, ⟨s.toks + 1, by rw [List.size_toArray, hlen]⟩, q⟩
  · obtain ⟨its, r', pl, hz⟩ := I.tuple hq
    have hlen := r'.length
    exact len_tuple pl (by simp only [List.size_toArray] <;> lia) ⟨.int ys.length, H, I.tok _, ⟨s.toks + 1, by rw [List.size_toArray, hlen]⟩, q⟩
theorem call_len_str : CallR X (.builtin "len") (fun xs H Q => ∃ z, xs = [.str z] ∧ z.length ≤ sizeLine ∧ Q (.int z.length) H) := by
  intro pins s σ H xs us Q I r h
  obtain ⟨z, rfl, hz, q⟩ := h
  obtain ⟨u, rfl, t, rfl⟩ := vals1 r
  have hn := line63
  exact len_str (by lia) ⟨.int z.length, H, I.tok _, ⟨_, rfl⟩, q⟩
noncomputable def tyV (K : PySem.W.Frag) (T : String) (x : V) (H : Hp) : Prop := match x with
  | .str _ => T = "str"
  | .int _ => T = "int"
  | .ref p => (T = "list" ∧ ∃ xs, SqL K H p xs) ∨ (T = "tuple" ∧ ∃ o, K.lookup p = some o ∧ o.cls = .type "tuple" ∧ o.dict = none) ∨
      (T = "dict" ∧ ((∃ kvs, H p = some (.dK kvs)) ∨ ∃ kvs, H p = some (.dT kvs))) ∨ (T = "set" ∧ ∃ S n, H p = some (.set S n))
  | _ => False
theorem tyV_is {pins : List (Addr × Obj)} {σ : St} {H : Hp} {s : Shared} {T : String} {x : V} {v : Value} (I : Inv X pins σ H s) (r : RelV x v) (ty : tyV X.K T x H) :
    s.TypeIs v T ∧ ∀ a, v = .ref a → ∃ ob, s.heap.get? a = some ob ∧ ob.dict = none := by
  cases x with
  | str z =>
    obtain ⟨t, rfl⟩ := r
    cases (show T = "str" from ty)
    exact ⟨typeIs_str s z t, fun _ e => nomatch e⟩
  | int i =>
    obtain ⟨t, rfl⟩ := r
    cases (show T = "int" from ty)
    exact ⟨typeIs_int s i t, fun _ e => nomatch e⟩
  | ref p =>
    cases r
    rcases ty with ⟨rfl, xs, hq⟩ | ⟨rfl, o, hk, hc, hd⟩ | ⟨rfl, hk⟩ | ⟨rfl, S, n, hk⟩
    · obtain ⟨its, _, pl, _⟩ := I.list hq
      refine ⟨pl.isList.typeIs, fun a e => ?_⟩
      cases e
      obtain ⟨o, n, e, c, hd, _⟩ := pl
      exact ⟨o, e, hd⟩
    · refine ⟨⟨o, I.kIn p o hk, hc⟩, fun a e => ?_⟩
      cases e
      exact ⟨o, I.kIn _ o hk, hd⟩
    · have z : ∃ o, s.heap.get? p = some o ∧ o.ExactDict := by
        rcases hk with ⟨kvs, hk⟩ | ⟨kvs, hk⟩
        · obtain ⟨_, _, _, _, o, _, _, e, ex, _⟩ := I.hok p _ hk
          exact ⟨o, e, ex⟩
        · obtain ⟨_, _, _, _, o, _, _, e, ex, _⟩ := I.hok p _ hk
          exact ⟨o, e, ex⟩
      obtain ⟨o, e, ex⟩ := z
      refine ⟨⟨o, e, ex.1⟩, fun a e2 => ?_⟩
      cases e2
      exact ⟨o, e, ex.2.1⟩
    · obtain ⟨o, _, _, _, e, ex, _⟩ := I.hok p _ hk
      refine ⟨⟨o, e, ex.1⟩, fun a e2 => ?_⟩
      cases e2
      exact ⟨o, e, ex.2.1⟩
  | _ => exact False.elim ty
noncomputable def tBM0 (K : PySem.W.Frag) (T : String) (r : V → List V → Hp → VK → Prop) (to : TE) : TE := fun σ H Q => to σ H fun x H1 => tyV K T x H1 ∧ r x [] H1 Q
noncomputable def tBM (K : PySem.W.Frag) (T : String) (r : V → List V → Hp → VK → Prop) (to : TE) (t : TA) : TE := fun σ H Q => to σ H fun x H1 => tyV K T x H1 ∧ t σ H1 fun xs H2 => r x xs H2 Q
variable {o e : Expr} {es : List Expr} {to : TE} {t : TA} {name : Str} {apos cpos : Pos} {T id : String} {r : V → List V → Hp → VK → Prop}
theorem pe_bm0 (pa : PlainAttrs T) (slot : Slot T name id) (hty : typeOf (.builtin id) = pure (.type "method_descriptor")) (hm : MtR X id r) (ho : PE X o to)
    (hbase : attributeBase o name X.env (eval o X.env) = eval o X.env := by rfl) (hline : (apos.endLine == cpos.line) = true := by rfl) : PE X (.Call (.Attribute o name apos) [] [] cpos) (tBM0 X.K T r to) := by
  intro pins s σ H Q I h
  refine wpAny_Call_method0_late hbase hline (thn (ho pins s σ H _ I h) fun v s1 ⟨x, H1, I1, r1, ty, q1⟩ => ?_)
  obtain ⟨h1, h2⟩ := tyV_is I1 r1 ty
  exact ⟨T, id, pa, slot, hty, h1, h2, Calls.callWith_builtin rfl (PySem.evalArgs_none (hm pins s1 σ H1 x [] v [] Q I1 r1 .nil q1))⟩
theorem pe_bm (pa : PlainAttrs T) (slot : Slot T name id) (hty : typeOf (.builtin id) = pure (.type "method_descriptor")) (hm : MtR X id r) (ho : PE X o to) (ha : PA X (e :: es) t)
    (hbase : attributeBase o name X.env (eval o X.env) = eval o X.env := by rfl)
    (hfew : ((backTo cpos (starEach (e :: es) X.env)).all (fun x => !x.1) && (backToKw cpos (keywordEach [] X.env)).all (fun x => x.1.isSome)
      && decide ((e :: es).length + ([] : List Keyword).length + (if ([] : List Keyword).isEmpty then 0 else 1) < 30)) = true := by rfl)
    (hline : (apos.endLine == cpos.line) = true := by rfl) (hs : starEach (e :: es) X.env = (false, eval e X.env) :: starEach es X.env := by rfl) (hplain : (backTo cpos (starEach es X.env)).any (·.1) = false := by rfl) :
    PE X (.Call (.Attribute o name apos) (e :: es) [] cpos) (tBM X.K T r to t) := by
  intro pins s σ H Q I h
  refine wpAny_Call_method_late hbase hfew hline rfl (thn (ho pins s σ H _ I h) fun v s1 ⟨x, H1, I1, r1, ty, q1⟩ => ?_)
  obtain ⟨h1, h2⟩ := tyV_is I1 r1 ty
  refine ⟨T, id, pa, slot, hty, h1, h2, ?_⟩
  have hA := ha cpos pins s1 σ H1 _ I1 q1
  rw [hs] at hA ⊢
  refine Calls.callWith_builtin (by show (false || (backTo cpos (starEach es X.env)).any (·.1)) = false; rw [hplain] <;> rfl) (Calls.evalArgs_plain ?_)
  exact thn hA fun us s2 ⟨vs, H2, I2, r2, q2⟩ => hm pins s2 σ H2 x vs v us Q I2 r1 r2 q2
/- xs.append(e), list.index on a module's tuple .. are MtR facts of 06m -/
end
end L2
namespace L2
open PySem PySem.Spec PyProof.Rows
noncomputable def MtM (X : Cx) (id : String) (r : V → List V → Hp → VK → Prop) : Prop :=
  ∀ (pins : List (Addr × Obj)) (s : Shared) (σ : St) (H : Hp) (x : V) (xs : List V) (v : Value) (us : List Value) (Q : VK), Inv X pins σ H s → RelV x v → Vals xs us → r x xs H Q →
    wpAny (model X.prog X.w) X.A (call (.builtin id) (v :: us)) (EP X pins σ Q) X.xe s
theorem Vals.one : ∀ {x : V} {us : List Value}, Vals [x] us → ∃ u, us = [u] ∧ RelV x u
  | _, _, .cons r .nil => ⟨_, rfl, r⟩
theorem Vals.two : ∀ {x y : V} {us : List Value}, Vals [x, y] us → ∃ u v, us = [u, v] ∧ RelV x u ∧ RelV y v
  | _, _, _, .cons r (.cons q .nil) => ⟨_, _, rfl, r, q⟩
theorem Vals.rep {xs : List V} {us : List Value} (h : Vals xs us) : ∀ k : Nat, Vals (List.replicate k xs).flatten (List.replicate k us).flatten
  | 0 => .nil
  | k + 1 => by
    rw [List.replicate_succ, List.replicate_succ, List.flatten_cons, List.flatten_cons]
    exact Vals.append h (Vals.rep h k)
theorem foldl_rep (its : List Value) : ∀ (k : Nat) (acc : List Value),
    List.foldl (fun x1 x2 => x1 ++ x2) acc.toArray (List.replicate k its.toArray) = (acc ++ (List.replicate k its).flatten).toArray
  | 0, acc => by simp
  | k + 1, acc => by
    have e : acc.toArray ++ its.toArray = (acc ++ its).toArray := by simp
    have e2 : (acc ++ its) ++ (List.replicate k its).flatten = acc ++ (List.replicate (k + 1) its).flatten := by
      rw [List.replicate_succ, List.flatten_cons, List.append_assoc]
    rw [← e2, ← foldl_rep its k (acc ++ its), ← e, List.replicate_succ, List.foldl_cons]
section
variable {X : Cx} {pins : List (Addr × Obj)} {σ : St} {H : Hp} {s : Shared} {l b : Addr} {xs ys zs : List V}
theorem Inv.lnew {its : List Value} {t' : Nat} (I : Inv X pins σ H s) (hv : Vals ys its) (hz : ys.length ≤ sizeLine) :
    Inv X pins σ (upd H s.heap.objs.size (.lst ys)) { s with heap := s.heap.push { cls := .type "list", data := .seq its.toArray }, toks := t' } :=
  I.laid (fun _ _ q => Heap.get?_push_of_some _ q) (Nat.le_refl _) ⟨hz, its, 0, hv, Heap.get?_push_size _ rfl⟩
theorem Inv.fresh (I : Inv X pins σ H s) : H s.heap.objs.size = none := I.hok.fresh (Nat.le_refl _)
theorem Inv.lstM (I : Inv X pins σ H s) (hH : H l = some (.lst xs)) : xs.length ≤ sizeLine ∧ ∃ (its : List Value) (n : Nat), Vals xs its ∧ xs.length = its.length ∧ s.heap.get? l = some { cls := .type "list", data := .seq its.toArray n } := by
  obtain ⟨z, its, n, r, e⟩ := I.hok l _ hH
  exact ⟨z, its, n, r, r.length, e⟩
theorem notLongL {n : Nat} (h : n ≤ sizeLine) : Builtin.List.listTooLong n = false := by
  unfold Builtin.List.listTooLong
  exact decide_eq_false (by lia)
end
section
variable {X : Cx}
noncomputable def rCat : R2 := fun x y H Q => ∃ l b xs zs, x = .ref l ∧ y = .ref b ∧ H l = some (.lst xs) ∧ H b = some (.lst zs) ∧ xs.length + zs.length ≤ sizeLine ∧ ∀ p, H p = none → Q (.ref p) (upd H p (.lst (xs ++ zs)))
theorem op_cat : OpR X (binaryOp .Add) rCat := by
  intro pins s σ H x y v u Q I rx ry h
  obtain ⟨l, b, xs, zs, rfl, rfl, hH, hB, hz, q⟩ := h
  cases rx
  cases ry
  obtain ⟨z, its, n, r, hl, e⟩ := I.lstM hH
  obtain ⟨z2, its2, n2, r2, hl2, e2⟩ := I.lstM hB
  refine PySem.P.add_list e e2 ?_ (by rw [List.size_toArray, List.size_toArray]; lia)
  have ea : its.toArray ++ its2.toArray = (its ++ its2).toArray := by simp
  rw [ea]
  exact ⟨.ref _, _, I.lnew (t' := s.toks) (r.append r2) (by rw [List.length_append]; lia), rfl, q _ I.fresh⟩
noncomputable def rRep : R2 := fun x y H Q => ∃ l k xs, x = .ref l ∧ y = .int k ∧ H l = some (.lst xs) ∧ -(2 ^ 63) ≤ k ∧ k < 2 ^ 63 ∧ xs.length * k.toNat ≤ sizeLine ∧
  ∀ p, H p = none → Q (.ref p) (upd H p (.lst (List.replicate k.toNat xs).flatten))
theorem len_rep {α : Type} (xs : List α) (k : Nat) : (List.replicate k xs).flatten.length = k * xs.length := by
  induction k with
  | zero => simp
  | succ k ih => rw [List.replicate_succ, List.flatten_cons, List.length_append, ih, Nat.succ_mul, Nat.add_comm]
theorem op_rep : OpR X (binaryOp .Mult) rRep := by
  intro pins s σ H x y v u Q I rx ry h
  obtain ⟨l, k, xs, rfl, rfl, hH, h1, h2, hz, q⟩ := h
  cases rx
  obtain ⟨t, rfl⟩ := ry
  obtain ⟨z, its, n, r, hl, e⟩ := I.lstM hH
  have hlen : its.toArray.size * k.toNat ≤ sizeLine := by rw [List.size_toArray, ← hl]; exact hz
  have hcap : ¬ its.toArray.size * k.toNat > (2 ^ 63 - 1) / 8 := by
    have : (sizeLine : Nat) ≤ (2 ^ 63 - 1) / 8 := by decide
    lia
  have hfit : ¬ (!Builtin.List.listFitsIndex k) = true := by
    rw [fitsIndex_both h1 h2]
    exact Bool.false_ne_true
  have hlong : ¬ Builtin.List.listTooLong (its.toArray.size * k.toNat) = true := by
    rw [notLongL hlen]
    exact Bool.false_ne_true
  have hnew : List.foldl (fun x1 x2 => x1 ++ x2) #[] (List.replicate (if its.toArray.isEmpty = true then 0 else k.toNat) its.toArray) = (List.replicate k.toNat its).flatten.toArray := by
    have f0 : ∀ m : Nat, List.foldl (fun x1 x2 => x1 ++ x2) #[] (List.replicate m its.toArray) = (List.replicate m its).flatten.toArray := fun m => by
      have := foldl_rep its m []
      rw [List.nil_append] at this
      exact this
    rw [f0]
    cases its with
    | nil => simp
    | cons a r' => rw [if_neg (by simp)]
  refine wpAny_binaryOp_repeat_ref (T := "list") (U := "int") (by decide) ⟨_, e, rfl⟩ (fun s' => typeIs_int s' k t) noFill_list_mul F.fills_int_mul F.slot_int_rmul repeat_list F.slot_int_index.lookup
    (call_meets F.slot_int_rmul (typeIs_int s k t) F.entry_int_rmul (F.args_int_rmul_2 _ _) (int___rmul___int_list k t l its.toArray n)
      ⟨e, rfl, ⟨_, e, rfl⟩, call_meets F.slot_list_mul ⟨_, e, rfl⟩ F.entry_list_mul (F.args_list_mul_2 _ _) (AutoListH.list___mul___list_int_3 l its.toArray n k t hfit hcap hlong) ⟨e, ?_⟩⟩)
  rw [hnew]
  exact ⟨.ref _, _, I.lnew (t' := s.toks) (r.rep k.toNat) (by rw [len_rep, Nat.mul_comm]; exact hz), rfl, q _ I.fresh⟩
end
section
variable {prog : Program} {w : World} {A : Around} {E : Value → Shared → Prop} {s : Shared}
end
section
variable {X : Cx}
end
end L2
namespace Att
open PySem PySem.W PySem.Calls PyProof.Rows
theorem ints_of_wellAll {P : Params} {h : Heap} : ∀ (ns : List Int) (vs : List Value), WellAll P h vs (ns.map WData.int) → IntsAre vs ns := by
  intro ns
  induction ns with
  | nil =>
    intro vs w
    rw [List.map_nil] at w
    cases w
    exact .nil
  | cons n ns ih =>
    intro vs w
    rw [List.map_cons] at w
    cases w with
    | cons a b =>
      cases a
      exact .cons _ _ (ih _ b)
theorem script_of {l : OpenLaw} {n : Nat} (hn : l.most = some n) {P : Params} {h : Heap} {args : List WData} {vals : List Value}
    (hpre : l.row.toRowW.claim.pre args = true) (hwl : WellAll P h vals args) :
    ∃ a vs ns, vals = [Value.ref a] ∧ args = [WData.list (ns.map WData.int)] ∧ h.get? a = some { cls := .type "list", data := .seq vs.toArray } ∧ IntsAre vs ns ∧ ns.length ≤ n := by
  have hsh : WShape.hasAll [] args [.list .int] = true := (pre_splitW hpre).1
  have hc : l.pre.holds [] { args := args } = true := (pre_splitW hpre).2
  obtain ⟨d, r, rfl, h1, h2⟩ := hasAllW_cons hsh
  obtain rfl := hasAllW_nil h2
  obtain ⟨xs, rfl, h3⟩ := hasW_list h1
  obtain ⟨ns, rfl⟩ := items_int h3
  have hlen : ns.length ≤ n := by
    unfold OpenLaw.pre at hc
    have h4 : (WTm.not (.lt (.lit (.int (n : Int))) (.len (.arg 0)))).holds [] { args := [.list (ns.map .int)] } = true := by
      have h4 := (holds_andW hc).1
      rw [hn] at h4
      exact h4
    have h5 := condW_of h4 (w_not (w_lt w_lit (w_len_list (w_arg rfl))))
    rw [List.length_map] at h5
    refine Nat.le_of_not_lt fun q => ?_
    have q' : (n : Int) < ((ns.length : Nat) : Int) := by lia
    first
      | (rw [decide_eq_true q'] at h5; exact absurd h5 (by decide))
      | (simp at h5; lia)
  cases hwl with
  | cons w1 w2 =>
    cases w2
    cases w1 with
    | list ho hall => exact ⟨_, _, ns, rfl, rfl, ho, ints_of_wellAll ns _ hall, hlen⟩
theorem post_true (l : OpenLaw) (args : List WData) : l.row.toRowW.claim.post args (.bool true) args = true :=
  postW_of (r := l.row.toRowW) (X := (true == true))
    (show WShape.has [] (.bool true) .bool = true by first | rfl | decide | simp [WShape.has, WShape.arms, WShape.armsAll])
    (show (WTm.eq .res (.lit (.bool true))).value [] { args := args, res := some (.bool true), after := args } = some (.bool (true == true)) from w_eq_bool (w_res rfl) w_lit) rfl
theorem attach_call {l : OpenLaw} {n : Nat} {q : Program} {loose : List Str} {XP : (Str → Option Value) → Heap → Prop} {YP : World → Heap → Prop} {d : DefRec}
    (hn : l.most = some n) (hdf : d.params.defaults = [])
    (call : ∀ (w : World) (s₀ s₁ : Shared) (mg mb : Str → Option Value) (fa : Addr) (o : Obj) (pm cd doc : Value) (a : Addr) (vs : List Value) (ns : List Int),
      Ground q loose [] XP w s₀ mg mb s₁.heap → YP w s₁.heap →
      s₁.heap.get? fa = some o → o.data = .func (docDef d.name d.params d.body d.scope pm cd doc) → s₁.heap.CodeRec cd d.name → mg d.name = some (.ref fa) →
      s₁.heap.get? a = some { cls := .type "list", data := .seq vs.toArray } → IntsAre vs ns → ns.length ≤ n → s₁.gens = #[] →
      codeAny (model l.prog w) callerA (.call (.ref fa) ⟨[.ref a], []⟩) (fun r s' => r = .ok (.ret (.bool true)) ∧ OldK s₁.heap s'.heap ∧ s'.os = s₁.os ∧ AllBare s'.gens) s₁) :
    WalkO q loose XP YP l.row.toRowW d [] (fun f vs => PySem.call f vs) := by
  intro w s₀ s₁ mg mb G Y fa o pm cd doc dV kV ho hd hcd hD hmg hg args vals as hpre hlay hrd hwl hlo
  obtain rfl : dV = .none := Dflts.none hD hdf
  obtain rfl : kV = .none := Dflts.noKw hD
  obtain ⟨a, vs, ns, rfl, rfl, hobj, hints, hlen⟩ := script_of hn hpre hwl
  refine enter_call (codeAny_mono (call w s₀ s₁ mg mb fa o pm cd doc a vs ns G Y ho (fd_plain hd) hcd hmg hobj hints hlen hg) fun r s' hq => ?_)
  obtain ⟨rfl, h2, h3, h4⟩ := hq
  exact ⟨.inl ⟨.bool true, .bool true, [], rfl, fun _ => rfl, .bool true, post_true l _, fun _ => ⟨List.Pairwise.nil, fun _ hm => (nomatch hm)⟩⟩, h2, h3, h4⟩
section
variable {prog : Program} {w : World} {A : Around} {E : Value → Shared → Prop} {s : Shared} {K : Frag}
end
end Att
namespace L2
open PySem PySem.Spec PyProof.Rows
theorem vals_ints : ∀ {vs : List Value} {ns : List Int}, IntsAre vs ns → Vals (ns.map V.int) vs
  | _, _, .nil => .nil
  | _, _, .cons n t h => .cons ⟨t, rfl⟩ (vals_ints h)
end L2
namespace L2
open PySem PySem.Spec PyProof.Rows
noncomputable abbrev KOf {K : PySem.W.Frag} {h : Heap} (_ : K.In h) : PySem.W.Frag := K
end L2
/- THE LAST THEOREM (shape; LID, My.* are yours):
   My.Adr: a structure of the addresses that your layer names (classes, functions); My.Txt K t: a structure (Prop) of the equations over K;
   My.txt_mk : {K} {implicit addresses ..} (e1 : nsIn K mainGlobals "law" = some (some (.ref f))) (e2 : K.lookup f = some ⟨oc, od, .func (fnOf "law" "law" params body scope dV kV doc pm an cdv ct), sl⟩) (e3 : codeIn K cdv "law" = true) .. : ∃ t, My.Txt K t
set_option maxRecDepth 100000 in
set_option maxHeartbeats 0 in
theorem PySem.Challenge.cw_LID_holds : PySem.Challenge.rw_LID.Holds := by
  w_on; o_law; k_head; (case hw => w_witness2)
  k_fill
  refine L2.walk_of (l := PySem.Challenge.rw_LID) (n := 63) (k := 40) (x := "script") (CX := fun w => ..) (sp := fun _ => My.sp_law) rfl (by decide) rfl ⟨rfl, by decide, by decide⟩ (fun w h Y => PySem.W.kIn_of Y) ?F ?S ?C
  case F =>
    intro w mg fa h KX G hmg
    have T : ∃ t, My.Txt (L2.KOf KX) t := by
      dsimp only [L2.KOf]                          -- K must stand as «<heap const> w.params» for k_is
      refine' My.txt_mk ?e1 ?e2 ?e3 ..
      (case e1 => PySem.W.k_is)                    -- in the order: a name -> its address -> its object -> its parts
      (case e2 => PySem.W.k_is)
      ..
    obtain ⟨t, T⟩ := T
    have e0 := hmg.symm.trans (PySem.W.mg_of KX G T.law)
    cases e0                                       -- fa is the law's own address
    exact ⟨_, fun s u => .of_eq rfl, fun base kb nb => My.law_fn T kb nb⟩     -- if «.of_eq rfl» comes too early: refine' ⟨_, ?b, fun base kb nb => My.law_fn T kb nb⟩; exact fun s u => .of_eq rfl
  case S => exact fun w H a ns hl hO hS => ..
  case C => exact ..
(the tactic k_is has no namespace: write k_is) -/
namespace L2
open PySem PySem.Spec PyProof.Rows
noncomputable def inClass (s : Stmt) (j : Nat) : Stmt := match s with
  | .ClassDef _ _ _ body _ _ _ _ _ _ _ => body.getD j (.Pass ⟨0, 0, 0, 0⟩)
  | _ => .Pass ⟨0, 0, 0, 0⟩
noncomputable def defArgs (s : Stmt) : Arguments := match s with
  | .FunctionDef _ a _ _ _ _ _ _ _ _ => a
  | _ => { posonlyargs := [], args := [], vararg := none, kwonlyargs := [], kw_defaults := [], kwarg := none, defaults := [] }
noncomputable def defBody (s : Stmt) : List Stmt := match s with
  | .FunctionDef _ _ b _ _ _ _ _ _ _ => b
  | _ => []
noncomputable def defScope (s : Stmt) : Scope := match s with
  | .FunctionDef _ _ _ _ _ _ sc _ _ _ => sc
  | _ => { kind := .function, names := [], isGenerator := false, isCoroutine := false }
noncomputable abbrev CX0 : CXT := fun _ _ _ _ _ _ => False
noncomputable abbrev E0 : XK := fun _ _ _ => False
theorem pass0 {X : Cx} : Passes CX0 X E0 := fun _ _ _ _ _ _ _ h => h.elim
structure Fun (K : PySem.W.Frag) (x qual : Str) (st : Stmt) (f : Addr) (fd : FuncData) : Prop where
  ex : ∃ (oc : Value) (od : Option Addr) (kV doc pm : Value) (an : Option Addr) (cdv ct : Value) (osl : Array (Option Value)),
    fd = PySem.W.fnOf x qual (defArgs st) (defBody st) (defScope st) .none kV doc pm an cdv ct ∧ K.lookup f = some ⟨oc, od, .func fd, osl⟩ ∧ PySem.W.codeIn K cdv qual = true
  kp : PySem.W.keepIn K (.ref f) = true
section
variable {P : Program} {w : World} {K : PySem.W.Frag} {mg : Str → Option Value} {base : Heap}
theorem Fun.ok {x qual : Str} {st : Stmt} {f : Addr} {fd : FuncData} {N ps : List Str} {k : Nat} {sp : Sp} (F : Fun K x qual st f fd) (S : FnScope N ps (defScope st)) (len : ∀ vs H Q E, sp vs H Q E → vs.length = ps.length)
    (hbody : ∀ (cdv : Value) (A : Around) (outer : List Env) (s : Shared) (H : Hp) (vs : List V) (Q : VK) (E : XK), Room k (A.deeper (envOfC qual (defScope st) s.heap.objs.size f cdv)) → sp vs H Q E →
      ∃ t, PSs (cxOf CX0 P w K mg base N qual (defScope st) f cdv A outer s H E).nox (defBody st) t ∧ t { nx := fun _ H' => Q .non H', rt := Q } (start N vs) H) : FnOk P w K mg base CX0 (k + 1) f fd ps sp := by
  obtain ⟨oc, od, kV, doc, pm, an, cdv, ct, osl, rfl, lk, hcd⟩ := F.ex
  refine fn_of lk hcd S len fun A outer s H vs Q E hr hsp => ?_
  obtain ⟨t, h, q⟩ := hbody cdv A outer s H vs Q E hr hsp
  exact ⟨t, h.nox, q⟩
theorem Fun.binds {x qual : Str} {st : Stmt} {f : Addr} {fd : FuncData} {ps : List Str} (F : Fun K x qual st f fd)
    (h : ∀ (kV doc pm : Value) (an : Option Addr) (cdv ct : Value) (us : List Value), us.length = ps.length → bindArgs (PySem.W.fnOf x qual (defArgs st) (defBody st) (defScope st) .none kV doc pm an cdv ct) ⟨us, []⟩ = pure (ps.zip us)) : Binds K fd ps [] := by
  obtain ⟨oc, od, kV, doc, pm, an, cdv, ct, osl, rfl, lk, hcd⟩ := F.ex
  exact .all (h kV doc pm an cdv ct)
theorem fun_mk {x qual : Str} {st : Stmt} {f : Addr} {oc : Value} {od an : Option Addr} {osl : Array (Option Value)} {kV doc pm cdv ct : Value} (l : K.lookup f = some ⟨oc, od, .func (PySem.W.fnOf x qual (defArgs st) (defBody st) (defScope st) .none kV doc pm an cdv ct), osl⟩)
    (c : PySem.W.codeIn K cdv qual = true) (k : PySem.W.keepIn K (.ref f) = true) : Fun K x qual st f (PySem.W.fnOf x qual (defArgs st) (defBody st) (defScope st) .none kV doc pm an cdv ct) := ⟨⟨oc, od, kV, doc, pm, an, cdv, ct, osl, rfl, l, c⟩, k⟩
end
theorem small1000 {n : Nat} (h : n ≤ 1000) : n < sizeLine := Nat.lt_of_le_of_lt h (by decide)
section
variable {X : Cx}
theorem pv (i : Nat) {x : Str} {pos : Pos} (hN : X.N[i]? = some x := by rfl) (hv : Vis X.env.scope x := by first | exact Or.inl rfl | exact Or.inr (Or.inl rfl) | exact Or.inr (Or.inr rfl)) (hd : (x == ("__debug__" : Str)) = false := by decide)
    (hcd : (x == ("__classdict__" : Str)) = false := by decide) : PE X (.Name x pos) (tVar i) := pe_var hN hv hd hcd
end
theorem iteF {A B : Prop} (h : B) : if false = true then A else B := by
  rw [if_neg Bool.false_ne_true]
  exact h
theorem ite2 {c A B : Prop} [Decidable c] (h1 : c → A) (h2 : ¬ c → B) : if c then A else B := by
  by_cases h : c
  · rw [if_pos h]
    exact h1 h
  · rw [if_neg h]
    exact h2 h
noncomputable def Same (H H' : Hp) : Prop := ∀ b o, H b = some o → H' b = some o
theorem Same.refl (H : Hp) : Same H H := fun _ _ h => h
theorem Same.trans {H H1 H2 : Hp} (a : Same H H1) (b : Same H1 H2) : Same H H2 := fun c o h => b c o (a c o h)
theorem Same.free {H H' : Hp} (e : Same H H') {l : Addr} (h : H' l = Option.none) : H l = Option.none := by
  cases q : H l with
  | none => rfl
  | some o =>
    rw [e l o q] at h
    cases h
theorem Same.seq {K : PySem.W.Frag} {H H' : Hp} {a : Addr} {xs : List V} (e : Same H H') (h : SqL K H a xs) : SqL K H' a xs := by
  rcases h with (h | ⟨o, h⟩) | h
  · exact .inl (.inl (e _ _ h))
  · exact .inl (.inr ⟨o, e _ _ h⟩)
  · exact .inr h
end L2
set_option maxHeartbeats 4000000
namespace L2
open PySem PySem.Spec PyProof.Rows
section
variable {X : Cx} {a b c : Expr} {ta tb tc : TE} {pos : Pos}
theorem op_mulL : OpR X (binaryOp .Mult) (rI (fun i j => IntMulOk i j) fun i j => .int (i * j)) :=
  opI fun _ _ _ _ _ _ _ hc q => mul_int q hc
theorem op_fdivL : OpR X (binaryOp .FloorDiv) (rI (fun _ j => j ≠ 0 ∧ j.natAbs.log2 < 9000) fun i j => .int (i.fdiv j)) :=
  opI fun _ _ _ _ _ _ _ hc q => floordiv_int hc.1 q (.inl (PyProof.noPylong_of_log2 hc.2))
theorem pe_ty {x : Str} {T : String} {pos : Pos} (hg : Gl X x) (hm : X.mg x = none) (hv : bootBuiltins x = some (.type T)) (hn : x ≠ "__name__" := by decide) (hd : (x == ("__debug__" : Str)) = false := by decide) : PE X (.Name x pos) (tC (.ty T)) :=
  pe_bltn (v := V.ty T) hg hm hv rfl hn hd
noncomputable def rEqI (K : PySem.W.Frag) : R2 := fun x y H Q => ∃ (p q : Addr) (xs ys : List Int), x = .ref p ∧ y = .ref q ∧ SqL K H p (xs.map V.int) ∧ SqL K H q (ys.map V.int) ∧ Q (.bl (decide (xs = ys))) H
theorem int_at {xs : List Int} {its : List Value} (r : Vals (xs.map V.int) its) {j : Nat} (h : j < xs.length) (h' : j < its.length) : ∃ t, its[j] = Value.int xs[j] t := by
  have e : (xs.map V.int)[j]? = some (V.int xs[j]) := by rw [List.getElem?_map, List.getElem?_eq_getElem h] <;> rfl
  obtain ⟨u, hu, t, rfl⟩ := r.get e
  rw [List.getElem?_eq_getElem h'] at hu
  exact ⟨t, Option.some.inj hu⟩
theorem all_at (xs ys : List Int) (hl : xs.length = ys.length) : ((List.range xs.length).all fun j => xs.getD j 0 == ys.getD j 0) = decide (xs = ys) := by
  rw [Bool.eq_iff_iff, List.all_eq_true, decide_eq_true_eq]
  constructor
  · intro h
    refine List.ext_getElem hl fun j h1 h2 => ?_
    have := h j (List.mem_range.mpr h1)
    rw [beq_iff_eq, List.getD_eq_getElem?_getD, List.getD_eq_getElem?_getD, List.getElem?_eq_getElem h1, List.getElem?_eq_getElem h2] at this
    exact this
  · rintro rfl j _
    exact beq_self_eq_true _
theorem op_eqI (hu : X.A.units < cLine) : OpR X (compareOp .Eq) (rEqI X.K) := by
  intro pins s σ H x y v u Q I rx ry h
  obtain ⟨p, q, xs, ys, rfl, rfl, hp, hq, h⟩ := h
  cases rx
  cases ry
  obtain ⟨its, r, pl, hz⟩ := I.list hp
  obtain ⟨its2, r2, pl2, hz2⟩ := I.list hq
  have l1 := r.length
  have l2 := r2.length
  rw [List.length_map] at l1 l2
  by_cases hl : xs.length = ys.length
  · refine SeqAt.eq_listAt (e := fun j => xs.getD j 0 == ys.getD j 0) pl.isList pl2.isList (by simp only [List.size_toArray]; lia) hu (fun j h1 h2 => ?_) ?_
    · simp only [List.size_toArray] at h1 h2
      obtain ⟨t, e⟩ := int_at r (j := j) (by lia) h1
      obtain ⟨t', e'⟩ := int_at r2 (j := j) (by lia) h2
      have z : SeqAt.EqAt X.A.in1 s its[j] its2[j] (xs[j] == ys[j]) := by
        rw [e, e']; exact SeqAt.EqAt.int_int _ _ _ _
      rw [List.getD_eq_getElem?_getD, List.getD_eq_getElem?_getD, List.getElem?_eq_getElem (show j < xs.length by lia), List.getElem?_eq_getElem (show j < ys.length by lia)]
      simpa using z
    · have e : (List.range its.toArray.size).all (fun j => xs.getD j 0 == ys.getD j 0) = decide (xs = ys) := by
        rw [← all_at xs ys hl, l1, List.size_toArray]
      rw [e]
      exact ⟨.bl _, H, I, rfl, h⟩
  · have e : decide (xs = ys) = false := decide_eq_false fun z => hl (by rw [z])
    rw [e] at h
    exact SeqAt.eq_list_lengthsAt pl.isList pl2.isList (by simp only [List.size_toArray, bne_iff_ne, ne_eq]; lia) hu ⟨.bl false, H, I, rfl, h⟩
end
noncomputable def Itr3 (lo st : Int) (n : Nat) : It := ⟨fun i _ => i < n, fun i H x H' => H' = H ∧ x = .int (lo + i * st), fun i _ => n ≤ i⟩
noncomputable def iRng3 (ta : TA) : TI := fun σ H R => ta σ H fun vs H1 => ∃ (i j k : Int) (n : Nat), vs = [.int i, .int j, .int k] ∧ k ≠ 0 ∧ k.natAbs < 1073741824 ∧ Builtin.Range.small i j k = true ∧ Builtin.Range.rangeSize i j k = n ∧ R (Itr3 i k n) H1
structure FnB (P : Program) (w : World) (K : PySem.W.Frag) (mg : Str → Option Value) (base : Heap) (k : Nat) (x : Str) (ps : List Str) (sp : Sp) : Prop where
  ex : ∃ f fd, FnOk P w K mg base CX0 k f fd ps sp ∧ mg x = some (.ref f) ∧ PySem.W.keepIn K (.ref f) = true ∧ Binds K fd ps []
structure DefB (K : PySem.W.Frag) (mg : Str → Option Value) (x : Str) (st : Stmt) (ps : List Str) : Prop where
  ex : ∃ f fd, Fun K x x st f fd ∧ mg x = some (.ref f) ∧ Binds K fd ps []
section
variable {P : Program} {w : World} {K : PySem.W.Frag} {mg : Str → Option Value} {base : Heap} {x : Str} {st : Stmt} {N ps : List Str} {j k : Nat} {sp sp' : Sp}
theorem FnB.mono (F : FnB P w K mg base j x ps sp) (h : j ≤ k) : FnB P w K mg base k x ps sp :=
  let ⟨f, fd, a, b, c, d⟩ := F.ex
  ⟨f, fd, a.mono h, b, c, d⟩
theorem DefB.ok (D : DefB K mg x st ps) (S : FnScope N ps (defScope st)) (len : ∀ vs H Q E, sp vs H Q E → vs.length = ps.length)
    (hbody : ∀ (f : Addr) (cdv : Value) (A : Around) (outer : List Env) (s : Shared) (H : Hp) (vs : List V) (Q : VK) (E : XK), Room k (A.deeper (envOfC x (defScope st) s.heap.objs.size f cdv)) → sp vs H Q E →
      ∃ t, PSs (cxOf CX0 P w K mg base N x (defScope st) f cdv A outer s H E).nox (defBody st) t ∧ t { nx := fun _ H' => Q .non H', rt := Q } (start N vs) H) : FnB P w K mg base (k + 1) x ps sp :=
  let ⟨f, fd, a, b, c⟩ := D.ex
  ⟨f, fd, a.ok S len fun cdv A outer s H vs Q E => hbody f cdv A outer s H vs Q E, b, a.kp, c⟩
end
theorem def_of {K : PySem.W.Frag} {h : Heap} {mg : Str → Option Value} {x : Str} {st : Stmt} {ps : List Str} {f : Addr} {od an : Option Addr} {sl : Array (Option Value)} {oc kV doc pm cd ct : Value} (X : K.In h) (G : h.Ns mainGlobals mg)
    (a : PySem.W.nsIn K mainGlobals x = some (some (.ref f))) (l : K.lookup f = some ⟨oc, od, .func (PySem.W.fnOf x x (defArgs st) (defBody st) (defScope st) .none kV doc pm an cd ct), sl⟩)
    (c : PySem.W.codeIn K cd x = true) (k : PySem.W.keepIn K (.ref f) = true)
    (b : ∀ (kV doc pm : Value) (an : Option Addr) (cdv ct : Value) (us : List Value), us.length = ps.length → bindArgs (PySem.W.fnOf x x (defArgs st) (defBody st) (defScope st) .none kV doc pm an cdv ct) ⟨us, []⟩ = pure (ps.zip us)) : DefB K mg x st ps :=
  have F := fun_mk (st := st) l c k
  ⟨_, _, F, PySem.W.mg_of X G a, F.binds b⟩
theorem pe_fn {X : Cx} {k : Nat} {x : Str} {ps : List Str} {sp : Sp} {p pos : Pos} {e : Expr} {es : List Expr} {t : TA} (F : FnB X.prog X.w X.K X.mg X.base k x ps sp) (hr : Room k X.A) (ha : PA X (e :: es) t)
    (hg : Gl X x := by rfl) (hdb : (x == ("__debug__" : Str)) = false := by decide) (he : starEach (e :: es) X.env = (false, eval e X.env) :: starEach es X.env := by rfl)
    (hpl : (backTo pos (starEach es X.env)).any (·.1) = false := by rfl) : PE X (.Call (.Name x p) (e :: es) [] pos) (tCall sp [] E0 t) :=
  let ⟨_, _, a, b, c, d⟩ := F.ex
  pe_call a hr hg b c d .nil pass0 ha hdb he hpl
section
variable {σ : St} {H : Hp} {Q : VK} {D : Ends} {te ta tb : TE} {tr : TA} {ts us : TS} {tt uu : TT} {QB : Bool → Hp → Prop} {QA : List V → Hp → Prop}
theorem r_seq (h : ts { D with nx := us D } σ H) : tSeq ts us D σ H := h
theorem r_set {i : Nat} (h : te σ H fun x H1 => D.nx (σ.set i (some x)) H1) : tAsg te (gName i) D σ H := h
theorem r_asg {g : TG} (h : te σ H fun x H1 => g x σ H1 D.nx) : tAsg te g D σ H := h
theorem r_ret (h : te σ H D.rt) : tRet te D σ H := h
theorem r_drop (h : te σ H fun _ H1 => D.nx σ H1) : tDrop te D σ H := h
theorem r_next (h : D.nx σ H) : tNext D σ H := h
theorem r_var {i : Nat} {v : V} (e : σ[i]? = some (some v)) (h : Q v H) : tVar i σ H Q := ⟨v, e, h⟩
theorem r_for {wi : TI} {g : TG} (h : wi σ H fun J H1 => ∃ W : Nat → Nat → St → Hp → Prop, (∃ m, W 0 m σ H1) ∧ ∀ i m σ H, W i m σ H →
    (J.stop i H ∧ D.nx σ H) ∨ (J.go i H ∧ ∃ N : St → Hp → Prop, (∀ σ' H', N σ' H' → ∃ m', m' < m ∧ W (i + 1) m' σ' H') ∧ ∀ x H', J.yld i H x H' → g x σ H' fun σ2 H2 => ts { D with nx := N, ct := N, bk := D.nx } σ2 H2)) : tFor wi g ts D σ H := h
theorem r_rng3 {R : It → Hp → Prop} (h : tr σ H fun vs H1 => ∃ (i j k : Int) (n : Nat), vs = [.int i, .int j, .int k] ∧ k ≠ 0 ∧ k.natAbs < 1073741824 ∧ Builtin.Range.small i j k = true ∧ Builtin.Range.rangeSize i j k = n ∧ R (Itr3 i k n) H1) : iRng3 tr σ H R := h
theorem r_gname {i : Nat} {v : V} {R : St → Hp → Prop} (h : R (σ.set i (some v)) H) : gName i v σ H R := h
theorem r_gtup {K : PySem.W.Frag} {n : Nat} {t : TGs} {a : Addr} {xs : List V} {R : St → Hp → Prop} (hs : SqT K H a xs) (hl : xs.length = n) (h : t xs σ H R) : gTup K n t (.ref a) σ H R := ⟨a, xs, rfl, hs, hl, h⟩
theorem r_gcons {t : TG} {u : TGs} {v : V} {r : List V} {R : St → Hp → Prop} (h : t v σ H fun σ' H' => u r σ' H' R) : gCons t u (v :: r) σ H R := ⟨v, r, rfl, h⟩
theorem r_gnil {R : St → Hp → Prop} (h : R σ H) : gNil [] σ H R := ⟨rfl, h⟩
theorem r_c {v : V} (h : Q v H) : tC v σ H Q := h
theorem r_op {r : R2} (h : ta σ H fun x H1 => tb σ H1 fun y H2 => r x y H2 Q) : tOp r ta tb σ H Q := h
theorem r_un {r : V → Hp → VK → Prop} (h : ta σ H fun x H1 => r x H1 Q) : tUn r ta σ H Q := h
theorem r_i0 {g : Int → Int → V} {i j : Int} (h : Q (g i j) H) : rI0 g (.int i) (.int j) H Q := ⟨i, j, rfl, rfl, h⟩
theorem r_i {C : Int → Int → Prop} {g : Int → Int → V} {i j : Int} (c : C i j) (h : Q (g i j) H) : rI C g (.int i) (.int j) H Q := ⟨i, j, rfl, rfl, c, h⟩
theorem r_u {g : Int → V} {i : Int} (h : Q (g i) H) : rU g (.int i) H Q := ⟨i, rfl, h⟩
theorem r_test (h : te σ H fun x H' => ∃ k, x = .bl k ∧ QB k H') : tTest te σ H QB := h
theorem r_tb (h : te σ H fun x H' => ∃ k, x = .bl k ∧ QB k H') : tB te σ H QB := h
theorem r_bl {k : Bool} {R : Bool → Prop} (h : R k) : ∃ k', V.bl k = .bl k' ∧ R k' := ⟨k, rfl, h⟩
theorem r_eqi {i j : Int} (h : Q (.bl (decide (i = j))) H) : rEq (.int i) (.int j) H Q := ⟨rfl, by rw [show decide (V.int i = V.int j) = decide (i = j) by rw [Bool.eq_iff_iff]; simp]; exact h⟩
theorem r_nei {i j : Int} (h : Q (.bl (!decide (i = j))) H) : rNe (.int i) (.int j) H Q := ⟨rfl, by rw [show decide (V.int i = V.int j) = decide (i = j) by rw [Bool.eq_iff_iff]; simp]; exact h⟩
theorem r_ifS (h : tt σ H fun b H1 => if b = true then ts D σ H1 else us D σ H1) : tIfS tt ts us D σ H := h
theorem r_ifE (h : tt σ H fun c H1 => if c = true then ta σ H1 Q else tb σ H1 Q) : tIf tt ta tb σ H Q := h
theorem r_and (h : tt σ H fun c H1 => if c = true then uu σ H1 QB else QB false H1) : tAnd tt uu σ H QB := h
theorem r_or (h : tt σ H fun c H1 => if c = true then QB true H1 else uu σ H1 QB) : tOr tt uu σ H QB := h
theorem r_not (h : tt σ H fun c H1 => QB (!c) H1) : tNot tt σ H QB := h
theorem r_andV (h : ta σ H fun x H1 => ∃ c, x = .bl c ∧ if c = true then tb σ H1 Q else Q (.bl false) H1) : tAndV ta tb σ H Q := h
theorem r_orV (h : ta σ H fun x H1 => ∃ c, x = .bl c ∧ if c = true then Q (.bl true) H1 else tb σ H1 Q) : tOrV ta tb σ H Q := h
theorem r_notV (h : ta σ H fun x H1 => ∃ c, x = .bl c ∧ Q (.bl (!c)) H1) : tNotV ta σ H Q := h
theorem r_nil (h : QA [] H) : tNil σ H QA := h
theorem r_cons (h : te σ H fun x H1 => tr σ H1 fun xs H2 => QA (x :: xs) H2) : tCons te tr σ H QA := h
theorem r_call {sp : Sp} {E : XK} (h : tr σ H fun vs H1 => sp (vs ++ []) H1 Q E) : tCall sp [] E tr σ H Q := h
theorem r_cb {r : List V → Hp → VK → Prop} (h : tr σ H fun vs H1 => r vs H1 Q) : tCB r tr σ H Q := h
theorem r_tup (h : tr σ H fun xs H1 => xs.length ≤ sizeLine ∧ ∀ p, H1 p = none → Q (.ref p) (upd H1 p (.tup xs))) : tTup tr σ H Q := h
theorem r_lst (h : tr σ H fun xs H1 => xs.length ≤ sizeLine ∧ ∀ p, H1 p = none → Q (.ref p) (upd H1 p (.lst xs))) : tLst tr σ H Q := h
theorem r_tru {K : PySem.W.Frag} {i : Int} {R : Bool → Prop} (h : R (i != 0)) : ∃ k, TruV K (.int i) H k ∧ R k := ⟨_, rfl, h⟩
theorem r_ixT {K : PySem.W.Frag} {p : Addr} {xs : List V} {i : Int} {v : V} (hs : SqT K H p xs) (he : atI xs i = some v) (h : Q v H) : rIxT K (.ref p) (.int i) H Q := ⟨p, xs, i, v, rfl, rfl, hs, he, h⟩
theorem r_ixL {K : PySem.W.Frag} {p : Addr} {xs : List V} {i : Int} {v : V} (hs : SqL K H p xs) (he : atI xs i = some v) (h : Q v H) : rIxL K (.ref p) (.int i) H Q := ⟨p, xs, i, v, rfl, rfl, hs, he, h⟩
theorem small4 {n : Nat} (h : n ≤ 1000) : n ≤ sizeLine := Nat.le_of_lt (small1000 h)
theorem Same.new {H : Hp} {p : Addr} (h : H p = none) (o : HO) : Same H (upd H p o) := fun b u q => by rw [upd_ne (ne_of_none q h)]; exact q
end
end L2
namespace L2
open PySem PySem.Spec PyProof.Rows
noncomputable def Ite (K : PySem.W.Frag) (a : Addr) : It :=
  ⟨fun i H => ∃ xs x, SqL K H a xs ∧ xs[i]? = some x, fun i H x H' => ∃ p y, H p = none ∧ x = .ref p ∧ H' = upd H p (.tup [.int (i : Int), y]) ∧ ∀ xs, SqL K H a xs → xs[i]? = some y, fun i H => ∃ xs, SqL K H a xs ∧ xs.length ≤ i⟩
noncomputable def Itv (K : PySem.W.Frag) (a : Addr) (n : Nat) : It :=
  ⟨fun i H => i < n ∧ ∃ xs x, SqL K H a xs ∧ xs[n - 1 - i]? = some x, fun i H x H' => H' = H ∧ ∀ xs, SqL K H a xs → xs[n - 1 - i]? = some x, fun i _ => i = n⟩
noncomputable def iEnum (K : PySem.W.Frag) (ta : TA) : TI := fun σ H R => ta σ H fun vs H1 => ∃ a, vs = [.ref a] ∧ (∃ xs, SqL K H1 a xs) ∧ R (Ite K a) H1
noncomputable def iRev (K : PySem.W.Frag) (ta : TA) : TI := fun σ H R => ta σ H fun vs H1 => ∃ a xs, vs = [.ref a] ∧ SqL K H1 a xs ∧ R (Itv K a xs.length) H1
end L2
namespace L2
open PySem PySem.Spec PyProof.Rows
section
variable {prog : Program} {w : World} {A : Around} {R : Result → Shared → Prop} {s : Shared}
end
structure CompOk (X : Cx) (scope : Scope) (cl : List (Str × Addr)) (own : List Str) (fr : List Nat) (M : List Str) : Prop where
  clos : closureFor scope X.env = pure cl
  kind : scope.kind = .function
  names : ∀ x ∈ scope.names, x.2 = .local → scope.names.lookup x.1 = some .local
  nocell : ∀ x ∈ scope.names, x.2 ≠ .cell
  cls : ∀ x c, cl.lookup x = some c → X.env.cells.lookup x = some c
  has : ∀ x, ((relabel scope X.env).names.lookup x = some .cell ∨ (relabel scope X.env).names.lookup x = some .free) → ∃ c, cl.lookup x = some c
  len : M.length = own.length + fr.length
  ownl : ∀ (i : Nat) x, own[i]? = some x → M[i]? = some x
  from_ : ∀ (j i : Nat) x, fr[j]? = some i → M[own.length + j]? = some x → X.N[i]? = some x ∧ X.env.scope.names.lookup x = some .cell ∧ (∃ c, cl.lookup x = some c) ∧ ((relabel scope X.env).names.lookup x = some .cell ∨ (relabel scope X.env).names.lookup x = some .free)
section
variable {X : Cx} {pins : List (Addr × Obj)} {σ : St} {H : Hp} {s : Shared} {scope : Scope} {cl : List (Str × Addr)} {own : List Str} {fr : List Nat} {M : List Str}
end
end L2
namespace L2
open PySem PySem.Spec PyProof.Rows
section
variable {X : Cx}
theorem eq_ints_at {pins : List (Addr × Obj)} {s : Shared} {σ : St} {H : Hp} {p q : Addr} {xs : List Int} {A : Around} (hu : A.units < cLine) (I : Inv X pins σ H s) (hp : SqL X.K H p (xs.map V.int)) (hq : SqL X.K H q (xs.map V.int)) : SeqAt.EqAt A s (.ref p) (.ref q) true := by
  by_cases e : p = q
  · subst e; exact SeqAt.EqAt.same _
  · obtain ⟨its, r, pl, hz⟩ := I.list hp
    obtain ⟨its2, r2, pl2, hz2⟩ := I.list hq
    have l1 := r.length
    have l2 := r2.length
    rw [List.length_map] at l1 l2
    have z := SeqAt.RcAt.lists (A := A) (e := fun _ => true) pl.isList pl2.isList (by simp only [List.size_toArray]; lia) hu (fun j h1 h2 => by
      simp only [List.size_toArray] at h1 h2
      obtain ⟨t, e1⟩ := int_at r (j := j) (by lia) h1
      obtain ⟨t', e2⟩ := int_at r2 (j := j) (by lia) h2
      have z : SeqAt.EqAt A.in1 s its[j] its2[j] (xs[j] == xs[j]) := by rw [e1, e2]; exact SeqAt.EqAt.int_int _ _ _ _
      rw [beq_self_eq_true] at z
      simpa using z)
    refine SeqAt.EqAt.of_refs e ?_
    have e3 : ((List.range its.toArray.size).all fun _ => true) = true := by simp
    rw [e3] at z
    exact z
end
end L2
namespace L2
open PySem PySem.Spec PyProof.Rows
section
variable {own : List Str} {fr : List Nat} {g : TG} {te : TE} {σ : St} {H1 : Hp} {Q : VK}
end
theorem while_go {c : TT} {tb : TS} {D : Ends} {σ : St} {H : Hp} (Pv : Nat → St → Hp → Prop) (h0 : ∃ m, Pv m σ H)
    (hs : ∀ m σ H, Pv m σ H → c σ H fun b H1 => if b = true then ∃ N : St → Hp → Prop, (∀ σ' H', N σ' H' → ∃ m', m' < m ∧ Pv m' σ' H') ∧ tb { D with nx := N, ct := N, bk := D.nx } σ H1 else D.nx σ H1) : tWhile c tb D σ H := ⟨Pv, h0, hs⟩
section
variable {σ : St} {H : Hp} {R : It → Hp → Prop} {tl : TE} {tr : TA} {Q : VK}
theorem r_ilist {K : PySem.W.Frag} (h : tl σ H fun x H1 => ∃ a, x = .ref a ∧ (∃ xs, SqL K H1 a xs) ∧ R (Itl K a) H1) : iList K tl σ H R := h
theorem r_rng1 (h : tr σ H fun vs H1 => ∃ j : Int, vs = [.int j] ∧ -(2 ^ 62) ≤ j ∧ j < 2 ^ 62 ∧ R (Itr 0 j.toNat) H1) : iRng1 tr σ H R := h
theorem r_rng2 (h : tr σ H fun vs H1 => ∃ i j : Int, vs = [.int i, .int j] ∧ (-(2 ^ 62) ≤ i ∧ i < 2 ^ 62 ∧ -(2 ^ 62) ≤ j ∧ j < 2 ^ 62) ∧ R (Itr i (j - i).toNat) H1) : iRng2 tr σ H R := h
theorem r_ienum {K : PySem.W.Frag} (h : tr σ H fun vs H1 => ∃ a, vs = [.ref a] ∧ (∃ xs, SqL K H1 a xs) ∧ R (Ite K a) H1) : iEnum K tr σ H R := h
theorem r_irev {K : PySem.W.Frag} (h : tr σ H fun vs H1 => ∃ a xs, vs = [.ref a] ∧ SqL K H1 a xs ∧ R (Itv K a xs.length) H1) : iRev K tr σ H R := h
theorem r_part {te : TE} {S : Option Int → Hp → Prop} (h : te σ H fun x H1 => ∃ i, x = .int i ∧ S (some i) H1) : tPart te σ H S := h
theorem r_nopart {S : Option Int → Hp → Prop} (h : S none H) : tNoPart σ H S := h
theorem r_slice {r : V → Option Int → Option Int → Hp → VK → Prop} {tlo thi : TO} (h : tl σ H fun x H1 => tlo σ H1 fun l H2 => thi σ H2 fun u H3 => r x l u H3 Q) : tSl r tl tlo thi σ H Q := h
theorem r_sub {to ti : TE} {t : TSet} {v : V} {S : St → Hp → Prop} (h : to σ H fun o H1 => ti σ H1 fun i H2 => t o i v H2 fun H3 => S σ H3) : gSub to ti t v σ H S := h
end
end L2
namespace SF
open Lean.Grind
section
variable {R : Type} [CommRing R]
noncomputable def sumN (f : Nat → R) : Nat → R
  | 0 => 0
  | n + 1 => sumN f n + f n
end
end SF
namespace SF
noncomputable def Bd (n : Nat) (x : Int) : Prop := x.natAbs < 2 ^ n
theorem Bd.log2 {n : Nat} {x : Int} (h : Bd n x) (hn : n ≤ 9000) : x.natAbs.log2 < 9000 := by
  unfold Bd at h
  rcases Nat.eq_zero_or_pos x.natAbs with h0 | hp
  · rw [h0]; decide
  · exact (Nat.log2_lt (Nat.ne_of_gt hp)).mpr (Nat.lt_of_lt_of_le h (Nat.pow_le_pow_right (by decide) hn))
theorem Bd.of_le {n : Nat} {x y : Int} (h : Bd n y) (h' : x.natAbs ≤ y.natAbs) : Bd n x := Nat.lt_of_le_of_lt h' h
theorem Bd.of_range {n : Nat} {x : Int} (h1 : 0 ≤ x) (h2 : x < 2 ^ n) : Bd n x := by
  unfold Bd
  have e : ((2 : Int) ^ n) = ((2 ^ n : Nat) : Int) := by simp
  rw [e] at h2
  lia
theorem fmod_pos {g l : Int} (hl : 0 < l) : g.fmod l = g % l := Int.fmod_eq_emod_of_nonneg g (by lia)
theorem fdiv_pos {g l : Int} (hl : 0 < l) : g.fdiv l = g / l := Int.fdiv_eq_ediv_of_nonneg g (by lia)
theorem gcd_turn {g l : Int} (hg : 0 ≤ g) (hl : 0 < l) : Int.gcd l (g % l) = Int.gcd g l := by
  obtain ⟨m, rfl⟩ := Int.eq_ofNat_of_zero_le hg
  obtain ⟨n, rfl⟩ := Int.eq_ofNat_of_zero_le (show 0 ≤ l by lia)
  have e : ((m : Int) % (n : Int)) = ((m % n : Nat) : Int) := by simp
  rw [e]
  show Nat.gcd n (m % n) = Nat.gcd m n
  rw [Nat.gcd_comm m n, Nat.gcd_rec n m, Nat.gcd_comm]
theorem gcd_abs {a b : Int} : Int.gcd (if a < 0 then -a else a) (if b < 0 then -b else b) = Int.gcd a b := by
  split <;> split <;> simp [Int.gcd_neg, Int.neg_gcd]
theorem gcd_end {g : Int} (hg : 0 ≤ g) : ((Int.gcd g 0 : Nat) : Int) = g := by
  rw [Int.gcd_zero_right]; lia
noncomputable def rs (a b : Int) : Int := if b < 0 then -((Int.gcd a b : Nat) : Int) else ((Int.gcd a b : Nat) : Int)
noncomputable def rt (a b : Int) : Int := a.fdiv (rs a b)
noncomputable def ru (a b : Int) : Int := b.fdiv (rs a b)
structure Low (p q a b : Int) : Prop where
  pos : 0 < q
  cross : p * b = a * q
  low : Int.gcd p q = 1
end SF
namespace SF
open Lean.Grind
noncomputable def co (xs : List Int) (i : Nat) : Int := xs.getD i 0
theorem co_succ (x : Int) (r : List Int) (i : Nat) : co (x :: r) (i + 1) = co r i := rfl
theorem co_lt {xs : List Int} {i : Nat} (h : i < xs.length) : co xs i = xs[i] := by
  show xs.getD i 0 = _; rw [List.getD_eq_getElem?_getD, List.getElem?_eq_getElem h]; rfl
theorem co_ge {xs : List Int} {i : Nat} (h : xs.length ≤ i) : co xs i = 0 := by
  show xs.getD i 0 = _; rw [List.getD_eq_getElem?_getD, List.getElem?_eq_none h]; rfl
theorem co_take (xs : List Int) (n i : Nat) : co (xs.take n) i = if i < n then co xs i else 0 := by
  show (xs.take n).getD i 0 = _
  rw [List.getD_eq_getElem?_getD]
  split
  · rename_i h; rw [List.getElem?_take_of_lt h]; rfl
  · rename_i h; rw [List.getElem?_eq_none (by rw [List.length_take]; lia)]; rfl
noncomputable def Tr (xs : List Int) : Prop := ∀ x, xs.getLast? = some x → x ≠ 0
theorem Tr.nil : Tr [] := fun x h => by cases h
theorem Tr.last {xs : List Int} (h : Tr xs) (hn : xs ≠ []) : co xs (xs.length - 1) ≠ 0 := by
  have hl : 0 < xs.length := List.length_pos_iff.mpr hn
  rw [co_lt (by lia)]
  refine h _ ?_
  rw [List.getLast?_eq_getElem?, List.getElem?_eq_getElem (by lia)]
theorem Tr.of_last {xs : List Int} (h : xs ≠ [] → co xs (xs.length - 1) ≠ 0) : Tr xs := by
  intro x hx
  have hn : xs ≠ [] := by rintro rfl; cases hx
  have hl : 0 < xs.length := List.length_pos_iff.mpr hn
  have := h hn
  rw [co_lt (by lia)] at this
  rw [List.getLast?_eq_getElem?, List.getElem?_eq_getElem (by lia)] at hx
  rw [Option.some.inj hx] at this
  exact this
theorem Tr.inj {xs ys : List Int} (hx : Tr xs) (hy : Tr ys) (h : ∀ i, co xs i = co ys i) : xs = ys := by
  have hl : xs.length = ys.length := by
    rcases Nat.lt_trichotomy xs.length ys.length with hlt | he | hlt
    · have hn : ys ≠ [] := by rintro rfl; exact absurd hlt (Nat.not_lt_zero _)
      have := hy.last hn
      rw [← h, co_ge (by lia)] at this
      exact absurd rfl this
    · exact he
    · have hn : xs ≠ [] := by rintro rfl; exact absurd hlt (Nat.not_lt_zero _)
      have := hx.last hn
      rw [h, co_ge (by lia)] at this
      exact absurd rfl this
  refine List.ext_getElem hl fun i h1 h2 => ?_
  have := h i
  rw [co_lt h1, co_lt h2] at this
  exact this
noncomputable def trimL : List Int → List Int
  | [] => []
  | x :: r => match trimL r with
    | [] => if x = 0 then [] else [x]
    | y :: t => x :: y :: t
theorem trimL_co : ∀ (xs : List Int) (i : Nat), co (trimL xs) i = co xs i
  | [], i => rfl
  | x :: r, i => by
    have ih := trimL_co r
    unfold trimL
    cases e : trimL r with
    | nil =>
      rw [e] at ih
      dsimp only
      split
      · rename_i hx
        cases i with
        | zero => exact hx.symm
        | succ i => rw [co_succ, ← ih i]; rfl
      · cases i with
        | zero => rfl
        | succ i => rw [co_succ, co_succ, ← ih i]
    | cons y t =>
      rw [e] at ih
      cases i with
      | zero => rfl
      | succ i => exact ih i
theorem trimL_tr : ∀ xs : List Int, Tr (trimL xs)
  | [] => Tr.nil
  | x :: r => by
    have ih := trimL_tr r
    unfold trimL
    cases e : trimL r with
    | nil =>
      dsimp only
      split
      · exact Tr.nil
      · rename_i hx
        intro z hz
        have : x = z := by simpa using hz
        rw [← this]; exact hx
    | cons y t =>
      rw [e] at ih
      intro z hz
      exact ih z (by simpa using hz)
theorem trimL_id {xs : List Int} (h : Tr xs) : trimL xs = xs := (trimL_tr xs).inj h (trimL_co xs)
theorem trimL_eq {xs ys : List Int} (h : ∀ i, co xs i = co ys i) : trimL xs = trimL ys :=
  (trimL_tr xs).inj (trimL_tr ys) fun i => by rw [trimL_co, trimL_co, h]
theorem trimL_take {xs : List Int} {n : Nat} (h : co xs n = 0) : trimL (xs.take (n + 1)) = trimL (xs.take n) := by
  refine trimL_eq fun i => ?_
  rw [co_take, co_take]
  by_cases h1 : i < n
  · rw [if_pos h1, if_pos (by lia)]
  · rw [if_neg h1]
    split
    · have : i = n := by lia
      rw [this]; exact h
    · rfl
theorem take_tr {xs : List Int} {n : Nat} (hn : n ≤ xs.length) (h : n = 0 ∨ co xs (n - 1) ≠ 0) : Tr (xs.take n) := by
  refine Tr.of_last fun hne => ?_
  have hl : (xs.take n).length = n := by rw [List.length_take]; lia
  rw [hl, co_take]
  have : 0 < n := by
    rcases Nat.eq_zero_or_pos n with z | z
    · rw [z] at hne; simp at hne
    · exact z
  rw [if_pos (by lia)]
  rcases h with z | z
  · lia
  · exact z
end SF
namespace SF
noncomputable def contN (xs : List Int) : Nat := xs.foldl (fun g x => Int.gcd g x) 0
noncomputable def cont (xs : List Int) : Int := if co xs (xs.length - 1) < 0 then -((contN xs : Nat) : Int) else ((contN xs : Nat) : Int)
noncomputable def hv (t u : Int) (xs : List Int) : Int := sumN (fun i => co xs i * (t ^ i * u ^ (xs.length - 1 - i))) xs.length
end SF
namespace SF
noncomputable def cv (xs ys : List Int) (a j : Nat) : Int := sumN (fun i => if i ≤ j then co xs i * co ys (j - i) else 0) a
end SF
namespace L2
open PySem PySem.Spec PyProof.Rows
section
variable {X : Cx} {K : PySem.W.Frag} {pos : Pos}
theorem ix_listK (h : X.K = K) : IxR X (rIxL K) := by subst h; exact ix_list
end
section
variable {K : PySem.W.Frag} {own : List Str} {fr : List Nat} {g : TG} {te : TE} {σ : St} {H1 : Hp} {Q : VK}
end
end L2
namespace PySem
open Sem (wp)
namespace F
end F
section
variable {prog : Program} {w : World} {A : Around} {E : Value → Shared → Prop} {s : Shared}
end
end PySem
namespace L2
open PySem PySem.Spec PyProof.Rows
section
variable {X : Cx}
end
end L2
namespace L2
open PySem PySem.Spec PyProof.Rows
structure Dv (X : Cx) : Prop where
  tree : X.prog.given.tree = none
  top : ∃ (env : Env) (l : List Env), X.stack = env :: l ∧ env.scope.isGenerator = false ∧ env.scope.isCoroutine = false ∧ env.builtins = builtinsNs ∧ env.globals = mainGlobals
  dp : X.A.depth + 100 < recursionLimit
end L2
namespace L2
open PySem PySem.Spec PyProof.Rows
section
variable {X : Cx}
end
end L2
namespace L2
open PySem PySem.Spec PyProof.Rows
inductive IsInts : List Expr → List Int → Prop
  | nil : IsInts [] []
  | pos {n : Int} {j : Nat} {p : Pos} {es : List Expr} {ns : List Int} (h : IsInts es ns) : IsInts (.Constant (.int n) j p :: es) (n :: ns)
  | neg {n : Int} {j : Nat} {p p' : Pos} {es : List Expr} {ns : List Int} (h : IsInts es ns) : IsInts (.UnaryOp .USub (.Constant (.int n) j p) p' :: es) (-n :: ns)
end L2
namespace L2
open PySem PySem.Spec PyProof.Rows
section
variable {X : Cx}
end
end L2
namespace L2
open PySem PySem.Spec PyProof.Rows
section
variable {X : Cx}
noncomputable def rIsDigit : V → List V → Hp → VK → Prop := fun x vs H Q => ∃ z, x = .str z ∧ vs = [] ∧ Q (.bl (Txt.isdigit z)) H
theorem mt_isdigit : MtM X "str.isdigit" rIsDigit := by
  intro pins s σ H x vs v us Q I rx rv h
  obtain ⟨z, rfl, rfl, q⟩ := h
  obtain ⟨t, rfl⟩ := rx
  cases rv
  exact SC.isdigit ⟨.bl _, H, I, rfl, q⟩
noncomputable def rStarts : V → List V → Hp → VK → Prop := fun x vs H Q => (∃ z y, x = .str z ∧ vs = [.str y] ∧ Q (.bl (Txt.startswith z y)) H) ∨ ∃ z y i, x = .str z ∧ vs = [.str y, .int i] ∧ Q (.bl (Txt.startswith3 z y i)) H
theorem mt_starts : MtM X "str.startswith" rStarts := by
  intro pins s σ H x vs v us Q I rx rv h
  rcases h with ⟨z, y, rfl, rfl, q⟩ | ⟨z, y, i, rfl, rfl, q⟩
  · obtain ⟨t, rfl⟩ := rx
    obtain ⟨u, rfl, t', rfl⟩ := vals1 rv
    exact SC.startswith ⟨.bl _, H, I, rfl, q⟩
  · obtain ⟨t, rfl⟩ := rx
    obtain ⟨u1, u2, rfl, ⟨t1, rfl⟩, ⟨t2, rfl⟩⟩ := vals2 rv
    exact SC.startswith3 ⟨.bl _, H, I, rfl, q⟩
theorem call_int_str : CallR X (.type "int") (fun xs H Q => ∃ z n, xs = [.str z] ∧ intText? z = some n ∧ z.length ≤ 640 ∧ Q (.int n) H) := by
  intro pins s σ H xs us Q I r h
  obtain ⟨z, n, rfl, hn, hz, q⟩ := h
  obtain ⟨u, rfl, t, rfl⟩ := vals1 r
  exact PySem.W.KIN.call_text hn hz ⟨.int n, H, I.tok _, ⟨_, rfl⟩, q⟩
noncomputable def rSlS : V → Option Int → Option Int → Hp → VK → Prop := fun x lo hi H Q => ∃ z, x = .str z ∧ z.length ≤ sizeLine ∧ Q (.str (Txt.slice z lo hi)) H
theorem sl_str : SlR X rSlS := by
  intro pins s σ H x v vl vu lo hi sl Q I rx hs pl pu h
  obtain ⟨z, rfl, hz, q⟩ := h
  obtain ⟨t, rfl⟩ := rx
  refine ⟨"str", _, F.slot_str_getitem.lookup, typeIs_str _ _ _, ?_⟩
  have fin : ∀ t' k, EP X pins σ Q (.str (Txt.slice z lo hi) t') { s with toks := k } := fun t' k => ⟨.str _, H, I.tok _, ⟨_, rfl⟩, q⟩
  cases pl with
  | none =>
    cases pu with
    | none => exact wpAny_getItem_str_slice (l := none) (u := none) (st := none) hs rfl (post_val_or_str ⟨Nat.le_trans (Txt.slice_le z _ _) hz, fin⟩)
    | int j uj => exact wpAny_getItem_str_slice (l := none) (u := some (j, uj)) (st := none) hs rfl (post_val_or_str ⟨Nat.le_trans (Txt.slice_le z _ _) hz, fin⟩)
  | int i ui =>
    cases pu with
    | none => exact wpAny_getItem_str_slice (l := some (i, ui)) (u := none) (st := none) hs rfl (post_val_or_str ⟨Nat.le_trans (Txt.slice_le z _ _) hz, fin⟩)
    | int j uj => exact wpAny_getItem_str_slice (l := some (i, ui)) (u := some (j, uj)) (st := none) hs rfl (post_val_or_str ⟨Nat.le_trans (Txt.slice_le z _ _) hz, fin⟩)
end
end L2
namespace SF
open PySem
noncomputable abbrev S (l : List Nat) : Str := ⟨l.toArray⟩
theorem S_len (l : List Nat) : (S l).length = l.length := by show l.toArray.size = _; simp
theorem S_list (z : Str) : S z.cps.toList = z := by cases z; rfl
theorem S_app (a b : List Nat) : S a ++ S b = S (a ++ b) := by
  show (⟨a.toArray ++ b.toArray⟩ : Str) = ⟨(a ++ b).toArray⟩
  simp
theorem S_inj {a b : List Nat} (h : S a = S b) : a = b := by
  have := congrArg (fun z : Str => z.cps.toList) h
  simpa using this
noncomputable def isd (c : Nat) : Bool := 48 ≤ c && c ≤ 57
theorem asc_digit : ∀ c : Nat, c < 128 → Unicode.isDigit c = isd c := by decide +kernel
theorem digit1 {c : Nat} (h : c < 128) : Txt.isdigit ⟨#[c]⟩ = isd c := by
  show (decide ((#[c] : Array Nat).size > 0) && (#[c]).all Unicode.isDigit) = _
  simp [asc_digit c h]
noncomputable def fig (n : Nat) : List Nat := (Nat.toDigits 10 n).map Char.toNat
theorem fig_str (n : Nat) : (Str.ofString (toString ((n : Nat) : Int)) : Str) = S (fig n) := by
  rw [← S_list (Str.ofString _)]
  congr 1
  rw [PySem.W.KIN.signs_num]
  rfl
theorem fig_all (n : Nat) : ∀ c ∈ fig n, 48 ≤ c ∧ c ≤ 57 := by
  intro c hc
  obtain ⟨ch, hch, rfl⟩ := List.mem_map.mp hc
  have := Nat.isDigit_of_mem_toDigits (b := 10) (by decide) (by decide) hch
  exact PyProof.Rows.digit_range this
theorem fig_small {n : Nat} (h : n < 10) : fig n = [48 + n] := by
  unfold fig
  rw [Nat.toDigits_of_lt_base h]
  have : ∀ m : Nat, m < 10 → (Nat.digitChar m).toNat = 48 + m := by decide
  rw [List.map_cons, List.map_nil, this n h]
theorem fig_step {n : Nat} (h : 10 ≤ n) : fig n = fig (n / 10) ++ [48 + n % 10] := by
  have hm : n % 10 < 10 := Nat.mod_lt n (by decide)
  have t : Nat.toDigits 10 (n / 10) ++ Nat.toDigits 10 (n % 10) = Nat.toDigits 10 (10 * (n / 10) + n % 10) := Nat.toDigits_append_toDigits (by decide) (by lia) hm
  rw [Nat.div_add_mod] at t
  rw [← fig_small hm]
  unfold fig
  rw [← t, List.map_append]
theorem fig_len : ∀ (k n : Nat), n < 10 ^ (k + 1) → (fig n).length ≤ k + 1
  | 0, n, h => by rw [fig_small (by lia)]; simp
  | k + 1, n, h => by
    by_cases h10 : n < 10
    · rw [fig_small h10]; simp
    · rw [fig_step (by lia), List.length_append]
      have := fig_len k (n / 10) (Nat.div_lt_of_lt_mul (by rw [Nat.mul_comm, ← Nat.pow_succ]; exact h))
      show _ + 1 ≤ _
      lia
theorem starts3 {l p : List Nat} {i : Nat} (hi : i ≤ l.length) : Txt.startswith3 (S l) (S p) (i : Int) = ((l.drop i).take p.length == p) := by
  unfold Txt.startswith3
  have e1 : PySem.fromIndex (S l).length (i : Int) = i := by
    unfold PySem.fromIndex
    rw [if_neg (by lia)]
    lia
  rw [e1, S_len, S_len]
  unfold Builtin.Str.subAt
  have e2 : ((S l).cps.extract i (i + (S p).length) == (S p).cps) = ((l.drop i).take p.length == p) := by
    rw [S_len]
    show (l.toArray.extract i (i + p.length) == p.toArray) = _
    rw [Bool.eq_iff_iff]
    simp [List.extract_toArray]
  rw [e2]
  by_cases h : (l.drop i).take p.length = p
  · have hl := congrArg List.length h
    rw [List.length_take, List.length_drop] at hl
    rw [beq_iff_eq.mpr h, decide_eq_true (by lia)]; rfl
  · have : ((l.drop i).take p.length == p) = false := by simpa using h
    rw [this, Bool.and_false]
theorem starts1 {l p : List Nat} : Txt.startswith (S l) (S p) = (l.take p.length == p) := by
  have := starts3 (l := l) (p := p) (i := 0) (Nat.zero_le _)
  rw [List.drop_zero] at this
  rw [← this]
  unfold Txt.startswith Txt.startswith3
  have e1 : PySem.fromIndex (S l).length ((0 : Nat) : Int) = 0 := by
    unfold PySem.fromIndex
    rw [if_neg (by lia)]
    lia
  rw [e1]
theorem slice_S {l : List Nat} {i j : Nat} (h1 : i ≤ j) (h2 : j ≤ l.length) : Txt.slice (S l) (some (i : Int)) (some (j : Int)) = S ((l.drop i).take (j - i)) := by
  have := PyProof.Rows.slice_closesL (x := S l) (i := (i : Int)) (j := (j : Int)) (by lia) (by lia) (by rw [S_len]; lia)
  rw [eq_of_beq this]
  congr 1
  have e : ((j : Int) - (i : Int)).toNat = j - i := by lia
  rw [e, Int.toNat_natCast]
end SF
namespace L2
open PySem PySem.Spec PyProof.Rows
section
variable {X : Cx}
noncomputable def rEqE (K : PySem.W.Frag) : R2 := fun x y H Q => ∃ (p q : Addr) (xs : List V), x = .ref p ∧ y = .ref q ∧ SqL K H p xs ∧ SqL K H q [] ∧ Q (.bl xs.isEmpty) H
theorem op_eqE (hu : X.A.units < cLine) : OpR X (compareOp .Eq) (rEqE X.K) := by
  intro pins s σ H x y v u Q I rx ry h
  obtain ⟨p, q, xs, rfl, rfl, hp, hq, h⟩ := h
  cases rx
  cases ry
  obtain ⟨its, r, pl, hz⟩ := I.list hp
  obtain ⟨its2, r2, pl2, hz2⟩ := I.list hq
  cases r2
  have hl := r.length
  cases xs with
  | nil =>
    cases r
    exact SeqAt.eq_listAt (e := fun _ => true) pl.isList pl2.isList rfl hu (fun j h1 _ => absurd h1 (by simp)) ⟨.bl true, H, I, rfl, h⟩
  | cons x xs =>
    refine SeqAt.eq_list_lengthsAt pl.isList pl2.isList ?_ hu ⟨.bl false, H, I, rfl, h⟩
    rw [List.length_cons] at hl
    cases its with
    | nil => simp at hl
    | cons _ _ => simp
end
end L2
namespace SF
open PySem
end SF
namespace SF
open PySem PySem.Spec PyProof.Rows L2 PySem.W
section
variable {P : Program} {w : World} {H H' : Hp} {h h' : Heap} {a : Addr} {o : HO}
theorem objok_get (x : ObjOk P w H h a o) : ∃ ob, h.get? a = some ob := by
  cases o with
  | lst xs => obtain ⟨_, _, _, _, e⟩ := x; exact ⟨_, e⟩
  | tup xs => obtain ⟨_, _, _, ob, e, _⟩ := x; exact ⟨_, e⟩
  | dK kvs => obtain ⟨_, _, _, _, o, _, _, e, _⟩ := x; exact ⟨_, e⟩
  | dT kvs => obtain ⟨_, _, _, _, o, _, _, e, _⟩ := x; exact ⟨_, e⟩
  | set S n => obtain ⟨o, _, _, _, e, _⟩ := x; exact ⟨_, e⟩
  | ins C dx fs => obtain ⟨_, _, _, e, _⟩ := x; exact ⟨_, e⟩
  | own y => obtain ⟨_, e⟩ := x; exact ⟨_, e⟩
  | xd fs => obtain ⟨_, ⟨_, _, _, e, _⟩, _⟩ := x; exact ⟨_, e⟩
  | rng lo hi => obtain ⟨_, _, _, e⟩ := x; exact ⟨_, e⟩
  | frz ob u => obtain ⟨e, _⟩ := x; exact ⟨_, e⟩
  | tbl ps => exact ⟨_, (show h.get? a = some _ from x)⟩
  | met f y => exact ⟨_, (show h.get? a = some _ from x)⟩
  | ext φ => obtain ⟨_, ⟨_, e⟩, _⟩ := x; exact ⟨_, e⟩
theorem hok_none (x : HOk P w H h) (e : h.get? a = none) : H a = none := by
  cases q : H a with
  | none => rfl
  | some u =>
    obtain ⟨ob, z⟩ := objok_get (x a u q)
    rw [e] at z; cases z
theorem un_more {fs ex : List Addr} (x : HOk P w H h) (k : ∀ b u, h.get? b = some u → h'.get? b = some u) (q : ∀ b u, h.get? b = some u → H' b = H b) : Un fs ex H H' h h' where
  keep := fun b u e _ _ _ => k b u e
  slot := fun b u e _ _ _ => ⟨u.slots, k b u e⟩
  free := fun b u e n _ => (q b u e).trans n
  there := fun b u e _ => ⟨u, k b u e⟩
  tups := fun b xs e => by obtain ⟨ob, z⟩ := objok_get (x b _ e); rw [q b ob z]; exact e
  frzs := fun b u xs e => by obtain ⟨ob, z⟩ := objok_get (x b _ e); rw [q b ob z]; exact e
  tbls := fun b ps e => by obtain ⟨ob, z⟩ := objok_get (x b _ e); exact ⟨#[], by rw [q b ob z, e]; simp⟩
theorem hok_more (x : HOk P w H h) (k : ∀ b u, h.get? b = some u → h'.get? b = some u) (q : ∀ b u, h.get? b = some u → H' b = H b) (new : ∀ b o, h.get? b = none → H' b = some o → ObjOk P w H' h' b o) : HOk P w H' h' := fun b o e => by
  cases z : h.get? b with
  | none => exact new b o z e
  | some u =>
    rw [q b u z] at e
    refine (x b o e).stay (fun c v _ e => k c v e) (fun c r => ?_) fun c xs r => ?_
    · obtain ⟨ob, z⟩ := objok_get (x c _ r); rw [q c ob z]; exact r
    · obtain ⟨ob, z⟩ := objok_get (x c _ r); rw [q c ob z]; exact r
end
theorem Inv_more {X : Cx} {pins : List (Addr × Obj)} {σ : L2.St} {H H' : Hp} {s : Shared} {h' : Heap} {t' : Nat} (I : Inv X pins σ H s) (k : ∀ b u, s.heap.get? b = some u → h'.get? b = some u) (q : ∀ b u, s.heap.get? b = some u → H' b = H b)
    (new : ∀ b o, s.heap.get? b = none → H' b = some o → ObjOk X.prog X.w H' h' b o) : Inv X pins σ H' { s with heap := h', toks := t' } := I.un (un_more I.hok k q) (hok_more I.hok k q new)
noncomputable def excO (a C t : Addr) (tb : Value) (d : Option Addr) : HO := .ext fun h => ∃ o vs, h.get? a = some o ∧ o.cls = .ref C ∧ o.dict = d ∧ o.data = .fields vs ∧ vs.size = 6 ∧ vs[0]? = some (.ref t) ∧ vs[1]? = some tb
theorem exc_stay {a C t : Addr} {tb : Value} {d : Option Addr} {P : Program} {w : World} {H : Hp} {h : Heap} {o : Obj} {vs : Array Value} (e : h.get? a = some o) (hc : o.cls = .ref C) (hd : o.dict = d) (hf : o.data = .fields vs) (h6 : vs.size = 6) (h0 : vs[0]? = some (.ref t)) (h1 : vs[1]? = some tb) :
    ObjOk P w H h a (excO a C t tb d) :=
  ⟨⟨o, vs, e, hc, hd, hf, h6, h0, h1⟩, ⟨o, e⟩, fun _ _ ⟨o, vs, e, r⟩ k => ⟨o, vs, k o e, r⟩⟩
noncomputable def bmV : List Value := [.type "ValueError", .type "Exception", .type "BaseException", .type "object"]
noncomputable def XCls (K : Frag) (C : Addr) : Prop := excIn K C bmV "ValueError.__new__" = true
section
variable {X : Cx} {C : Addr}
theorem made_inv {pins : List (Addr × Obj)} {σ : L2.St} {H : Hp} {s : Shared} {h' : Heap} {e : Addr} {us : List Value} {vs : List V} {Q : VK} (I : Inv X pins σ H s) (r : Vals vs us) (hl : vs.length ≤ 1000) (hm : Heap.MadeExcOf s.heap h' e (.ref C) us)
    (q : ∀ x tp, H x = none → H tp = none → x ≠ tp → Q (.ref x) (upd (upd H tp (.tup vs)) x (excO x C tp .none none))) : EP X pins σ Q (.ref e) { s with heap := h' } := by
  obtain ⟨t, he, htn, ht⟩ := hm.there
  have hne : e ≠ t := fun z => by subst z; rw [he] at ht; cases ht
  refine ⟨.ref e, _, Inv_more (t' := s.toks) I hm.keeps (fun b u z => ?_) (fun b o z zz => ?_), rfl, q e t (hok_none I.hok hm.new) (hok_none I.hok htn) hne⟩
  · rw [upd_ne (fun y => by subst y; rw [hm.new] at z; cases z), upd_ne (fun y => by subst y; rw [htn] at z; cases z)]
  · by_cases hb : b = e
    · subst hb
      rw [upd_same] at zz; cases zz
      exact exc_stay he rfl rfl rfl rfl rfl rfl
    · rw [upd_ne hb] at zz
      by_cases hb2 : b = t
      · subst hb2
        rw [upd_same] at zz; cases zz
        exact ⟨small4 hl, us, r, _, ht, rfl, _, rfl⟩
      · rw [upd_ne hb2] at zz
        rw [hok_none I.hok z] at zz; cases zz
end
end SF
namespace SF
open PySem PySem.Spec PyProof.Rows L2 PySem.W
section
variable {prog : Program} {w : World} {A : Around} {E : Value → Shared → Prop} {s : Shared} {K : Frag} {x C : Addr} {ox : Obj} {od : Option Obj} {name : Str} {tk : Tok}
theorem xga_kind : builtinKind "BaseException.__getattribute__" = some .slot := by decide +kernel
theorem xga_split : splitId "BaseException.__getattribute__" = some ("BaseException", "__getattribute__") := by decide +kernel
theorem xga_code {R : Result → Shared → Prop} (XK : K.In s.heap) (I : InstAt s.heap x ox C od) (hb : subIn K (.ref C) (.type "BaseException") = some true)
    (h : wpAny (model prog w) A.in1 (Builtin.«object.__getattribute__» ⟨[.ref x, .str name tk], []⟩) (fun fin s' => match fin with | .done f => R (.ok f) s' | .again c' => c'.quiet = true ∧ codeAny (model prog w) A c' R s') (fun e s' => R (.error e) s') s) :
    codeAny (model prog w) A (.call (.builtin "BaseException.__getattribute__") ⟨[.ref x, .str name tk], []⟩) R s := by
  have sub : Looks (model prog w) s.heap (isInstance (.ref x) (.type "BaseException")) true := I.type.andThen (looks_subIn XK hb)
  exact codeAny_call_builtin PySem.F.attr_ValueError.ga.plain PySem.F.entry_bexc_ga (@check_slot (model prog w) _ _ s "BaseException.__getattribute__" "BaseException" "__getattribute__" (.ref x) [.str name tk] [] _ xga_kind xga_split sub (PySem.F.args_bexc_ga (.ref x) (.str name tk)) h)
theorem xga_value {v : Value} {Q : Fin → Shared → Prop} (XK : K.In s.heap) (I : InstAt s.heap x ox C od) (hf : findObj K C od name = some (.value v)) (h : Q (.done (.ret v)) s) :
    wpAny (model prog w) A (Builtin.«object.__getattribute__» ⟨[.ref x, .str name tk], []⟩) Q E s := by
  obtain ⟨hh, g, d, t, os⟩ := s
  have L0 := I.type (M := model prog w)
  have L1 := looks_find (M := model prog w) XK I hf
  refine wpAny_bind (wpAny_pure (wpAny_bind (wpAny_pure (wpAny_bind (L0.at (wpAny_bind (L1.at ?_)))))))
  exact wpAny_pure h
theorem xga_class {Q : Fin → Shared → Prop} (XK : K.In s.heap) (I : InstAt s.heap x ox C od) (hf : findObj K C od "__class__" = some (.bind (.builtin "getset_descriptor.__get__") (.builtin "object.__class__"))) (hm : mroIn K C (.type "object") = some true) (h : Q (.done (.ret (.ref C))) s) :
    wpAny (model prog w) A (Builtin.«object.__getattribute__» ⟨[.ref x, .str "__class__" tk], []⟩) Q E s := by
  have L0 := I.type (M := model prog w)
  have L1 := looks_find (M := model prog w) XK I hf
  refine wpAny_bind (wpAny_pure (wpAny_bind (wpAny_pure (wpAny_bind (L0.here (wpAny_bind (L1.here ?_)))))))
  show wpAny _ _ (holding [.builtin "object.__class__"] (call (.builtin "getset_descriptor.__get__") [.builtin "object.__class__", .ref x, .ref C]) >>= ret) _ _ _
  exact wpAny_bind (wpAny_holding (wpAny_call (class_get XK I hm (wpAny_pure h))))
theorem xga_ne : (Value.builtin "BaseException.__getattribute__" == Value.builtin "object.__getattribute__") = false := by decide +kernel
theorem xby {fill expr : Bool} {Q : Value → Shared → Prop} (XK : K.In s.heap) (I : InstAt s.heap x ox C od) (hga : findIn K (.ref C) "__getattribute__" = some (some (.builtin "BaseException.__getattribute__"))) (hgk : findIn K (.ref C) "__getattr__" = some none)
    (hb : subIn K (.ref C) (.type "BaseException") = some true)
    (h : ∀ A' E', wpAny (model prog w) A' (Builtin.«object.__getattribute__» ⟨[.ref x, .str name tk], []⟩) (fun fin s' => ∃ v, fin = .done (.ret v) ∧ handedIn v = true ∧ Q v s') E' s) :
    wpAny (model prog w) A (getAttrBy (.ref x) (.str name tk) fill expr) Q E s := by
  have L0 := I.type (M := model prog w)
  have L1 := looks_findIn (M := model prog w) XK hga
  have L2 := looks_findIn (M := model prog w) XK hgk
  have hx0 : (expr && onTheHeap (Value.builtin "BaseException.__getattribute__")) = false := by cases expr <;> rfl
  have hx1 : (onTheHeap (Value.ref C) && Value.builtin "BaseException.__getattribute__" == Value.builtin "object.__getattribute__") = false := by rw [xga_ne]; rfl
  unfold getAttrBy
  refine wpAny_holding (wpAny_bind (L0.here (wpAny_bind (L1.here ?_))))
  show wpAny _ _ (if (onTheHeap (Value.ref C) && Value.builtin "BaseException.__getattribute__" == Value.builtin "object.__getattribute__") = true then _ else _) _ _ _
  rw [hx1, if_neg (by decide)]
  unfold getAttrByItsOwn
  refine wpAny_bind ?_
  show wpAny _ _ (typeLookup (.ref C) "__getattr__") _ _ _
  refine L2.here (wpAny_bind (wpAny_attempt (wpAny_holding ?_)))
  unfold callGetattribute
  rw [hx0, if_neg (by decide)]
  unfold boundAndCalled
  rw [PySem.F.attr_ValueError.ga.bind (.ref x)]
  refine wpAny_bind (wpAny_pure (wpAny_call (xga_code XK I hb (wpAny_mono (h _ _) (fun fin s' z => ?_) fun _ _ z => z))))
  obtain ⟨v, rfl, hh, q⟩ := z
  show wpAny _ _ (handedOut v) _ _ _
  rw [handedOut_of hh]
  exact wpAny_pure q
end
end SF
namespace SF
open PySem PySem.Spec PyProof.Rows L2 PySem.W
structure XAsk (K : Frag) (D : Addr) : Prop where
  ga : findIn K (.ref D) "__getattribute__" = some (some (.builtin "BaseException.__getattribute__"))
  gk : findIn K (.ref D) "__getattr__" = some none
  base : subIn K (.ref D) (.type "BaseException") = some true
  cls : findIn K (.ref D) "__class__" = some (some (.builtin "object.__class__"))
  cget : specialIn K (.builtin "object.__class__") "__get__" = some (some (.builtin "getset_descriptor.__get__"))
  ctake : takesIn K (.builtin "object.__class__") = some true
  obj : mroIn K D (.type "object") = some true
  dct : hasDictIn K D = true
  str : findIn K (.ref D) "__str__" = some (some (.builtin "BaseException.__str__"))
section
variable {prog : Program} {w : World} {A : Around} {E : Value → Shared → Prop} {s : Shared} {K : Frag} {x C D : Addr} {ox : Obj} {od : Option Obj} {name : Str} {tk : Tok}
theorem kitx_exc (F : XAsk K D) : KitX K (.ref x) (.ref D) (fun h => ∃ ox od, InstAt h x ox D od) where
  ty := fun _ _ _ ⟨_, _, I⟩ => I.type
  it := fun _ _ X _ => by
    obtain ⟨cdD, hcD, _⟩ := any_some F.dct
    unfold clsIn at hcD
    split at hcD
    · rename_i c' d' cd' sl' ho
      intro A' Q' E' s' k q
      unfold isType loadHead
      exact wpAny_bind (wpAny_loadPart (k _ _ (X _ _ ho)) (wpAny_pure q))
    · cases hcD
  ne := fun h tp dd its n sl X htp => by
    obtain ⟨cdD, hcD, _⟩ := any_some F.dct
    refine Bool.eq_false_iff.mpr fun q => ?_
    have e : D = tp := Value.ref.inj (beq_iff_eq.mp q)
    subst e
    unfold clsIn at hcD
    split at hcD
    · rename_i c' d' cd' sl' ho
      have z := (X _ _ ho).symm.trans htp
      cases z
    · cases hcD
  ca := fun {prog w A E Q s} X ⟨ox, od, I⟩ k => by
    have hf : findObj K D od "__class__" = some (.bind (.builtin "getset_descriptor.__get__") (.builtin "object.__class__")) := by
      obtain ⟨cd, hc, _⟩ := any_some F.dct
      unfold findObj
      simp only [hc, F.cls, F.cget, F.ctake, Option.bind_some]
    unfold getAttr? getAttrBy?
    refine wpAny_bind (wpAny_mkText (wpAny_bind (wpAny_attempt ?_)))
    refine xby (s := { s with toks := s.toks + 1 }) X I F.ga F.gk F.base fun A' E' => ?_
    refine xga_class (s := { s with toks := s.toks + 1 }) X I hf F.obj ⟨_, rfl, rfl, ?_⟩
    exact wpAny_pure k
end
end SF
namespace SF
open PySem PySem.Spec PyProof.Rows L2 PySem.W
noncomputable def tbO (T : Addr) (fl : Value) : HO := .ext fun h => ∃ o ts, h.get? T = some o ∧ o.data = .fields ts ∧ ts[3]? = some fl
theorem tb_ok {T : Addr} {fl : Value} {P : Program} {w : World} {H : Hp} {h : Heap} {o : Obj} {ts : Array Value} (e : h.get? T = some o) (hd : o.data = .fields ts) (h3 : ts[3]? = some fl) : ObjOk P w H h T (tbO T fl) :=
  ⟨⟨o, ts, e, hd, h3⟩, ⟨o, e⟩, fun _ _ ⟨o, ts, e, r⟩ k => ⟨o, ts, k o e, r⟩⟩
section
variable {M : Model} {A : Around} {E : Value → Shared → Prop} {s : Shared} {base : Heap} {env : Env} {outer : List Env} {L e : Addr} {oe : Obj} {vs : Array Value} {head : Value} {Q : Unit → Shared → Prop}
structure Noted (fs : List Addr) (e : Addr) (oe : Obj) (fl : Value) (h h' : Heap) (T : Addr) : Prop where
  new : h.get? T = none
  ent : ∃ oT ts, h'.get? T = some oT ∧ oT.data = .fields ts ∧ ts[3]? = some fl
  ne : T ≠ e
  exc : h'.get? e = some (Obj.mapFields (·.setIfInBounds 1 (.ref T)) oe)
  keep : ∀ b o, b ≠ e → b ∉ fs → h.get? b = some o → h'.get? b = some o
  slot : ∀ b o, b ≠ e → h.get? b = some o → ∃ sl, h'.get? b = some { o with slots := sl }
theorem entry_raw {hadNext : Bool} (hfr : A.frames = some (env :: outer)) (hl : s.heap.FunFrames base (env :: outer)) (hf : env.frame = some L) (he : s.heap.get? e = some oe) (hd : oe.data = .fields vs) (hsz : 1 < vs.size)
    (h : ∀ h' T, Noted (frs (env :: outer)) e oe (rawInt L) s.heap h' T → Q () { s with heap := h' }) :
    wpAny M A (do let a ← frameOf env; let pl ← entryPlaceOf L hadNext; let b ← EntryCells.newEntry head a .none (rawInt L) .none pl; setField (.ref e) 1 b) Q E s := by
  have hene : e ∉ (env :: outer).filterMap (·.frame) := fun hm => by
    obtain ⟨_, o, ho, hnf⟩ := hl.mem hm
    rw [he] at ho; injection ho with ho; subst ho; exact hnf vs hd
  refine wpAny_bind (wpAny_frameOf_fun hfr hl hf fun h₁ hs₁ => ?_)
  refine wpAny_bind (wpAny_entryPlaceOf fun pl hpl => ?_)
  unfold EntryCells.newEntry newFields
  refine wpAny_bind (wpAny_newObj_type ?_ (hpl.sizeOk5 _ _ _ _ _))
  have he₁ : h₁.get? e = some oe := (hs₁.2.1 e hene).trans he
  generalize hoT : ({ cls := .type "traceback", dict := none, data := .fields ([head, .ref L, .none, rawInt L, .none] ++ (if pl.isEmpty then List.replicate 6 Value.none else pl)).toArray } : Obj) = oT
  have he₂ := Heap.get?_push_of_some (h := h₁) oT he₁
  refine wpAny_setField he₂ hd hsz ?_
  have hTe : h₁.objs.size ≠ e := Nat.ne_of_gt (Heap.lt_size he₁)
  have hd₃ := Obj.data_mapFields hd (·.setIfInBounds 1 (Value.ref h₁.objs.size))
  have he₃ := Heap.get?_update_self (Obj.mapFields (·.setIfInBounds 1 (Value.ref h₁.objs.size))) he₂ (Obj.isFreed_of_fields hd₃)
  have hT₃ := (Heap.get?_update_other (h₁.push oT) (Obj.mapFields (·.setIfInBounds 1 (Value.ref h₁.objs.size))) (Ne.symm hTe)).trans (Heap.get?_push_size h₁ (by subst hoT; rfl))
  have keep : ∀ b o, b ≠ e → h₁.get? b = some o → ((h₁.push oT).update e (Obj.mapFields (·.setIfInBounds 1 (Value.ref h₁.objs.size)))).get? b = some o := fun b o hbe hb => by
    rw [Heap.get?_update_other _ _ (Ne.symm hbe)]
    exact Heap.get?_push_of_some _ hb
  refine h _ h₁.objs.size ⟨Heap.get?_none_of_le (by rw [hs₁.1]; exact Nat.le_refl _), ⟨oT, _, hT₃, by subst hoT; rfl, by first | (simp; done) | (rcases hpl with rfl | ⟨_, _, _, _, _, _, _, rfl⟩ <;> simp)⟩, hTe, he₃, fun b o hbe hbf hb => keep b o hbe ((hs₁.2.1 b hbf).trans hb), fun b o hbe hb => ?_⟩
  obtain ⟨sl, q⟩ := hs₁.2.2 b o hb
  exact ⟨sl, keep b _ hbe q⟩
theorem same_field {o : Obj} {ts : Array Value} {i : Nat} {x : Value} (hd : o.data = .fields ts) (h3 : ts[i]? = some x) : Obj.mapFields (·.setIfInBounds i x) o = o := by
  obtain ⟨c, d, dt, sl⟩ := o
  subst hd
  have : ts.setIfInBounds i x = ts := by
    apply Array.ext_getElem?
    intro j
    rw [Array.getElem?_setIfInBounds]
    by_cases q : i = j
    · subst q
      rw [if_pos rfl, h3]
      have := (Array.getElem?_eq_some_iff.mp h3).1
      simp [this]
    · rw [if_neg q]
  simp only [Obj.mapFields, this]
theorem note_raw (hfr : A.frames = some (env :: outer)) (hl : s.heap.FunFrames base (env :: outer)) (hf : env.frame = some L) (he : s.heap.get? e = some oe) (hd : oe.data = .fields vs) (h1 : vs[1]? = some head)
    (hh : head = .none ∨ ∃ T oT ts, head = .ref T ∧ T ≠ e ∧ s.heap.get? T = some oT ∧ oT.data = .fields ts ∧ ts[3]? = some .none)
    (h : ∀ h' T, Noted (frs (env :: outer)) e oe (rawInt L) s.heap h' T → Q () { s with heap := h' }) : wpAny M A (noteFrame (.ref e) env) Q E s := by
  have hsz : 1 < vs.size := (Array.getElem?_eq_some_iff.mp h1).1
  unfold noteFrame
  simp only [hf]
  refine wpAny_bind (wpAny_field he hd h1 ?_)
  rcases hh with rfl | ⟨T, oT, ts, rfl, hTe, hT, hdT, h3⟩
  · rw [if_neg (by decide)]
    exact entry_raw hfr hl hf he hd hsz h
  · rw [if_pos (show (Value.ref T != Value.none) = true from by simp)]
    refine wpAny_bind (wpAny_field hT hdT h3 ?_)
    rw [if_neg (show ¬ ((Value.none == rawInt L) = true) from by simp [rawInt])]
    refine wpAny_bind (wpAny_setField hT hdT (Array.getElem?_eq_some_iff.mp h3).1 ?_)
    have same : ∀ b, (s.heap.update T (Obj.mapFields (·.setIfInBounds 3 Value.none))).get? b = s.heap.get? b := fun b => by
      by_cases q : b = T
      · subst q
        rw [Heap.get?_update_self _ hT (Obj.isFreed_of_fields (Obj.data_mapFields hdT _)), hT, same_field hdT h3]
      · exact Heap.get?_update_other _ _ (Ne.symm q)
    refine entry_raw (base := base) hfr (hl.of_keeps fun b o hb _ => ⟨o, (same b).trans hb, rfl⟩) hf ((same e).trans he) hd hsz fun h' T' N => h h' T' ?_
    exact ⟨(same _).symm.trans N.new, N.ent, N.ne, N.exc, fun b o hbe hbf hb => N.keep b o hbe hbf ((same b).trans hb), fun b o hbe hb => N.slot b o hbe ((same b).trans hb)⟩
theorem flight_raw {T : Addr} {oT : Obj} {ts : Array Value} {fl : Value} (he : s.heap.get? e = some oe) (hd : oe.data = .fields vs) (h1 : vs[1]? = some (.ref T)) (hT : s.heap.get? T = some oT) (hdT : oT.data = .fields ts) (h3 : ts[3]? = some fl)
    (h : ∀ h', (∃ oT' ts', h'.get? T = some oT' ∧ oT'.data = .fields ts' ∧ ts'[3]? = some .none) → (∀ b, b ≠ T → h'.get? b = s.heap.get? b) → Q () { s with heap := h' }) : wpAny M A (setFlight (.ref e) none) Q E s := by
  have hsz := (Array.getElem?_eq_some_iff.mp h3).1
  unfold setFlight
  refine wpAny_bind (wpAny_field he hd h1 ?_)
  rw [if_pos (show (Value.ref T != Value.none) = true from by simp)]
  refine wpAny_setField hT hdT hsz (h _ ⟨_, _, Heap.get?_update_self _ hT (Obj.isFreed_of_fields (Obj.data_mapFields hdT _)), Obj.data_mapFields hdT _, by simp [hsz]⟩ fun b hb => Heap.get?_update_other _ _ (Ne.symm hb))
end
noncomputable def TbOk (H : Hp) (a : Addr) (tb : Value) : Prop := tb = .none ∨ ∃ T, tb = .ref T ∧ T ≠ a ∧ H T = some (tbO T .none)
noncomputable def Sub (a : Addr) (H1 H' : Hp) : Prop := ∀ b o, b ≠ a → H1 b = some o → H' b = some o
theorem Sub.refl {a : Addr} {H : Hp} : Sub a H H := fun _ _ _ e => e
theorem Sub.trans {a : Addr} {H1 H2 H3 : Hp} (x : Sub a H1 H2) (y : Sub a H2 H3) : Sub a H1 H3 := fun b o n e => y b o n (x b o n e)
section
variable {X : Cx} {pins : List (Addr × Obj)} {σ : L2.St} {H : Hp} {s : Shared} {a C t T : Addr} {tb fl : Value} {d : Option Addr} {E : Value → Shared → Prop} {Q : Unit → Shared → Prop}
theorem exc_get {P : Program} {w : World} {h : Heap} (x : HOk P w H h) (ha : H a = some (excO a C t tb d)) : ∃ o vs, h.get? a = some o ∧ o.cls = .ref C ∧ o.dict = d ∧ o.data = .fields vs ∧ vs.size = 6 ∧ vs[0]? = some (.ref t) ∧ vs[1]? = some tb := (x a _ ha).1
theorem tb_get {P : Program} {w : World} {h : Heap} (x : HOk P w H h) (ha : H T = some (tbO T fl)) : ∃ o ts, h.get? T = some o ∧ o.data = .fields ts ∧ ts[3]? = some fl := (x T _ ha).1
theorem note_inv (hst : X.stack = X.env :: X.outer) (hfr : X.env.frame = some X.env.locals) (I : Inv X pins σ H s) (ha : H a = some (excO a C t tb d)) (ht : TbOk H a tb)
    (k : ∀ s' T, H T = none → T ≠ a → Inv X pins σ (upd (upd H a (excO a C t (.ref T) d)) T (tbO T (rawInt X.env.locals))) s' → Q () s') : wpAny (model X.prog X.w) X.A (noteFrame (.ref a) X.env) Q E s := by
  obtain ⟨o, vs, e, hc, hd, hf, h6, h0, h1⟩ := exc_get I.hok ha
  have hfrs : X.A.frames = some (X.env :: X.outer) := by rw [← hst]; exact I.ok.frames
  have hfun : s.heap.FunFrames X.base (X.env :: X.outer) := by rw [← hst]; exact I.stack
  have free : ∀ b ∈ frs (X.env :: X.outer), H b = none := by rw [← hst]; exact I.stkFree
  refine note_raw hfrs hfun hfr e hf h1 ?_ fun h' T N => ?_
  · rcases ht with rfl | ⟨T, rfl, n, q⟩
    · exact .inl rfl
    · obtain ⟨oT, ts, x, y, z⟩ := tb_get I.hok q
      exact .inr ⟨T, oT, ts, rfl, n, x, y, z⟩
  · have hTn : H T = none := hok_none I.hok N.new
    obtain ⟨oT, ts, x1, x2, x3⟩ := N.ent
    have nea : ∀ b u, H b = some u → (∀ φ, u ≠ .ext φ) → b ≠ a := fun b u q n z => by subst z; rw [ha] at q; cases q; exact n _ rfl
    have neT : ∀ b u, H b = some u → b ≠ T := fun b u q z => by subst z; rw [hTn] at q; cases q
    have nea0 : ∀ b, H b = none → b ≠ a := fun b q z => by subst z; rw [ha] at q; cases q
    have un : Un (frs X.stack) [] H (upd (upd H a (excO a C t (.ref T) d)) T (tbO T (rawInt X.env.locals))) s.heap h' := by
      rw [hst]
      exact ⟨fun b ob q n hb _ => N.keep b ob (nea0 b n) hb q, fun b ob q n _ _ => N.slot b ob (nea0 b n) q, fun b ob q n _ => by rw [upd_ne (fun z => by subst z; rw [N.new] at q; cases q), upd_ne (nea0 b n)]; exact n,
        fun b ob q _ => by
          by_cases z : b = a
          · subst z; exact ⟨_, N.exc⟩
          · obtain ⟨sl, q⟩ := N.slot b ob z q; exact ⟨_, q⟩,
        fun b xs q => by rw [upd_ne (neT b _ q), upd_ne (nea b _ q (fun _ z => nomatch z))]; exact q, fun b u xs q => by rw [upd_ne (neT b _ q), upd_ne (nea b _ q (fun _ z => nomatch z))]; exact q,
        fun b ps q => ⟨#[], by rw [upd_ne (neT b _ q), upd_ne (nea b _ q (fun _ z => nomatch z)), q]; simp⟩⟩
    have hok : HOk X.prog X.w (upd (upd H a (excO a C t (.ref T) d)) T (tbO T (rawInt X.env.locals))) h' := fun b u q => by
      by_cases hbT : b = T
      · subst hbT; rw [upd_same] at q; cases q
        exact tb_ok x1 x2 x3
      · rw [upd_ne hbT] at q
        by_cases hba : b = a
        · subst hba; rw [upd_same] at q; cases q
          refine exc_stay N.exc ((Obj.cls_mapFields _ _).trans hc) ?_ (Obj.data_mapFields hf _) (by simp [h6]) (by rw [Array.getElem?_setIfInBounds_ne (by decide)]; exact h0) (by simp [h6])
          obtain ⟨cc, dd, dt, sl⟩ := o
          simp only at hf
          subst hf
          exact hd
        · rw [upd_ne hba] at q
          refine (I.hok b u q).stay (fun c v hc e => ?_) (fun c r => by rw [upd_ne (neT c _ r), upd_ne (nea c _ r (fun _ z => nomatch z))]; exact r) fun c xs r => by rw [upd_ne (neT c _ r), upd_ne (nea c _ r (fun _ z => nomatch z))]; exact r
          refine N.keep c v ?_ (fun z => ?_) e
          · rcases hc with rfl | hc
            · exact hba
            · exact nea c _ hc (fun _ z => nomatch z)
          · have := free c z
            rcases hc with rfl | hc
            · rw [this] at q; cases q
            · rw [this] at hc; cases hc
    exact k _ T hTn N.ne (I.call (g' := s.gens) (d' := s.drawn) (t' := s.toks) (ch := []) un hok I.bare (fun b z => absurd z (by simp)))
theorem tb_mut : Mut (some (tbO T fl)) := trivial
theorem land_inv (I : Inv X pins σ H s) (ha : H a = some (excO a C t (.ref T) d)) (hT : H T = some (tbO T fl)) (k : ∀ s', Inv X pins σ (upd H T (tbO T .none)) s' → Q () s') {A : Around} : wpAny (model X.prog X.w) A (setFlight (.ref a) none) Q E s := by
  obtain ⟨o, vs, e, hc, hd, hf, h6, h0, h1⟩ := exc_get I.hok ha
  obtain ⟨oT, ts, x, y, z⟩ := tb_get I.hok hT
  refine flight_raw e hf h1 x y z fun h' ⟨oT', ts', p, q, r⟩ other => ?_
  have keep : ∀ b u, b ≠ T → s.heap.get? b = some u → h'.get? b = some u := fun b u n e => (other b n).trans e
  have mu : Mut (H T) := by rw [hT]; exact tb_mut
  exact k _ (I.un (t' := s.toks) (Un.write mu (.inl rfl) keep ⟨_, p⟩) (I.hok.write mu (.inl rfl) keep ⟨_, p⟩ (tb_ok p q r)))
theorem leave_inv (hst : X.stack = X.env :: X.outer) (hfr : X.env.frame = some X.env.locals) (I : Inv X pins σ H s) (ha : H a = some (excO a C t tb d)) (ht : TbOk H a tb)
    (k : ∀ s' H' T, Inv X pins σ H' s' → H' a = some (excO a C t (.ref T) d) → TbOk H' a (.ref T) → Sub a H H' → Q () s') : wpAny (model X.prog X.w) X.A (leaving X.env (.ref a)) Q E s := by
  unfold leaving
  refine wpAny_bind (note_inv hst hfr I ha ht fun s1 T hTn hne I1 => ?_)
  refine land_inv (T := T) (fl := rawInt X.env.locals) (C := C) (t := t) (d := d) I1 (by rw [upd_ne (Ne.symm hne), upd_same]) (by rw [upd_same]) fun s2 I2 => ?_
  rw [upd_upd] at I2
  refine k s2 _ T I2 (by rw [upd_ne (Ne.symm hne), upd_same]) (.inr ⟨T, rfl, hne, by rw [upd_same]⟩) fun b o n e => ?_
  rw [upd_ne (fun z => by subst z; rw [hTn] at e; cases e), upd_ne n]; exact e
end
noncomputable def CXF (P : Program) (w : World) : CXT := fun outer H s E e s' => ∃ a C t tb d H1 H' tb0, e = .ref a ∧ s'.os = s.os ∧ AllBare s'.gens ∧ Un (frs outer) [] H H' s.heap s'.heap ∧ HOk P w H' s'.heap ∧
  H' a = some (excO a C t tb d) ∧ TbOk H' a tb ∧ Sub a H1 H' ∧ H1 a = some (excO a C t tb0 d) ∧ E (.ref C) d H1
noncomputable def LeavesTo (X : Cx) (E : XK) : Prop := ∀ pins σ H' s' a C t tb d H1 tb0, Inv X pins σ H' s' → H' a = some (excO a C t tb d) → TbOk H' a tb → Sub a H1 H' → H1 a = some (excO a C t tb0 d) → E (.ref C) d H1 → X.xe (.ref a) s'
theorem LeavesTo.passes {X : Cx} {E : XK} (h : LeavesTo X E) : Passes (CXF X.prog X.w) X E := fun pins σ H s e s' I ⟨a, C, t, tb, d, H1, H', tb0, r, os, bare, un, hok, ha, ht, hs, h1, hE⟩ => by
  subst r
  exact h pins σ H' s' a C t tb d H1 tb0 (I.call' (ch := []) os un hok bare fun b z => absurd z (by simp)) ha ht hs h1 hE
theorem made_inv' {X : Cx} {C : Addr} {pins : List (Addr × Obj)} {σ : L2.St} {H : Hp} {s : Shared} {h' : Heap} {e : Addr} {us : List Value} {vs : List V} (I : Inv X pins σ H s) (r : Vals vs us) (hl : vs.length ≤ 1000) (hm : Heap.MadeExcOf s.heap h' e (.ref C) us) :
    ∃ tp, H e = none ∧ H tp = none ∧ e ≠ tp ∧ Inv X pins σ (upd (upd H tp (.tup vs)) e (excO e C tp .none none)) { s with heap := h' } := by
  obtain ⟨v, H', I', rv, x, tp, e1, e2, e3, rfl, e4⟩ := made_inv (Q := fun v H' => ∃ x tp, H x = none ∧ H tp = none ∧ x ≠ tp ∧ v = .ref x ∧ H' = upd (upd H tp (.tup vs)) x (excO x C tp .none none)) I r hl hm fun x tp a b c => ⟨x, tp, a, b, c, rfl, rfl⟩
  have : e = x := Value.ref.inj rv
  subst this e4
  exact ⟨tp, e1, e2, e3, I'⟩
end SF
namespace SF
open PySem PySem.Spec PyProof.Rows L2 PySem.W
structure RoomG (cm : Bool) (k : Nat) (A : Around) : Prop where
  hd : cm = true → A.handled = none
  dp : A.depth + 3 * k + 5 < recursionLimit
  un : A.units + 16 * k + 200 < cLine
section
variable {cm : Bool} {j k : Nat} {A : Around}
theorem roomG (r : Room k A) : RoomG cm k A := ⟨fun _ => r.hd, r.dp, r.un⟩
theorem RoomG.calm (r : RoomG true k A) : Room k A := ⟨r.hd rfl, r.dp, r.un⟩
theorem RoomG.deeper (r : RoomG cm (k + 1) A) (env : Env) : RoomG cm k (A.deeper env) :=
  ⟨r.hd, by have := r.dp; show A.depth + 1 + 3 * k + 5 < _; lia, by have := r.un; show A.units + 3 + 16 * k + 200 < _; lia⟩
theorem RoomG.mono (r : RoomG cm k A) (h : j ≤ k) : RoomG cm j A := ⟨r.hd, by have := r.dp; lia, by have := r.un; lia⟩
theorem RoomG.mark {v : Option Value} (r : RoomG cm k A) : RoomG false k (A.mark v) := ⟨nofun, r.dp, r.un⟩
theorem RoomG.depth (r : RoomG cm k A) : A.depth < recursionLimit := by have := r.dp; lia
end
section
variable {X : Cx} {pins : List (Addr × Obj)} {σ : L2.St} {H : Hp} {s : Shared}
noncomputable abbrev reC (X : Cx) (A : Around) (cm : Bool) (E : Value → Shared → Prop) : Cx := { X with A := A, calm := cm, xe := E }
theorem inv_re {A : Around} {cm : Bool} {E : Value → Shared → Prop} (I : Inv X pins σ H s) (hf : A.frames = some X.stack) (hh : cm = true → A.handled = none) : Inv (reC X A cm E) pins σ H s :=
  ⟨⟨I.ok.mod, I.ok.kind, I.ok.glob, I.ok.blt, I.ok.above, I.ok.inj, I.ok.has, I.ok.cab, hh, hf, I.ok.stk, I.ok.exf, I.ok.bs, I.ok.bsz, I.ok.noex, I.ok.exfs, I.ok.funs, I.ok.frf⟩, I.os, I.bare, I.base, I.loc, I.cell, I.free, I.freeC, I.pin, I.hok, I.len⟩
theorem inv_back {A : Around} {cm : Bool} {E : Value → Shared → Prop} (ok : X.Ok) (I : Inv (reC X A cm E) pins σ H s) : Inv X pins σ H s := ⟨ok, I.os, I.bare, I.base, I.loc, I.cell, I.free, I.freeC, I.pin, I.hok, I.len⟩
noncomputable abbrev inTry (X : Cx) (pins : List (Addr × Obj)) (E : XK) : Cx := { X with pn := X.pn ++ pins, xe := fun e s' => ∃ a C t tb d σ H1 H' tb0, e = .ref a ∧ Inv X pins σ H' s' ∧ H' a = some (excO a C t tb d) ∧ TbOk H' a tb ∧ Sub a H1 H' ∧ H1 a = some (excO a C t tb0 d) ∧ E (.ref C) d H1 }
theorem un_try {E : XK} {pins' : List (Addr × Obj)} (I : Inv (inTry X pins E) pins' σ H s) : Inv X pins σ H s :=
  ⟨⟨I.ok.mod, I.ok.kind, I.ok.glob, I.ok.blt, I.ok.above, I.ok.inj, I.ok.has, I.ok.cab, I.ok.hd, I.ok.frames, I.ok.stk, I.ok.exf, I.ok.bs, I.ok.bsz, I.ok.noex, I.ok.exfs, I.ok.funs, I.ok.frf⟩, I.os, I.bare, I.base, I.loc, I.cell, I.free, I.freeC,
    fun p hp => I.pin p (List.mem_append_left _ hp), I.hok, I.len⟩
theorem to_try {E : XK} (I : Inv X pins σ H s) : Inv (inTry X pins E) [] σ H s :=
  ⟨⟨I.ok.mod, I.ok.kind, I.ok.glob, I.ok.blt, I.ok.above, I.ok.inj, I.ok.has, I.ok.cab, I.ok.hd, I.ok.frames, I.ok.stk, I.ok.exf, I.ok.bs, I.ok.bsz, I.ok.noex, I.ok.exfs, I.ok.funs, I.ok.frf⟩, I.os, I.bare, I.base, I.loc, I.cell, I.free, I.freeC,
    fun p hp => I.pin p (by rcases List.mem_append.mp hp with z | z; exact z; cases z), I.hok, I.len⟩
theorem leaves_try {E : XK} : LeavesTo (inTry X pins E) E := fun _ σ H' _ a C t tb d H1 tb0 I ha ht hs h1 hE => ⟨a, C, t, tb, d, σ, H1, H', tb0, rfl, un_try I, ha, ht, hs, h1, hE⟩
noncomputable abbrev inSuite (X : Cx) (a : Addr) : Cx := reC X (X.A.mark (some (.ref a))) false fun _ _ => False
theorem in_suite {a : Addr} (I : Inv X pins σ H s) : Inv (inSuite X a) pins σ H s := inv_re I I.ok.frames nofun
theorem inv_gone {i : Nat} {n : Str} {h' : Heap} {v : Option Value} {m : Str → Option Value} {tk : Nat} (I : Inv X pins σ H s) (hN : X.N.Nodup) (hi : X.N[i]? = some n) (hl : X.env.kindOf n = some .local)
    (hm : ∀ (j : Nat) (x : Str) (v : V), X.N[j]? = some x → σ[j]? = some (some v) → Vis X.env.scope x → ∃ u, RelV v u ∧ Look X.env s.heap m x u)
    (hn : h'.Ns X.env.locals (fun x => if x = n then v else m x)) (hs : Heap.SameBut X.env.locals s.heap h') : Inv X pins (σ.set i none) H { s with heap := h', toks := tk } := by
  have hiσ : i < σ.length := by rw [I.len]; exact (List.getElem?_eq_some_iff.mp hi).1
  have old : ∀ b o, X.s₀.heap.get? b = some o → b ≠ X.env.locals := fun b o e => Nat.ne_of_lt (Nat.lt_of_lt_of_le (Heap.lt_size e) I.ok.above)
  refine ⟨I.ok, I.os, I.bare, ⟨fun b o e n hb hx => (hs.2 b (old b o e)).trans (I.base.keep b o e n hb hx), fun b o e n hb hx => ?_, I.base.free, fun b o e hx => ?_, I.base.tups, I.base.frzs, I.base.tbls⟩, ⟨_, hn, fun j y v' e1 e2 e3 => ?_⟩, fun y c e => ?_, I.free, I.freeC, fun p hp => ?_, fun b o e => ?_, by simpa using I.len⟩
  · obtain ⟨sl, e1⟩ := I.base.slot b o e n hb hx
    exact ⟨sl, (hs.2 b (old b o e)).trans e1⟩
  · obtain ⟨o', e1⟩ := I.base.there b o e hx
    exact ⟨o', (hs.2 b (old b o e)).trans e1⟩
  · by_cases hj : j = i
    · subst hj
      rw [List.getElem?_set_self hiσ] at e2
      cases e2
    · rw [List.getElem?_set_ne (Ne.symm hj)] at e2
      obtain ⟨u', r', q⟩ := hm j y v' e1 e2 e3
      refine ⟨u', r', ?_⟩
      rcases q with ⟨k, e⟩ | ⟨k, c, e, z⟩
      · have ne : y ≠ n := fun e => hj (nodup_ix hN e1 (e ▸ hi))
        exact .inl ⟨k, (show (if y = n then v else m y) = some u' from (if_neg ne).trans e)⟩
      · exact .inr ⟨k, c, e, z.sameBut hs (I.cne y c e)⟩
  · obtain ⟨w', z⟩ := I.cell y c e
    exact ⟨w', z.sameBut hs (I.cne y c e)⟩
  · obtain ⟨e, n, ne, nf, d⟩ := I.pin p hp
    exact ⟨(hs.2 p.1 ne).trans e, n, ne, nf, d⟩
  · refine (I.hok b o e).stay (fun c v hc q => (hs.2 c ?_).trans q) (fun _ q => q) fun _ _ q => q
    rintro rfl
    rcases hc with z | z
    · rw [← z, I.free] at e; cases e
    · rw [I.free] at z; cases z
theorem name_goes {M : Model} {A : Around} {E : Value → Shared → Prop} {i : Nat} {n : Str} {pos : Pos} {Q : Unit → Shared → Prop} (I : Inv X pins σ H s) (hN : X.N.Nodup) (hi : X.N[i]? = some n) (hl : X.env.kindOf n = some .local) (h : ∀ s', Inv X pins (σ.set i none) H s' → Q () s') :
    wpAny M A (do bindName X.env n .none; unbindBehindTheSuite X.env n pos) Q E s := by
  obtain ⟨m, hn, hm⟩ := id I.loc
  have hcls : (X.env.scope.kind == .class || (X.env.scope.kind == .module && X.env.locals != X.env.globals)) = false := by rw [I.ok.kind]; rfl
  exact wpAny_nameGoes_keeps hl hn hcls fun h' v hn' hs => h _ (inv_gone I hN hi hl hm hn' hs)
end
noncomputable def tTry (E : XK) (i : Nat) (tb ts : TS) : TS := fun D σ H => tb D σ H ∧ ∀ (σ' : L2.St) (H' : Hp) (a C t : Addr) (tb : Value) (d : Option Addr) (H1 : Hp) (tb0 : Value), σ'.length = σ.length → H' a = some (excO a C t tb d) → Sub a H1 H' → H1 a = some (excO a C t tb0 d) → E (.ref C) d H1 →
  ts { nx := fun σ2 H2 => D.nx (σ2.set i none) H2, rt := D.rt, bk := fun σ2 H2 => D.bk (σ2.set i none) H2, ct := fun σ2 H2 => D.ct (σ2.set i none) H2 } (σ'.set i (some (.ref a))) H'
theorem ps_try {X : Cx} {E : XK} {body suite : List Stmt} {b₀ : Stmt} {tb ts : TS} {c : Addr} {x n : Str} {i : Nat} {p hp pos : Pos} (hst : X.stack = X.env :: X.outer) (hfr : X.env.frame = some X.env.locals)
    (hb : ∀ pins, PSs (inTry X pins E) body tb) (hs : ∀ a, PSs (inSuite X a) (b₀ :: suite) ts) (hg : Gl X x) (hm : X.mg x = some (.ref c)) (hE : ∀ C d H, E (.ref C) d H → exmOne X.K (.ref C) (.ref c) = some true)
    (hN : X.N.Nodup) (hi : X.N[i]? = some n) (hl : X.env.kindOf n = some .local) (hdb : (x == ("__debug__" : Str)) = false := by decide) :
    L2.PS X (.Try body [.ExceptHandler (some (.Name x p)) (some n) (b₀ :: suite) hp] [] [] pos) (tTry E i tb ts) := by
  intro pins s σ H D I h
  refine wpAny_Try_except (wpAny_mono (hb pins [] s σ H D (to_try I) h.1) (fun f s1 q => ?_) fun e s1 q => ?_)
  · cases f with
    | next => obtain ⟨σ', H', J, q⟩ := q; exact wpAny_execs_nil ⟨σ', H', un_try J, q⟩
    | brk => obtain ⟨σ', H', J, q⟩ := q; exact ⟨σ', H', un_try J, q⟩
    | cont => obtain ⟨σ', H', J, q⟩ := q; exact ⟨σ', H', un_try J, q⟩
    | ret u => obtain ⟨v, σ', H', J, r, q⟩ := q; exact ⟨v, σ', H', un_try J, r, q⟩
  · obtain ⟨a, C, t, tbv, d, σ', H1, H', tb0, rfl, J, ha, ht, hsub, h1a, hEa⟩ := q
    refine note_inv hst hfr J ha ht fun s2 T hTn hne J2 => ?_
    have ha2 : upd (upd H' a (excO a C t (.ref T) d)) T (tbO T (rawInt X.env.locals)) a = some (excO a C t (.ref T) d) := by rw [upd_ne (Ne.symm hne), upd_same]
    refine land_inv (T := T) (fl := rawInt X.env.locals) (C := C) (t := t) (d := d) J2 ha2 (by rw [upd_same]) fun s3 J3 => ?_
    rw [upd_upd] at J3
    have ha3 : upd (upd H' a (excO a C t (.ref T) d)) T (tbO T .none) a = some (excO a C t (.ref T) d) := by rw [upd_ne (Ne.symm hne), upd_same]
    have hT3 : upd (upd H' a (excO a C t (.ref T) d)) T (tbO T .none) T = some (tbO T .none) := by rw [upd_same]
    have hs3 : Sub a H1 (upd (upd H' a (excO a C t (.ref T) d)) T (tbO T .none)) := hsub.trans fun b o n e => by
      rw [upd_ne (fun z => by subst z; rw [hTn] at e; cases e), upd_ne n]; exact e
    generalize upd (upd H' a (excO a C t (.ref T) d)) T (tbO T .none) = H3 at J3 ha3 hT3 hs3
    have K3 : Inv (inSuite X a) pins σ' H3 s3 := in_suite J3
    refine wpAny_handleBy_cons (codeAny_handlers_test ?_) (by intro q; cases q)
    refine ld_glob (X := inSuite X a) K3 hg hm ?_ hdb
    obtain ⟨o, vs, e, hc, hd, hf, h6, h0, h1⟩ := exc_get J3.hok ha3
    have LT : Looks (model X.prog X.w) s3.heap (typeOf (.ref a)) (.ref C) := fun A' Q' E' s' k q => by
      unfold typeOf
      dsimp only
      exact wpAny_bind (wpAny_loadPart (k _ _ e) (wpAny_pure (by rw [hc]; exact q)))
    refine (exm_one J3.kIn LT (hE _ _ _ hEa)).here ?_
    refine codeAny_handlers_suite_as (land_inv (X := inSuite X a) (T := T) (fl := .none) (C := C) (t := t) (d := d) K3 ha3 hT3 fun s4 K4 => ?_)
    have e4 : upd H3 T (tbO T .none) = H3 := by
      funext b; unfold upd; by_cases z : b = T
      · rw [if_pos z, z, hT3]
      · rw [if_neg z]
    rw [e4] at K4
    refine store_ok (X := inSuite X a) (v := .ref a) K4 hN hi (.inl hl) rfl (fun s5 K5 => ?_) (.inr hl)
    have hlen : σ'.length = σ.length := by rw [J.len, I.len]
    refine wpAny_mono (hs a pins s5 _ H3 _ K5 (h.2 σ' H3 a C t (.ref T) d H1 tb0 hlen ha3 hs3 h1a hEa)) (fun f s6 q => ?_) fun _ _ z => z.elim
    cases f with
    | next => obtain ⟨σ6, H6, K6, q⟩ := q; exact name_goes (inv_back J.ok K6) hN hi hl fun s7 K7 => ⟨_, H6, K7, q⟩
    | brk => obtain ⟨σ6, H6, K6, q⟩ := q; exact name_goes (inv_back J.ok K6) hN hi hl fun s7 K7 => ⟨_, H6, K7, q⟩
    | cont => obtain ⟨σ6, H6, K6, q⟩ := q; exact name_goes (inv_back J.ok K6) hN hi hl fun s7 K7 => ⟨_, H6, K7, q⟩
    | ret u => obtain ⟨v, σ6, H6, K6, r, q⟩ := q; exact name_goes (inv_back J.ok K6) hN hi hl fun s7 K7 => ⟨v, _, H6, K7, r, q⟩
structure FnG (P : Program) (w : World) (K : Frag) (mg : Str → Option Value) (base : Heap) (CX : CXT) (cm : Bool) (k : Nat) (f : Addr) (fd : FuncData) (ps : List Str) (sp : Shared → Sp) : Prop where
  len : ∀ s vs H Q E, sp s vs H Q E → vs.length = ps.length
  run : ∀ (A : Around) (outer : List Env) (s : Shared) (H : Hp) (args : Args) (us : List Value) (vs : List V) (Q : VK) (E : XK), RoomG cm k A → Env0 P w K mg base A outer s H → BindsTo s fd args (ps.zip us) → Vals vs us → sp s vs H Q E →
    codeAny (model P w) A (.call (.ref f) args) (CR CX outer P w H s Q E) s
noncomputable abbrev cxG (CX : CXT) (cm : Bool) (P : Program) (w : World) (K : Frag) (mg : Str → Option Value) (base : Heap) (N : List Str) (qual : Str) (scope : Scope) (f : Addr) (cd : Value) (A : Around) (outer : List Env) (s : Shared) (H : Hp) (E : XK) : Cx :=
  { cxOf CX P w K mg base N qual scope f cd A outer s H E with calm := cm }
section
variable {P : Program} {w : World} {K : Frag} {mg : Str → Option Value} {base : Heap} {CX : CXT} {cm : Bool} {k : Nat}
theorem inv_startG {N ps : List Str} {qual : Str} {scope : Scope} {f : Addr} {cd : Value} {A : Around} {outer : List Env} {s s1 : Shared} {H : Hp} {E : XK} {us : List Value} {vs : List V}
    (S : FnScope N ps scope) (hd : cm = true → A.handled = none) (e0 : Env0 P w K mg base A outer s H) (hl : vs.length = ps.length) (r : Vals vs us)
    (x : InCallC s s.heap.objs.size (bindL (envOfC qual scope s.heap.objs.size f cd).kindOf (ps.zip us) fun _ => none) (cellsFrom (s.heap.objs.size + 1) scope.names []) (bindC (envOfC qual scope s.heap.objs.size f cd).kindOf (ps.zip us) fun _ => none) s1) :
    Inv (cxG CX cm P w K mg base N qual scope f cd A outer s H E) [] (start N vs) H s1 := by
  have e1 : Env0 P w K mg base { A with handled := none } outer s H := ⟨e0.frames, e0.mod, e0.bs, e0.bsz, e0.funs, e0.frf, e0.hok, e0.bare⟩
  have I := inv_start (CX := CX) (E := E) S (A := { A with handled := none }) rfl e1 hl r x
  exact inv_re (X := cxOf CX P w K mg base N qual scope f cd { A with handled := none } outer s H E) (A := A.deeper (envOfC qual scope s.heap.objs.size f cd)) (cm := cm) (E := (cxOf CX P w K mg base N qual scope f cd A outer s H E).xe) I (Around.frames_deeper e0.frames) hd
theorem _root_.L2.Fun.okG {x qual : Str} {st : Stmt} {f : Addr} {fd : FuncData} {N ps : List Str} {sp : Shared → Sp} (F : Fun K x qual st f fd) (S : FnScope N ps (defScope st)) (len : ∀ s vs H Q E, sp s vs H Q E → vs.length = ps.length)
    (hbody : ∀ (cdv : Value) (A : Around) (outer : List Env) (s : Shared) (H : Hp) (vs : List V) (Q : VK) (E : XK), codeIn K cdv qual = true → fd.code = cdv → RoomG cm k (A.deeper (envOfC qual (defScope st) s.heap.objs.size f cdv)) → sp s vs H Q E →
      ∃ t, PSs (cxG CX cm P w K mg base N qual (defScope st) f cdv A outer s H E) (defBody st) t ∧ t { nx := fun _ H' => Q .non H', rt := Q } (start N vs) H) : FnG P w K mg base CX cm (k + 1) f fd ps sp := by
  obtain ⟨oc, od, kV, doc, pm, an, cdv, ct, osl, rfl, lk, hcd⟩ := F.ex
  refine ⟨len, fun A outer s H args us vs Q E hr e0 hb r hsp => ?_⟩
  have KX : K.In s.heap := e0.mod.kin.keeps fun b o e => (e0.bs b o e).1
  have lim : s.heap.NoLimit := e0.mod.nolimit.keeps fun b o e => (e0.bs b o e).1
  refine codeAny_call_function hr.depth (KX _ _ lk) rfl S.co S.gen rfl (codeRec_of KX hcd) (hb _ _ _ _ ?_)
  refine wpAny_newFunctionEnv_cells S.kind (fun ⟨n, v⟩ hy => ?_) fun env he s1 x => ?_
  · rcases S.par n (List.of_mem_zip hy).1 with q | q
    · exact .inl q
    · exact .inr ⟨q, cellsFrom_some _ _ _ (.inl q)⟩
  · subst he
    refine ⟨lim.keeps x.toInCall.keep, codeAny_func ?_⟩
    obtain ⟨t, ht, hq⟩ := hbody cdv A outer s H vs Q E hcd rfl (hr.deeper _) hsp
    have I : Inv (cxG CX cm P w K mg base N qual (defScope st) f cdv A outer s H E) [] (start N vs) H s1 := inv_startG S hr.hd e0 (len _ _ _ _ _ hsp) r x
    refine wpAny_mono (ht [] s1 _ H _ I hq) (fun fl s' hs => ?_) fun e s' hs => hs
    cases fl with
    | ret u => obtain ⟨v, σ', H', J, rv, q⟩ := hs; exact ⟨v, H', J.os, J.bare, J.base, J.hok, rv, q⟩
    | next => obtain ⟨σ', H', J, q⟩ := hs; exact ⟨.non, H', J.os, J.bare, J.base, J.hok, rfl, q⟩
    | brk => obtain ⟨_, _, _, q⟩ := hs; exact q.elim
    | cont => obtain ⟨_, _, _, q⟩ := hs; exact q.elim
end
structure FnGB (P : Program) (w : World) (K : Frag) (mg : Str → Option Value) (base : Heap) (CX : CXT) (cm : Bool) (k : Nat) (x : Str) (ps : List Str) (sp : Shared → Sp) : Prop where
  ex : ∃ f fd, FnG P w K mg base CX cm k f fd ps sp ∧ mg x = some (.ref f) ∧ keepIn K (.ref f) = true ∧ Binds K fd ps []
theorem _root_.L2.DefB.okG {P : Program} {w : World} {K : Frag} {mg : Str → Option Value} {base : Heap} {CX : CXT} {cm : Bool} {k : Nat} {x : Str} {st : Stmt} {N ps : List Str} {sp : Shared → Sp} (D : DefB K mg x st ps) (S : FnScope N ps (defScope st)) (len : ∀ s vs H Q E, sp s vs H Q E → vs.length = ps.length)
    (hbody : ∀ (f : Addr) (cdv : Value) (A : Around) (outer : List Env) (s : Shared) (H : Hp) (vs : List V) (Q : VK) (E : XK), codeIn K cdv x = true → RoomG cm k (A.deeper (envOfC x (defScope st) s.heap.objs.size f cdv)) → sp s vs H Q E →
      ∃ t, PSs (cxG CX cm P w K mg base N x (defScope st) f cdv A outer s H E) (defBody st) t ∧ t { nx := fun _ H' => Q .non H', rt := Q } (start N vs) H) : FnGB P w K mg base CX cm (k + 1) x ps sp :=
  let ⟨f, fd, a, b, c⟩ := D.ex
  ⟨f, fd, a.okG S len fun cdv A outer s H vs Q E hc _ => hbody f cdv A outer s H vs Q E hc, b, a.kp, c⟩
theorem leaves_cxG {cm : Bool} {P : Program} {w : World} {K : Frag} {mg : Str → Option Value} {base : Heap} {N : List Str} {qual : Str} {scope : Scope} {f : Addr} {cd : Value} {A : Around} {outer : List Env} {s : Shared} {H : Hp} {E : XK} :
    LeavesTo (cxG (CXF P w) cm P w K mg base N qual scope f cd A outer s H E) E := fun pins σ H' s' a C t tb d H1 tb0 I ha ht hs h1 hE => by
  show wpAny _ _ (leaving _ _) _ _ _
  exact leave_inv (X := cxG (CXF P w) cm P w K mg base N qual scope f cd A outer s H E) rfl rfl I ha ht fun s2 H2 T J ha2 ht2 hs2 =>
    ⟨a, C, t, _, d, H1, H2, tb0, rfl, J.os, J.bare, J.base, J.hok, ha2, ht2, hs.trans hs2, h1, hE⟩
section
variable {X : Cx} {CX : CXT} {cm : Bool} {k : Nat} {f : Addr} {fd : FuncData} {ps : List Str} {E : XK} {x : Str} {p pos : Pos} {e : Expr} {es : List Expr} {t : TA}
theorem run_fnG {sp : Shared → Sp} {pins : List (Addr × Obj)} {σ : L2.St} {H : Hp} {s : Shared} {Q : VK} {us : List Value} {vs : List V} (F : FnG X.prog X.w X.K X.mg X.base CX cm k f fd ps sp) (hr : RoomG cm k X.A) (hb : Binds X.K fd ps []) (hx : Passes CX X E)
    (I : Inv X pins σ H s) (r : Vals vs us) (h : sp s vs H Q E) : wpAny (model X.prog X.w) X.A (call (.ref f) us) (EP X pins σ Q) X.xe s := by
  have hl : us.length = ps.length := by rw [← r.length]; exact F.len _ _ _ _ _ h
  have hbb : BindsTo s fd ⟨us, []⟩ (ps.zip us) := by
    have := hb s us I.kIn (by rw [List.append_nil]; exact hl)
    rw [List.append_nil] at this
    exact this
  refine wpAny_call (codeAny_mono (F.run X.A X.stack s H ⟨us, []⟩ us vs Q E hr I.env0 hbb r h) fun r s' hq => ?_)
  cases r with
  | error e => exact hx pins σ H s e s' I hq
  | ok fl =>
    cases fl with
    | ret u => exact I.after hq
    | next => exact False.elim hq
    | brk => exact False.elim hq
    | cont => exact False.elim hq
theorem pe_fnG {sp : Sp} (F : FnGB X.prog X.w X.K X.mg X.base CX cm k x ps fun _ => sp) (hr : RoomG cm k X.A) (hx : Passes CX X E) (ha : PA X (e :: es) t)
    (hg : Gl X x := by rfl) (hdb : (x == ("__debug__" : Str)) = false := by decide) (he : starEach (e :: es) X.env = (false, eval e X.env) :: starEach es X.env := by rfl)
    (hpl : (backTo pos (starEach es X.env)).any (·.1) = false := by rfl) : PE X (.Call (.Name x p) (e :: es) [] pos) (tCall sp [] E t) := by
  obtain ⟨f, fd, a, b, c, d⟩ := F.ex
  intro pins s σ H Q I h
  refine wpAny_Call_Name_kw (ld_glob I hg b ?_ hdb)
  refine callWith_K (h₀ := X.base) I.ok.mod.kin c (thn (ha pos pins s σ H _ I h) fun us s1 ⟨vs, H1, I1, r, q⟩ => ⟨I1.kIn, ?_⟩) he hpl
  have q' : sp (vs ++ []) H1 Q E := q
  rw [List.append_nil] at q'
  exact run_fnG a hr d hx I1 r q'
end
end SF
namespace SF
open PySem PySem.Spec PyProof.Rows L2 PySem.W
noncomputable def lamO (f : Addr) (name qual : Str) (params : Arguments) (body : Expr) (scope : Scope) (cl : List (Str × Addr)) (c' : Addr) : HO := .ext fun h => ∃ pm ctv, h.get? f = some (kla_obj name qual params body scope cl pm c' ctv)
noncomputable def BMain (base : Heap) (mg : Str → Option Value) : Prop := ∃ bm ob, mg "__builtins__" = some (.ref bm) ∧ bm ≠ builtinsNs ∧ bm ≠ mainGlobals ∧ base.get? bm = some ob ∧ ob.cls = .type "module" ∧ ob.dict = some builtinsNs ∧ ob.data = .plain
structure LamScope (N ps : List Str) (sc : Scope) : Prop where
  kind : sc.kind = .function
  co : sc.isCoroutine = false
  gen : sc.isGenerator = false
  par : ∀ x ∈ ps, sc.names.lookup x = some .local
  nocell : ∀ y ∈ sc.names, y.2 ≠ .cell
noncomputable def cxL (CX : CXT) (cm : Bool) (P : Program) (w : World) (K : Frag) (mg : Str → Option Value) (base : Heap) (N : List Str) (qual : Str) (scope : Scope) (f : Addr) (cd : Value) (cl : List (Str × Addr)) (A : Around) (outer : List Env) (s : Shared) (H : Hp) (E : XK) : Cx where
  prog := P
  w := w
  K := K
  mg := mg
  base := base
  A := A.deeper (envX qual scope s.heap.objs.size f cd cl)
  N := N
  s₀ := s
  H₀ := H
  env := envX qual scope s.heap.objs.size f cd cl
  outer := outer
  stack := envX qual scope s.heap.objs.size f cd cl :: outer
  ex := []
  calm := cm
  fn := fun _ => false
  pn := []
  xe := fun e s' => wpAny (model P w) (A.deeper (envX qual scope s.heap.objs.size f cd cl)) (leaving (envX qual scope s.heap.objs.size f cd cl) e) (fun _ s'' => CX outer H s E e s'') (fun e' s'' => CX outer H s E e' s'') s'
section
variable {P : Program} {w : World} {K : Frag} {mg : Str → Option Value} {base : Heap} {CX : CXT} {cm : Bool} {k : Nat} {N ps : List Str} {name qual : Str} {params : Arguments} {body : Expr} {scope : Scope} {f c' : Addr} {cl : List (Str × Addr)} {A : Around} {outer : List Env} {s : Shared} {H : Hp} {E : XK} {Q : VK} {pm ctv : Value}
theorem leaves_cxL {cd : Value} : LeavesTo (cxL (CXF P w) cm P w K mg base N qual scope f cd cl A outer s H E) E := fun pins σ H' s' a C t tb d H1 tb0 I ha ht hs h1 hE => by
  show wpAny _ _ (leaving _ _) _ _ _
  exact leave_inv (X := cxL (CXF P w) cm P w K mg base N qual scope f cd cl A outer s H E) rfl rfl I ha ht fun s2 H2 T J ha2 ht2 hs2 =>
    ⟨a, C, t, _, d, H1, H2, tb0, rfl, J.os, J.bare, J.base, J.hok, ha2, ht2, hs.trans hs2, h1, hE⟩
theorem lam_run {args : Args} {us : List Value} (S : LamScope N ps scope) (ho : s.heap.get? f = some (kla_obj name qual params body scope cl pm c' ctv)) (hcd : s.heap.CodeRec (.ref c') qual) (e0 : Env0 P w K mg base A outer s H) (hr : RoomG cm (k + 1) A)
    (hbind : bindArgs (kla_fn name qual params body scope cl pm (.ref c') ctv) args = pure (ps.zip us))
    (hcl : ∀ x c, cl.lookup x = some c → (∃ v, s.heap.IsCell c v) ∧ H c = none) (hinj : ∀ x y c, cl.lookup x = some c → cl.lookup y = some c → x = y) (hhas : ∀ x, scope.names.lookup x = some .free → ∃ c, cl.lookup x = some c)
    {σ : L2.St} (hσ : σ.length = N.length)
    (hv : ∀ (i : Nat) (x : Str) (v : V), N[i]? = some x → σ[i]? = some (some v) → (scope.names.lookup x = some .local ∧ ∃ u, RelV v u ∧ (ps.zip us).reverse.lookup x = some u) ∨ (scope.names.lookup x = some .free ∧ ∃ c u, cl.lookup x = some c ∧ s.heap.IsCell c (some u) ∧ RelV v u))
    (hbody : RoomG cm k (A.deeper (envX qual scope s.heap.objs.size f (.ref c') cl)) → ∃ t, PE (cxL CX cm P w K mg base N qual scope f (.ref c') cl A outer s H E) body t ∧ t σ H Q) :
    codeAny (model P w) A (.call (.ref f) args) (CR CX outer P w H s Q E) s := by
  have lim : s.heap.NoLimit := e0.mod.nolimit.keeps fun b o e => (e0.bs b o e).1
  refine kla_callFunE hr.depth ho rfl S.co S.gen rfl hcd ?_
  rw [hbind]
  refine wpAny_pure (wpAny_newFunctionEnv S.nocell (fun x hx => S.par _ (List.of_mem_zip (show (x.1, x.2) ∈ ps.zip us from hx)).1) (fun h₁ hns hsb => ⟨lim.fresh _ hsb, ?_⟩) S.kind)
  show codeAny _ _ (.expr body (envX qual scope s.heap.objs.size f (.ref c') cl)) _ _
  have hk₁ : ∀ b o, s.heap.get? b = some o → h₁.get? b = some o := fun b o e => hsb.extBut b o (Nat.ne_of_lt (Heap.lt_size e)) (Heap.get?_push_of_some _ e)
  obtain ⟨t, ht, hq⟩ := hbody (hr.deeper _)
  have cK : ∀ c v, s.heap.IsCell c v → h₁.IsCell c v := fun c v ⟨o, e, d⟩ => ⟨o, hk₁ _ _ e, d⟩
  have I : Inv (cxL CX cm P w K mg base N qual scope f (.ref c') cl A outer s H E) [] σ H { s with heap := h₁, toks := s.toks + (ps.zip us).length } := by
    have noA : ∀ b : Addr, b ∉ (cxL CX cm P w K mg base N qual scope f (.ref c') cl A outer s H E).ex := fun b z => absurd (show b ∈ ([] : List Addr) from z) (by simp)
    refine ⟨⟨e0.mod, S.kind, rfl, rfl, Nat.le_refl _, hinj, fun y hy => ?_, fun y c z => Bool.noConfusion (show false = true from z), hr.hd, Around.frames_deeper e0.frames, .inr ⟨rfl, rfl⟩, fun b z => absurd z (noA b), e0.bs, e0.bsz, fun b _ _ => noA b, fun b z => absurd z (noA b), e0.funs, e0.frf⟩,
      rfl, e0.bare, Un.kept hk₁, ⟨_, hns, fun i x v h1 h2 h3 => ?_⟩, fun y c e => ?_, e0.hok.fresh (Nat.le_refl _), fun y c e => (hcl y c e).2, fun p hp => absurd (show p ∈ ([] : List (Addr × Obj)) from hp) (by simp), e0.hok.kept hk₁, hσ⟩
    · have hy : scope.names.lookup y = some .cell ∨ scope.names.lookup y = some .free := hy
      rcases hy with hy | hy
      · exact absurd rfl (S.nocell _ (PySem.mem_of_lookup hy))
      · exact hhas y hy
    · rcases hv i x v h1 h2 with ⟨k, u, r, e⟩ | ⟨k, c, u, e, z, r⟩
      · exact ⟨u, r, .inl ⟨k, e⟩⟩
      · exact ⟨u, r, .inr ⟨.inr k, c, e, cK _ _ z⟩⟩
    · obtain ⟨v, z⟩ := (hcl y c e).1
      exact ⟨v, cK _ _ z⟩
  refine kla_codeExpr (wpAny_mono (ht [] _ σ H Q I hq) (fun u s' ⟨v, H', J, rv, q⟩ => ⟨v, H', J.os, J.bare, J.base, J.hok, rv, q⟩) fun e s' hs => hs)
end
end SF
namespace SF
open PySem PySem.Spec PyProof.Rows L2 PySem.W
noncomputable def DctOk (H : Hp) (d : Option Addr) : Prop := d = none ∨ ∃ dx fs, d = some dx ∧ H dx = some (.xd fs)
theorem DctOk.same {H H' : Hp} {d : Option Addr} (h : DctOk H d) (s : Same H H') : DctOk H' d := by
  rcases h with rfl | ⟨dx, fs, rfl, e⟩
  · exact .inl rfl
  · exact .inr ⟨dx, fs, rfl, s _ _ e⟩
noncomputable def cvOf : V → Value
  | .ref a => .ref a
  | .ty n => .type n
  | _ => .none
theorem inst_exc {P : Program} {w : World} {H : Hp} {h : Heap} {a C t : Addr} {tb : Value} {d : Option Addr} (x : HOk P w H h) (ha : H a = some (excO a C t tb d)) (hd : DctOk H d) : ∃ ox od vs, InstAt h a ox C od ∧ ox.dict = d ∧ ox.data = .fields vs ∧ vs[0]? = some (.ref t) := by
  obtain ⟨o, vs, e, hc, hd', hf, h6, h0, h1⟩ := exc_get x ha
  have no : notCls o = true := by
    obtain ⟨cc, dd, dt, sl⟩ := o
    simp only at hf
    subst hf
    rfl
  rcases hd with rfl | ⟨dx, fs, rfl, hx⟩
  · exact ⟨o, none, vs, ⟨e, hc, no, by rw [hd']; trivial⟩, hd', hf, h0⟩
  · obtain ⟨mA, ⟨od, es, ep, e2, r⟩, _⟩ := (show ObjOk P w H h dx (.xd fs) from x dx _ hx)
    exact ⟨o, some od, vs, ⟨e, hc, no, by rw [hd']; exact e2⟩, hd', hf, h0⟩
section
variable {X : Cx}
noncomputable def rIsX (K : Frag) : List V → Hp → VK → Prop := fun xs H Q => ∃ a C t tb d c b, xs = [.ref a, c] ∧ H a = some (excO a C t tb d) ∧ DctOk H d ∧ XAsk K C ∧ cvOf c ≠ .none ∧ kitOne K (.ref C) (cvOf c) = some b ∧ Q (.bl b) H
theorem call_isx : CallR X (.builtin "isinstance") (rIsX X.K) := by
  intro pins s σ H xs us Q I r h
  obtain ⟨a, C, t, tb, d, c, b, rfl, ha, hd, F, hc, e, q⟩ := h
  obtain ⟨u, v, rfl, ru, rv⟩ := Vals.two r
  cases ru
  have ev : v = cvOf c := by
    cases c <;> first | exact rv | exact absurd rfl hc
  subst ev
  obtain ⟨ox, od, vs, J, _⟩ := inst_exc I.hok ha hd
  exact kia_one (kitx_exc F) I.kIn ⟨ox, od, J⟩ e (fun z => nomatch z) fun tk => ⟨.bl b, H, I.tok _, rfl, q⟩
noncomputable def tXat (K : Frag) (te : TE) (f : Str) : TE := fun σ H Q => te σ H fun x H1 => ∃ a C t tb dx fs v, x = .ref a ∧ H1 a = some (excO a C t tb (some dx)) ∧ H1 dx = some (.xd fs) ∧ XAsk K C ∧ findIn K (.ref C) f = some none ∧ fs.lookup f = some v ∧ Q v H1
theorem pe_xat {e : Expr} {te : TE} {f : Str} {pos : Pos} (he : PE X e te) (hb : attributeBase e f X.env (eval e X.env) = eval e X.env) : PE X (.Attribute e f pos) (tXat X.K te f) := by
  intro pins s σ H Q I h
  refine attr_of hb (thn (he pins s σ H _ I h) fun u s1 ⟨x, H1, I1, rx, a, C, t, tb, dx, fs, v, ex, ha, hx, F, hf, hl, q⟩ => ?_)
  subst ex
  obtain rfl : u = Value.ref a := rx
  obtain ⟨ox, od, vs, J, hdd, _⟩ := inst_exc I1.hok ha (.inr ⟨dx, fs, rfl, hx⟩)
  obtain ⟨mA, hn, hr⟩ := (show ObjOk X.prog X.w H1 s1.heap dx (.xd fs) from I1.hok dx _ hx)
  obtain ⟨u, hu, ru⟩ := RelO.some_of (v := v) (o := mA f) (by rw [← hl]; exact hr f)
  obtain ⟨od', ho', hlk⟩ := lookIn_ns hn
  have hd := J.dict
  rw [hdd] at hd
  cases od with
  | none => exact hd.elim
  | some od =>
  have ee : od = od' := Option.some.inj (hd.symm.trans ho')
  subst ee
  have hfo : findObj X.K C (some od) f = some (.value u) := findObj_own F.dct hf rfl (by rw [hlk, hu])
  unfold getAttr
  refine wpAny_bind (wpAny_mkText ?_)
  refine xby (s := { s1 with toks := s1.toks + 1 }) I1.kIn J F.ga F.gk F.base fun A' E' => ?_
  exact xga_value (s := { s1 with toks := s1.toks + 1 }) I1.kIn J hfo ⟨_, rfl, handed_of ru, v, H1, I1.tok _, ru, q⟩
theorem bools_eq (k : Bool) : ∀ {bs : List Bool} {us : List Value}, Vals (bs.map V.bl) us → ∀ y, y ∈ us → ∀ (A : Around) (s : Shared), SeqAt.EqAt A s y (.bool k) (isBoolOf k y)
  | [], _, .nil, _, hy, _, _ => absurd hy (by simp)
  | b :: bs, _, .cons r t, y, hy, A, s => by
    rcases List.mem_cons.mp hy with e | hy
    · subst e
      cases r
      exact SeqAt.EqAt.bool_bool b k
    · exact bools_eq k t y hy A s
theorem bools_count (k : Bool) : ∀ {bs : List Bool} {us : List Value}, Vals (bs.map V.bl) us → us.countP (isBoolOf k) = bs.countP (· == k)
  | [], _, .nil => rfl
  | b :: bs, _, .cons r t => by
    cases r
    rw [List.countP_cons, List.countP_cons, bools_count k t]
    rfl
theorem bools_get (k : Bool) : ∀ {bs : List Bool} {us : List Value} (i : Nat) (h : i < us.length), Vals (bs.map V.bl) us → isBoolOf k us[i] = (bs.getD i (!k) == k)
  | [], _, i, h, .nil => absurd h (by simp)
  | _ :: _, _, 0, _, .cons r t => by cases r; rfl
  | b :: bs, _ :: us, i + 1, h, .cons r t => by
    have := bools_get k (bs := bs) i (Nat.lt_of_succ_lt_succ h) t
    simpa using this
noncomputable def rCntB (K : Frag) : V → List V → Hp → VK → Prop := fun x vs H Q => ∃ (p : Addr) (bs : List Bool) (k : Bool), x = .ref p ∧ vs = [.bl k] ∧ SqL K H p (bs.map V.bl) ∧ Q (.int (bs.countP (· == k) : Nat)) H
theorem mt_cntB : MtM X "list.count" (rCntB X.K) := by
  intro pins s σ H x xs v us Q I rx r h
  obtain ⟨p, bs, k, rfl, rfl, hs, q⟩ := h
  cases rx
  obtain ⟨u, rfl, ru⟩ := Vals.one r
  cases ru
  obtain ⟨its, rv, ⟨o, n, e1, e2, e3, e4⟩, hz⟩ := I.list hs
  obtain ⟨cls, dd, data, sl⟩ := o
  simp only at e2 e3 e4
  subst e2 e3 e4
  refine call_meets PySem.F.slot_list_count ⟨_, e1, rfl⟩ PySem.F.entry_list_count (PySem.F.args_list_count_2 _ _) (SeqAt.list_countAt p its.toArray n none sl (.bool k) (isBoolOf k)) ⟨e1, fun y hy => bools_eq k rv y (by simpa using hy) _ _, ?_⟩
  rw [show its.toArray.toList = its from rfl, bools_count k rv]
  exact ⟨.int _, H, I.tok _, ⟨_, rfl⟩, q⟩
noncomputable def rIdxB (K : Frag) : V → List V → Hp → VK → Prop := fun x vs H Q => ∃ (p : Addr) (bs : List Bool) (k : Bool) (i : Nat), x = .ref p ∧ vs = [.bl k] ∧ SqL K H p (bs.map V.bl) ∧ i < bs.length ∧ bs.getD i (!k) = k ∧ (∀ j, j < i → bs.getD j (!k) = (!k)) ∧ Q (.int (i : Nat)) H
theorem mt_idxB : MtM X "list.index" (rIdxB X.K) := by
  intro pins s σ H x xs v us Q I rx r h
  obtain ⟨p, bs, k, i, rfl, rfl, hs, hi, hh, hno, q⟩ := h
  cases rx
  obtain ⟨u, rfl, ru⟩ := Vals.one r
  cases ru
  obtain ⟨its, rv, ⟨o, n, e1, e2, e3, e4⟩, hz⟩ := I.list hs
  obtain ⟨cls, dd, data, sl⟩ := o
  simp only at e2 e3 e4
  subst e2 e3 e4
  have hl : its.length = bs.length := by rw [← rv.length]; simp
  have hz' : bs.length ≤ sizeLine := by simpa using hz
  have hsz : sizeLine < 2 ^ 62 := by decide
  refine call_meets PySem.F.slot_list_index ⟨_, e1, rfl⟩ PySem.F.entry_list_index (PySem.F.args_list_index_2 _ _) (SeqAt.list_indexAt p its.toArray n none sl (.bool k) (isBoolOf k) i (by simpa [hl] using hi) (by lia) ?_ fun m hm hmi => ?_) ⟨e1, fun y hy => bools_eq k rv y (by simpa using hy) _ _, ?_⟩
  · have := bools_get k i (by rw [hl]; exact hi) rv
    rw [hh] at this
    simpa using this
  · have := bools_get k m (by simpa using hm) rv
    rw [hno m hmi] at this
    simp only [List.getElem_toArray]
    rw [this]
    cases k <;> rfl
  · exact ⟨.int _, H, I.tok _, ⟨_, rfl⟩, q⟩
end
end SF
namespace SF
open PySem PySem.W PySem.Builtin PySem.Builtin.ObjectAttr
section
variable {prog : Program} {w : World} {A : Around} {E : Value → Shared → Prop} {h : Heap} {g : Array GenState} {d : Drawn} {t : Nat} {os : OsState}
variable {nm q : Str} {C N : Addr} {bs bm bmB : List Value} {hdct : Bool} {sn : List Str} {sub : List Value} {ab : Bool} {col : Option Bool} {dd : Option Addr} {k0 k1 k2 k3 k5 : Option Value} {B Bn newId nid initId inN : String} {bmN : List Value}
theorem type_call_init (Fn : ExcBaseFacts Bn newId inN bmN) (hBn : bmB.contains (.type Bn) = true) (F : ExcBaseFacts B nid initId bmB) (T : OwnTail h bmB bm) {mN : Str → Option Value} {rest : List Value} {fI : Addr} {oI : Obj} {Q : Fin → Shared → Prop}
    (hC : h.get? C = some (excClassObj nm q C N bs bm hdct sn sub ab col dd k0 k1 k2 k3 k5 newId)) (hn : h.Ns N mN) (hi : mN "__init__" = some (.ref fI)) (hfI : h.get? fI = some oI) (hfc : oI.cls = .type "function")
    (hq : ∀ h' e, Heap.MadeExcOf h h' e (.ref C) rest → wpAny (model prog w) A (call (.ref fI) (.ref e :: rest)) (fun r s' => r = .none ∧ Q (.done (.ret (.ref e))) s') E ⟨h', g, d, t, os⟩) (hrest : rest.length ≤ sizeLine) :
    wpAny (model prog w) A (Builtin.«type.__call__» ⟨.ref C :: rest, []⟩) Q E ⟨h, g, d, t, os⟩ := by
  repeat (first | with_reducible refine wpAny_loadPart_at hC ?_ | with_reducible refine wpAny_madeBy_exc hC ?_ | wp_step)
  refine codeAny_call_builtin_code (Code.quiet_builtin _ Fn.quiet) (wpAny_check_new_subU Fn hBn T hC ?_)
  refine codeAny_exc_new_subU Fn hBn F T hC ?_ hrest
  show wpAny _ _ _ _ _ _
  generalize ho1 : ({ cls := .type "tuple", data := .seq rest.toArray } : Obj) = o1
  generalize ho2 : ({ cls := .ref C, data := .fields #[.ref h.objs.size, .none, .none, .none, .bool false, .none] } : Obj) = o2
  have keep : ∀ b o, h.get? b = some o → ((h.push o1).push o2).get? b = some o := fun b o e => Heap.get?_push_of_some _ (Heap.get?_push_of_some _ e)
  have hget : ((h.push o1).push o2).get? (h.objs.size + 1) = some o2 := by subst ho1 ho2; heap_get
  have hC₁ := keep _ _ hC
  have hcC : (Value.ref C :: bm).contains (.ref C) = true := by simp
  have hcl : o2.cls = .ref C := by subst ho2; rfl
  unfold isInstance
  repeat (first | (with_reducible refine wpAny_loadPart_at hget ?_; rw [hcl]) | (with_reducible refine wpAny_isSubtype_exc hC₁ ?_; rw [hcC]) | wp_step)
  show wpAny _ _ (typeLookup (.ref C) _) _ _ _
  refine wpAny_typeLookup_tail hC₁ (hn.keeps keep) (T.keeps keep) F.mroIs F.init.lookup ?_
  rw [hi]
  refine wpAny_holding (wpAny_bind ?_)
  unfold bindSpecial
  refine wpAny_bind (wpAny_typeOf (T := "function") ⟨_, keep _ _ hfI, hfc⟩ ?_)
  rw [if_pos (by decide)]
  refine wpAny_pure (wpAny_bind (wpAny_mono (hq _ (h.objs.size + 1) ⟨keep, Heap.get?_none_of_le (Nat.le_succ _), h.objs.size, by rw [hget, ← ho2], Heap.get?_none_of_le (Nat.le_refl _), ?_⟩) (fun r s' hr => ?_) fun _ _ x => x))
  · rw [Heap.get?_push_of_some _ (Heap.get?_push_at rfl (by subst ho1; rfl)), ← ho1]
  · obtain ⟨rfl, hQ⟩ := hr
    wp_walk
    exact hQ
theorem call_init (Fn : ExcBaseFacts Bn newId inN bmN) (hBn : bmB.contains (.type Bn) = true) (F : ExcBaseFacts B nid initId bmB) (T : OwnTail h bmB bm) {mN : Str → Option Value} {rest : List Value} {fI : Addr} {oI : Obj} {Q : Value → Shared → Prop}
    (hC : h.get? C = some (excClassObj nm q C N bs bm hdct sn sub ab col dd k0 k1 k2 k3 k5 newId)) (hn : h.Ns N mN) (hi : mN "__init__" = some (.ref fI)) (hfI : h.get? fI = some oI) (hfc : oI.cls = .type "function")
    (hq : ∀ h' e, Heap.MadeExcOf h h' e (.ref C) rest → wpAny (model prog w) (A.under (.builtin "type.__call__" ⟨.ref C :: rest, []⟩)) (call (.ref fI) (.ref e :: rest)) (fun r s' => r = .none ∧ Q (.ref e) s') E ⟨h', g, d, t, os⟩) (hrest : rest.length ≤ sizeLine) :
    wpAny (model prog w) A (call (.ref C) rest) Q E ⟨h, g, d, t, os⟩ := by
  have f1 := tc_lookup
  have f2 := tc_bind (.ref C)
  have hT : (⟨h, g, d, t, os⟩ : Shared).TypeIs (.ref C) "type" := ⟨_, hC, rfl⟩
  refine wpAny_call (codeAny_of_tree ?_)
  show wpAny _ _ (callAny (.ref C) _) _ _ _
  repeat (any_goals (first | assumption | with_reducible refine wpAny_loadPart_at hC ?_ | wp_step))
  refine ⟨rfl, ?_⟩
  exact codeAny_call_builtin_at (Code.quiet_builtin _ (by decide +kernel)) entry_typeCall (wpAny_check_type_call_sub hC (type_call_init Fn hBn F T hC hn hi hfI hfc (fun h' e hm => hq h' e hm) hrest))
theorem init_again (F : ExcBaseFacts B nid initId bmB) (T : OwnTail h bmB bm) {e : Addr} {oe : Obj} {vs : Array Value} {rest : List Value} {Q : Value → Shared → Prop}
    (hC : h.get? C = some (excClassObj nm q C N bs bm hdct sn sub ab col dd k0 k1 k2 k3 k5 newId)) (he : h.get? e = some oe) (hcls : oe.cls = .ref C) (hd : oe.data = .fields vs) {t0 : Addr} (h0 : vs[0]? = some (.ref t0)) (hrest : rest.length ≤ sizeLine)
    (hq : Q .none ⟨(h.push { cls := .type "tuple", data := .seq rest.toArray }).update e (Obj.mapFields (·.setIfInBounds 0 (.ref h.objs.size))), g, d, t, os⟩) :
    wpAny (model prog w) A (call (.builtin initId) (.ref e :: rest)) Q E ⟨h, g, d, t, os⟩ := by
  refine wpAny_call (codeAny_call_builtin F.init.plain F.initEntry (wpAny_check_init_subU F T hC he hcls ?_))
  unfold Builtin.«BaseException.__init__»
  repeat wp_step
  rw [hd]
  refine wpAny_pure ?_
  rw [h0]
  refine wpAny_pure (wpAny_bind (wpAny_setField (Heap.get?_push_of_some _ he) hd (Array.getElem?_eq_some_iff.mp h0).1 ?_))
  repeat wp_step
  exact hq
end
noncomputable def overV : List Value → Bool
  | [.type a, .type b, .type c, .type d] => a == "ValueError" && b == "Exception" && c == "BaseException" && d == "object"
  | .ref _ :: r => overV r
  | _ => false
theorem refuse_overV (self : Value) : ∀ {l : List Value}, overV l = true → refuseLoop self "__setattr__" l = pure ()
  | [.type a, .type b, .type c, .type d], e => by
    simp only [overV, Bool.and_eq_true, beq_iff_eq] at e
    obtain ⟨⟨⟨rfl, rfl⟩, rfl⟩, rfl⟩ := e
    exact PySem.F.store_ValueError.passes self
  | .ref c :: r, e => by rw [refuseLoop_ref]; exact refuse_overV self (by cases r <;> first | exact e | cases e)
noncomputable def excOver (K : Frag) (C : Addr) : Bool := (clsIn K C).any fun cd => cd.hasDict && overV cd.mro
section
variable {prog : Program} {w : World} {A : Around} {E : Value → Shared → Prop} {s : Shared} {K : Frag} {x C : Addr} {ox : Obj} {vs : Array Value} {name : Str} {v : Value} {Q : Unit → Shared → Prop}
theorem x_store (X : K.In s.heap) (I : InstAt s.heap x ox C none) (hnd : ox.dict = none) (hd : ox.data = .fields vs) (hp : excOver K C = true) (hs : findIn K (.ref C) "__setattr__" = some (some (.builtin "object.__setattr__"))) (hob : mroIn K C (.type "object") = some true) (ha : findIn K (.ref C) name = some none)
    (h : ∀ h' tk, (∀ b o, b ≠ x → s.heap.get? b = some o → h'.get? b = some o) → h'.get? x = some { ox with dict := some s.heap.objs.size } → h'.Ns1 s.heap.objs.size (fun y => if y = name then some v else none) → Q () { s with heap := h', toks := tk }) :
    wpAny (model prog w) A (setAttr (.ref x) name v) Q E s := by
  obtain ⟨cd, hc, hcd⟩ := any_some hp
  simp only [Bool.and_eq_true] at hcd
  refine set_plain X I hs ?_
  have SF := PySem.F.store_object
  have sub : Looks (model prog w) s.heap (isInstance (.ref x) (.type "object")) true := I.type.andThen (looks_mroIn X hob)
  refine codeAny_call_builtin SF.slot.plain SF.entry (@check_slot (model prog w) _ _ { s with toks := s.toks + 1 } "object.__setattr__" "object" "__setattr__" (.ref x) [.str name s.toks, v] [] _ SF.kind SF.split sub (SF.args (.ref x) (.str name s.toks) v) ?_)
  have hm : Looks (model prog w) s.heap (mroOf (.ref C)) cd.mro := (looks_clsIn X hc).andThen .now
  have L0 := I.type (M := model prog w)
  have L1 := looks_findIn (M := model prog w) X ha
  rw [osa_eq]
  refine wpAny_bind ?_
  rw [refuse_eq]
  refine wpAny_bind (L0 _ _ _ _ (fun _ _ e => e) (wpAny_bind (hm _ _ _ _ (fun _ _ e => e) ?_)))
  rw [refuse_overV _ hcd.2]
  refine wpAny_pure (wpAny_bind (L0 _ _ _ _ (fun _ _ e => e) (wpAny_bind (L1 _ _ _ _ (fun _ _ e => e) (wpAny_bind (wpAny_pure ?_))))))
  dsimp only
  obtain ⟨hx, hcl, hn, -⟩ := I
  obtain ⟨oc, odi, oda, osl⟩ := ox
  dsimp only at hcl hd hnd
  subst hcl hd hnd
  refine wpAny_bind (wpAny_pure (wpAny_bind (wpAny_bind (wpAny_loadPart hx (wpAny_bind ((looks_clsIn X hc) _ _ _ _ (fun _ _ e => e) ?_))))))
  rw [hcd.1]
  dsimp only
  have hxs : x ≠ s.heap.objs.size := Nat.ne_of_lt (Heap.lt_size hx)
  have hx₁ : (s.heap.push { cls := .type "dict", data := .dict #[] }).get? x = some ⟨.ref C, none, .fields vs, osl⟩ := Heap.get?_push_of_some _ hx
  refine wpAny_bind (wpAny_alloc' ?_)
  refine wpAny_bind (wpAny_update' hx₁ ?_)
  refine wpAny_pure ?_
  generalize hh2 : ((s.heap.push { cls := .type "dict", data := .dict #[] }).update x fun o => { cls := o.cls, dict := some s.heap.objs.size, data := o.data, slots := o.slots }) = h2
  have hgd : h2.get? s.heap.objs.size = some { cls := .type "dict", data := .dict #[] } := by subst hh2; exact (Heap.get?_update_ne _ _ _ _ hxs.symm).trans (Heap.get?_push_at rfl rfl)
  have hnd : h2.Ns s.heap.objs.size (fun _ => none) := ⟨_, #[], _, hgd, rfl, fun e he => absurd he (by simp), fun _ => rfl⟩
  have keep : ∀ b o, b ≠ x → s.heap.get? b = some o → h2.get? b = some o := fun b o hb e => by subst hh2; exact (Heap.get?_update_ne _ _ _ _ hb).trans (Heap.get?_push_of_some _ e)
  have hx2 : h2.get? x = some ⟨.ref C, some s.heap.objs.size, .fields vs, osl⟩ := by subst hh2; exact Heap.get?_update_self _ hx₁ rfl
  show wpAny _ _ (storeInDict s.heap.objs.size (.str name s.toks) name v) _ _ _
  unfold storeInDict newKeyGuard
  refine wpAny_bind (wpAny_pure (wpAny_bind (wpAny_nsSet1 (Heap.Ns1.of_empty hnd) fun h' hn' hs => ?_)))
  obtain ⟨oD, esD, epD, hoD, hdD, hcD⟩ := hn'.count (Within.cons name v Within.nil)
  refine wpAny_bind (wpAny_lookBehind hoD (by rw [hdD]; exact pastItsLine_dict (Nat.le_trans hcD (by rw [List.length_cons, List.length_nil, sizeLine_eq]; lia))) ?_)
  refine wpAny_pure ?_
  exact h _ _ (fun b o hb e => (hs.2 b (Nat.ne_of_lt (Heap.lt_size e))).trans (keep b o hb e)) ((hs.2 x hxs).trans hx2) hn'
end
end SF
namespace SF
open PySem PySem.Spec PyProof.Rows L2 PySem.W
theorem ns_val {K : Frag} {h : Heap} {N : Addr} {m : Str → Option Value} {n : Str} {v : Value} (X : K.In h) (G : h.Ns N m) (e : nsIn K N n = some (some v)) : m n = some v := by
  obtain ⟨⟨c, d, dt, sl⟩, es, ep, ho, hd, _, hf⟩ := G
  cases hd
  cases q : K.lookup N with
  | none => simp [nsIn, q] at e
  | some ob =>
    have z := (X _ _ q).symm.trans ho
    cases z
    simp only [nsIn, q] at e
    cases he : es.toList.find? (·.key.isStr n) with
    | none => rw [he] at e; dsimp only at e; split at e <;> cases e
    | some en =>
      rw [he] at e; cases e
      rw [← hf, nsFind, findBy, ← Array.find?_toList, he]
      rfl
noncomputable def excInI (K : Frag) (C : Addr) (bmB : List Value) (newId : String) (fI : Addr) : Bool := match K.lookup C with
  | some ⟨.type "type", _, .cls cd, sl⟩ => (match cd.mro, sl.toList with
    | .ref C' :: bm, [_, _, _, _, some (.builtin n), _] => C' == C && n == newId && !cd.hasDel && tailIn K bmB bm && nsOkIn K cd.ns && nsIn K cd.ns "__init__" == some (some (.ref fI))
    | _, _ => false)
  | _ => false
noncomputable def XClsI (K : Frag) (C fI : Addr) : Prop := excInI K C bmV "ValueError.__new__" fI = true
section
variable {X : Cx} {C fI : Addr}
theorem excI_obj {K : Frag} {h : Heap} (XK : K.In h) (q : XClsI K C fI) : ∃ bm N nm qn bs hdct sn sub ab col dd k0 k1 k2 k3 k5 mN, h.get? C = some (excClassObj nm qn C N bs bm hdct sn sub ab col dd k0 k1 k2 k3 k5 "ValueError.__new__") ∧ h.Ns N mN ∧ mN "__init__" = some (.ref fI) ∧ OwnTail h bmV bm := by
  unfold XClsI excInI at q
  split at q
  · rename_i dd cd sl ho
    split at q
    · rename_i C' bm k0 k1 k2 k3 n k5 hm hs
      simp only [Bool.and_eq_true, beq_iff_eq, Bool.not_eq_true'] at q
      obtain ⟨⟨⟨⟨⟨rfl, rfl⟩, hdel⟩, ht⟩, hok⟩, hni⟩ := q
      obtain ⟨nm, bs, mro, ns, qn, hd, sn, sub, ab, col, del⟩ := cd
      dsimp only at hm hdel hok hni
      subst hm hdel
      have hsl : sl = #[k0, k1, k2, k3, some (.builtin "ValueError.__new__"), k5] := by
        obtain ⟨l⟩ := sl
        simp only at hs
        rw [hs]
      subst hsl
      have hN : h.Ns ns (h.nsMap ns) := .of_isNs (isNs_of_in XK hok)
      exact ⟨bm, ns, nm, qn, bs, hd, sn, sub, ab, col, dd, k0, k1, k2, k3, k5, _, XK _ _ ho, hN, ns_val XK hN hni, tail_of_in XK ht⟩
    · cases q
  · cases q
theorem inv_two {pins : List (Addr × Obj)} {σ : L2.St} {H : Hp} {s : Shared} {h' : Heap} {a T : Addr} {φ : Heap → Prop} {o1 o2 : HO} {tk : Nat} (I : Inv X pins σ H s) (ha : H a = some (.ext φ)) (hT : s.heap.get? T = none) (hne : T ≠ a)
    (keep : ∀ b o, b ≠ a → s.heap.get? b = some o → h'.get? b = some o) (there : ∃ o, h'.get? a = some o) (n1 : ∀ H', ObjOk X.prog X.w H' h' a o1) (n2 : ∀ H', ObjOk X.prog X.w H' h' T o2) : Inv X pins σ (upd (upd H T o2) a o1) { s with heap := h', toks := tk } := by
  have hTn : H T = none := hok_none I.hok hT
  have nea : ∀ b u, H b = some u → (∀ φ, u ≠ .ext φ) → b ≠ a := fun b u q n z => by subst z; rw [ha] at q; cases q; exact n _ rfl
  have neT : ∀ b u, H b = some u → b ≠ T := fun b u q z => by subst z; rw [hTn] at q; cases q
  have nea0 : ∀ b, H b = none → b ≠ a := fun b q z => by subst z; rw [ha] at q; cases q
  refine I.un ⟨fun b ob q n _ _ => keep b ob (nea0 b n) q, fun b ob q n _ _ => ⟨ob.slots, keep b ob (nea0 b n) q⟩, fun b ob q n _ => by rw [upd_ne (nea0 b n), upd_ne (fun z => by subst z; rw [hT] at q; cases q)]; exact n, fun b ob q _ => ?_,
    fun b xs q => by rw [upd_ne (nea b _ q nofun), upd_ne (neT b _ q)]; exact q, fun b u xs q => by rw [upd_ne (nea b _ q nofun), upd_ne (neT b _ q)]; exact q, fun b ps q => ⟨#[], by rw [upd_ne (nea b _ q nofun), upd_ne (neT b _ q), q]; simp⟩⟩ fun b u q => ?_
  · by_cases z : b = a
    · subst z; exact there
    · exact ⟨ob, keep b ob z q⟩
  · by_cases hba : b = a
    · subst hba; rw [upd_same] at q; cases q
      exact n1 _
    · rw [upd_ne hba] at q
      by_cases hbT : b = T
      · subst hbT; rw [upd_same] at q; cases q
        exact n2 _
      · rw [upd_ne hbT] at q
        refine (I.hok b u q).stay (fun c v hc e => keep c v ?_ e) (fun c r => by rw [upd_ne (nea c _ r nofun), upd_ne (neT c _ r)]; exact r) fun c xs r => by rw [upd_ne (nea c _ r nofun), upd_ne (neT c _ r)]; exact r
        rcases hc with rfl | hc
        · exact hba
        · exact nea c _ hc nofun
noncomputable def tBad (C : Addr) (sp : Sp) (dvs : List V) (E : XK) (t : TA) : TE := fun σ H Q => t σ H fun vs H1 => vs.length ≤ 1000 ∧ ∀ x tp, H1 x = none → H1 tp = none → x ≠ tp →
  sp (.ref x :: (vs ++ dvs)) (upd (upd H1 tp (.tup vs)) x (excO x C tp .none none)) (fun v H2 => v = .non ∧ Q (.ref x) H2) E
theorem pe_bad {CX : CXT} {k : Nat} {fd : FuncData} {ps : List Str} {sp : Sp} {dvs : List V} {ds : List Value} {E : XK} {x : Str} {p pos : Pos} {e : Expr} {es : List Expr} {t : TA} (hc : XClsI X.K C fI) (hfn : typeIn X.K (.ref fI) = some (.type "function")) (hk : keepIn X.K (.ref C) = true)
    (F : FnOk X.prog X.w X.K X.mg X.base CX k fI fd ps sp) (hr : Room (k + 1) X.A) (hg : Gl X x) (hm : X.mg x = some (.ref C)) (hb : Binds X.K fd ps ds) (hd : Vals dvs ds) (hx : Passes CX X E) (ha : PA X (e :: es) t)
    (hdb : (x == ("__debug__" : Str)) = false := by decide) (he : starEach (e :: es) X.env = (false, eval e X.env) :: starEach es X.env := by rfl) (hpl : (backTo pos (starEach es X.env)).any (·.1) = false := by rfl) :
    PE X (.Call (.Name x p) (e :: es) [] pos) (tBad C sp dvs E t) := by
  intro pins s σ H Q I h
  refine wpAny_Call_Name_kw (ld_glob I hg hm ?_ hdb)
  refine callWith_K (h₀ := X.base) I.ok.mod.kin hk (thn (ha pos pins s σ H _ I h) fun us s1 ⟨vs, H1, I1, r, hl, q⟩ => ⟨I1.kIn, ?_⟩) he hpl
  obtain ⟨bm, N, nm, qn, bs, hdct, sn, sub, ab, col, dd, k0, k1, k2, k3, k5, mN, hC, hN, hni, TL⟩ := excI_obj I1.kIn hc
  have lus : us.length ≤ 1000 := by rw [← r.length]; exact hl
  have hfo : ∃ oI, s1.heap.get? fI = some oI ∧ oI.cls = .type "function" := by
    obtain ⟨o, ho, hcl⟩ := Option.map_eq_some_iff.mp hfn
    exact ⟨o, I1.kIn _ _ ho, hcl⟩
  obtain ⟨oI, hfI, hfc⟩ := hfo
  obtain ⟨hp, g, d, tk, os⟩ := s1
  refine call_init PySem.F.excBase_ValueError (by decide) PySem.F.excBase_ValueError TL hC hN hni hfI hfc (fun h' e hm => ?_) (small4 lus)
  obtain ⟨tp, e1, e2, e3, I2⟩ := made_inv' I1 r hl hm
  have hq := q e tp e1 e2 e3
  have r2 : Vals (V.ref e :: (vs ++ dvs)) (Value.ref e :: (us ++ ds)) := .cons rfl (r.append hd)
  have hlen : (Value.ref e :: us ++ ds).length = ps.length := by
    have z := r2.length
    rw [F.len _ _ _ _ hq] at z
    exact z.symm
  refine wpAny_call (codeAny_mono (F.run _ X.stack _ _ ⟨Value.ref e :: us, []⟩ (Value.ref e :: (us ++ ds)) _ _ E (hr.make C us []) (I2.env0.make C us []) (hb _ (Value.ref e :: us) I2.kIn hlen) r2 hq) fun r s' hq' => ?_)
  cases r with
  | error e' => exact hx pins σ _ _ e' s' I2 hq'
  | ok fl =>
    cases fl with
    | ret u =>
      obtain ⟨v, H', I3, rv, ev, q3⟩ := I2.after hq'
      subst ev
      exact ⟨rv, ⟨V.ref e, H', I3, rfl, q3⟩⟩
    | next => exact False.elim hq'
    | brk => exact False.elim hq'
    | cont => exact False.elim hq'
noncomputable def tXinit (K : Frag) (fI : Addr) (t : TA) : TE := fun σ H Q => t σ H fun vs H1 => ∃ x rest C tp tb d, vs = .ref x :: rest ∧ H1 x = some (excO x C tp tb d) ∧ XClsI K C fI ∧ rest.length ≤ 1000 ∧ ∀ tp', H1 tp' = none → tp' ≠ x → Q .non (upd (upd H1 tp' (.tup rest)) x (excO x C tp' tb d))
theorem pe_xinit {pl : Sem Bool} {B : Addr} {x : Str} {p apos pos : Pos} {e : Expr} {es : List Expr} {t : TA} (hg : Gl X x) (hm : X.mg x = some (.ref B)) (hs : specialIn X.K (.ref B) "__getattribute__" = some (some (.builtin "type.__getattribute__"))) (hr : readsIn X.K B (.type "type") = true)
    (hf : findCls X.K (.ref B) (.type "type") "__init__" = some (.val (.builtin "ValueError.__init__"))) (ha : PA X (e :: es) t)
    (hdb : (x == ("__debug__" : Str)) = false := by decide) (hst : starEach (e :: es) X.env = (false, eval e X.env) :: starEach es X.env := by rfl) (hpl : (backTo pos (starEach es X.env)).any (·.1) = false := by rfl)
    (ht : eval (.Call (.Attribute (.Name x p) "__init__" apos) (e :: es) [] pos) X.env = (do
      let ov ← eval (.Name x p) X.env
      standAt apos.atName
      let (f, first) ← holding [ov] (getMethod ov "__init__" pl)
      callWith pos f first (backTo pos (starEach (e :: es) X.env)) (backToKw pos (keywordEach [] X.env))) := by rfl) :
    PE X (.Call (.Attribute (.Name x p) "__init__" apos) (e :: es) [] pos) (tXinit X.K fI t) := by
  intro pins s σ H Q I h
  refine methodCall_KW (pl := pl) (ld_glob I hg hm ?_ hdb) ht
  refine method_cls I.kIn hs (cls_value I.kIn hr hf (by decide +kernel) ?_)
  have I0 := I.tok (s.toks + 1)
  refine PyProof.Rows.callWith_builtin1 (thn (ha pos pins _ σ H _ I0 h) fun us s1 ⟨vs, H1, I1, r, y, rest, C, tp, tb, d, ev, hy, hc, hl, q⟩ => ?_) hst hpl
  subst ev
  obtain ⟨bm, N, nm, qn, bs, hdct, sn, sub, ab, col, dd, k0, k1, k2, k3, k5, mN, hC, hN, hni, TL⟩ := excI_obj I1.kIn hc
  obtain ⟨o, ws, e1, hcl, hd, hfl, h6, h0, h1⟩ := exc_get I1.hok hy
  obtain ⟨us, eu, rr⟩ : ∃ us', us = Value.ref y :: us' ∧ Vals rest us' := by
    cases r with
    | cons ry rr => cases ry; exact ⟨_, rfl, rr⟩
  subst eu
  have lus : us.length ≤ 1000 := by rw [← rr.length]; exact hl
  obtain ⟨hp, g, dr, tk, os⟩ := s1
  refine init_again PySem.F.excBase_ValueError TL hC e1 hcl hfl h0 (small4 lus) ?_
  have hne : hp.objs.size ≠ y := Nat.ne_of_gt (Heap.lt_size e1)
  generalize hoT : ({ cls := .type "tuple", data := .seq us.toArray } : Obj) = oT
  have e2 := Heap.get?_push_of_some (h := hp) oT e1
  have e3 := Heap.get?_update_self (Obj.mapFields (·.setIfInBounds 0 (Value.ref hp.objs.size))) e2 (Obj.isFreed_of_fields (Obj.data_mapFields hfl _))
  have e4 : ((hp.push oT).update y (Obj.mapFields (·.setIfInBounds 0 (Value.ref hp.objs.size)))).get? hp.objs.size = some oT := (Heap.get?_update_other _ _ (Ne.symm hne)).trans (Heap.get?_push_size hp (by subst hoT; rfl))
  have hT : hp.get? hp.objs.size = none := Heap.get?_none_of_le (Nat.le_refl _)
  refine ⟨.non, _, inv_two (s := ⟨hp, g, dr, tk, os⟩) (T := hp.objs.size) (tk := tk) I1 hy hT hne (fun b ob hb z => (Heap.get?_update_other _ _ (Ne.symm hb)).trans (Heap.get?_push_of_some _ z)) ⟨_, e3⟩ (fun H' => exc_stay (C := C) (t := hp.objs.size) (tb := tb) (d := d) e3 ((Obj.cls_mapFields _ _).trans hcl) ?_ (Obj.data_mapFields hfl _) (by simp [h6]) (by simp [h6]) (by rw [Array.getElem?_setIfInBounds_ne (by decide)]; exact h1)) (o2 := .tup rest) (fun H' => ?_), rfl, q _ (hok_none I1.hok hT) hne⟩
  · obtain ⟨cc, dd, dt, sl⟩ := o
    simp only at hfl
    subst hfl
    exact hd
  · subst hoT
    exact ⟨small4 hl, us, rr, _, e4, rfl, _, rfl⟩
noncomputable def sXset (K : Frag) (ta tv : TE) (f : Str) : TS := fun D σ H => tv σ H fun y H1 => ta σ H1 fun xv H2 => ∃ x C tp tb, xv = .ref x ∧ H2 x = some (excO x C tp tb none) ∧ excOver K C = true ∧ findIn K (.ref C) "__setattr__" = some (some (.builtin "object.__setattr__")) ∧ mroIn K C (.type "object") = some true ∧
  findIn K (.ref C) f = some none ∧ ∀ dx, H2 dx = none → dx ≠ x → D.nx σ (upd (upd H2 dx (.xd [(f, y)])) x (excO x C tp tb (some dx)))
theorem ps_xset {o value : Expr} {f : Str} {pos pos' : Pos} {ta tv : TE} (ha : PE X o ta) (hv : PE X value tv) (hs : swapsWith value (some (.Attribute o f pos')) pos.line X.env = pure false) : L2.PS X (.Assign [.Attribute o f pos'] value pos) (sXset X.K ta tv f) := by
  intro pins s σ H D I h
  refine plainObj_wpAny_Assign_Attribute (thn (hv pins s σ H _ I h) fun u s1 ⟨y, H1, I1, ry, q⟩ => thn (ha pins s1 σ H1 _ I1 q) fun ov s2 ⟨x, H2, I2, rx, a, C, tp, tb, ex, hy, hp, hsa, hob, hfi, q2⟩ => ?_) hs
  subst ex
  obtain rfl : ov = Value.ref a := rx
  obtain ⟨ox, od, ws, J, hdd, hfl, h0⟩ := inst_exc I2.hok hy (.inl rfl)
  obtain ⟨o, ws', e1, hcl, hd, hfl', h6, h0', h1⟩ := exc_get I2.hok hy
  have ee : o = ox := Option.some.inj (e1.symm.trans J.at_)
  subst ee
  have hod : od = none := by
    have := J.dict
    rw [hdd] at this
    cases od with
    | none => rfl
    | some _ => exact this.elim
  subst hod
  refine x_store I2.kIn J hdd hfl hp hsa hob hfi fun h' tk keep hx hns => ?_
  have hT : s2.heap.get? s2.heap.objs.size = none := Heap.get?_none_of_le (Nat.le_refl _)
  have hne : s2.heap.objs.size ≠ a := Nat.ne_of_gt (Heap.lt_size e1)
  refine ⟨σ, _, inv_two (T := s2.heap.objs.size) (tk := tk) I2 hy hT hne keep ⟨_, hx⟩ (fun H' => exc_stay (C := C) (t := tp) (tb := tb) (d := some s2.heap.objs.size) hx hcl rfl hfl' h6 h0' h1) (o2 := .xd [(f, y)]) (fun H' => ⟨_, hns, fun z => ?_⟩), q2 _ (hok_none I2.hok hT) hne⟩
  by_cases hz : z = f
  · subst hz
    simp only [List.lookup_cons, beq_self_eq_true, if_true]
    exact ry
  · have : (z == f) = false := beq_eq_false_iff_ne.mpr hz
    simp only [List.lookup_cons, this, if_neg hz, List.lookup_nil]
    trivial
end
end SF
namespace SF
open PySem PySem.Spec PyProof.Rows L2 PySem.W
theorem law_call2 {P : Program} {w : World} {K : Frag} {mg mb : Str → Option Value} {k : Nat} {fa a c Pt : Addr} {fd : FuncData} {x : Str} {sp : Sp} {s₁ : Shared} {vs : List Value} {ns : List Int}
    (KX : K.In s₁.heap) (hns : s₁.heap.Ns mainGlobals mg) (hb : s₁.heap.Ns builtinsNs mb) (hbb : ∀ x : Str, x ≠ "__name__" → mb x = bootBuiltins x) (hlim : s₁.heap.NoLimit) (hseer : s₁.heap.NoSeer) (hg : s₁.gens = #[])
    (ha : s₁.heap.get? a = some { cls := .type "list", data := .seq vs.toArray }) (hi : IntsAre vs ns) (hl : ns.length ≤ sizeLine) (hr : Room k callerA) (hcd : CodeHd s₁.heap c Pt) (hPt : s₁.heap.get? Pt = some (tabObj #[])) (hKt : noTabs K = true) (BM : BMain s₁.heap mg)
    (F : ∀ base : Heap, K.In base → base.Ns mainGlobals mg → BMain base mg → CodeHd base c Pt → FnG P w K mg base CX0 true k fa fd [x] fun _ => sp) (hbind : ∀ (s : Shared) (u : Value), BindsTo s fd ⟨[u], []⟩ [(x, u)])
    (hsp : ∀ H : Hp, SqL K H a (ns.map V.int) → H Pt = some (.tbl #[]) → sp [.ref a] H (fun v _ => v = .bl true) E0) :
    codeAny (model P w) callerA (.call (.ref fa) ⟨[.ref a], []⟩) (fun r s' => r = .ok (.ret (.bool true)) ∧ OldK s₁.heap s'.heap ∧ s'.os = s₁.os ∧ AllBare s'.gens) s₁ := by
  have rv := vals_ints hi
  have lenV := hi.length
  have haP : a ≠ Pt := fun z => by rw [z, hPt] at ha; cases ha
  have core : ∀ H : Hp, SqL K H a (ns.map V.int) → H Pt = some (.tbl #[]) → HOk P w H s₁.heap → (∀ b, H b ≠ none → b = a ∨ b = Pt) → (H a = none ∨ ∃ o xs, H a = some (.frz o (.lst xs))) → (H a ≠ none → K.lookup a = none) →
      codeAny (model P w) callerA (.call (.ref fa) ⟨[.ref a], []⟩) (fun r s' => r = .ok (.ret (.bool true)) ∧ OldK s₁.heap s'.heap ∧ s'.os = s₁.os ∧ AllBare s'.gens) s₁ := by
    intro H hS hP hok hA hO hK
    have noA : ∀ {b : Addr} {o : Obj}, s₁.heap.get? b = some o → (o.cls ≠ .type "list" ∨ ∀ xs n, o.data ≠ .seq xs n) → o ≠ tabObj #[] → H b = none := fun {b o} e d d2 => by
      cases q : H b with
      | none => rfl
      | some u =>
        rcases hA b (by rw [q]; simp) with z | z
        · subst z
          rw [ha] at e; cases e
          rcases d with d | d
          · exact absurd rfl d
          · exact absurd rfl (d _ _)
        · subst z
          rw [hPt] at e; cases e
          exact absurd rfl d2
    have nsK : ∀ {b : Addr} {m : Str → Option Value}, s₁.heap.Ns b m → (hidT s₁.heap H).Ns b m := fun {b m} ⟨o, es, ep, e, d, r⟩ => ⟨o, es, ep, hidT_get e (noA e (.inr fun xs n z => by rw [d] at z; cases z) fun z => by rw [z] at d; cases d), d, r⟩
    have hKb : K.In (hidT s₁.heap H) := fun b o e => hidT_get (KX b o e) (by
      cases q : H b with
      | none => rfl
      | some u =>
        rcases hA b (by rw [q]; simp) with z | z
        · subst z
          rw [hK (by rw [q]; simp)] at e; cases e
        · subst z
          have h2 := List.all_eq_true.mp hKt (b, o) (mem_of_lookupK e)
          have := KX b o e
          rw [hPt] at this; cases this
          exact absurd (show false = true from h2) Bool.false_ne_true)
    have mdl : ∀ {b : Addr} {o : Obj}, s₁.heap.get? b = some o → o.cls = .type "module" → (hidT s₁.heap H).get? b = some o := fun {b o} e c => hidT_get e (noA e (.inl (by rw [c]; intro z; exact absurd (Value.type.inj z) (by decide))) fun z => by rw [z] at c; cases c)
    have hM : Mod K mg (hidT s₁.heap H) := ⟨hKb, nsK hns, ⟨mb, nsK hb, hbb⟩, (let ⟨mc, h1, h2⟩ := hlim; ⟨mc, nsK h1, h2⟩), (let ⟨mc, h1, h2⟩ := hseer.statics; ⟨mc, nsK h1, h2⟩), (let ⟨mc, h1, h2⟩ := hseer.mods; ⟨mc, nsK h1, h2⟩), (let ⟨mc, h1, h2⟩ := hseer.imp; ⟨mc, nsK h1, h2⟩),
      (let ⟨g, bm, ob, h1, h2, h3, h4, h5⟩ := hseer.main; ⟨g, bm, ob, nsK h1, h2, mdl h3 h4, h4, h5⟩)⟩
    have BM' : BMain (hidT s₁.heap H) mg := let ⟨bm, ob, b1, b2, b3, b4, b5, b6⟩ := BM; ⟨bm, ob, b1, b2, b3, mdl b4 b5, b5, b6⟩
    have hcd' : CodeHd (hidT s₁.heap H) c Pt := by
      obtain ⟨o, ws, file, tf, flags, tg, inF, text, tt, e1, r1, r2⟩ := hcd
      exact ⟨o, ws, file, tf, flags, tg, inF, text, tt, hidT_get e1 (noA e1 (.inl (by rw [r1]; intro z; exact absurd (Value.type.inj z) (by decide))) fun z => by rw [z] at r1; cases r1), r1, r2⟩
    have e0 : Env0 P w K mg (hidT s₁.heap H) callerA [] s₁ H := ⟨rfl, hM, fun b o e => of_hidT e, Nat.le_of_eq (hidT_size _ _), trivial, fun b hb => absurd (show b ∈ ([] : List Addr) from hb) (by simp), hok, .of_eq hg⟩
    refine codeAny_mono ((F _ hKb (nsK hns) BM' hcd').run callerA [] s₁ H ⟨[.ref a], []⟩ [.ref a] [.ref a] _ _ (roomG hr) e0 (hbind s₁ (.ref a)) (.cons rfl .nil) (hsp H hS hP)) fun r s' h => ?_
    cases r with
    | error e => exact h.elim
    | ok fl =>
      cases fl with
      | next => exact False.elim h
      | brk => exact False.elim h
      | cont => exact False.elim h
      | ret u =>
        obtain ⟨v, H', os, bare, un, hok', r', q⟩ := h
        have q' : v = .bl true := q
        subst q'
        obtain rfl : u = Value.bool true := r'
        obtain ⟨more, eP⟩ := un.tbls Pt #[] hP
        have eP' : s'.heap.get? Pt = some (tabObj (#[] ++ more)) := hok' Pt _ eP
        have kp : ∀ b o, b ≠ Pt → s₁.heap.get? b = some o → s'.heap.get? b = some o := fun b o nb e => by
          cases q : H b with
          | none => exact un.keep b o e q (by intro z; exact absurd (show b ∈ ([] : List Addr) from z) (by simp)) (by simp)
          | some u =>
            have hba : b = a := (hA b (by rw [q]; simp)).resolve_right nb
            subst hba
            rcases hO with z | ⟨ob, xs, z⟩
            · rw [q] at z; cases z
            · have z2 := un.frzs b ob _ z
              obtain ⟨e1, _⟩ := hok b _ z
              obtain ⟨e2, _⟩ := hok' b _ z2
              rw [e] at e1; cases e1
              exact e2
        refine ⟨rfl, ⟨fun b o e => ?_, fun b o e => ?_⟩, os, bare⟩
        · by_cases hbP : b = Pt
          · subst hbP
            have eo : o = tabObj #[] := Option.some.inj (e.symm.trans hPt)
            subst eo
            exact .inr (.inl ⟨(hcd.tab hPt).isCodeTable, rfl, #[], more, rfl, eP'⟩)
          · exact .inl (kp b o hbP e)
        · by_cases hbP : b = Pt
          · subst hbP; exact ⟨_, eP'⟩
          · exact ⟨o, kp b o hbP e⟩
  have hPtok : ∀ H, ObjOk P w H s₁.heap Pt (.tbl #[]) := fun _ => hPt
  cases hk : K.lookup a with
  | some o =>
    have e := KX a o hk
    rw [ha] at e
    cases e
    refine core (fun b => if b = Pt then some (.tbl #[]) else none) (.inr ⟨_, vs.toArray, _, hk, rfl, rfl, rfl, by rw [List.size_toArray, lenV]; exact hl, by simpa using rv⟩) (if_pos rfl) (fun b u z => ?_) (fun b z => ?_) (.inl (if_neg haP)) fun z => absurd (if_neg haP) z
    · by_cases hb : b = Pt
      · have z' := (if_pos hb).symm.trans z
        cases z'
        subst hb
        exact hPtok _
      · have z' := (if_neg hb).symm.trans z
        cases z'
    · by_cases hb : b = Pt
      · exact .inr hb
      · exact absurd (if_neg hb) z
  | none =>
    refine core (fun b => if b = Pt then some (.tbl #[]) else if b = a then some (.frz { cls := .type "list", data := .seq vs.toArray } (.lst (ns.map V.int))) else none) (.inl (.inr ⟨{ cls := .type "list", data := .seq vs.toArray }, by show (if a = Pt then _ else _) = _; rw [if_neg haP, if_pos rfl]⟩)) (if_pos rfl) (fun b u z => ?_) (fun b z => ?_) (.inr ⟨_, _, by show (if a = Pt then _ else _) = _; rw [if_neg haP, if_pos rfl]⟩) fun _ => hk
    · have z : (if b = Pt then some (.tbl #[]) else if b = a then some (.frz { cls := .type "list", data := .seq vs.toArray } (.lst (ns.map V.int))) else none : Option HO) = some u := z
      by_cases hb : b = Pt
      · rw [if_pos hb] at z; cases z
        subst hb
        exact hPtok _
      · rw [if_neg hb] at z
        by_cases hba : b = a
        · rw [if_pos hba] at z; cases z
          subst hba
          exact ⟨ha, by rw [List.length_map]; exact hl, vs, _, rv, ha⟩
        · rw [if_neg hba] at z; cases z
    · by_cases hb : b = Pt
      · exact .inr hb
      · rw [if_neg hb] at z
        by_cases hba : b = a
        · exact .inl hba
        · rw [if_neg hba] at z; exact absurd rfl z
theorem walk2 {l : OpenLaw} {n k j : Nat} {q : Program} {loose : List Str} {XP : (Str → Option Value) → Heap → Prop} {YP : World → Heap → Prop} {d : DefRec} {K : Params → Frag} {sp : Frag → Addr → Sp} {x : Str}
    (hn : l.most = some n) (hn2 : n ≤ sizeLine) (hdf : d.params.defaults = []) (hr : Room k callerA) (hrec : (recsOf q)[j]? = some d)
    (hY : ∀ (w : World) (h : Heap), YP w h → (K w.params).In h) (hKt : ∀ w : World, noTabs (K w.params) = true)
    (F : ∀ (w : World) (mg : Str → Option Value) (fa : Addr) (h : Heap), (K w.params).In h → h.Ns mainGlobals mg → mg d.name = some (.ref fa) →
      ∃ fd : FuncData, (∃ oc od sl, (K w.params).lookup fa = some ⟨oc, od, .func fd, sl⟩) ∧ (∀ (s : Shared) (u : Value), BindsTo s fd ⟨[u], []⟩ [(x, u)]) ∧
        ∀ (base : Heap) (c Pt : Addr), fd.code = .ref c → (K w.params).In base → base.Ns mainGlobals mg → BMain base mg → CodeHd base c Pt → FnG l.prog w (K w.params) mg base CX0 true k fa fd [x] fun _ => sp (K w.params) Pt)
    (hsp : ∀ (K : Frag) (Pt : Addr) (H : Hp) (a : Addr) (ns : List Int), ns.length ≤ n → SqL K H a (ns.map V.int) → H Pt = some (.tbl #[]) → sp K Pt [.ref a] H (fun v _ => v = .bl true) E0) (hi : importsNone q = true) :
    WalkO q loose XP YP l.row.toRowW d [] (fun f vs => PySem.call f vs) := by
  refine Att.attach_call hn hdf fun w s₀ s₁ mg mb fa o pm cd doc a vs ns G Y ho hd hcd hmg hobj hints hlen hg => ?_
  have KX := hY w _ Y
  obtain ⟨fd, ⟨oc, od, sl, lk⟩, hb, hF⟩ := F w mg fa _ KX G.T.g hmg
  obtain ⟨a2, o2, fd2, c, Pt, t1, t2, t3, t4, t5, t6⟩ := G.T.tab d (List.mem_of_getElem? hrec)
  have ea : a2 = fa := Value.ref.inj (Option.some.inj (t1.symm.trans hmg))
  subst ea
  have eo := Option.some.inj (t2.symm.trans (KX _ _ lk))
  subst eo
  have efd : fd = fd2 := by injection t3
  subst efd
  have BM : BMain s₁.heap mg := by
    obtain ⟨bm, ob, b1, b2, b3, b4, b5, b6⟩ := G.T.bmain
    refine ⟨bm, ob, b1, b2, fun z => ?_, b3, b4, b5, b6⟩
    obtain ⟨o', es, ep, e, dd, _⟩ := G.T.g
    rw [z, e] at b3; cases b3
    rw [dd] at b6; cases b6
  exact law_call2 KX G.T.g G.T.b G.T.builtins G.T.nolimit (G.T.seer hi) hg hobj hints (Nat.le_trans hlen hn2) hr (CodeHd.of t5 t6) t6.2 (hKt w) BM (fun base b1 b2 b3 b4 => hF base c Pt t4 b1 b2 b3 b4) hb fun H hS hP => hsp _ Pt H a ns hlen hS hP
end SF
namespace SF
open PySem PySem.Spec PyProof.Rows L2 PySem.W
section
variable {M : Model} {A : Around} {E : Value → Shared → Prop} {env : Env}
variable {nm q : Str} {C N : Addr} {bs bm : List Value} {hdct : Bool} {sn : List Str} {sub : List Value} {ab : Bool} {col : Option Bool} {dd : Option Addr} {k0 k1 k2 k3 k5 : Option Value} {newId : String}
theorem raise_any {s : Shared} {x : Sem Value} {Q : Flow → Shared → Prop} (hh : A.handled = none)
    (h : wpAny M A x (fun v s₁ => ∃ e oe vs C N nm q bs bm hdct sn sub ab col dd k0 k1 k2 k3 k5 newId, v = .ref e ∧ bm.contains (.type "BaseException") = true ∧ s₁.heap.get? C = some (excClassObj nm q C N bs bm hdct sn sub ab col dd k0 k1 k2 k3 k5 newId) ∧
      s₁.heap.get? e = some oe ∧ oe.cls = .ref C ∧ oe.data = .fields vs ∧ vs[1]? = some .none ∧ E (.ref e) s₁) E s) :
    wpAny M A (raiseStmt env (some x) none) Q E s := by
  unfold raiseStmt
  refine wpAny_bind (wpAny_mono h (fun v s₁ h₁ => ?_) fun _ _ x => x)
  obtain ⟨e, oe, vs, C, N, nm, q, bs, bm, hdct, sn, sub, ab, col, dd, k0, k1, k2, k3, k5, newId, rfl, hbase, hC, he, hc, hd, h1, hE⟩ := h₁
  have hcB : (Value.ref C :: bm).contains (.type "BaseException") = true := by rw [List.contains_cons, hbase, Bool.or_true]
  obtain ⟨cc, od, dt, sl⟩ := oe
  dsimp only at hc hd
  subst hc hd
  obtain ⟨hp, g, d, tk, os⟩ := s₁
  repeat (first | with_reducible refine wpAny_loadPart_at he ?_ | with_reducible refine wpAny_loadPart_at hC ?_ | (with_reducible refine wpAny_isSubtype_exc hC ?_; rw [hcB]) | with_reducible refine wpAny_field he rfl h1 ?_ | wp_step)
  exact wpAny_raiseNew_none hh hE
end
noncomputable def tRaiseV (K : Frag) (E : XK) (te : TE) : TS := fun _ σ H => te σ H fun v H1 => ∃ a C t d fI, v = .ref a ∧ H1 a = some (excO a C t .none d) ∧ XClsI K C fI ∧ E (.ref C) d H1
theorem ps_raiseV {X : Cx} {E : XK} {e : Expr} {te : TE} {pos : Pos} (hE : LeavesTo X E) (hcalm : X.calm = true) (he : PE X e te) : L2.PS X (.Raise (some e) none pos) (tRaiseV X.K E te) := by
  intro pins s σ H D I h
  rw [arm_exec_Raise]
  refine wpAny_bind (wpAny_standAt ?_)
  have key : wpAny (model X.prog X.w) X.A (eval e X.env >>= fun v => standAt pos >>= fun _ => pure v) (fun v s₁ => ∃ e oe vs C N nm q bs bm hdct sn sub ab col dd k0 k1 k2 k3 k5 newId, v = .ref e ∧ bm.contains (.type "BaseException") = true ∧ s₁.heap.get? C = some (excClassObj nm q C N bs bm hdct sn sub ab col dd k0 k1 k2 k3 k5 newId) ∧
      s₁.heap.get? e = some oe ∧ oe.cls = .ref C ∧ oe.data = .fields vs ∧ vs[1]? = some .none ∧ X.xe (.ref e) s₁) X.xe s := by
    refine wpAny_bind (thn (he pins s σ H _ I h) fun v s1 ⟨x, H1, I1, r, a, C, t, d, fI, ex, ha, hc, q⟩ => wpAny_bind (wpAny_standAt (wpAny_pure ?_)))
    subst ex
    cases r
    obtain ⟨bm, N, nm, qn, bs, hdct, sn, sub, ab, col, dd, k0, k1, k2, k3, k5, mN, hC, hN, hni, TL⟩ := excI_obj I1.kIn hc
    obtain ⟨o, vs, e1, hcl, hd, hf, h6, h0, h1⟩ := exc_get I1.hok ha
    exact ⟨a, o, vs, C, N, nm, qn, bs, bm, hdct, sn, sub, ab, col, dd, k0, k1, k2, k3, k5, _, rfl, TL.hasType (by decide), hC, e1, hcl, hf, h1, hE pins σ H1 s1 a C t .none d H1 .none I1 ha (.inl rfl) Sub.refl ha q⟩
  first
  | exact raise_any (I.ok.hd hcalm) key
  | (simp only [evalOpt, Option.map]; exact raise_any (I.ok.hd hcalm) key)
noncomputable def CdO (oc : Obj) (q : Str) : Prop := ∃ vs t, oc.data = .fields vs ∧ vs[1]? = some (.str q t)
noncomputable def tLamF (P : Addr) (pos : Pos) (qual : Str) (params : Arguments) (body : Expr) (scope : Scope) (cl : List (Str × Addr)) : TE := fun _ H Q => ∃ ps, H P = some (.tbl ps) ∧ TriplesOk ps.toList ∧ codeAmong pos ps.toList = none ∧
  ∀ f c' oc, CdO oc qual → H f = none → H c' = none → f ≠ c' → Q (.ref f) (upd (upd (upd H P (.tbl (ps ++ #[rawInt pos.line, rawInt pos.col, .ref c']))) c' (.frz oc (.own 0))) f (lamO f "<lambda>" qual params body scope cl c'))
theorem pe_lamF {X : Cx} {params : Arguments} {body : Expr} {scope : Scope} {pos : Pos} {c P : Addr} {cl : List (Str × Addr)} (hcode : X.env.code = .ref c) (C : CodeHd X.base c P) (hcl : closureFor scope X.env = pure cl) (hdef : defaultsOf params X.env = ([], [])) (B : BMain X.base X.mg) :
    PE X (.Lambda params body scope pos) (tLamF P pos (X.env.qual ++ "<lambda>") params body scope cl) := by
  intro pins s σ H Q I h
  obtain ⟨ps, hP, ht, hn, q⟩ := h
  have hPs : s.heap.get? P = some (tabObj ps) := I.hok P _ hP
  have hg := I.mod.glob.keeps I.bk
  have neP : ∀ b o, X.base.get? b = some o → b ≠ P := fun b o e z => by subst z; have := (I.bs b o e).2; rw [hP] at this; cases this
  have hgP : mainGlobals ≠ P := by obtain ⟨o, _, _, e, _⟩ := I.mod.glob; exact neP _ o e
  obtain ⟨bm, ob, b1, b2, b3, b4, b5, b6, b7⟩ := B
  refine kla_eval hdef (kla_makeFunction (mg := X.mg) hcl I.ok.glob hg hcode (C.keeps I.bk) hPs ht hn hgP ⟨bm, ob, b1, b2, b3, neP _ _ b4, I.bk _ _ b4, b5, b6, b7⟩ fun c' ctv h' tk hx hge hlt hrec htb => ?_)
  obtain ⟨c2, oc, vs, t2, e2, hoc, hd, hv⟩ := hrec
  cases e2
  have hsz : s.heap.objs.size ≤ h'.objs.size := Nat.le_of_lt (Nat.lt_of_le_of_lt hge hlt)
  have hc'n : H c' = none := I.hok.fresh hge
  have hfn : H h'.objs.size = none := I.hok.fresh hsz
  have hfc : h'.objs.size ≠ c' := Nat.ne_of_gt hlt
  have old : ∀ b o, s.heap.get? b = some o → b ≠ c' ∧ b ≠ h'.objs.size := fun b o e => ⟨Nat.ne_of_lt (Nat.lt_of_lt_of_le (Heap.lt_size e) hge), Nat.ne_of_lt (Nat.lt_of_lt_of_le (Heap.lt_size e) hsz)⟩
  have nP : ∀ b u, H b = some u → (∀ z, u ≠ .tbl z) → b ≠ P := fun b u e n z => by subst z; rw [hP] at e; cases e; exact n _ rfl
  have nP0 : ∀ b, H b = none → b ≠ P := fun b e z => by subst z; rw [hP] at e; cases e
  have trk : ∀ b u, H b = some u → b ≠ c' ∧ b ≠ h'.objs.size := fun b u e => ⟨fun z => (by rw [z, hc'n] at e; cases e), fun z => (by rw [z, hfn] at e; cases e)⟩
  have hPc : P ≠ c' := (trk P _ hP).1
  have hPf : P ≠ h'.objs.size := (trk P _ hP).2
  generalize hob : kla_obj "<lambda>" (X.env.qual ++ "<lambda>") params body scope cl ((X.mg "__name__").getD .none) c' ctv = obj
  have keep : ∀ b o, b ≠ P → s.heap.get? b = some o → (h'.push obj).get? b = some o := fun b o n e => Heap.get?_push_of_some _ (hx b o n e)
  have hfo : (h'.push obj).get? h'.objs.size = some obj := Heap.get?_push_size _ (by subst hob; rfl)
  refine ⟨.ref h'.objs.size, _, I.un (t' := tk) (H' := upd (upd (upd H P (.tbl (ps ++ #[rawInt pos.line, rawInt pos.col, .ref c']))) c' (.frz oc (.own 0))) h'.objs.size (lamO h'.objs.size "<lambda>" (X.env.qual ++ "<lambda>") params body scope cl c')) ⟨fun b o e n _ _ => keep b o (nP0 b n) e, fun b o e n _ _ => ⟨o.slots, keep b o (nP0 b n) e⟩, fun b o e n _ => ?_, fun b o e _ => ?_, fun b xs e => ?_, fun b u xs e => ?_, fun b pz e => ?_⟩ fun b u e => ?_, rfl, q _ c' oc ⟨vs, t2, hd, hv⟩ hfn hc'n hfc⟩
  · rw [upd_ne (old b o e).2, upd_ne (old b o e).1, upd_ne (nP0 b n)]; exact n
  · by_cases z : b = P
    · subst z; exact ⟨_, Heap.get?_push_of_some _ htb⟩
    · exact ⟨o, keep b o z e⟩
  · rw [upd_ne (trk b _ e).2, upd_ne (trk b _ e).1, upd_ne (nP b _ e nofun)]; exact e
  · rw [upd_ne (trk b _ e).2, upd_ne (trk b _ e).1, upd_ne (nP b _ e nofun)]; exact e
  · rw [upd_ne (trk b _ e).2, upd_ne (trk b _ e).1]
    by_cases z : b = P
    · subst z; rw [hP] at e; cases e; exact ⟨_, upd_same⟩
    · exact ⟨#[], by rw [upd_ne z, e]; simp⟩
  · by_cases hbf : b = h'.objs.size
    · subst hbf; rw [upd_same] at e; cases e
      subst hob
      exact ⟨⟨_, _, hfo⟩, ⟨_, hfo⟩, fun _ _ ⟨pm, ctv, e⟩ k => ⟨pm, ctv, k _ e⟩⟩
    · rw [upd_ne hbf] at e
      by_cases hbc : b = c'
      · subst hbc; rw [upd_same] at e; cases e
        have := Heap.get?_push_of_some obj hoc
        exact ⟨this, _, this⟩
      · rw [upd_ne hbc] at e
        by_cases hbP : b = P
        · subst hbP; rw [upd_same] at e; cases e
          exact Heap.get?_push_of_some obj htb
        · rw [upd_ne hbP] at e
          refine (I.hok b u e).stay (fun c v hc e => keep c v ?_ e) (fun c r => ?_) fun c xs r => ?_
          · rcases hc with rfl | hc
            · exact hbP
            · exact nP c _ hc nofun
          · rw [upd_ne (trk c _ r).2, upd_ne (trk c _ r).1, upd_ne (nP c _ r nofun)]; exact r
          · rw [upd_ne (trk c _ r).2, upd_ne (trk c _ r).1, upd_ne (nP c _ r nofun)]; exact r
noncomputable def tLam2 (P : Addr) (pos : Pos) (qual : Str) (params : Arguments) (body : Expr) (scope : Scope) (cl : List (Str × Addr)) : TE := fun σ H Q => tLamF P pos qual params body scope cl σ H Q ∨
  ∃ ps c', H P = some (.tbl ps) ∧ TriplesOk ps.toList ∧ codeAmong pos ps.toList = some (.ref c') ∧ ∀ f, H f = none → Q (.ref f) (upd H f (lamO f "<lambda>" qual params body scope cl c'))
theorem pe_lam2 {X : Cx} {params : Arguments} {body : Expr} {scope : Scope} {pos : Pos} {c P : Addr} {cl : List (Str × Addr)} (hcode : X.env.code = .ref c) (C : CodeHd X.base c P) (hcl : closureFor scope X.env = pure cl) (hdef : defaultsOf params X.env = ([], [])) (B : SF.BMain X.base X.mg) :
    PE X (.Lambda params body scope pos) (tLam2 P pos (X.env.qual ++ "<lambda>") params body scope cl) := by
  intro pins s σ H Q I h
  rcases h with h | ⟨ps, c', hP, ht, hn, q⟩
  · exact pe_lamF hcode C hcl hdef B pins s σ H Q I h
  have hPs : s.heap.get? P = some (tabObj ps) := I.hok P _ hP
  have hg := I.mod.glob.keeps I.bk
  have neP : ∀ b o, X.base.get? b = some o → b ≠ P := fun b o e z => by subst z; have := (I.bs b o e).2; rw [hP] at this; cases this
  obtain ⟨bm, ob, b1, b2, b3, b4, b5, b6, b7⟩ := B
  refine kla_eval hdef (kla_makeFunctionHit (mg := X.mg) hcl I.ok.glob hg hcode (C.keeps I.bk) hPs ht hn ⟨bm, ob, b1, b2, b3, neP _ _ b4, I.bk _ _ b4, b5, b6, b7⟩ fun ctv h' tk hk hsz => ?_)
  have hfn : H h'.objs.size = none := I.hok.fresh hsz
  have hfo : (h'.push { cls := .type "function", data := .func (kla_fn "<lambda>" (X.env.qual ++ "<lambda>") params body scope cl ((X.mg "__name__").getD .none) (.ref c') ctv) }).get? h'.objs.size = some (kla_obj "<lambda>" (X.env.qual ++ "<lambda>") params body scope cl ((X.mg "__name__").getD .none) c' ctv) := Heap.get?_push_size _ rfl
  exact ⟨.ref h'.objs.size, _, I.laid (t' := tk) (o := lamO h'.objs.size "<lambda>" (X.env.qual ++ "<lambda>") params body scope cl c') (fun b o e => Heap.get?_push_of_some _ (hk b o e)) hsz ⟨⟨_, _, hfo⟩, ⟨_, hfo⟩, fun _ _ ⟨pm, ctv, e⟩ k => ⟨pm, ctv, k _ e⟩⟩, rfl, q _ hfn⟩
theorem fnat_lam {P : Program} {w : World} {H : Hp} {h : Heap} {f c' : Addr} {name qual : Str} {params : Arguments} {body : Expr} {scope : Scope} {cl : List (Str × Addr)} (x : HOk P w H h) (e : H f = some (lamO f name qual params body scope cl c')) : FnAt f h := by
  obtain ⟨pm, ctv, e⟩ := (x f _ e).1
  exact ⟨_, _, _, _, e⟩
noncomputable def tRunA (i : Nat) (L : Addr → Addr → HO) (R : Addr → Addr → List V → Hp → VK → Prop) (t : TA) : TE := fun σ H Q => ∃ f c', σ[i]? = some (some (.ref f)) ∧ H f = some (L f c') ∧ t σ H fun vs H1 => H1 f = some (L f c') ∧ R f c' vs H1 Q
theorem pe_runA {X : Cx} {CX : CXT} {E : XK} {i : Nat} {x : Str} {p pos : Pos} {e : Expr} {es : List Expr} {t : TA} {name qual : Str} {params : Arguments} {body : Expr} {scope : Scope} {cl : List (Str × Addr)} {R : Addr → Addr → List V → Hp → VK → Prop} (hN : X.N[i]? = some x) (hv : Vis X.env.scope x) (hx : Passes CX X E) (ha : PA X (e :: es) t)
    (hR : ∀ pins σ H s f c' vs us Q, Inv X pins σ H s → H f = some (lamO f name qual params body scope cl c') → Vals vs us → R f c' vs H Q → codeAny (model X.prog X.w) X.A (.call (.ref f) ⟨us, []⟩) (CR CX X.stack X.prog X.w H s Q E) s)
    (hd : (x == ("__debug__" : Str)) = false := by decide) (hcd : (x == ("__classdict__" : Str)) = false := by decide) (he : starEach (e :: es) X.env = (false, eval e X.env) :: starEach es X.env := by rfl) (hpl : (backTo pos (starEach es X.env)).any (·.1) = false := by rfl) :
    PE X (.Call (.Name x p) (e :: es) [] pos) (tRunA i (fun f c' => lamO f name qual params body scope cl c') R t) := by
  intro pins s σ H Q I ⟨f, c', e0, hf, h⟩
  refine wpAny_Call_Name_kw (thn (pe_var (X := X) (pos := p) hN hv hd hcd pins s σ H (fun v H1 => v = .ref f ∧ H1 = H) I ⟨_, e0, rfl, rfl⟩) fun u s1 ⟨v, H1, I1, r, ev, eh⟩ => ?_)
  subst ev eh
  cases r
  refine callWith_F (fnat_lam I1.hok hf) (thn (ha pos pins s1 σ _ _ I1 h) fun us s2 ⟨vs, H2, I2, r2, hf2, q2⟩ => ⟨fnat_lam I2.hok hf2, wpAny_call (codeAny_mono (hR pins σ H2 s2 f c' vs us Q I2 hf2 r2 q2) fun r s' hq => ?_)⟩) he hpl
  cases r with
  | error e => exact hx pins σ _ s2 e s' I2 hq
  | ok fl =>
    cases fl with
    | ret u => exact I2.after hq
    | next => exact False.elim hq
    | brk => exact False.elim hq
    | cont => exact False.elim hq
end SF
namespace L2
open PySem PySem.Spec PyProof.Rows
inductive IsStrs : List Expr → List Str → Prop
  | nil : IsStrs [] []
  | cons {x : Str} {j : Nat} {p : Pos} {es : List Expr} {ns : List Str} (h : IsStrs es ns) : IsStrs (.Constant (.str x) j p :: es) (x :: ns)
noncomputable def tStrs (ns : List Str) : TA := fun _ H Q => Q (ns.map V.str) H
theorem pa_strs {X : Cx} : ∀ {es : List Expr} {ns : List Str}, IsStrs es ns → PA X es (tStrs ns)
  | _, _, .nil => fun pos pins s σ H Q I h => pa_nil pos pins s σ H Q I h
  | _, _, .cons h => fun pos pins s σ H Q I q => pa_cons pe_str (pa_strs h) rfl pos pins s σ H Q I q
end L2
namespace SF
open PySem
theorem clip_hi {i j : Nat} {n : Nat} : Builtin.Str.strSliceIndices (some (i : Int)) (some (j : Int)) 1 n = Builtin.Str.strSliceIndices (some ((min i n : Nat) : Int)) (some ((min j n : Nat) : Int)) 1 n := by
  unfold Builtin.Str.strSliceIndices
  have c : ∀ k : Nat, max (0 : Int) (min (if (k : Int) < 0 then (k : Int) + n else (k : Int)) n) = max (0 : Int) (min (if ((min k n : Nat) : Int) < 0 then ((min k n : Nat) : Int) + n else ((min k n : Nat) : Int)) n) := fun k => by
    rw [if_neg (by lia), if_neg (by lia)]
    lia
  have e : (1 : Int) > 0 := by decide
  simp only [if_pos e]
  rw [c i, c j]
theorem clip_lo {j : Option Int} {n : Nat} : Builtin.Str.strSliceIndices none j 1 n = Builtin.Str.strSliceIndices (some ((0 : Nat) : Int)) j 1 n := by
  unfold Builtin.Str.strSliceIndices
  have e : (1 : Int) > 0 := by decide
  simp only [if_pos e]
  have : max (0 : Int) (min (if ((0 : Nat) : Int) < 0 then ((0 : Nat) : Int) + n else ((0 : Nat) : Int)) n) = 0 := by
    rw [if_neg (by decide)]
    lia
  rw [this]
theorem clip_end {i : Option Int} {n : Nat} : Builtin.Str.strSliceIndices i none 1 n = Builtin.Str.strSliceIndices i (some (n : Int)) 1 n := by
  unfold Builtin.Str.strSliceIndices
  have e : (1 : Int) > 0 := by decide
  simp only [if_pos e]
  have : max (0 : Int) (min (if (n : Int) < 0 then (n : Int) + n else (n : Int)) n) = n := by
    rw [if_neg (by lia)]
    lia
  rw [this]
theorem sl_S {l : List Nat} {i j : Nat} (h : i ≤ j) : Txt.slice (S l) (some (i : Int)) (some (j : Int)) = S ((l.drop i).take (j - i)) := by
  have e : Txt.slice (S l) (some (i : Int)) (some (j : Int)) = Txt.slice (S l) (some ((min i l.length : Nat) : Int)) (some ((min j l.length : Nat) : Int)) := by
    unfold Txt.slice
    rw [S_len, clip_hi]
  rw [e, slice_S (by lia) (by lia)]
  by_cases hi : i ≤ l.length
  · rw [Nat.min_eq_left hi]
    by_cases hj : j ≤ l.length
    · rw [Nat.min_eq_left hj]
    · rw [Nat.min_eq_right (by lia), List.take_of_length_le (by rw [List.length_drop]; exact Nat.le_refl _), List.take_of_length_le (by rw [List.length_drop]; lia)]
  · rw [show min i l.length = l.length by lia, List.drop_eq_nil_of_le (Nat.le_refl _), List.drop_eq_nil_of_le (by lia), List.take_nil, List.take_nil]
theorem sl_to {l : List Nat} {j : Nat} : Txt.slice (S l) none (some (j : Int)) = S (l.take j) := by
  have e : Txt.slice (S l) none (some (j : Int)) = Txt.slice (S l) (some ((0 : Nat) : Int)) (some (j : Int)) := by
    unfold Txt.slice
    rw [clip_lo]
  rw [e, sl_S (Nat.zero_le _)]
  rfl
theorem sl_from {l : List Nat} {i : Nat} : Txt.slice (S l) (some (i : Int)) none = S (l.drop i) := by
  have e : Txt.slice (S l) (some (i : Int)) none = Txt.slice (S l) (some (i : Int)) (some (l.length : Int)) := by
    unfold Txt.slice
    rw [S_len, clip_end]
  rw [e]
  by_cases hi : i ≤ l.length
  · rw [sl_S hi, List.take_of_length_le (by rw [List.length_drop]; exact Nat.le_refl _)]
  · have e2 : Txt.slice (S l) (some (i : Int)) (some (l.length : Int)) = Txt.slice (S l) (some (l.length : Int)) (some (l.length : Int)) := by
      unfold Txt.slice
      rw [S_len, clip_hi, Nat.min_eq_right (by lia), Nat.min_self]
    rw [e2, sl_S (Nat.le_refl _), List.drop_eq_nil_of_le (Nat.le_refl _), List.drop_eq_nil_of_le (by lia), List.take_nil]
noncomputable def Asc (l : List Nat) : Prop := (∀ c ∈ l, c < 128) ∧ l.length ≤ 900
noncomputable def tw (l : List Nat) : Nat := (l.takeWhile isd).length
theorem tw_nil : tw [] = 0 := rfl
theorem tw_cons (c : Nat) (r : List Nat) : tw (c :: r) = if isd c = true then tw r + 1 else 0 := by
  unfold tw
  rw [List.takeWhile_cons]
  split <;> rfl
theorem drop_at {l : List Nat} {e : Nat} (h : e < l.length) : l.drop e = l[e] :: l.drop (e + 1) := List.drop_eq_getElem_cons h
noncomputable def fg (l : List Nat) (s : Nat) : List Nat := (l.drop s).takeWhile isd
theorem fg_take (l : List Nat) (s : Nat) : (l.drop s).take (tw (l.drop s)) = fg l s := (List.prefix_iff_eq_take.mp (List.takeWhile_prefix isd)).symm
theorem fg_isd {l : List Nat} {s : Nat} : ∀ c ∈ fg l s, isd c = true := fun c hc => by
  have := List.all_takeWhile (p := isd) (l := l.drop s)
  exact List.all_eq_true.mp this c hc
theorem end_le {l : List Nat} {s : Nat} (h : s ≤ l.length) : s + tw (l.drop s) ≤ l.length := by
  have : tw (l.drop s) ≤ (l.drop s).length := (List.takeWhile_sublist isd).length_le
  rw [List.length_drop] at this
  lia
noncomputable def nz (ds : List Nat) : Bool := (ds.take 1 == [48]) && !decide (ds = [48])
noncomputable def vl (ds : List Nat) : Option Nat := if ds = [] ∨ 12 < ds.length ∨ nz ds = true then none else some (PySem.NumText.digitsVal ds)
theorem dv_lt : ∀ (ds : List Nat) (acc : Nat), (∀ c ∈ ds, isd c = true) → ds.foldl (fun acc c => acc * 10 + (c - 48)) acc < (acc + 1) * 10 ^ ds.length
  | [], acc, _ => by simp
  | c :: ds, acc, h => by
    have hc := h c (.head _)
    unfold isd at hc
    simp only [Bool.and_eq_true, decide_eq_true_eq] at hc
    have ih := dv_lt ds (acc * 10 + (c - 48)) fun x hx => h x (.tail _ hx)
    rw [List.foldl_cons, List.length_cons, Nat.pow_succ]
    refine Nat.lt_of_lt_of_le ih ?_
    have h1 : acc * 10 + (c - 48) + 1 ≤ (acc + 1) * 10 := by lia
    calc (acc * 10 + (c - 48) + 1) * 10 ^ ds.length ≤ ((acc + 1) * 10) * 10 ^ ds.length := Nat.mul_le_mul_right _ h1
      _ = (acc + 1) * (10 ^ ds.length * 10) := by rw [Nat.mul_assoc, Nat.mul_comm 10]
theorem vl_some {ds : List Nat} {n : Nat} (h : vl ds = some n) (hd : ∀ c ∈ ds, isd c = true) : ds ≠ [] ∧ ds.length ≤ 12 ∧ nz ds = false ∧ n < 10 ^ 12 ∧ intText? (S ds) = some (n : Int) := by
  unfold vl at h
  split at h
  · cases h
  · rename_i c
    cases h
    have c1 : ds ≠ [] := fun z => c (.inl z)
    have c2 : ds.length ≤ 12 := Nat.le_of_not_lt fun z => c (.inr (.inl z))
    have c3 : nz ds = false := Bool.eq_false_iff.mpr fun z => c (.inr (.inr z))
    refine ⟨c1, c2, c3, ?_, ?_⟩
    · have := dv_lt ds 0 hd
      rw [Nat.zero_add, Nat.one_mul] at this
      exact Nat.lt_of_lt_of_le this (Nat.pow_le_pow_right (by decide) c2)
    · refine intText_digits (x := S ds) (fun c hc => ?_) c1 (by rw [S_len]; lia)
      have := hd c hc
      unfold isd at this
      simpa using this
theorem vl_none {ds : List Nat} (h : vl ds = none) : ds = [] ∨ 12 < ds.length ∨ nz ds = true := by
  unfold vl at h
  split at h
  · assumption
  · cases h
noncomputable def at1 (l : List Nat) (i c : Nat) : Bool := (l.drop i).take 1 == [c]
theorem at1_lt {l : List Nat} {i c : Nat} (h : at1 l i c = true) : i < l.length := by
  unfold at1 at h
  refine Nat.lt_of_not_le fun z => ?_
  rw [List.drop_eq_nil_of_le z] at h
  cases h
noncomputable def sz (l : List Nat) (s : Nat) : Except Nat Nat := if (at1 l (s + tw (l.drop s)) 120 && s == s + tw (l.drop s)) = true then .ok 1 else match vl (fg l s) with
  | none => .error s
  | some n => if n = 0 ∨ (at1 l (s + tw (l.drop s)) 120 = true ∧ n = 1) then .error s else .ok n
noncomputable def pw (l : List Nat) (s : Nat) : Except Nat (Nat × Nat) := if at1 l s 120 = false then .ok (0, s) else if at1 l (s + 1) 94 = false then .ok (1, s + 1) else match vl (fg l (s + 2)) with
  | none => .error (s + 2)
  | some p => if p < 2 ∨ 12 < p then .error (s + 2) else .ok (p, s + 2 + tw (l.drop (s + 2)))
noncomputable def pt (l : List Nat) (s above : Nat) : Except Nat (Nat × Nat × Nat) := match sz l s with
  | .error e => .error e
  | .ok n => match pw l (s + tw (l.drop s)) with
    | .error e => .error e
    | .ok (p, e) => if above ≤ p then .error s else .ok (n, p, e)
noncomputable def tn (l : List Nat) (s : Nat) : Option Bool := if (l.drop s).take 3 = [32, 43, 32] then some false else if (l.drop s).take 3 = [32, 45, 32] then some true else none
noncomputable def rd : Nat → List Nat → Nat → Bool → Nat → List Int → Except Nat (List Int)
  | 0, _, _, _, _, _ => .error 0
  | k + 1, l, s, neg, above, row => match pt l s above with
    | .error e => .error e
    | .ok (n, p, e) => if e = l.length then .ok (trimL (row.set p (if neg then -(n : Int) else n))) else match tn l e with
      | none => .error e
      | some b => rd k l (e + 3) b p (row.set p (if neg then -(n : Int) else n))
noncomputable def rdT (l : List Nat) : Except Nat (List Int) := if l = [48] then .ok [] else rd 14 l (if at1 l 0 45 then 1 else 0) (at1 l 0 45) 13 (List.replicate 13 0)
noncomputable def un (l : List Nat) (s : Nat) (top : Int) : Except Nat (Nat × Nat) := if at1 l s 47 = false then .ok (1, s) else match vl (fg l (s + 1)) with
  | none => .error (s + 1)
  | some u => if u < 2 ∨ Int.gcd top u ≠ 1 then .error (s + 1) else .ok (u, s + 1 + tw (l.drop (s + 1)))
noncomputable def rrT (l : List Nat) : Except Nat (Int × Int) := match vl (fg l (if at1 l 0 45 then 1 else 0)) with
  | none => .error (if at1 l 0 45 then 1 else 0)
  | some t => if at1 l 0 45 = true ∧ t = 0 then .error (if at1 l 0 45 then 1 else 0) else match un l ((if at1 l 0 45 then 1 else 0) + tw (l.drop (if at1 l 0 45 then 1 else 0))) t with
    | .error e => .error e
    | .ok (u, e) => if e ≠ l.length then .error e else .ok (if at1 l 0 45 then -(t : Int) else t, u)
theorem pw_le {l : List Nat} {s p e : Nat} (hs : s ≤ l.length) (h : pw l s = .ok (p, e)) : e ≤ l.length ∧ p ≤ 12 := by
  unfold pw at h
  split at h
  · cases h; exact ⟨hs, by decide⟩
  · rename_i c1
    have h1 := at1_lt (by simpa using c1 : at1 l s 120 = true)
    split at h
    · cases h; exact ⟨h1, by decide⟩
    · rename_i c2
      have h2 := at1_lt (by simpa using c2 : at1 l (s + 1) 94 = true)
      split at h
      · cases h
      · split at h
        · cases h
        · rename_i c3
          cases h
          exact ⟨end_le (by lia), by lia⟩
theorem sz_pos {l : List Nat} {s n : Nat} (h : sz l s = .ok n) : 1 ≤ n ∧ n < 10 ^ 12 := by
  unfold sz at h
  split at h
  · cases h; exact ⟨by decide, by decide⟩
  · split at h
    · cases h
    · rename_i n' hv
      split at h
      · cases h
      · rename_i c
        cases h
        exact ⟨by lia, (vl_some hv fg_isd).2.2.2.1⟩
theorem pt_le {l : List Nat} {s above n p e : Nat} (hs : s ≤ l.length) (h : pt l s above = .ok (n, p, e)) : e ≤ l.length ∧ p ≤ 12 ∧ p < above ∧ 1 ≤ n ∧ n < 10 ^ 12 := by
  unfold pt at h
  split at h
  · cases h
  · rename_i n' h1
    split at h
    · cases h
    · rename_i p' e' h2
      split at h
      · cases h
      · rename_i c
        cases h
        have := pw_le (end_le hs) h2
        exact ⟨this.1, this.2, by lia, sz_pos h1⟩
theorem tn_le {l : List Nat} {s : Nat} {b : Bool} (h : tn l s = some b) : s + 3 ≤ l.length := by
  have : ((l.drop s).take 3).length = 3 := by
    unfold tn at h
    split at h
    · rename_i c; rw [c]; rfl
    · split at h
      · rename_i c; rw [c]; rfl
      · cases h
  rw [List.length_take, List.length_drop] at this
  lia
end SF
local macro_rules | `(tactic| walk_at "sf") => `(tactic| (repeat first
  | ((with_reducible apply L2.r_var); exact rfl)
  | with_reducible apply L2.r_c | with_reducible apply L2.r_seq | with_reducible apply L2.r_set | with_reducible apply L2.r_ret | with_reducible apply L2.r_op | with_reducible apply L2.r_un
  | with_reducible apply L2.r_i0 | with_reducible apply L2.r_u | with_reducible apply L2.r_test | with_reducible apply L2.r_tb | with_reducible apply L2.r_bl | with_reducible apply L2.r_eqi | with_reducible apply L2.r_nei
  | with_reducible apply L2.r_ifS | with_reducible apply L2.r_ifE | with_reducible apply L2.r_and | with_reducible apply L2.r_or | with_reducible apply L2.r_not | with_reducible apply L2.r_andV | with_reducible apply L2.r_orV | with_reducible apply L2.r_notV
  | with_reducible apply L2.r_nil | with_reducible apply L2.r_cons | with_reducible apply L2.r_call | with_reducible apply L2.r_cb | with_reducible apply L2.r_tup | with_reducible apply L2.r_lst | with_reducible apply L2.r_drop | with_reducible apply L2.r_next
  | with_reducible apply L2.r_tru | with_reducible apply L2.r_for | with_reducible apply L2.r_rng3 | with_reducible apply L2.r_gname | with_reducible apply L2.r_gcons | with_reducible apply L2.r_gnil | with_reducible apply L2.r_asg
  | with_reducible apply L2.r_ilist | with_reducible apply L2.r_rng1 | with_reducible apply L2.r_rng2 | with_reducible apply L2.r_ienum | with_reducible apply L2.r_irev | with_reducible apply L2.r_part | with_reducible apply L2.r_nopart | with_reducible apply L2.r_slice | with_reducible apply L2.r_sub
  | ((with_reducible show (_ ≤ PySem.sizeLine) ∧ _); refine And.intro (L2.small4 (Nat.le_of_ble_eq_true rfl)) ?_)))
namespace K24
open PySem PyProof.Rows L2 SF
noncomputable def top (i : Nat) : Stmt := PySem.Challenge.pw_surefoot_k24_texts_refused.main.body.getD i (.Pass ⟨0, 0, 0, 0⟩)
noncomputable abbrev s_common_divisor : Stmt := top 8
theorem sc_common_divisor : FnScope ["one", "other", "greater", "lesser", "rest"] ["one", "other"] (defScope s_common_divisor) := ⟨rfl, rfl, rfl, by decide +kernel, rfl, by decide +kernel, by decide +kernel⟩
noncomputable abbrev s_trimmed : Stmt := top 10
theorem sc_trimmed : FnScope ["row", "length"] ["row"] (defScope s_trimmed) := ⟨rfl, rfl, rfl, by decide +kernel, rfl, by decide +kernel, by decide +kernel⟩
noncomputable abbrev s_end_of_figures : Stmt := top 14
theorem sc_end_of_figures : FnScope ["text", "start", "end"] ["text", "start"] (defScope s_end_of_figures) := ⟨rfl, rfl, rfl, by decide +kernel, rfl, by decide +kernel, by decide +kernel⟩
noncomputable abbrev s_number_between : Stmt := top 15
theorem sc_number_between : FnScope ["text", "start", "end", "figures", "has_noughts_ahead"] ["text", "start", "end"] (defScope s_number_between) := ⟨rfl, rfl, rfl, by decide +kernel, rfl, by decide +kernel, by decide +kernel⟩
noncomputable abbrev s_size_between : Stmt := top 16
theorem sc_size_between : FnScope ["text", "start", "end", "is_ahead", "size"] ["text", "start", "end"] (defScope s_size_between) := ⟨rfl, rfl, rfl, by decide +kernel, rfl, by decide +kernel, by decide +kernel⟩
noncomputable abbrev s_power_at : Stmt := top 17
theorem sc_power_at : FnScope ["text", "start", "begin", "end", "place"] ["text", "start"] (defScope s_power_at) := ⟨rfl, rfl, rfl, by decide +kernel, rfl, by decide +kernel, by decide +kernel⟩
noncomputable abbrev s_part_at : Stmt := top 18
theorem sc_part_at : FnScope ["text", "start", "above", "middle", "size", "behind"] ["text", "start", "above"] (defScope s_part_at) := ⟨rfl, rfl, rfl, by decide +kernel, rfl, by decide +kernel, by decide +kernel⟩
noncomputable abbrev s_turn_at : Stmt := top 19
theorem sc_turn_at : FnScope ["text", "start", "between"] ["text", "start"] (defScope s_turn_at) := ⟨rfl, rfl, rfl, by decide +kernel, rfl, by decide +kernel, by decide +kernel⟩
noncomputable abbrev s_read : Stmt := top 20
theorem sc_read : FnScope ["text", "row", "is_below", "start", "above", "part"] ["text"] (defScope s_read) := ⟨rfl, rfl, rfl, by decide +kernel, rfl, by decide +kernel, by decide +kernel⟩
noncomputable abbrev s_under_at : Stmt := top 21
theorem sc_under_at : FnScope ["text", "start", "top", "begin", "end", "under"] ["text", "start", "top"] (defScope s_under_at) := ⟨rfl, rfl, rfl, by decide +kernel, rfl, by decide +kernel, by decide +kernel⟩
noncomputable abbrev s_read_ratio : Stmt := top 22
theorem sc_read_ratio : FnScope ["text", "is_below", "start", "end", "top", "behind"] ["text"] (defScope s_read_ratio) := ⟨rfl, rfl, rfl, by decide +kernel, rfl, by decide +kernel, by decide +kernel⟩
noncomputable abbrev s_law_cell : Stmt := top 24
theorem sc_law_cell : FnScope ["_law_script", "_law_k"] ["_law_script", "_law_k"] (defScope s_law_cell) := ⟨rfl, rfl, rfl, by decide +kernel, rfl, by decide +kernel, by decide +kernel⟩
noncomputable abbrev s_law_drawn : Stmt := top 25
theorem sc_law_drawn : FnScope ["_law_cell_here", "_law_k", "_law_more"] ["_law_cell_here", "_law_k"] (defScope s_law_drawn) := ⟨rfl, rfl, rfl, by decide +kernel, rfl, by decide +kernel, by decide +kernel⟩
noncomputable abbrev s_law_word : Stmt := top 26
theorem sc_law_word : FnScope ["_law_e", "_law_flags"] ["_law_e"] (defScope s_law_word) := ⟨rfl, rfl, rfl, by decide +kernel, rfl, by decide +kernel, by decide +kernel⟩
noncomputable abbrev s_law_common : Stmt := top 27
theorem sc_law_common : FnScope ["_law_one", "_law_other", "_law_left"] ["_law_one", "_law_other"] (defScope s_law_common) := ⟨rfl, rfl, rfl, by decide +kernel, rfl, by decide +kernel, by decide +kernel⟩
noncomputable abbrev s_law_count : Stmt := top 30
theorem sc_law_count : FnScope ["_law_text", "_law_at", "_law_end", "_law_figures"] ["_law_text", "_law_at"] (defScope s_law_count) := ⟨rfl, rfl, rfl, by decide +kernel, rfl, by decide +kernel, by decide +kernel⟩
noncomputable abbrev s_law_part : Stmt := top 31
theorem sc_law_part : FnScope ["_law_text", "_law_at", "_law_last", "_law_number", "_law_end", "_law_power", "_law_after"] ["_law_text", "_law_at", "_law_last"] (defScope s_law_part) := ⟨rfl, rfl, rfl, by decide +kernel, rfl, by decide +kernel, by decide +kernel⟩
noncomputable abbrev s_law_read : Stmt := top 32
theorem sc_law_read : FnScope ["_law_text", "_law_at", "_law_sign", "_law_made", "_law_last", "_law_number", "_law_power", "_law_end"] ["_law_text"] (defScope s_law_read) := ⟨rfl, rfl, rfl, by decide +kernel, rfl, by decide +kernel, by decide +kernel⟩
noncomputable abbrev s_law_read_ratio : Stmt := top 33
theorem sc_law_read_ratio : FnScope ["_law_text", "_law_at", "_law_top", "_law_end", "_law_under", "_law_after"] ["_law_text"] (defScope s_law_read_ratio) := ⟨rfl, rfl, rfl, by decide +kernel, rfl, by decide +kernel, by decide +kernel⟩
noncomputable abbrev s_law_spoilt : Stmt := top 34
theorem sc_law_spoilt : FnScope ["_law_text", "_law_more", "_law_signs", "_law_at", "_law_sign", "_law_way"] ["_law_text", "_law_more"] (defScope s_law_spoilt) := ⟨rfl, rfl, rfl, by decide +kernel, rfl, by decide +kernel, by decide +kernel⟩
noncomputable abbrev s_law_some : Stmt := top 35
theorem sc_law_some : FnScope ["_law_more", "_law_some_here"] ["_law_more"] (defScope s_law_some) := ⟨rfl, rfl, rfl, by decide +kernel, rfl, by decide +kernel, by decide +kernel⟩
noncomputable abbrev s_law_answer_of : Stmt := top 36
theorem sc_law_answer_of : FnScope ["_law_rule", "_law_text", "_law_e"] ["_law_rule", "_law_text"] (defScope s_law_answer_of) := ⟨rfl, rfl, rfl, by decide +kernel, rfl, by decide +kernel, by decide +kernel⟩
noncomputable abbrev s_law : Stmt := top 37
theorem sc_law : FnScope ["_law_script", "_law_k", "_law_cell_here", "_law_more", "_law_whole", "_law_text"] ["_law_script"] (defScope s_law) := ⟨rfl, rfl, rfl, by decide +kernel, rfl, by decide +kernel, by decide +kernel⟩
structure Nm (mg : Str → Option Value) : Prop where
  n_abs : mg "abs" = none
  n_len : mg "len" = none
  n_int : mg "int" = none
  n_max : mg "max" = none
  n_min : mg "min" = none
  n_sum : mg "sum" = none
  n_any : mg "any" = none
  n_all : mg "all" = none
  n_list : mg "list" = none
  n_range : mg "range" = none
  n_enumerate : mg "enumerate" = none
  n_reversed : mg "reversed" = none
  n_str : mg "str" = none
  n_isinstance : mg "isinstance" = none
  n_ValueError : mg "ValueError" = none
noncomputable abbrev IL (H : Hp) (a : Addr) (xs : List Int) : Prop := H a = some (.lst (xs.map V.int))
theorem mulOk {i j : Int} {m n : Nat} (hi : Bd m i) (hj : Bd n j) (h : m + n ≤ 134217728) : IntMulOk i j := by
  have bits : ∀ {k : Nat} {x : Int}, Bd k x → Builtin.Int.intBits x ≤ k := fun {k x} hx => PySem.intBits_le_iff.mpr hx
  exact PySem.IntMulOk.of_le (bits hi) (bits hj) (by lia)
theorem il_at {xs : List Int} {n : Nat} (h : n < xs.length) : atI (xs.map V.int) (n : Int) = some (.int (SF.co xs n)) :=
  atI_nat (by rw [List.getElem?_map, List.getElem?_eq_getElem h, co_lt h] <;> rfl)
theorem cut_take (xs : List Int) (n : Nat) : cutV (xs.map V.int) none (some (n : Int)) = (xs.take n).map V.int := by
  unfold cutV
  rw [HT.sIx_none, HT.sIx_nat, List.length_map, List.drop_zero, Nat.sub_zero, List.map_take]
  rcases Nat.le_total n xs.length with h | h
  · rw [Nat.min_eq_left h]
  · rw [Nat.min_eq_right h, List.take_of_length_le (by simp), List.take_of_length_le (by simpa using h)]
theorem rep_flat {α : Type} (x : α) : ∀ n : Nat, (List.replicate n [x]).flatten = List.replicate n x
  | 0 => rfl
  | n + 1 => by
    rw [List.replicate_succ, List.flatten_cons, rep_flat x n, List.replicate_succ]; rfl
theorem map_rep (n : Nat) (x : Int) : (List.replicate n x).map V.int = List.replicate n (V.int x) := List.map_replicate
theorem ix_nat {n i : Nat} (h : i < n) : ixN n (i : Int) = some i := by
  unfold ixN
  rw [if_pos (by lia), if_pos (by lia)]
  simp
noncomputable def spGcd : Sp := fun vs H Q _ => ∃ a b : Int, vs = [.int a, .int b] ∧ Q (.int ((Int.gcd a b : Nat) : Int)) H
noncomputable def spL (f : List Int → List Int) (Pr : List Int → Prop) : Sp := fun vs H Q _ => ∃ (a : Addr) (xs : List Int), vs = [.ref a] ∧ IL H a xs ∧ Pr xs ∧ ∀ (p : Addr) (H' : Hp), Same H H' → IL H' p (f xs) → Q (.ref p) H'
noncomputable abbrev Few (xs : List Int) : Prop := xs.length ≤ 1000
section
variable {P : Program} {w : World} {K : PySem.W.Frag} {mg : Str → Option Value} {base : Heap}
theorem ok_common_divisor (T : Nm mg) (D : DefB K mg "common_divisor" s_common_divisor ["one", "other"]) : FnB P w K mg base 1 "common_divisor" ["one", "other"] spGcd := by
  refine D.ok sc_common_divisor (fun vs H Q E h => ?_) (fun f cdv A outer s H vs Q E hr h => ?_)
  · obtain ⟨a, b, rfl, _⟩ := h
    rfl
  obtain ⟨a, b, rfl, q⟩ := h
  refine ⟨_, (pss_cons (ps_set (i := 2) sc_common_divisor.nd rfl (Or.inl rfl) (pe_callB call_abs rfl T.n_abs boot_abs (pa_cons (pv 0) pa_nil)))
    (pss_cons (ps_set (i := 3) sc_common_divisor.nd rfl (Or.inl rfl) (pe_callB call_abs rfl T.n_abs boot_abs (pa_cons (pv 1) pa_nil)))
    (pss_cons (ps_while PassesOwn.never (pt_truth (pv 3) (fun _ => rfl))
    (pss_cons (ps_set (i := 4) sc_common_divisor.nd rfl (Or.inl rfl) (pe_op op_modN (pv 2) (pv 3)))
    (pss_cons (ps_set (i := 2) sc_common_divisor.nd rfl (Or.inl rfl) (pv 3))
    (pss_one (ps_set (i := 3) sc_common_divisor.nd rfl (Or.inl rfl) (pv 4))))))
    (pss_one (ps_ret (pv 2)))))), ?_⟩
  walk_at "sf"
  refine ⟨_, rfl, ?_⟩
  walk_at "sf"
  refine ⟨_, rfl, ?_⟩
  walk_at "sf"
  refine while_go (fun m σ H' => ∃ (g l : Int) (r : Option V), m = l.toNat ∧ σ = [some (.int a), some (.int b), some (.int g), some (.int l), r] ∧ H' = H ∧ 0 ≤ g ∧ 0 ≤ l ∧ Int.gcd g l = Int.gcd a b)
    ⟨_, _, _, _, rfl, rfl, rfl, by split <;> lia, by split <;> lia, gcd_abs⟩ ?_
  rintro m σ H' ⟨g, l, r, rfl, rfl, rfl, hg, hl, e⟩
  walk_at "sf"
  refine ite2 (fun c => ?_) (fun c => ?_)
  · have hl0 : l ≠ 0 := by simpa using c
    have hp : 0 < l := by lia
    refine ⟨_, fun σ' H' h => h, ?_⟩
    walk_at "sf"
    refine r_i hl0 ?_
    walk_at "sf"
    have h1 := Int.emod_nonneg g hl0
    have h2 := Int.emod_lt_of_pos g hp
    rw [fmod_pos hp]
    exact ⟨_, by lia, _, _, _, rfl, rfl, rfl, hl, h1, by rw [gcd_turn hg hp, e]⟩
  · have hl0 : l = 0 := by simpa using c
    subst hl0
    walk_at "sf"
    have e' : ((Int.gcd a b : Nat) : Int) = g := by rw [← e]; exact gcd_end hg
    rw [e'] at q
    exact q
end
end K24
namespace K24
open PySem PyProof.Rows L2 SF
noncomputable def spCell (K : PySem.W.Frag) : Sp := fun vs H Q _ => ∃ (a : Addr) (ns : List Int) (k : Int), vs = [.ref a, .int k] ∧ SqL K H a (ns.map V.int) ∧ ns.length ≤ 63 ∧ 0 ≤ k ∧ ∀ (c : Int) (H' : Hp), Same H H' → Q (.int c) H'
noncomputable def spDrawn : Sp := fun vs H Q _ => ∃ c k : Int, vs = [.int c, .int k] ∧ ∀ m : Int, 0 ≤ m → Bd 128 m → Q (.int m) H
theorem fdiv_nn {x : Int} {d : Int} (h : 0 ≤ x) (hd : 0 < d) : x.fdiv d = x / d ∧ 0 ≤ x / d ∧ x / d ≤ x :=
  ⟨fdiv_pos hd, Int.ediv_nonneg h (by lia), Int.ediv_le_self d h⟩
theorem fm {x : Int} {m : Int} (hm : 0 < m) : x.fmod m = x % m ∧ 0 ≤ x % m ∧ x % m < m := ⟨fmod_pos hm, Int.emod_nonneg x (Int.ne_of_gt hm), Int.emod_lt_of_pos x hm⟩
theorem d64 (n : Int) (h1 : 0 < n) (h2 : n < 2 ^ 64) : (n ≠ 0 ∧ n.natAbs.log2 < 9000) := ⟨Int.ne_of_gt h1, (Bd.of_range (n := 64) (by lia) h2).log2 (by decide)⟩
section
variable {P : Program} {w : World} {K : PySem.W.Frag} {mg : Str → Option Value} {base : Heap}
theorem ok_law_cell (T : Nm mg) (D : DefB K mg "_law_cell" s_law_cell ["_law_script", "_law_k"]) : FnB P w K mg base 1 "_law_cell" ["_law_script", "_law_k"] (spCell K) := by
  refine D.ok sc_law_cell (fun vs H Q E h => ?_) (fun f cdv A outer s H vs Q E hr h => ?_)
  · obtain ⟨a, ns, k, rfl, _⟩ := h
    rfl
  obtain ⟨a, ns, k, rfl, hS, hl, hk, q⟩ := h
  refine ⟨_, (pss_cons (ps_if (pt_cmpR (op_eqI hr.units0) (pv 0) (pe_lst pa_nil) (nomark _))
    (pss_one (ps_ret (pe_op op_mulL (pv 1) pe_int)))
    pss_nil)
    (pss_one (ps_ret (pe_op op_add (pe_ix ix_list (pv 0) (pe_op op_modN (pv 1) (pe_callB call_len_seq rfl T.n_len boot_len (pa_cons (pv 0) pa_nil))) (fun _ _ => rfl)) (pe_op op_mulL (pe_op op_fdivL (pv 1) (pe_callB call_len_seq rfl T.n_len boot_len (pa_cons (pv 0) pa_nil))) pe_int))))), ?_⟩
  walk_at "sf"
  intro p hp
  have g1 : Same H (upd H p (.lst [])) := Same.new hp _
  refine ⟨a, p, ns, [], rfl, rfl, g1.seq hS, SqL.of upd_same, ?_⟩
  walk_at "sf"
  refine ite2 (fun c => ?_) (fun c => ?_)
  · walk_at "sf"
    refine r_i (IntMulOk.of_right (by decide)) ?_
    exact q _ _ g1
  · have hne : ns ≠ [] := by simpa using c
    have hp1 : 0 < ns.length := List.length_pos_iff.mpr hne
    have em : (ns.map V.int).length = ns.length := List.length_map _
    have hpz : (0 : Int) < ((ns.map V.int).length : Nat) := by rw [em]; lia
    walk_at "sf"
    refine ⟨a, _, rfl, .inl (g1.seq hS), ?_⟩
    refine r_i (Int.ne_of_gt hpz) ?_
    rw [fmod_pos hpz]
    have h1 := Int.emod_nonneg k (Int.ne_of_gt hpz)
    have h2 := Int.emod_lt_of_pos k hpz
    obtain ⟨j, ej⟩ := Int.eq_ofNat_of_zero_le h1
    rw [ej] at h2 ⊢
    have hj : j < ns.length := by rw [em] at h2; lia
    refine r_ixL (g1.seq hS) (atI_nat (v := V.int ns[j]) (by rw [List.getElem?_map, List.getElem?_eq_getElem hj] <;> rfl)) ?_
    walk_at "sf"
    refine ⟨a, _, rfl, .inl (g1.seq hS), ?_⟩
    refine r_i ⟨Int.ne_of_gt hpz, (Bd.of_range (n := 64) (by lia) (by rw [em]; lia)).log2 (by decide)⟩ ?_
    walk_at "sf"
    refine r_i (IntMulOk.of_right (by decide)) ?_
    walk_at "sf"
    exact q _ _ g1
theorem ok_law_drawn (D : DefB K mg "_law_drawn" s_law_drawn ["_law_cell_here", "_law_k"]) : FnB P w K mg base 1 "_law_drawn" ["_law_cell_here", "_law_k"] spDrawn := by
  refine D.ok sc_law_drawn (fun vs H Q E h => ?_) (fun f cdv A outer s H vs Q E hr h => ?_)
  · obtain ⟨c, k, rfl, _⟩ := h
    rfl
  obtain ⟨c, k, rfl, q⟩ := h
  refine ⟨_, (pss_cons (ps_set (i := 2) sc_law_drawn.nd rfl (Or.inl rfl) (pe_op op_modN (pe_op op_add (pe_op op_mulL (pv 0) pe_int) (pe_op op_mulL (pe_op op_add (pv 1) pe_int) pe_int)) pe_int))
    (pss_one (ps_ret (pe_op op_modN (pe_op op_mulL (pv 2) (pv 2)) pe_int)))), ?_⟩
  walk_at "sf"
  refine r_i (IntMulOk.of_right (by decide)) ?_
  walk_at "sf"
  refine r_i (IntMulOk.of_right (by decide)) ?_
  walk_at "sf"
  refine r_i (by decide) ?_
  rw [fmod_pos (by decide)]
  generalize hm : (c * 6364136223846793005 + (k + 1) * 1442695040888963407) % 340282366920938463463374607431768211507 = m
  have m1 : 0 ≤ m := by rw [← hm]; exact Int.emod_nonneg _ (by decide)
  have m2 : m < 340282366920938463463374607431768211507 := by rw [← hm]; exact Int.emod_lt_of_pos _ (by decide)
  have mz : Bd 129 m := Bd.of_range m1 (Int.lt_of_lt_of_le m2 (by decide))
  walk_at "sf"
  refine r_i (mulOk mz mz (by decide)) ?_
  walk_at "sf"
  refine r_i (by decide) ?_
  rw [fmod_pos (by decide)]
  exact q _ (Int.emod_nonneg _ (by decide)) (Bd.of_range (Int.emod_nonneg _ (by decide)) (Int.lt_of_lt_of_le (Int.emod_lt_of_pos _ (by decide)) (by decide)))
end
end K24
namespace K24
open PySem PyProof.Rows L2 SF
noncomputable def sg (a : Int) : Int := if a < 0 then -1 else if 0 < a then 1 else 0
section
variable {P : Program} {w : World} {K : PySem.W.Frag} {mg : Str → Option Value} {base : Heap}
theorem ok_trimmed (T : Nm mg) (D : DefB K mg "trimmed" s_trimmed ["row"]) : FnB P w K mg base 1 "trimmed" ["row"] (spL trimL Few) := by
  refine D.ok sc_trimmed (fun vs H Q E h => ?_) (fun f cdv A outer s H vs Q E hr h => ?_)
  · obtain ⟨a, xs, rfl, _⟩ := h
    rfl
  obtain ⟨a, xs, rfl, ha, hl, q⟩ := h
  have em : (xs.map V.int).length = xs.length := List.length_map _
  refine ⟨_, (pss_cons (ps_set (i := 1) sc_trimmed.nd rfl (Or.inl rfl) (pe_callB call_len_seq rfl T.n_len boot_len (pa_cons (pv 0) pa_nil)))
    (pss_cons (ps_while PassesOwn.never (PW.pt (pw_and (pt_cmpR op_gt (pv 1) pe_int (nomark _)) (pw_and1 (pt_cmpR op_eq (pe_ix ix_list (pv 0) (pe_op op_sub (pv 1) pe_int) (fun _ _ => rfl)) pe_int (nomark _)))))
    (pss_one (ps_set (i := 1) sc_trimmed.nd rfl (Or.inl rfl) (pe_op op_sub (pv 1) pe_int))))
    (pss_one (ps_ret (pe_slice sl_list (pv 0) po_none (po_some (pv 1))))))), ?_⟩
  walk_at "sf"
  refine ⟨a, _, rfl, .inl (SqL.of ha), ?_⟩
  walk_at "sf"
  rw [em]
  refine while_go (fun m σ H' => ∃ n : Nat, n = m ∧ σ = [some (.ref a), some (.int (n : Int))] ∧ H' = H ∧ n ≤ xs.length ∧ trimL (xs.take n) = trimL xs) ⟨_, xs.length, rfl, rfl, rfl, Nat.le_refl _, by rw [List.take_length]⟩ ?_
  rintro m σ H' ⟨n, rfl, rfl, rfl, hn, e⟩
  have fin : (n = 0 ∨ SF.co xs (n - 1) ≠ 0) → ∀ p, H' p = none → Q (.ref p) (upd H' p (.lst (cutV (xs.map V.int) none (some (n : Int))))) := fun hz p hp => by
    have e2 : trimL xs = xs.take n := by rw [← e]; exact trimL_id (take_tr hn hz)
    exact q p _ (Same.new hp _) (by show upd H' p _ p = _; rw [upd_same, cut_take, e2])
  walk_at "sf"
  refine ite2 (fun c => ?_) (fun c => ?_)
  · have hp : 0 < n := by simpa using c
    have ei : ((n : Int) - 1) = ((n - 1 : Nat) : Int) := by lia
    walk_at "sf"
    rw [ei]
    refine r_ixL (SqL.of ha) (il_at (by lia)) ?_
    walk_at "sf"
    refine ite2 (fun c2 => ?_) (fun c2 => ?_)
    · have hz : SF.co xs (n - 1) = 0 := by simpa using c2
      refine ⟨_, fun σ' H' h => h, ?_⟩
      walk_at "sf"
      rw [ei]
      refine ⟨n - 1, by lia, n - 1, rfl, rfl, rfl, by lia, ?_⟩
      have := trimL_take (xs := xs) hz
      rw [Nat.sub_add_cancel hp] at this
      rw [← this, e]
    · have hz : SF.co xs (n - 1) ≠ 0 := by simpa using c2
      walk_at "sf"
      refine ⟨_, rfl, ?_⟩
      exact ⟨a, _, rfl, SqL.of ha, fin (.inr hz)⟩
  · have hp : n = 0 := by simpa using c
    rw [if_neg (by decide)]
    walk_at "sf"
    refine ⟨_, rfl, ?_⟩
    exact ⟨a, _, rfl, SqL.of ha, fin (.inl hp)⟩
end
end K24
namespace K24
open PySem PyProof.Rows L2 SF
noncomputable def spCommon : Sp := fun vs H Q _ => ∃ a b : Int, vs = [.int a, .int b] ∧ Bd 8000 a ∧ Bd 8000 b ∧ Q (.int ((Int.gcd a b : Nat) : Int)) H
section
variable {P : Program} {w : World} {K : PySem.W.Frag} {mg : Str → Option Value} {base : Heap}
theorem ok_law_common (T : Nm mg) (D : DefB K mg "_law_common" s_law_common ["_law_one", "_law_other"]) : FnB P w K mg base 1 "_law_common" ["_law_one", "_law_other"] spCommon := by
  refine D.ok sc_law_common (fun vs H Q E h => ?_) (fun f cdv A outer s H vs Q E hr h => ?_)
  · obtain ⟨a, b, rfl, _⟩ := h
    rfl
  obtain ⟨a, b, rfl, ha, hb, q⟩ := h
  refine ⟨_, (pss_cons (ps_set (i := 0) sc_law_common.nd rfl (Or.inl rfl) (pe_callB call_abs rfl T.n_abs boot_abs (pa_cons (pv 0) pa_nil)))
    (pss_cons (ps_set (i := 1) sc_law_common.nd rfl (Or.inl rfl) (pe_callB call_abs rfl T.n_abs boot_abs (pa_cons (pv 1) pa_nil)))
    (pss_cons (ps_while PassesOwn.never (pt_cmpR op_ne (pv 1) pe_int (nomark _))
    (pss_cons (ps_set (i := 2) sc_law_common.nd rfl (Or.inl rfl) (pe_op op_sub (pv 0) (pe_op op_mulL (pe_op op_fdivL (pv 0) (pv 1)) (pv 1))))
    (pss_cons (ps_set (i := 0) sc_law_common.nd rfl (Or.inl rfl) (pv 1))
    (pss_one (ps_set (i := 1) sc_law_common.nd rfl (Or.inl rfl) (pv 2))))))
    (pss_one (ps_ret (pv 0)))))), ?_⟩
  walk_at "sf"
  refine ⟨_, rfl, ?_⟩
  walk_at "sf"
  refine ⟨_, rfl, ?_⟩
  walk_at "sf"
  refine while_go (fun m σ H' => ∃ (g l : Int) (r : Option V), m = l.toNat ∧ σ = [some (.int g), some (.int l), r] ∧ H' = H ∧ 0 ≤ g ∧ 0 ≤ l ∧ Bd 8000 g ∧ Bd 8000 l ∧ Int.gcd g l = Int.gcd a b)
    ⟨_, _, _, _, rfl, rfl, rfl, by split <;> lia, by split <;> lia, ha.of_le (by split <;> lia), hb.of_le (by split <;> lia), gcd_abs⟩ ?_
  rintro m σ H' ⟨g, l, r, rfl, rfl, rfl, hg, hl, hgz, hlz, e⟩
  walk_at "sf"
  refine ite2 (fun c => ?_) (fun c => ?_)
  · have hl0 : l ≠ 0 := by simpa using c
    have hp : 0 < l := by lia
    refine ⟨_, fun σ' H' h => h, ?_⟩
    walk_at "sf"
    refine r_i ⟨hl0, hlz.log2 (by decide)⟩ ?_
    walk_at "sf"
    have h1 := Int.emod_nonneg g hl0
    have h2 := Int.emod_lt_of_pos g hp
    have ed : g.fdiv l = g / l := fdiv_pos hp
    have hdz : Bd 8000 (g / l) := hgz.of_le (by
      have h3 := Int.ediv_nonneg hg hl
      have h4 := Int.ediv_le_self l hg
      lia)
    rw [ed]
    refine r_i (mulOk hdz hlz (by decide)) ?_
    walk_at "sf"
    have em : g - g / l * l = g % l := by
      have := Int.emod_add_mul_ediv g l
      rw [Int.mul_comm] at this
      lia
    rw [em]
    exact ⟨_, by lia, _, _, _, rfl, rfl, rfl, hl, h1, hlz, hlz.of_le (by lia), by rw [gcd_turn hg hp, e]⟩
  · have hl0 : l = 0 := by simpa using c
    subst hl0
    walk_at "sf"
    have e' : ((Int.gcd a b : Nat) : Int) = g := by rw [← e]; exact gcd_end hg
    rw [e'] at q
    exact q
end
end K24
namespace K24
open PySem PyProof.Rows L2 SF PySem.W
noncomputable def nmW : Nat → Str
  | 0 => "NoRatio"
  | 1 => "NoNumber"
  | 2 => "TooGreat"
  | 3 => "BadText"
  | _ => "BadRow"
theorem nm_at {i : Nat} (h : i < 5) : atI [V.str "NoRatio", V.str "NoNumber", V.str "TooGreat", V.str "BadText", V.str "BadRow"] (i : Int) = some (V.str (nmW i)) := by
  match i, h with
  | 0, _ => exact atI_nat rfl
  | 1, _ => exact atI_nat rfl
  | 2, _ => exact atI_nat rfl
  | 3, _ => exact atI_nat rfl
  | 4, _ => exact atI_nat rfl
structure Ad where
  cf : Addr
  c0 : Addr
  c1 : Addr
  c2 : Addr
  c3 : Addr
  c4 : Addr
noncomputable def Ad.l (a : Ad) : List Addr := [a.c0, a.c1, a.c2, a.c3, a.c4]
noncomputable def Ad.c (a : Ad) (i : Nat) : Addr := a.l.getD i 0
noncomputable def askB (K : Frag) (D : Addr) : Bool := (findIn K (.ref D) "__getattribute__" == some (some (.builtin "BaseException.__getattribute__"))) && (findIn K (.ref D) "__getattr__" == some none) && (subIn K (.ref D) (.type "BaseException") == some true)
  && (findIn K (.ref D) "__class__" == some (some (.builtin "object.__class__"))) && (specialIn K (.builtin "object.__class__") "__get__" == some (some (.builtin "getset_descriptor.__get__"))) && (takesIn K (.builtin "object.__class__") == some true)
  && (mroIn K D (.type "object") == some true) && hasDictIn K D && (findIn K (.ref D) "__str__" == some (some (.builtin "BaseException.__str__")))
theorem ask_of {K : Frag} {D : Addr} (h : askB K D = true) : XAsk K D := by
  simp only [askB, Bool.and_eq_true, beq_iff_eq] at h
  obtain ⟨⟨⟨⟨⟨⟨⟨⟨a, b⟩, c⟩, d⟩, e⟩, f⟩, g⟩, i⟩, j⟩ := h
  exact ⟨a, b, c, d, e, f, g, i, j⟩
noncomputable def okB (K : Frag) (a : Ad) : Bool := ((List.range 5).all fun i => askB K (a.c i) && keepIn K (.ref (a.c i)) && (kitOne K (.ref (a.c i)) (.ref a.cf) == some true) && (kitOne K (.ref (a.c i)) (.type "ValueError") == some true)
    && ((List.range 5).all fun j => kitOne K (.ref (a.c i)) (.ref (a.c j)) == some (i == j)) && (i == 3 || excIn K (a.c i) bmV "ValueError.__new__"))
  && (exmOne K (.ref a.c0) (.ref a.cf) == some true) && (findIn K (.ref a.c3) "at" == some none)
structure Cl5 (K : Frag) (mg : Str → Option Value) (a : Ad) : Prop where
  mf : mg "FootError" = some (.ref a.cf)
  m0 : mg "NoRatio" = some (.ref a.c0)
  m1 : mg "NoNumber" = some (.ref a.c1)
  m2 : mg "TooGreat" = some (.ref a.c2)
  m3 : mg "BadText" = some (.ref a.c3)
  m4 : mg "BadRow" = some (.ref a.c4)
  ok : okB K a = true
section
variable {K : Frag} {mg : Str → Option Value} {a : Ad} {i j : Nat}
theorem Cl5.all (C : Cl5 K mg a) (h : i < 5) : XAsk K (a.c i) ∧ keepIn K (.ref (a.c i)) = true ∧ kitOne K (.ref (a.c i)) (.ref a.cf) = some true ∧ kitOne K (.ref (a.c i)) (.type "ValueError") = some true ∧
    (∀ j, j < 5 → kitOne K (.ref (a.c i)) (.ref (a.c j)) = some (i == j)) ∧ (i ≠ 3 → XCls K (a.c i)) := by
  have q := C.ok
  simp only [okB, Bool.and_eq_true] at q
  have r := (List.all_eq_true.mp q.1.1) i (List.mem_range.mpr h)
  simp only [Bool.and_eq_true, beq_iff_eq, Bool.or_eq_true] at r
  obtain ⟨⟨⟨⟨⟨r1, r2⟩, r3⟩, r4⟩, r5⟩, r6⟩ := r
  refine ⟨ask_of r1, r2, r3, r4, fun j hj => ?_, fun n => r6.resolve_left n⟩
  have z := (List.all_eq_true.mp r5) j (List.mem_range.mpr hj)
  exact beq_iff_eq.mp z
theorem Cl5.at' (C : Cl5 K mg a) : findIn K (.ref a.c3) "at" = some none := by
  have q := C.ok
  simp only [okB, Bool.and_eq_true, beq_iff_eq] at q
  exact q.2
end
end K24
namespace K24
open PySem PyProof.Rows L2 SF PySem.W
section
variable {P : Program} {w : World} {K : Frag} {mg : Str → Option Value} {base : Heap} {a : Ad}
theorem boot_ValueError : bootBuiltins "ValueError" = some (.type "ValueError") := by kernel_rfl
theorem pe_cls {X : Cx} {x : Str} {c : Addr} {pos : Pos} (hg : Gl X x) (hm : X.mg x = some (.ref c)) (hd : (x == ("__debug__" : Str)) = false := by decide) : PE X (.Name x pos) (tC (.ref c)) := pe_glob (v := .ref c) hg hm rfl hd
noncomputable def fl (i : Nat) : List Bool := [i == 0, i == 1, i == 2, i == 3, i == 4]
theorem fl_count (h : i < 5) : (fl i).countP (· == true) = 1 := by
  match i, h with
  | 0, _ => rfl
  | 1, _ => rfl
  | 2, _ => rfl
  | 3, _ => rfl
  | 4, _ => rfl
theorem fl_at (h : i < 5) : (fl i).getD i (!true) = true ∧ ∀ j, j < i → (fl i).getD j (!true) = (!true) := by
  match i, h with
  | 0, _ => exact ⟨rfl, fun j hj => by lia⟩
  | 1, _ => exact ⟨rfl, fun j hj => by match j, hj with | 0, _ => rfl⟩
  | 2, _ => exact ⟨rfl, fun j hj => by match j, hj with | 0, _ => rfl | 1, _ => rfl⟩
  | 3, _ => exact ⟨rfl, fun j hj => by match j, hj with | 0, _ => rfl | 1, _ => rfl | 2, _ => rfl⟩
  | 4, _ => exact ⟨rfl, fun j hj => by match j, hj with | 0, _ => rfl | 1, _ => rfl | 2, _ => rfl | 3, _ => rfl⟩
noncomputable def spWord (a : Ad) : Sp := fun vs H Q _ => ∃ x i t tb d, vs = [.ref x] ∧ i < 5 ∧ H x = some (excO x (a.c i) t tb d) ∧ DctOk H d ∧ ∀ H', Same H H' → Q (.str (nmW i)) H'
theorem ok_law_word (T : Nm mg) (C : Cl5 K mg a) (D : DefB K mg "_law_word" s_law_word ["_law_e"]) : FnGB P w K mg base CX0 false 1 "_law_word" ["_law_e"] (fun _ => spWord a) := by
  refine D.okG sc_law_word (fun s vs H Q E h => ?_) (fun f cdv A outer s H vs Q E hcd hr h => ?_)
  · obtain ⟨x, i, t, tb, d, rfl, _⟩ := h
    rfl
  obtain ⟨x, i, t, tb, d, rfl, hi, hx, hd, q⟩ := h
  obtain ⟨ask, _, kF, kV, kk, _⟩ := C.all hi
  have isx : ∀ (H1 : Hp) (Q : VK) (j : Nat), Same H H1 → j < 5 → Q (.bl (i == j)) H1 → rIsX K [.ref x, .ref (a.c j)] H1 Q := fun H1 Q j s1 hj q => ⟨x, a.c i, t, tb, d, .ref (a.c j), i == j, rfl, s1 _ _ hx, hd.same s1, ask, nofun, kk j hj, q⟩
  have isF : ∀ (H1 : Hp) (Q : VK), Same H H1 → Q (.bl true) H1 → rIsX K [.ref x, .ref a.cf] H1 Q := fun H1 Q s1 q => ⟨x, a.c i, t, tb, d, .ref a.cf, true, rfl, s1 _ _ hx, hd.same s1, ask, nofun, kF, q⟩
  have isV : ∀ (H1 : Hp) (Q : VK), Same H H1 → Q (.bl true) H1 → rIsX K [.ref x, .ty "ValueError"] H1 Q := fun H1 Q s1 q => ⟨x, a.c i, t, tb, d, .ty "ValueError", true, rfl, s1 _ _ hx, hd.same s1, ask, nofun, kV, q⟩
  refine ⟨_, PSs.nox (pss_cons (ps_set (i := 1) sc_law_word.nd rfl (Or.inl rfl) (pe_lst (pa_cons (pe_callB call_isx rfl T.n_isinstance boot_isinstance (pa_cons (pv 0) (pa_cons (pe_cls rfl C.m0) pa_nil))) (pa_cons (pe_callB call_isx rfl T.n_isinstance boot_isinstance (pa_cons (pv 0) (pa_cons (pe_cls rfl C.m1) pa_nil)))
      (pa_cons (pe_callB call_isx rfl T.n_isinstance boot_isinstance (pa_cons (pv 0) (pa_cons (pe_cls rfl C.m2) pa_nil))) (pa_cons (pe_callB call_isx rfl T.n_isinstance boot_isinstance (pa_cons (pv 0) (pa_cons (pe_cls rfl C.m3) pa_nil))) pa_nil))))))
    (pss_cons (ps_set (i := 1) sc_law_word.nd rfl (Or.inl rfl) (pe_op op_cat (pv 1) (pe_lst (pa_cons (pe_callB call_isx rfl T.n_isinstance boot_isinstance (pa_cons (pv 0) (pa_cons (pe_cls rfl C.m4) pa_nil))) pa_nil))))
    (pss_cons (ps_if (PW.pt (pw_or (pt_cmpR op_ne (pe_bm PySem.F.plainAttrs_list PySem.F.slot_list_count PySem.F.type_list_count mt_cntB (pv 1) (pa_cons pe_bl pa_nil)) pe_int (nomark _))
        (pw_or (pt_not (pt_val (pe_callB call_isx rfl T.n_isinstance boot_isinstance (pa_cons (pv 0) (pa_cons (pe_cls rfl C.mf) pa_nil))))) (pw_or1 (pt_not (pt_val (pe_callB call_isx rfl T.n_isinstance boot_isinstance (pa_cons (pv 0) (pa_cons (pe_ty rfl T.n_ValueError boot_ValueError) pa_nil)))))))))
      (pss_one (ps_ret pe_str)) pss_nil)
    (pss_one (ps_ret (pe_ix ix_list (pe_lst (pa_cons pe_str (pa_cons pe_str (pa_cons pe_str (pa_cons pe_str (pa_cons pe_str pa_nil)))))) (pe_bm PySem.F.plainAttrs_list PySem.F.slot_list_index PySem.F.type_list_index mt_idxB (pv 1) (pa_cons pe_bl pa_nil)) (fun _ _ => rfl))))))), ?_⟩
  walk_at "sf"
  refine isx _ _ 0 (Same.refl _) (by decide) ?_
  walk_at "sf"
  refine isx _ _ 1 (Same.refl _) (by decide) ?_
  walk_at "sf"
  refine isx _ _ 2 (Same.refl _) (by decide) ?_
  walk_at "sf"
  refine isx _ _ 3 (Same.refl _) (by decide) ?_
  walk_at "sf"
  intro p1 hp1
  have s1 := Same.new hp1 (.lst [V.bl (i == 0), V.bl (i == 1), V.bl (i == 2), V.bl (i == 3)])
  walk_at "sf"
  refine isx _ _ 4 s1 (by decide) ?_
  walk_at "sf"
  intro p2 hp2
  have s2 := s1.trans (Same.new hp2 (.lst [V.bl (i == 4)]))
  have n12 : p1 ≠ p2 := fun z => by subst z; rw [upd_same] at hp2; cases hp2
  refine ⟨p1, p2, [V.bl (i == 0), V.bl (i == 1), V.bl (i == 2), V.bl (i == 3)], [V.bl (i == 4)], rfl, rfl, by rw [upd_ne n12, upd_same], by rw [upd_same], small4 (show 5 ≤ 1000 by decide), fun p3 hp3 => ?_⟩
  have s3 := s2.trans (Same.new hp3 (.lst ([V.bl (i == 0), V.bl (i == 1), V.bl (i == 2), V.bl (i == 3)] ++ [V.bl (i == 4)])))
  generalize hH3 : upd (upd (upd H p1 _) p2 _) p3 _ = H3 at s3 ⊢
  have h3 : SqL K H3 p3 ((fl i).map V.bl) := by subst hH3; exact SqL.of upd_same
  clear hH3 s1 s2
  walk_at "sf"
  refine ⟨_, rfl, ⟨.inl ⟨rfl, _, h3⟩, ?_⟩⟩
  walk_at "sf"
  refine ⟨p3, fl i, true, rfl, rfl, h3, ?_⟩
  rw [fl_count hi]
  walk_at "sf"
  refine iteF ?_
  walk_at "sf"
  refine isF _ _ s3 ?_
  walk_at "sf"
  refine iteF ?_
  walk_at "sf"
  refine isV _ _ s3 ?_
  walk_at "sf"
  refine iteF ?_
  walk_at "sf"
  intro p4 hp4
  have s4 := s3.trans (Same.new hp4 (.lst [V.str "NoRatio", V.str "NoNumber", V.str "TooGreat", V.str "BadText", V.str "BadRow"]))
  walk_at "sf"
  refine ⟨_, rfl, ⟨.inl ⟨rfl, _, (Same.new hp4 _).seq h3⟩, ?_⟩⟩
  walk_at "sf"
  refine ⟨p3, fl i, true, i, rfl, rfl, (Same.new hp4 _).seq h3, hi, (fl_at hi).1, (fl_at hi).2, ?_⟩
  refine r_ixL (SqL.of upd_same) (nm_at hi) ?_
  exact q _ s4
end
end K24
namespace K24
open PySem PyProof.Rows L2 SF PySem.W
noncomputable abbrev s_init : Stmt := inClass (top 5) 0
theorem sc_init : FnScope ["self", "text", "at"] ["self", "text", "at"] (defScope s_init) := ⟨rfl, rfl, rfl, by decide +kernel, rfl, by decide +kernel, by decide +kernel⟩
structure Ini (K : Frag) (a : Ad) (fI : Addr) (fd : FuncData) : Prop where
  ex : ∃ (oc : Value) (od : Option Addr) (dV kV doc pm : Value) (an : Option Addr) (cdv ct : Value) (osl : Array (Option Value)),
    fd = fnOf "__init__" "BadText.__init__" (defArgs s_init) (defBody s_init) (defScope s_init) dV kV doc pm an cdv ct ∧ K.lookup fI = some ⟨oc, od, .func fd, osl⟩ ∧ codeIn K cdv "BadText.__init__" = true
  b1 : ∃ t, Binds K fd ["self", "text", "at"] [.int 0 t]
  b2 : Binds K fd ["self", "text", "at"] []
  fn : typeIn K (.ref fI) = some (.type "function")
  cls : XClsI K a.c3 fI
  ov : excOver K a.c3 = true
  sa : findIn K (.ref a.c3) "__setattr__" = some (some (.builtin "object.__setattr__"))
  ob : mroIn K a.c3 (.type "object") = some true
  ga : specialIn K (.ref a.cf) "__getattribute__" = some (some (.builtin "type.__getattribute__"))
  rd : readsIn K a.cf (.type "type") = true
  fc : findCls K (.ref a.cf) (.type "type") "__init__" = some (.val (.builtin "ValueError.__init__"))
section
variable {P : Program} {w : World} {K : Frag} {mg : Str → Option Value} {base : Heap} {a : Ad} {fI : Addr} {fd : FuncData}
noncomputable def spInit (c : Addr) : Sp := fun vs H Q _ => ∃ x m k tp, vs = [.ref x, .str m, .int k] ∧ H x = some (excO x c tp .none none) ∧ ∀ tp' dx, H tp' = none → H dx = none → tp' ≠ dx → tp' ≠ x → dx ≠ x →
  Q .non (upd (upd (upd (upd H tp' (.tup [.str m])) x (excO x c tp' .none none)) dx (.xd [("at", .int k)])) x (excO x c tp' .none (some dx)))
theorem ok_init (C : Cl5 K mg a) (I : Ini K a fI fd) : FnOk P w K mg base CX0 1 fI fd ["self", "text", "at"] (spInit a.c3) := by
  obtain ⟨oc, od, dV, kV, doc, pm, an, cdv, ct, osl, rfl, lk, hcd⟩ := I.ex
  refine fn_of lk hcd sc_init (fun vs H Q E h => ?_) fun A outer s H vs Q E hr h => ?_
  · obtain ⟨x, m, k, tp, rfl, _⟩ := h
    rfl
  obtain ⟨x, m, k, tp, rfl, hx, q⟩ := h
  refine ⟨_, PSs.nox (pss_cons (ps_expr (pe_xinit (fI := fI) (pl := ?pl) rfl C.mf I.ga I.rd I.fc (pa_cons (pv 0) (pa_cons (pv 1) pa_nil)))) (pss_one (ps_xset (pv 0) (pv 2) ?sw))), ?_⟩
  case sw => rfl
  walk_at "sf"
  unfold tXinit
  walk_at "sf"
  refine ⟨x, _, _, tp, _, _, rfl, hx, I.cls, (by decide : 1 ≤ 1000), fun tp' h1 n1 => ?_⟩
  walk_at "sf"
  unfold sXset
  walk_at "sf"
  refine ⟨x, a.c3, tp', .none, rfl, upd_same, I.ov, I.sa, I.ob, C.at', fun dx h2 n2 => ?_⟩
  have h3 : dx ≠ tp' := fun z => by subst z; rw [upd_ne n2, upd_same] at h2; cases h2
  have h4 : H dx = none := by rw [upd_ne n2, upd_ne h3] at h2; exact h2
  exact q tp' dx h1 h4 (Ne.symm h3) n1 n2
theorem same_bad {H : Hp} {x tp tp' dx C : Addr} {vs ws : List V} {fs : List (Str × V)} (h1 : H x = none) (h2 : H tp = none) (h3 : H tp' = none) (h4 : H dx = none) :
    Same H (upd (upd (upd (upd (upd (upd H tp (.tup vs)) x (excO x C tp .none none)) tp' (.tup ws)) x (excO x C tp' .none none)) dx (.xd fs)) x (excO x C tp' .none (some dx))) := fun b o e => by
  rw [upd_ne (ne_of_none e h1), upd_ne (ne_of_none e h4), upd_ne (ne_of_none e h1), upd_ne (ne_of_none e h3), upd_ne (ne_of_none e h1), upd_ne (ne_of_none e h2)]; exact e
theorem bad_end {H : Hp} {Q : Hp → Prop} {c x tp : Addr} {m : Str} {k : Int} {vs : List V} (h1 : H x = none) (h2 : H tp = none)
    (q : ∀ t dx H', Same H H' → H' x = some (excO x c t .none (some dx)) → H' t = some (.tup [.str m]) → H' dx = some (.xd [("at", .int k)]) → Q H') :
    spInit c [.ref x, .str m, .int k] (upd (upd H tp (.tup vs)) x (excO x c tp .none none)) (fun v H2 => v = .non ∧ Q H2) E0 := by
  refine ⟨x, m, k, tp, rfl, upd_same, fun tp' dx e1 e2 n1 n2 n3 => ⟨rfl, ?_⟩⟩
  have t1 : H tp' = none := by
    by_cases z : tp' = tp
    · subst z; exact h2
    · rw [upd_ne n2, upd_ne z] at e1; exact e1
  have t2 : H dx = none := by
    by_cases z : dx = tp
    · subst z; exact h2
    · rw [upd_ne n3, upd_ne z] at e2; exact e2
  exact q tp' dx _ (same_bad h1 h2 t1 t2) upd_same (by rw [upd_ne n2, upd_ne n1, upd_ne n2, upd_same]) (by rw [upd_ne n3, upd_same])
end
end K24
namespace K24
open PySem PyProof.Rows L2 SF PySem.W
theorem if_tC {c : Bool} {v u : V} {σ : L2.St} {H : Hp} {G : VK} (h : ∀ x, (c = true ∧ x = v) ∨ (c = false ∧ x = u) → G x H) : if c = true then tC v σ H G else tC u σ H G := by
  cases c with
  | true => rw [if_pos rfl]; exact h v (.inl ⟨rfl, rfl⟩)
  | false => rw [if_neg (by decide)]; exact h u (.inr ⟨rfl, rfl⟩)
theorem lit_x : (Str.ofString "x" : Str) = S [120] := PySem.W.Fast.ofString_ofList ['x']
theorem lit_h : (Str.ofString "^" : Str) = S [94] := PySem.W.Fast.ofString_ofList ['^']
theorem lit_e : (Str.ofString "" : Str) = S [] := PySem.W.Fast.ofString_ofList []
theorem lit_m : (Str.ofString "-" : Str) = S [45] := PySem.W.Fast.ofString_ofList ['-']
theorem lit_0 : (Str.ofString "0" : Str) = S [48] := PySem.W.Fast.ofString_ofList ['0']
theorem lit_s : (Str.ofString "/" : Str) = S [47] := PySem.W.Fast.ofString_ofList ['/']
theorem lit_bm : (Str.ofString " - " : Str) = S [32, 45, 32] := PySem.W.Fast.ofString_ofList [' ', '-', ' ']
theorem lit_bp : (Str.ofString " + " : Str) = S [32, 43, 32] := PySem.W.Fast.ofString_ofList [' ', '+', ' ']
theorem lenOK {n : Nat} (h : n ≤ 1000) : n ≤ sizeLine := small4 h
theorem atI_str {l : List Nat} {e : Nat} (h : e < l.length) : atI (S l).cps.toList (e : Int) = some l[e] := by
  have : (S l).cps.toList = l := by simp
  rw [this]
  exact atI_nat (List.getElem?_eq_getElem h)
theorem ty_str {K : PySem.W.Frag} {z : Str} {H : Hp} : tyV K "str" (.str z) H := rfl
theorem ite_keep {c : Bool} {A B : Prop} (h1 : c = true → B → A) (h : B) : if c = true then A else B := by
  cases c with
  | true => rw [if_pos rfl]; exact h1 rfl h
  | false => rw [if_neg (by decide)]; exact h
theorem r_eqS {a b : Str} {H : Hp} {G : VK} (h : G (.bl (decide (a = b))) H) : rEq (.str a) (.str b) H G := by
  refine ⟨rfl, ?_⟩
  have e : decide (V.str a = V.str b) = decide (a = b) := by simp
  rw [e]; exact h
theorem r_neS {a b : Str} {H : Hp} {G : VK} (h : G (.bl (!decide (a = b))) H) : rNe (.str a) (.str b) H G := by
  refine ⟨rfl, ?_⟩
  have e : decide (V.str a = V.str b) = decide (a = b) := by simp
  rw [e]; exact h
theorem s1 {l : List Nat} {c : Nat} : ((l.take [c].length == [c]) : Bool) = at1 l 0 c := rfl
theorem s3 {l : List Nat} {i c : Nat} : (((l.drop i).take [c].length == [c]) : Bool) = at1 l i c := rfl
noncomputable def spEnd : Sp := fun vs H Q _ => ∃ (l : List Nat) (s : Nat), vs = [.str (S l), .int (s : Int)] ∧ Asc l ∧ s ≤ l.length ∧ Q (.int ((s + tw (l.drop s) : Nat) : Int)) H
structure Bx (K : Frag) (mg : Str → Option Value) (c3 fI : Addr) (fd : FuncData) : Prop where
  cls : XClsI K c3 fI
  fn : typeIn K (.ref fI) = some (.type "function")
  kp : keepIn K (.ref c3) = true
  m3 : mg "BadText" = some (.ref c3)
  b2 : Binds K fd ["self", "text", "at"] []
noncomputable def Bad (c3 : Addr) (E : XK) (H : Hp) (p : Nat) : Prop := ∀ dx H', Same H H' → H' dx = some (.xd [("at", .int (p : Int))]) → E (.ref c3) (some dx) H'
theorem Bad.same {c3 : Addr} {E : XK} {H H' : Hp} {p : Nat} (h : Bad c3 E H p) (s : Same H H') : Bad c3 E H' p := fun dx H2 s2 e => h dx H2 (s.trans s2) e
noncomputable def Res {α : Type} (c3 : Addr) (E : XK) (H : Hp) (r : Except Nat α) (q : α → Prop) : Prop := match r with
  | .ok x => q x
  | .error p => Bad c3 E H p
theorem raise_bad {K : Frag} {mg : Str → Option Value} {c3 fI : Addr} {fd : FuncData} {E : XK} {D : Ends} {σ : L2.St} {H : Hp} {m : Str} {te : TE} {p : Nat} (BI : Bx K mg c3 fI fd) (hte : ∀ G : VK, G (.int (p : Int)) H → te σ H G) (hb : Bad c3 E H p) :
    tRaiseV K E (tBad c3 (spInit c3) [] E0 (tCons (tC (.str m)) (tCons te tNil))) D σ H :=
  hte _ ⟨show 2 ≤ 1000 by decide, fun x tq e1 e2 _ => bad_end (k := (p : Int)) e1 e2 fun t d H' s' f _ g' => ⟨x, c3, t, some d, fI, rfl, f, BI.cls, hb d H' s' g'⟩⟩
theorem lift {P : Program} {w : World} {K : Frag} {mg : Str → Option Value} {base : Heap} {k : Nat} {x : Str} {ps : List Str} {sp : Sp} (F : FnB P w K mg base k x ps sp) : FnGB P w K mg base (CXF P w) true k x ps (fun _ => sp) :=
  let ⟨f, fd, a, b, c, d⟩ := F.ex
  ⟨f, fd, ⟨fun _ => a.len, fun A outer s H args us vs Q E hr e0 hb hv hs => codeAny_mono (a.run A outer s H args us vs Q E hr.calm e0 hb hv hs) fun r s' q => by
    cases r with
    | error e => exact q.elim
    | ok fl => cases fl <;> exact q⟩, b, c, d⟩
theorem gmono {P : Program} {w : World} {K : Frag} {mg : Str → Option Value} {base : Heap} {CX : CXT} {cm : Bool} {j k : Nat} {x : Str} {ps : List Str} {sp : Shared → Sp} (F : FnGB P w K mg base CX cm j x ps sp) (h : j ≤ k) : FnGB P w K mg base CX cm k x ps sp :=
  let ⟨f, fd, a, b, c, d⟩ := F.ex
  ⟨f, fd, ⟨a.len, fun A outer s H args us vs Q E hr => a.run A outer s H args us vs Q E (hr.mono h)⟩, b, c, d⟩
noncomputable def spNum (c3 : Addr) : Sp := fun vs H Q E => ∃ (l : List Nat) (s : Nat), vs = [.str (S l), .int (s : Int), .int ((s + tw (l.drop s) : Nat) : Int)] ∧ Asc l ∧ s ≤ l.length ∧ match vl (fg l s) with
  | some n => Q (.int (n : Int)) H
  | none => Bad c3 E H s
noncomputable def spSize (c3 : Addr) : Sp := fun vs H Q E => ∃ (l : List Nat) (s : Nat), vs = [.str (S l), .int (s : Int), .int ((s + tw (l.drop s) : Nat) : Int)] ∧ Asc l ∧ s ≤ l.length ∧ Res c3 E H (sz l s) fun n => Q (.int (n : Int)) H
noncomputable def spPow (c3 : Addr) : Sp := fun vs H Q E => ∃ (l : List Nat) (s : Nat), vs = [.str (S l), .int (s : Int)] ∧ Asc l ∧ s ≤ l.length ∧ Res c3 E H (pw l s) fun (p, e) => ∀ g, H g = none → Q (.ref g) (upd H g (.tup [.int (p : Int), .int (e : Int)]))
theorem noughts {σ : L2.St} {H : Hp} {G : VK} {ds : List Nat} {i : Nat} (hσ : σ[i]? = some (some (.str (S ds)))) (h : G (.bl (nz ds)) H) :
    ∃ c, V.bl (Txt.startswith (S ds) (Str.ofString "0")) = V.bl c ∧ if c = true then tOp rNe (tVar i) (tC (.str (Str.ofString "0"))) σ H G else G (.bl false) H := by
  refine ⟨_, rfl, ?_⟩
  rw [lit_0, starts1]
  show if (ds.take 1 == [48]) = true then _ else _
  unfold nz at h
  cases hc : (ds.take 1 == [48]) with
  | true =>
    rw [hc, Bool.true_and] at h
    rw [if_pos rfl]
    refine ⟨_, hσ, r_neS ?_⟩
    have : decide (S ds = S [48]) = decide (ds = [48]) := by
      rw [Bool.eq_iff_iff]
      simp only [decide_eq_true_eq]
      exact ⟨S_inj, fun z => by rw [z]⟩
    rw [this]; exact h
  | false =>
    rw [hc, Bool.false_and] at h
    rw [if_neg (by decide)]
    exact h
section
variable {P : Program} {w : World} {K : Frag} {mg : Str → Option Value} {base : Heap} {c3 fI : Addr} {fd : FuncData}
theorem ok_end_of_figures (T : Nm mg) (D : DefB K mg "end_of_figures" s_end_of_figures ["text", "start"]) : FnB P w K mg base 1 "end_of_figures" ["text", "start"] spEnd := by
  refine D.ok sc_end_of_figures (fun vs H Q E h => ?_) (fun f cdv A outer s H vs Q E hr h => ?_)
  · obtain ⟨l, s, rfl, _⟩ := h
    rfl
  obtain ⟨l, st, rfl, ⟨asc, ll⟩, hs, q⟩ := h
  refine ⟨_, (pss_cons (ps_set (i := 2) sc_end_of_figures.nd rfl (Or.inl rfl) (pv 1))
    (pss_cons (ps_while PassesOwn.never (PW.pt (pw_and (pt_cmpR op_lt (pv 2) (pe_callB call_len_str rfl T.n_len boot_len (pa_cons (pv 0) pa_nil)) (nomark _)) (pw_and1 (pt_val (pe_bm0 PySem.F.plainAttrs_str PySem.F.slot_str_isdigit PySem.F.type_str_isdigit mt_isdigit (pe_ix ix_str (pv 0) (pv 2) (fun _ _ => rfl)))))))
    (pss_one (ps_set (i := 2) sc_end_of_figures.nd rfl (Or.inl rfl) (pe_op op_add (pv 2) pe_int))))
    (pss_one (ps_ret (pv 2))))), ?_⟩
  walk_at "sf"
  refine while_go (fun m σ H' => ∃ e : Nat, m = l.length - e ∧ st ≤ e ∧ e ≤ l.length ∧ e + tw (l.drop e) = st + tw (l.drop st) ∧ σ = [some (.str (S l)), some (.int (st : Int)), some (.int (e : Int))] ∧ H' = H) ⟨_, st, rfl, Nat.le_refl _, hs, rfl, rfl, rfl⟩ ?_
  rintro m σ H' ⟨e, rfl, h1, h2, h3, rfl, rfl⟩
  walk_at "sf"
  refine ⟨_, rfl, by rw [S_len l]; exact lenOK (by lia), ?_⟩
  rw [S_len l]
  walk_at "sf"
  by_cases hlt : e < l.length
  · rw [if_pos (by simpa using hlt)]
    walk_at "sf"
    refine ⟨_, rfl, _, rfl, S l, _, _, rfl, rfl, by rw [S_len l]; exact lenOK (by lia), atI_str hlt, ty_str, _, rfl, rfl, ?_⟩
    have hc : l[e] < 128 := asc _ (List.getElem_mem hlt)
    rw [digit1 hc]
    rw [drop_at hlt, tw_cons] at h3
    walk_at "sf"
    refine ite2 (fun c => ?_) (fun c => ?_)
    · rw [if_pos c] at h3
      refine ⟨_, fun σ' H' h => h, ?_⟩
      walk_at "sf"
      exact ⟨_, by lia, e + 1, rfl, by lia, by lia, by lia, rfl, rfl⟩
    · rw [if_neg c] at h3
      walk_at "sf"
      rw [← h3] at q
      exact q
  · rw [if_neg (by simpa using hlt)]
    have he : e = l.length := by lia
    rw [he, List.drop_length, tw_nil] at h3
    walk_at "sf"
    rw [if_neg (by decide)]
    walk_at "sf"
    rw [← h3] at q
    rw [he]
    exact q
theorem ok_number_between (T : Nm mg) (BI : Bx K mg c3 fI fd) (g_init : FnOk P w K mg base CX0 1 fI fd ["self", "text", "at"] (spInit c3)) {uM : Value} (hG_MOST_FIGURES : mg "MOST_FIGURES" = some uM ∧ RelV (.int 12) uM)
    (D : DefB K mg "number_between" s_number_between ["text", "start", "end"]) : FnGB P w K mg base (CXF P w) true 3 "number_between" ["text", "start", "end"] (fun _ => spNum c3) := by
  refine D.okG sc_number_between (fun s vs H Q E h => ?_) (fun f cdv A outer s H vs Q E hcd hr h => ?_)
  · obtain ⟨l, s, rfl, _⟩ := h
    rfl
  obtain ⟨l, st, rfl, ⟨asc, ll⟩, hs, q⟩ := h
  have he := end_le hs
  have hlf : (fg l st).length ≤ 900 := by
    have : (fg l st).length = tw (l.drop st) := rfl
    lia
  refine ⟨_, (pss_cons (ps_set (i := 3) sc_number_between.nd rfl (Or.inl rfl) (pe_slice sl_str (pv 0) (po_some (pv 1)) (po_some (pv 2))))
    (pss_cons (ps_set (i := 4) sc_number_between.nd rfl (Or.inl rfl) (pe_and (pe_bm PySem.F.plainAttrs_str PySem.F.slot_str_startswith PySem.F.type_str_startswith mt_starts (pv 3) (pa_cons pe_str pa_nil)) (pe_one (pe_cmpR op_ne (pv 3) pe_str (nomark _)))))
    (pss_cons (ps_if (PW.pt (pw_or (pt_cmpR op_eq (pv 3) pe_str (nomark _)) (pw_or (pt_cmpR op_gt (pe_callB call_len_str rfl T.n_len boot_len (pa_cons (pv 3) pa_nil)) (pe_glob rfl hG_MOST_FIGURES.1 hG_MOST_FIGURES.2) (nomark _)) (pw_or1 (pt_truth (pv 4) (fun _ => rfl))))))
    (pss_one (ps_raiseV leaves_cxG rfl (pe_bad (dvs := []) (E := E0) BI.cls BI.fn BI.kp g_init (Room.mono hr.calm (by decide)) rfl BI.m3 BI.b2 .nil pass0 (pa_cons pe_str (pa_cons (pv 1) pa_nil)))))
    pss_nil)
    (pss_one (ps_ret (pe_callTy call_int_str rfl T.n_int boot_int (pa_cons (pv 3) pa_nil))))))), ?_⟩
  walk_at "sf"
  refine ⟨_, rfl, ?_⟩
  refine ⟨_, rfl, _, rfl, S l, rfl, by rw [S_len l]; exact lenOK (by lia), ?_⟩
  rw [sl_S (by lia), Nat.add_sub_cancel_left, fg_take]
  walk_at "sf"
  refine ⟨_, rfl, ty_str, ?_⟩
  walk_at "sf"
  refine .inl ⟨_, _, rfl, rfl, ?_⟩
  refine noughts rfl ?_
  walk_at "sf"
  refine r_eqS ?_
  have e0 : decide (S (fg l st) = Str.ofString "") = decide (fg l st = []) := by
    rw [lit_e, Bool.eq_iff_iff]
    simp only [decide_eq_true_eq]
    exact ⟨S_inj, fun z => by rw [z]⟩
  rw [e0]
  walk_at "sf"
  cases hv : vl (fg l st) with
  | none =>
    rw [hv] at q
    refine ite2 (fun c => ?_) (fun c => ?_)
    · rw [if_pos rfl]
      exact raise_bad BI (fun G g => ⟨_, rfl, g⟩) q
    walk_at "sf"
    refine ⟨_, rfl, by rw [S_len (fg l st)]; exact lenOK (by lia), ?_⟩
    rw [S_len (fg l st)]
    walk_at "sf"
    refine ite2 (fun c2 => ?_) (fun c2 => ?_)
    · rw [if_pos rfl]
      exact raise_bad BI (fun G g => ⟨_, rfl, g⟩) q
    walk_at "sf"
    refine ⟨_, rfl, ?_⟩
    have c3 : nz (fg l st) = true := by
      rcases vl_none hv with z | z | z
      · exact absurd (by simpa using z) c
      · exact absurd (by simp; lia) c2
      · exact z
    rw [c3]
    show (if true = true then _ else _)
    rw [if_pos rfl]
    exact raise_bad BI (fun G g => ⟨_, rfl, g⟩) q
  | some n =>
    rw [hv] at q
    obtain ⟨n1, n2, n3, n4, n5⟩ := vl_some hv fg_isd
    rw [if_neg (by simpa using n1)]
    walk_at "sf"
    refine ⟨_, rfl, by rw [S_len (fg l st)]; exact lenOK (by lia), ?_⟩
    rw [S_len (fg l st)]
    walk_at "sf"
    rw [if_neg (by simp; lia)]
    walk_at "sf"
    refine ⟨_, rfl, ?_⟩
    rw [n3]
    show (if false = true then _ else _)
    rw [if_neg (by decide)]
    walk_at "sf"
    refine ⟨_, _, rfl, n5, by rw [S_len (fg l st)]; lia, ?_⟩
    walk_at "sf"
    exact q
end
end K24
namespace K24
open PySem PyProof.Rows L2 SF PySem.W
noncomputable def spPart (c3 : Addr) : Sp := fun vs H Q E => ∃ (l : List Nat) (s above : Nat), vs = [.str (S l), .int (s : Int), .int (above : Int)] ∧ Asc l ∧ s ≤ l.length ∧ Res c3 E H (pt l s above) fun (n, p, e) => ∀ g H', Same H H' → H' g = some (.tup [.int (n : Int), .int (p : Int), .int (e : Int)]) → Q (.ref g) H'
noncomputable def spTurn (c3 : Addr) : Sp := fun vs H Q E => ∃ (l : List Nat) (s : Nat), vs = [.str (S l), .int (s : Int)] ∧ Asc l ∧ s ≤ l.length ∧ match tn l s with
  | some b => ∀ H', Same H H' → Q (.bl b) H'
  | none => Bad c3 E H s
section
variable {P : Program} {w : World} {K : Frag} {mg : Str → Option Value} {base : Heap} {c3 fI : Addr} {fd : FuncData}
theorem ok_size_between (BI : Bx K mg c3 fI fd) (g_init : FnOk P w K mg base CX0 1 fI fd ["self", "text", "at"] (spInit c3)) (g_number_between : FnGB P w K mg base (CXF P w) true 3 "number_between" ["text", "start", "end"] (fun _ => spNum c3))
    (D : DefB K mg "size_between" s_size_between ["text", "start", "end"]) : FnGB P w K mg base (CXF P w) true 4 "size_between" ["text", "start", "end"] (fun _ => spSize c3) := by
  refine D.okG sc_size_between (fun s vs H Q E h => ?_) (fun f cdv A outer s H vs Q E hcd hr h => ?_)
  · obtain ⟨l, s, rfl, _⟩ := h
    rfl
  obtain ⟨l, st, rfl, asc, hs, q⟩ := h
  have he := end_le hs
  refine ⟨_, (pss_cons (ps_set (i := 3) sc_size_between.nd rfl (Or.inl rfl) (pe_bm PySem.F.plainAttrs_str PySem.F.slot_str_startswith PySem.F.type_str_startswith mt_starts (pv 0) (pa_cons pe_str (pa_cons (pv 2) pa_nil))))
    (pss_cons (ps_if (PW.pt (pw_and (pt_truth (pv 3) (fun _ => rfl)) (pw_and1 (pt_cmpR op_eq (pv 1) (pv 2) (nomark _)))))
    (pss_one (ps_ret pe_int))
    pss_nil)
    (pss_cons (ps_set (i := 4) sc_size_between.nd rfl (Or.inl rfl) (pe_fnG g_number_between hr leaves_cxG.passes (pa_cons (pv 0) (pa_cons (pv 1) (pa_cons (pv 2) pa_nil)))))
    (pss_cons (ps_if (PW.pt (pw_or (pt_cmpR op_eq (pv 4) pe_int (nomark _)) (pw_or1 (PW.pt (pw_and (pt_truth (pv 3) (fun _ => rfl)) (pw_and1 (pt_cmpR op_eq (pv 4) pe_int (nomark _))))))))
    (pss_one (ps_raiseV leaves_cxG rfl (pe_bad (dvs := []) (E := E0) BI.cls BI.fn BI.kp g_init (Room.mono hr.calm (by decide)) rfl BI.m3 BI.b2 .nil pass0 (pa_cons pe_str (pa_cons (pv 1) pa_nil)))))
    pss_nil)
    (pss_one (ps_ret (pv 4))))))), ?_⟩
  walk_at "sf"
  refine ⟨_, rfl, ty_str, ?_⟩
  walk_at "sf"
  refine .inr ⟨_, _, _, rfl, rfl, ?_⟩
  rw [lit_x, starts3 he, s3]
  unfold sz at q
  generalize at1 l (st + tw (l.drop st)) 120 = ah at q ⊢
  walk_at "sf"
  refine ⟨_, rfl, ?_⟩
  show (if ah = true then _ else _)
  by_cases c1 : (ah && st == st + tw (l.drop st)) = true
  · rw [if_pos c1] at q
    simp only [Bool.and_eq_true, beq_iff_eq] at c1
    rw [if_pos c1.1]
    walk_at "sf"
    rw [if_pos (by simp; lia)]
    walk_at "sf"
    exact q
  · rw [if_neg c1] at q
    refine ite_keep (fun c hB => ?_) ?_
    · walk_at "sf"
      have : ¬ (st : Int) = ((st + tw (l.drop st) : Nat) : Int) := fun z => c1 (by rw [c]; simp; lia)
      rw [if_neg (by simpa using this)]
      exact hB
    show (if false = true then _ else _)
    rw [if_neg (by decide)]
    walk_at "sf"
    refine ⟨l, st, rfl, asc, hs, ?_⟩
    cases hv : vl (fg l st) with
    | none =>
      rw [hv] at q
      exact q
    | some n =>
      rw [hv] at q
      dsimp only at q ⊢
      walk_at "sf"
      by_cases c2 : n = 0 ∨ (ah = true ∧ n = 1)
      · rw [if_pos c2] at q
        rcases c2 with c2 | ⟨c2, c3'⟩
        · rw [if_pos (by simpa using c2), if_pos rfl]
          exact raise_bad BI (fun G g => ⟨_, rfl, g⟩) q
        · rw [if_neg (by simp; lia)]
          walk_at "sf"
          refine ⟨_, rfl, ?_⟩
          show (if ah = true then _ else _)
          rw [if_pos c2]
          walk_at "sf"
          rw [if_pos (by simp; lia)]
          exact raise_bad BI (fun G g => ⟨_, rfl, g⟩) q
      · rw [if_neg c2] at q
        rw [if_neg (by simp; lia)]
        walk_at "sf"
        refine ⟨_, rfl, ?_⟩
        show (if ah = true then _ else _)
        refine ite_keep (fun c hB => ?_) ?_
        · walk_at "sf"
          rw [if_neg (by simp; exact fun z => c2 (.inr ⟨c, by lia⟩))]
          exact hB
        show (if false = true then _ else _)
        rw [if_neg (by decide)]
        walk_at "sf"
        exact q
theorem ok_power_at (T : Nm mg) (BI : Bx K mg c3 fI fd) (g_init : FnOk P w K mg base CX0 1 fI fd ["self", "text", "at"] (spInit c3)) {uP : Value} (hG_GREATEST_POWER : mg "GREATEST_POWER" = some uP ∧ RelV (.int 12) uP)
    (g_end_of_figures : FnGB P w K mg base (CXF P w) true 3 "end_of_figures" ["text", "start"] (fun _ => spEnd)) (g_number_between : FnGB P w K mg base (CXF P w) true 3 "number_between" ["text", "start", "end"] (fun _ => spNum c3))
    (D : DefB K mg "power_at" s_power_at ["text", "start"]) : FnGB P w K mg base (CXF P w) true 4 "power_at" ["text", "start"] (fun _ => spPow c3) := by
  refine D.okG sc_power_at (fun s vs H Q E h => ?_) (fun f cdv A outer s H vs Q E hcd hr h => ?_)
  · obtain ⟨l, s, rfl, _⟩ := h
    rfl
  obtain ⟨l, st, rfl, asc, hs, q⟩ := h
  refine ⟨_, (pss_cons (ps_if (pt_not (pt_val (pe_bm PySem.F.plainAttrs_str PySem.F.slot_str_startswith PySem.F.type_str_startswith mt_starts (pv 0) (pa_cons pe_str (pa_cons (pv 1) pa_nil)))))
    (pss_one (ps_ret (pe_tup (pa_cons pe_int (pa_cons (pv 1) pa_nil)))))
    pss_nil)
    (pss_cons (ps_if (pt_not (pt_val (pe_bm PySem.F.plainAttrs_str PySem.F.slot_str_startswith PySem.F.type_str_startswith mt_starts (pv 0) (pa_cons pe_str (pa_cons (pe_op op_add (pv 1) pe_int) pa_nil)))))
    (pss_one (ps_ret (pe_tup (pa_cons pe_int (pa_cons (pe_op op_add (pv 1) pe_int) pa_nil)))))
    pss_nil)
    (pss_cons (ps_set (i := 2) sc_power_at.nd rfl (Or.inl rfl) (pe_op op_add (pv 1) pe_int))
    (pss_cons (ps_set (i := 3) sc_power_at.nd rfl (Or.inl rfl) (pe_fnG g_end_of_figures hr leaves_cxG.passes (pa_cons (pv 0) (pa_cons (pv 2) pa_nil))))
    (pss_cons (ps_set (i := 4) sc_power_at.nd rfl (Or.inl rfl) (pe_fnG g_number_between hr leaves_cxG.passes (pa_cons (pv 0) (pa_cons (pv 2) (pa_cons (pv 3) pa_nil)))))
    (pss_cons (ps_if (PW.pt (pw_or (pt_cmpR op_lt (pv 4) pe_int (nomark _)) (pw_or1 (pt_cmpR op_gt (pv 4) (pe_glob rfl hG_GREATEST_POWER.1 hG_GREATEST_POWER.2) (nomark _)))))
    (pss_one (ps_raiseV leaves_cxG rfl (pe_bad (dvs := []) (E := E0) BI.cls BI.fn BI.kp g_init (Room.mono hr.calm (by decide)) rfl BI.m3 BI.b2 .nil pass0 (pa_cons pe_str (pa_cons (pv 2) pa_nil)))))
    pss_nil)
    (pss_one (ps_ret (pe_tup (pa_cons (pv 4) (pa_cons (pv 3) pa_nil))))))))))), ?_⟩
  walk_at "sf"
  refine ⟨_, rfl, ty_str, ?_⟩
  walk_at "sf"
  refine .inr ⟨_, _, _, rfl, rfl, ?_⟩
  rw [lit_x, starts3 hs, s3]
  have c1 : (st : Int) + 1 = ((st + 1 : Nat) : Int) := by lia
  have c2 : (st : Int) + 2 = ((st + 2 : Nat) : Int) := by lia
  unfold pw at q
  walk_at "sf"
  cases h1 : at1 l st 120 with
  | false =>
    rw [h1, if_pos rfl] at q
    rw [if_pos (by decide)]
    walk_at "sf"
    exact q
  | true =>
  rw [h1, if_neg (by decide)] at q
  rw [if_neg (by decide)]
  have l1 := at1_lt h1
  walk_at "sf"
  refine ⟨_, rfl, ty_str, ?_⟩
  walk_at "sf"
  refine .inr ⟨_, _, _, rfl, rfl, ?_⟩
  rw [c1, lit_h, starts3 (by lia), s3]
  walk_at "sf"
  cases h2 : at1 l (st + 1) 94 with
  | false =>
    rw [h2, if_pos rfl] at q
    rw [if_pos (by decide)]
    walk_at "sf"
    rw [c1]
    exact q
  | true =>
  rw [h2, if_neg (by decide)] at q
  rw [if_neg (by decide)]
  have l2 := at1_lt h2
  walk_at "sf"
  rw [c2]
  refine ⟨l, st + 2, rfl, asc, by lia, ?_⟩
  walk_at "sf"
  refine ⟨l, st + 2, rfl, asc, by lia, ?_⟩
  cases hv : vl (fg l (st + 2)) with
  | none =>
    rw [hv] at q
    exact q
  | some p =>
    rw [hv] at q
    dsimp only at q ⊢
    walk_at "sf"
    by_cases c3' : p < 2 ∨ 12 < p
    · rw [if_pos c3'] at q
      by_cases c4 : p < 2
      · rw [if_pos (by simp; lia), if_pos rfl]
        exact raise_bad BI (fun G g => ⟨_, rfl, g⟩) q
      · rw [if_neg (by simp; lia)]
        walk_at "sf"
        rw [if_pos (by simp; lia)]
        exact raise_bad BI (fun G g => ⟨_, rfl, g⟩) q
    · rw [if_neg c3'] at q
      rw [if_neg (by simp; lia)]
      walk_at "sf"
      rw [if_neg (by simp; lia)]
      walk_at "sf"
      exact q
theorem ok_part_at (T : Nm mg) (BI : Bx K mg c3 fI fd) (g_init : FnOk P w K mg base CX0 1 fI fd ["self", "text", "at"] (spInit c3)) (g_end_of_figures : FnGB P w K mg base (CXF P w) true 4 "end_of_figures" ["text", "start"] (fun _ => spEnd))
    (g_size_between : FnGB P w K mg base (CXF P w) true 4 "size_between" ["text", "start", "end"] (fun _ => spSize c3)) (g_power_at : FnGB P w K mg base (CXF P w) true 4 "power_at" ["text", "start"] (fun _ => spPow c3))
    (D : DefB K mg "part_at" s_part_at ["text", "start", "above"]) : FnGB P w K mg base (CXF P w) true 5 "part_at" ["text", "start", "above"] (fun _ => spPart c3) := by
  refine D.okG sc_part_at (fun s vs H Q E h => ?_) (fun f cdv A outer s H vs Q E hcd hr h => ?_)
  · obtain ⟨l, s, above, rfl, _⟩ := h
    rfl
  obtain ⟨l, st, above, rfl, asc, hs, q⟩ := h
  have he := end_le hs
  refine ⟨_, (pss_cons (ps_set (i := 3) sc_part_at.nd rfl (Or.inl rfl) (pe_fnG g_end_of_figures hr leaves_cxG.passes (pa_cons (pv 0) (pa_cons (pv 1) pa_nil))))
    (pss_cons (ps_set (i := 4) sc_part_at.nd rfl (Or.inl rfl) (pe_fnG g_size_between hr leaves_cxG.passes (pa_cons (pv 0) (pa_cons (pv 1) (pa_cons (pv 3) pa_nil)))))
    (pss_cons (ps_set (i := 5) sc_part_at.nd rfl (Or.inl rfl) (pe_fnG g_power_at hr leaves_cxG.passes (pa_cons (pv 0) (pa_cons (pv 3) pa_nil))))
    (pss_cons (ps_if (pt_cmpR op_ge (pe_ix ix_tup (pv 5) pe_int (fun _ _ => rfl)) (pv 2) (nomark _))
    (pss_one (ps_raiseV leaves_cxG rfl (pe_bad (dvs := []) (E := E0) BI.cls BI.fn BI.kp g_init (Room.mono hr.calm (by decide)) rfl BI.m3 BI.b2 .nil pass0 (pa_cons pe_str (pa_cons (pv 1) pa_nil)))))
    pss_nil)
    (pss_one (ps_ret (pe_tup (pa_cons (pv 4) (pa_cons (pe_ix ix_tup (pv 5) pe_int (fun _ _ => rfl)) (pa_cons (pe_ix ix_tup (pv 5) pe_int (fun _ _ => rfl)) pa_nil)))))))))), ?_⟩
  walk_at "sf"
  refine ⟨l, st, rfl, asc, hs, ?_⟩
  walk_at "sf"
  refine ⟨l, st, rfl, asc, hs, ?_⟩
  unfold pt at q
  cases h1 : sz l st with
  | error e => rw [h1] at q; exact q
  | ok n =>
  rw [h1] at q
  dsimp only [Res] at q ⊢
  walk_at "sf"
  refine ⟨l, _, rfl, asc, he, ?_⟩
  cases h2 : pw l (st + tw (l.drop st)) with
  | error e => rw [h2] at q; exact q
  | ok pe =>
  obtain ⟨p, e⟩ := pe
  rw [h2] at q
  dsimp only [Res] at q ⊢
  intro g hg
  have sg := Same.new hg (.tup [.int (p : Int), .int (e : Int)])
  have hg1 : upd H g (.tup [.int (p : Int), .int (e : Int)]) g = some (.tup [.int (p : Int), .int (e : Int)]) := upd_same
  generalize upd H g (.tup [.int (p : Int), .int (e : Int)]) = H1 at sg hg1 ⊢
  walk_at "sf"
  refine r_ixT (SqT.of hg1) rfl ?_
  walk_at "sf"
  by_cases c : above ≤ p
  · rw [if_pos c] at q
    rw [if_pos (by simp; lia)]
    exact raise_bad BI (fun G g => ⟨_, rfl, g⟩) (Bad.same q sg)
  · rw [if_neg c] at q
    rw [if_neg (by simp; lia)]
    walk_at "sf"
    refine r_ixT (SqT.of hg1) rfl ?_
    walk_at "sf"
    refine r_ixT (SqT.of hg1) rfl ?_
    walk_at "sf"
    intro g2 hg2
    exact q g2 _ (sg.trans (Same.new hg2 _)) upd_same
theorem ok_turn_at (BI : Bx K mg c3 fI fd) (g_init : FnOk P w K mg base CX0 1 fI fd ["self", "text", "at"] (spInit c3)) (D : DefB K mg "turn_at" s_turn_at ["text", "start"]) : FnGB P w K mg base (CXF P w) true 3 "turn_at" ["text", "start"] (fun _ => spTurn c3) := by
  refine D.okG sc_turn_at (fun s vs H Q E h => ?_) (fun f cdv A outer s H vs Q E hcd hr h => ?_)
  · obtain ⟨l, s, rfl, _⟩ := h
    rfl
  obtain ⟨l, st, rfl, ⟨asc, la⟩, hs, q⟩ := h
  have c3' : (st : Int) + 3 = ((st + 3 : Nat) : Int) := by lia
  refine ⟨_, (pss_cons (ps_set (i := 2) sc_turn_at.nd rfl (Or.inl rfl) (pe_slice sl_str (pv 0) (po_some (pv 1)) (po_some (pe_op op_add (pv 1) pe_int))))
    (pss_cons (ps_if (pt_cmpR op_notIn_seq (pv 2) (pe_tup (pa_cons pe_str (pa_cons pe_str pa_nil))) rfl)
    (pss_one (ps_raiseV leaves_cxG rfl (pe_bad (dvs := []) (E := E0) BI.cls BI.fn BI.kp g_init (Room.mono hr.calm (by decide)) rfl BI.m3 BI.b2 .nil pass0 (pa_cons pe_str (pa_cons (pv 1) pa_nil)))))
    pss_nil)
    (pss_one (ps_ret (pe_cmpR op_eq (pv 2) pe_str (nomark _)))))), ?_⟩
  walk_at "sf"
  refine ⟨_, rfl, ?_⟩
  walk_at "sf"
  refine ⟨_, rfl, S l, rfl, by rw [S_len l]; exact lenOK (by lia), ?_⟩
  rw [c3', sl_S (by lia), Nat.add_sub_cancel_left]
  unfold tn at q
  generalize (l.drop st).take 3 = t3 at q ⊢
  walk_at "sf"
  intro tp htp
  have stp := Same.new htp (.tup [.str (Str.ofString " + "), .str (Str.ofString " - ")])
  have htp1 : upd H tp (.tup [.str (Str.ofString " + "), .str (Str.ofString " - ")]) tp = some (.tup [.str (Str.ofString " + "), .str (Str.ofString " - ")]) := upd_same
  generalize upd H tp (.tup [.str (Str.ofString " + "), .str (Str.ofString " - ")]) = H1 at stp htp1 ⊢
  walk_at "sf"
  refine ⟨tp, _, rfl, .inr (SqT.of htp1), rfl, rfl, ?_⟩
  have eqS : ∀ a b : List Nat, decide (S a = S b) = decide (a = b) := fun a b => by
    rw [Bool.eq_iff_iff]
    simp only [decide_eq_true_eq]
    exact ⟨S_inj, fun z => by rw [z]⟩
  have ein : inV (.str (S t3)) [.str (Str.ofString " + "), .str (Str.ofString " - ")] = (decide (t3 = [32, 43, 32]) || decide (t3 = [32, 45, 32])) := by
    rw [lit_bp, lit_bm]
    show ((S [32, 43, 32] == S t3) || ((S [32, 45, 32] == S t3) || false)) = _
    have e : ∀ b : List Nat, (S b == S t3) = decide (t3 = b) := fun b => by
      rw [Bool.eq_iff_iff]
      simp only [decide_eq_true_eq, beq_iff_eq]
      exact ⟨fun z => (S_inj z).symm, fun z => by rw [z]⟩
    rw [e, e, Bool.or_false]
  rw [ein]
  by_cases h1 : t3 = [32, 43, 32]
  · rw [if_pos h1] at q
    subst h1
    walk_at "sf"
    rw [if_neg (by decide)]
    walk_at "sf"
    refine r_eqS ?_
    rw [lit_bm, eqS]
    walk_at "sf"
    exact q _ stp
  rw [if_neg h1] at q
  by_cases h2 : t3 = [32, 45, 32]
  · rw [if_pos h2] at q
    subst h2
    walk_at "sf"
    rw [if_neg (by decide)]
    walk_at "sf"
    refine r_eqS ?_
    rw [lit_bm, eqS]
    walk_at "sf"
    exact q _ stp
  · rw [if_neg h2] at q
    walk_at "sf"
    rw [if_pos (by simp [h1, h2])]
    exact raise_bad BI (fun G g => ⟨_, rfl, g⟩) (Bad.same q stp)
end
end K24
namespace K24
open PySem PyProof.Rows L2 SF PySem.W
noncomputable def spRead (c3 : Addr) : Sp := fun vs H Q E => ∃ l : List Nat, vs = [.str (S l)] ∧ Asc l ∧ Res c3 E H (rdT l) fun xs => ∀ p H', Same H H' → IL H' p xs → Q (.ref p) H'
noncomputable def spUnder (c3 : Addr) : Sp := fun vs H Q E => ∃ (l : List Nat) (s : Nat) (top : Int), vs = [.str (S l), .int (s : Int), .int top] ∧ Asc l ∧ s ≤ l.length ∧ Res c3 E H (un l s top) fun (u, e) => ∀ g, H g = none → Q (.ref g) (upd H g (.tup [.int (u : Int), .int (e : Int)]))
noncomputable def spReadR (c3 : Addr) : Sp := fun vs H Q E => ∃ l : List Nat, vs = [.str (S l)] ∧ Asc l ∧ Res c3 E H (rrT l) fun (t, u) => ∀ p H', Same H H' → H' p = some (.tup [.int t, .int u]) → Q (.ref p) H'
theorem eqS (a b : List Nat) : decide (S a = S b) = decide (a = b) := by
  rw [Bool.eq_iff_iff]
  simp only [decide_eq_true_eq]
  exact ⟨S_inj, fun z => by rw [z]⟩
noncomputable def s0 (l : List Nat) : Nat := if at1 l 0 45 then 1 else 0
theorem s0_le (l : List Nat) : s0 l ≤ l.length := by
  unfold s0
  split
  · rename_i h; exact at1_lt h
  · exact Nat.zero_le _
section
variable {P : Program} {w : World} {K : Frag} {mg : Str → Option Value} {base : Heap} {c3 fI : Addr} {fd : FuncData}
theorem ok_read (T : Nm mg) {uP : Value} (hG_GREATEST_POWER : mg "GREATEST_POWER" = some uP ∧ RelV (.int 12) uP) (g_part_at : FnGB P w K mg base (CXF P w) true 5 "part_at" ["text", "start", "above"] (fun _ => spPart c3))
    (g_turn_at : FnGB P w K mg base (CXF P w) true 5 "turn_at" ["text", "start"] (fun _ => spTurn c3)) (g_trimmed : FnGB P w K mg base (CXF P w) true 5 "trimmed" ["row"] (fun _ => spL trimL Few))
    (D : DefB K mg "read" s_read ["text"]) : FnGB P w K mg base (CXF P w) true 6 "read" ["text"] (fun _ => spRead c3) := by
  refine D.okG sc_read (fun s vs H Q E h => ?_) (fun f cdv A outer s H vs Q E hcd hr h => ?_)
  · obtain ⟨l, rfl, _⟩ := h
    rfl
  obtain ⟨l, rfl, asc, q⟩ := h
  refine ⟨_, (pss_cons (ps_if (pt_cmpR op_eq (pv 0) pe_str (nomark _))
    (pss_one (ps_ret (pe_lst pa_nil)))
    pss_nil)
    (pss_cons (ps_set (i := 1) sc_read.nd rfl (Or.inl rfl) (pe_op op_rep (pe_lst (pa_cons pe_int pa_nil)) (pe_op op_add (pe_glob rfl hG_GREATEST_POWER.1 hG_GREATEST_POWER.2) pe_int)))
    (pss_cons (ps_set (i := 2) sc_read.nd rfl (Or.inl rfl) (pe_bm PySem.F.plainAttrs_str PySem.F.slot_str_startswith PySem.F.type_str_startswith mt_starts (pv 0) (pa_cons pe_str pa_nil)))
    (pss_cons (ps_set (i := 3) sc_read.nd rfl (Or.inl rfl) (pe_ifExp (pt_truth (pv 2) (fun _ => rfl)) pe_int pe_int))
    (pss_cons (ps_set (i := 4) sc_read.nd rfl (Or.inl rfl) (pe_op op_add (pe_glob rfl hG_GREATEST_POWER.1 hG_GREATEST_POWER.2) pe_int))
    (pss_one (ps_while PassesOwn.leaving (pt_truth pe_bl (fun _ => rfl))
    (pss_cons (ps_set (i := 5) sc_read.nd rfl (Or.inl rfl) (pe_fnG g_part_at hr leaves_cxG.passes (pa_cons (pv 0) (pa_cons (pv 3) (pa_cons (pv 4) pa_nil)))))
    (pss_cons (ps_set (i := 4) sc_read.nd rfl (Or.inl rfl) (pe_ix ix_tup (pv 5) pe_int (fun _ _ => rfl)))
    (pss_cons (ps_asg (pe_ifExp (pt_truth (pv 2) (fun _ => rfl)) (pe_un un_neg (pe_ix ix_tup (pv 5) pe_int (fun _ _ => rfl))) (pe_ix ix_tup (pv 5) pe_int (fun _ _ => rfl))) (pg_sub (pv 1) (pv 4) set_list))
    (pss_cons (ps_if (pt_cmpR op_eq (pe_ix ix_tup (pv 5) pe_int (fun _ _ => rfl)) (pe_callB call_len_str rfl T.n_len boot_len (pa_cons (pv 0) pa_nil)) (nomark _))
    (pss_one (ps_ret (pe_fnG g_trimmed hr leaves_cxG.passes (pa_cons (pv 1) pa_nil))))
    pss_nil)
    (pss_cons (ps_set (i := 2) sc_read.nd rfl (Or.inl rfl) (pe_fnG g_turn_at hr leaves_cxG.passes (pa_cons (pv 0) (pa_cons (pe_ix ix_tup (pv 5) pe_int (fun _ _ => rfl)) pa_nil))))
    (pss_one (ps_set (i := 3) sc_read.nd rfl (Or.inl rfl) (pe_op op_add (pe_ix ix_tup (pv 5) pe_int (fun _ _ => rfl)) pe_int))))))))))))))), ?_⟩
  walk_at "sf"
  refine r_eqS ?_
  rw [lit_0, eqS]
  walk_at "sf"
  unfold rdT at q
  by_cases hz : l = [48]
  · rw [if_pos hz] at q
    rw [if_pos (by simpa using hz)]
    walk_at "sf"
    intro p hp
    exact q p _ (Same.new hp _) upd_same
  rw [if_neg hz] at q
  rw [if_neg (by simpa using hz)]
  walk_at "sf"
  intro p0 hp0
  walk_at "sf"
  refine ⟨p0, _, _, rfl, rfl, upd_same, by decide, by decide, by show 1 * 13 ≤ sizeLine; exact small4 (by decide), fun p2 hp2 => ?_⟩
  have s2 := (Same.new hp0 (.lst [V.int 0])).trans (Same.new hp2 (.lst (List.replicate ((12 : Int) + 1).toNat [V.int 0]).flatten))
  have h2 : upd (upd H p0 (.lst [V.int 0])) p2 (.lst (List.replicate ((12 : Int) + 1).toNat [V.int 0]).flatten) p2 = some (.lst ((List.replicate 13 (0 : Int)).map V.int)) := by
    rw [upd_same]; rfl
  have n2 : H p2 = none := (Same.new hp0 _).free hp2
  generalize upd (upd H p0 (.lst [V.int 0])) p2 (.lst (List.replicate ((12 : Int) + 1).toNat [V.int 0]).flatten) = H1 at s2 h2 ⊢
  walk_at "sf"
  refine ⟨_, rfl, ty_str, ?_⟩
  walk_at "sf"
  refine .inl ⟨_, _, rfl, rfl, ?_⟩
  rw [lit_m, starts1, s1]
  have hs0 := s0_le l
  unfold s0 at hs0
  generalize at1 l 0 45 = neg0 at q hs0 ⊢
  walk_at "sf"
  refine ⟨_, rfl, ?_⟩
  refine (show (if neg0 = true then _ else _) from if_tC fun xv hxv => ?_)
  obtain ⟨st0, rfl, est⟩ : ∃ st0 : Nat, xv = .int (st0 : Int) ∧ (if neg0 then 1 else 0) = st0 := by
    rcases hxv with ⟨c, rfl⟩ | ⟨c, rfl⟩
    · exact ⟨1, rfl, by rw [c]; rfl⟩
    · exact ⟨0, rfl, by rw [c]; rfl⟩
  rw [est] at q hs0
  clear hxv est
  walk_at "sf"
  dsimp only
  refine while_go (fun m σ H' => ∃ (k st above : Nat) (neg : Bool) (rs : List Int) (z : Option V), m = k ∧ σ = [some (.str (S l)), some (.ref p2), some (.bl neg), some (.int (st : Int)), some (.int (above : Int)), z] ∧ Same H H' ∧ IL H' p2 rs ∧ rs.length = 13 ∧ above < k ∧ st ≤ l.length ∧
      Res c3 E H (rd k l st neg above rs) fun xs => ∀ p H', Same H H' → IL H' p xs → Q (.ref p) H') ⟨_, 14, st0, 13, neg0, List.replicate 13 0, _, rfl, rfl, s2, h2, rfl, by decide, hs0, q⟩ ?_
  rintro k0 σ H2 ⟨k, st, above, neg, rs, z, rfl, rfl, s3, h3, lrs, hab, hst, q⟩
  obtain ⟨k, rfl⟩ : ∃ k', k0 = k' + 1 := ⟨k0 - 1, by lia⟩
  walk_at "sf"
  refine ⟨_, rfl, ?_⟩
  show (if true = true then _ else _)
  rw [if_pos rfl]
  refine ⟨_, fun σ' H' h => h, ?_⟩
  walk_at "sf"
  refine ⟨l, st, above, rfl, asc, hst, ?_⟩
  unfold rd at q
  cases hp : pt l st above with
  | error e =>
    rw [hp] at q
    exact Bad.same q s3
  | ok npe =>
  obtain ⟨n, p, e⟩ := npe
  rw [hp] at q
  obtain ⟨he, hp12, hpa, hn1, hn2⟩ := pt_le hst hp
  dsimp only at q ⊢
  intro g H3 s34 hg
  have hg : H3 g = some (.tup [.int (n : Int), .int (p : Int), .int (e : Int)]) := hg
  have s4 := s3.trans s34
  have h4 := s34 _ _ h3
  walk_at "sf"
  refine r_ixT (SqT.of hg) rfl ?_
  walk_at "sf"
  refine ⟨_, rfl, ?_⟩
  show (if neg = true then _ else _)
  generalize hc : (if neg then -(n : Int) else (n : Int)) = cv at q
  refine ite2 (fun c => ?_) (fun c => ?_)
  case' refine_1 =>
    have ev : -(n : Int) = cv := by rw [← hc, if_pos c]
    walk_at "sf"
    refine r_ixT (SqT.of hg) rfl ?_
    walk_at "sf"
    rw [ev]
    clear ev
  case' refine_2 =>
    have ev : (n : Int) = cv := by rw [← hc, if_neg c]
    walk_at "sf"
    refine r_ixT (SqT.of hg) rfl ?_
    rw [ev]
    clear ev
  all_goals
    walk_at "sf"
    refine ⟨p2, _, _, p, rfl, rfl, h4, ix_nat (by rw [List.length_map]; lia), ?_⟩
    have hgp : g ≠ p2 := fun z => by rw [z, h4] at hg; cases hg
    have s5 : Same H (upd H3 p2 (.lst ((rs.map V.int).set p (.int cv)))) := fun c o zz => by
      rw [upd_ne (ne_of_none zz n2)]
      exact s4 _ _ zz
    have h5 : IL (upd H3 p2 (.lst ((rs.map V.int).set p (.int cv)))) p2 (rs.set p cv) := by
      show upd _ p2 _ p2 = _
      rw [upd_same, List.map_set]
    have hg5 : upd H3 p2 (.lst ((rs.map V.int).set p (.int cv))) g = some (.tup [.int (n : Int), .int (p : Int), .int (e : Int)]) := by
      rw [upd_ne hgp]; exact hg
    generalize upd H3 p2 (.lst ((rs.map V.int).set p (.int cv))) = H5 at s5 h5 hg5 ⊢
    have lr5 : (rs.set p cv).length = 13 := by rw [List.length_set]; exact lrs
    generalize rs.set p cv = rs' at q h5 lr5 ⊢
    have ll := asc.2
    walk_at "sf"
    refine r_ixT (SqT.of hg5) rfl ?_
    walk_at "sf"
    refine ⟨_, rfl, by rw [S_len l]; exact lenOK (by lia), ?_⟩
    rw [S_len l]
    walk_at "sf"
    by_cases hel : e = l.length
    · rw [if_pos hel] at q
      rw [if_pos (by simp; lia)]
      walk_at "sf"
      refine ⟨p2, rs', rfl, h5, by show rs'.length ≤ 1000; lia, fun pp H6 s6 h6 => ?_⟩
      walk_at "sf"
      exact q pp H6 (s5.trans s6) h6
    · rw [if_neg hel] at q
      rw [if_neg (by simp; lia)]
      walk_at "sf"
      refine r_ixT (SqT.of hg5) rfl ?_
      walk_at "sf"
      refine ⟨l, e, rfl, asc, he, ?_⟩
      cases ht : tn l e with
      | none =>
        rw [ht] at q
        exact Bad.same q s5
      | some b =>
        rw [ht] at q
        dsimp only at q ⊢
        intro H6 s6
        walk_at "sf"
        refine r_ixT (SqT.of (s6 _ _ hg5)) rfl ?_
        walk_at "sf"
        have c3' : (e : Int) + 3 = ((e + 3 : Nat) : Int) := by lia
        rw [c3']
        exact ⟨k, by lia, k, e + 3, p, b, rs', _, rfl, rfl, s5.trans s6, s6 _ _ h5, lr5, by lia, tn_le ht, q⟩
theorem ok_under_at (T : Nm mg) (BI : Bx K mg c3 fI fd) (g_init : FnOk P w K mg base CX0 1 fI fd ["self", "text", "at"] (spInit c3)) (g_end_of_figures : FnGB P w K mg base (CXF P w) true 3 "end_of_figures" ["text", "start"] (fun _ => spEnd))
    (g_number_between : FnGB P w K mg base (CXF P w) true 3 "number_between" ["text", "start", "end"] (fun _ => spNum c3)) (g_common_divisor : FnGB P w K mg base (CXF P w) true 3 "common_divisor" ["one", "other"] (fun _ => spGcd))
    (D : DefB K mg "under_at" s_under_at ["text", "start", "top"]) : FnGB P w K mg base (CXF P w) true 4 "under_at" ["text", "start", "top"] (fun _ => spUnder c3) := by
  refine D.okG sc_under_at (fun s vs H Q E h => ?_) (fun f cdv A outer s H vs Q E hcd hr h => ?_)
  · obtain ⟨l, s, top, rfl, _⟩ := h
    rfl
  obtain ⟨l, st, top, rfl, asc, hs, q⟩ := h
  have c1 : (st : Int) + 1 = ((st + 1 : Nat) : Int) := by lia
  refine ⟨_, (pss_cons (ps_if (pt_not (pt_val (pe_bm PySem.F.plainAttrs_str PySem.F.slot_str_startswith PySem.F.type_str_startswith mt_starts (pv 0) (pa_cons pe_str (pa_cons (pv 1) pa_nil)))))
    (pss_one (ps_ret (pe_tup (pa_cons pe_int (pa_cons (pv 1) pa_nil)))))
    pss_nil)
    (pss_cons (ps_set (i := 3) sc_under_at.nd rfl (Or.inl rfl) (pe_op op_add (pv 1) pe_int))
    (pss_cons (ps_set (i := 4) sc_under_at.nd rfl (Or.inl rfl) (pe_fnG g_end_of_figures hr leaves_cxG.passes (pa_cons (pv 0) (pa_cons (pv 3) pa_nil))))
    (pss_cons (ps_set (i := 5) sc_under_at.nd rfl (Or.inl rfl) (pe_fnG g_number_between hr leaves_cxG.passes (pa_cons (pv 0) (pa_cons (pv 3) (pa_cons (pv 4) pa_nil)))))
    (pss_cons (ps_if (PW.pt (pw_or (pt_cmpR op_lt (pv 5) pe_int (nomark _)) (pw_or1 (pt_cmpR op_ne (pe_fnG g_common_divisor hr leaves_cxG.passes (pa_cons (pv 2) (pa_cons (pv 5) pa_nil))) pe_int (nomark _)))))
    (pss_one (ps_raiseV leaves_cxG rfl (pe_bad (dvs := []) (E := E0) BI.cls BI.fn BI.kp g_init (Room.mono hr.calm (by decide)) rfl BI.m3 BI.b2 .nil pass0 (pa_cons pe_str (pa_cons (pv 3) pa_nil)))))
    pss_nil)
    (pss_one (ps_ret (pe_tup (pa_cons (pv 5) (pa_cons (pv 4) pa_nil)))))))))), ?_⟩
  walk_at "sf"
  refine ⟨_, rfl, ty_str, ?_⟩
  walk_at "sf"
  refine .inr ⟨_, _, _, rfl, rfl, ?_⟩
  rw [lit_s, starts3 hs, s3]
  unfold un at q
  walk_at "sf"
  cases h1 : at1 l st 47 with
  | false =>
    rw [h1, if_pos rfl] at q
    rw [if_pos (by decide)]
    walk_at "sf"
    exact q
  | true =>
  rw [h1, if_neg (by decide)] at q
  rw [if_neg (by decide)]
  have l1 := at1_lt h1
  walk_at "sf"
  rw [c1]
  walk_at "sf"
  refine ⟨l, st + 1, rfl, asc, by lia, ?_⟩
  walk_at "sf"
  refine ⟨l, st + 1, rfl, asc, by lia, ?_⟩
  cases hv : vl (fg l (st + 1)) with
  | none =>
    rw [hv] at q
    exact q
  | some u =>
    rw [hv] at q
    dsimp only at q ⊢
    walk_at "sf"
    by_cases c2 : u < 2
    · rw [if_pos (.inl c2)] at q
      rw [if_pos (by simp; lia), if_pos rfl]
      exact raise_bad BI (fun G g => ⟨_, rfl, g⟩) q
    rw [if_neg (by simp; lia)]
    walk_at "sf"
    refine ⟨_, _, rfl, ?_⟩
    walk_at "sf"
    by_cases c3' : Int.gcd top u = 1
    · rw [if_neg (by lia)] at q
      rw [if_neg (by simp [c3'])]
      walk_at "sf"
      exact q
    · rw [if_pos (.inr c3')] at q
      rw [if_pos (by simp; lia)]
      exact raise_bad BI (fun G g => ⟨_, rfl, g⟩) q
theorem ok_read_ratio (T : Nm mg) (BI : Bx K mg c3 fI fd) (g_init : FnOk P w K mg base CX0 1 fI fd ["self", "text", "at"] (spInit c3)) (g_end_of_figures : FnGB P w K mg base (CXF P w) true 4 "end_of_figures" ["text", "start"] (fun _ => spEnd))
    (g_number_between : FnGB P w K mg base (CXF P w) true 4 "number_between" ["text", "start", "end"] (fun _ => spNum c3)) (g_under_at : FnGB P w K mg base (CXF P w) true 4 "under_at" ["text", "start", "top"] (fun _ => spUnder c3))
    (D : DefB K mg "read_ratio" s_read_ratio ["text"]) : FnGB P w K mg base (CXF P w) true 5 "read_ratio" ["text"] (fun _ => spReadR c3) := by
  refine D.okG sc_read_ratio (fun s vs H Q E h => ?_) (fun f cdv A outer s H vs Q E hcd hr h => ?_)
  · obtain ⟨l, rfl, _⟩ := h
    rfl
  obtain ⟨l, rfl, asc, q⟩ := h
  have ll := asc.2
  refine ⟨_, (pss_cons (ps_set (i := 1) sc_read_ratio.nd rfl (Or.inl rfl) (pe_bm PySem.F.plainAttrs_str PySem.F.slot_str_startswith PySem.F.type_str_startswith mt_starts (pv 0) (pa_cons pe_str pa_nil)))
    (pss_cons (ps_set (i := 2) sc_read_ratio.nd rfl (Or.inl rfl) (pe_ifExp (pt_truth (pv 1) (fun _ => rfl)) pe_int pe_int))
    (pss_cons (ps_set (i := 3) sc_read_ratio.nd rfl (Or.inl rfl) (pe_fnG g_end_of_figures hr leaves_cxG.passes (pa_cons (pv 0) (pa_cons (pv 2) pa_nil))))
    (pss_cons (ps_set (i := 4) sc_read_ratio.nd rfl (Or.inl rfl) (pe_fnG g_number_between hr leaves_cxG.passes (pa_cons (pv 0) (pa_cons (pv 2) (pa_cons (pv 3) pa_nil)))))
    (pss_cons (ps_if (PW.pt (pw_and (pt_truth (pv 1) (fun _ => rfl)) (pw_and1 (pt_cmpR op_eq (pv 4) pe_int (nomark _)))))
    (pss_one (ps_raiseV leaves_cxG rfl (pe_bad (dvs := []) (E := E0) BI.cls BI.fn BI.kp g_init (Room.mono hr.calm (by decide)) rfl BI.m3 BI.b2 .nil pass0 (pa_cons pe_str (pa_cons (pv 2) pa_nil)))))
    pss_nil)
    (pss_cons (ps_set (i := 5) sc_read_ratio.nd rfl (Or.inl rfl) (pe_fnG g_under_at hr leaves_cxG.passes (pa_cons (pv 0) (pa_cons (pv 3) (pa_cons (pv 4) pa_nil)))))
    (pss_cons (ps_if (pt_cmpR op_ne (pe_ix ix_tup (pv 5) pe_int (fun _ _ => rfl)) (pe_callB call_len_str rfl T.n_len boot_len (pa_cons (pv 0) pa_nil)) (nomark _))
    (pss_one (ps_raiseV leaves_cxG rfl (pe_bad (dvs := []) (E := E0) BI.cls BI.fn BI.kp g_init (Room.mono hr.calm (by decide)) rfl BI.m3 BI.b2 .nil pass0 (pa_cons pe_str (pa_cons (pe_ix ix_tup (pv 5) pe_int (fun _ _ => rfl)) pa_nil)))))
    pss_nil)
    (pss_one (ps_ret (pe_tup (pa_cons (pe_ifExp (pt_truth (pv 1) (fun _ => rfl)) (pe_un un_neg (pv 4)) (pv 4)) (pa_cons (pe_ix ix_tup (pv 5) pe_int (fun _ _ => rfl)) pa_nil)))))))))))), ?_⟩
  walk_at "sf"
  refine ⟨_, rfl, ty_str, ?_⟩
  walk_at "sf"
  refine .inl ⟨_, _, rfl, rfl, ?_⟩
  rw [lit_m, starts1, s1]
  have hs0 := s0_le l
  unfold s0 at hs0
  unfold rrT at q
  generalize at1 l 0 45 = neg at q hs0 ⊢
  walk_at "sf"
  refine ⟨_, rfl, ?_⟩
  refine (show (if neg = true then _ else _) from if_tC fun xv hxv => ?_)
  obtain ⟨st, rfl, est⟩ : ∃ st : Nat, xv = .int (st : Int) ∧ (if neg then 1 else 0) = st := by
    rcases hxv with ⟨c, rfl⟩ | ⟨c, rfl⟩
    · exact ⟨1, rfl, by rw [c]; rfl⟩
    · exact ⟨0, rfl, by rw [c]; rfl⟩
  rw [est] at q hs0
  clear hxv est
  have he := end_le hs0
  walk_at "sf"
  refine ⟨l, st, rfl, asc, hs0, ?_⟩
  walk_at "sf"
  refine ⟨l, st, rfl, asc, hs0, ?_⟩
  cases hv : vl (fg l st) with
  | none =>
    rw [hv] at q
    exact q
  | some t =>
  rw [hv] at q
  dsimp only at q ⊢
  walk_at "sf"
  refine ⟨_, rfl, ?_⟩
  show (if neg = true then _ else _)
  by_cases c1 : neg = true ∧ t = 0
  · rw [if_pos c1] at q
    rw [if_pos c1.1]
    walk_at "sf"
    rw [if_pos (by simp; lia)]
    exact raise_bad BI (fun G g => ⟨_, rfl, g⟩) q
  rw [if_neg c1] at q
  refine ite_keep (fun c hB => ?_) ?_
  · walk_at "sf"
    rw [if_neg (by simp; exact fun z => c1 ⟨c, by lia⟩)]
    exact hB
  show (if false = true then _ else _)
  rw [if_neg (by decide)]
  walk_at "sf"
  refine ⟨l, st + tw (l.drop st), (t : Int), rfl, asc, he, ?_⟩
  cases hu : un l (st + tw (l.drop st)) t with
  | error e =>
    rw [hu] at q
    exact q
  | ok ue =>
  obtain ⟨u, e⟩ := ue
  rw [hu] at q
  dsimp only at q ⊢
  intro g hgn
  have sg := Same.new hgn (.tup [.int (u : Int), .int (e : Int)])
  have hg1 : upd H g (.tup [.int (u : Int), .int (e : Int)]) g = some (.tup [.int (u : Int), .int (e : Int)]) := upd_same
  generalize upd H g (.tup [.int (u : Int), .int (e : Int)]) = H1 at sg hg1 ⊢
  walk_at "sf"
  refine r_ixT (SqT.of hg1) rfl ?_
  walk_at "sf"
  refine ⟨_, rfl, by rw [S_len l]; exact lenOK (by lia), ?_⟩
  rw [S_len l]
  walk_at "sf"
  by_cases hel : e = l.length
  · rw [if_neg (by lia)] at q
    rw [if_neg (by simp; lia)]
    walk_at "sf"
    refine ⟨_, rfl, ?_⟩
    show (if neg = true then _ else _)
    refine ite2 (fun c => ?_) (fun c => ?_)
    · rw [if_pos c] at q
      walk_at "sf"
      refine r_ixT (SqT.of hg1) rfl ?_
      walk_at "sf"
      intro g2 hg2
      exact q g2 _ (sg.trans (Same.new hg2 _)) upd_same
    · rw [if_neg c] at q
      walk_at "sf"
      refine r_ixT (SqT.of hg1) rfl ?_
      walk_at "sf"
      intro g2 hg2
      exact q g2 _ (sg.trans (Same.new hg2 _)) upd_same
  · rw [if_pos hel] at q
    rw [if_pos (by simp; lia)]
    exact raise_bad BI (fun G g' => ⟨_, rfl, r_ixT (SqT.of hg1) rfl g'⟩) (Bad.same q sg)
end
end K24
namespace K24
open PySem PyProof.Rows L2 SF PySem.W
theorem in_dig : ∀ c : Nat, c < 128 → (!(Builtin.Str.occurrences (Str.ofString "0123456789") ⟨#[c]⟩ 0 (Str.ofString "0123456789").length 1).isEmpty) = isd c := by decide +kernel
noncomputable def cnt (l : List Nat) (s : Nat) : Int × Nat := match vl (fg l s) with
  | some n => (n, s + tw (l.drop s))
  | none => (-1, s)
noncomputable def spCount : Sp := fun vs H Q _ => ∃ (l : List Nat) (s : Nat), vs = [.str (S l), .int (s : Int)] ∧ Asc l ∧ s ≤ l.length ∧ ∀ g, H g = none → Q (.ref g) (upd H g (.tup [.int (cnt l s).1, .int ((cnt l s).2 : Int)]))
theorem one_char {c d : Nat} : decide ((⟨#[c]⟩ : Str) = S [d]) = decide (c = d) := by
  rw [Bool.eq_iff_iff]
  simp only [decide_eq_true_eq]
  exact ⟨fun z => by have := S_inj (a := [c]) (b := [d]) z; simpa using this, fun z => by rw [z]⟩
theorem is1 {l : List Nat} {s c : Nat} : decide (S ((l.drop s).take (s + 1 - s)) = S [c]) = at1 l s c := by
  rw [eqS, Nat.add_sub_cancel_left]
  unfold at1
  rw [Bool.eq_iff_iff]
  simp
theorem x_tw {l : List Nat} {s : Nat} (h : at1 l s 120 = true) : tw (l.drop s) = 0 := by
  have hs := at1_lt h
  unfold at1 at h
  rw [drop_at hs] at h ⊢
  have : l[s] = 120 := by
    have h := beq_iff_eq.mp h
    rw [List.take_succ_cons, List.take_zero] at h
    exact (List.cons.inj h).1
  rw [tw_cons, this]
  rfl
theorem head48 : ∀ {ds : List Nat} (hp : 0 < ds.length), ds.take 1 = [48] → ds[0] = 48
  | c :: r, _, h => (List.cons.inj h).1
theorem nz_one : ∀ {ds : List Nat} (hp : 0 < ds.length), ds[0] = 48 → nz ds = false → ds = [48]
  | c :: r, _, h, hz => by
    have hc : c = 48 := h
    subst hc
    unfold nz at hz
    simpa using hz
noncomputable def ptL (l : List Nat) (s last : Nat) : List V := match pt l s last with
  | .ok (n, p, e) => [.int (n : Int), .int (p : Int), .int (e : Int)]
  | .error e => [.int (-1), .int 0, .int (e : Int)]
noncomputable def spPartL : Sp := fun vs H Q _ => ∃ (l : List Nat) (s last : Nat), vs = [.str (S l), .int (s : Int), .int (last : Int)] ∧ Asc l ∧ s ≤ l.length ∧ ∀ g H', Same H H' → H' g = some (.tup (ptL l s last)) → Q (.ref g) H'
section
variable {P : Program} {w : World} {K : Frag} {mg : Str → Option Value} {base : Heap}
theorem ok_law_count (T : Nm mg) (D : DefB K mg "_law_count" s_law_count ["_law_text", "_law_at"]) : FnB P w K mg base 1 "_law_count" ["_law_text", "_law_at"] spCount := by
  refine D.ok sc_law_count (fun vs H Q E h => ?_) (fun f cdv A outer s H vs Q E hr h => ?_)
  · obtain ⟨l, s, rfl, _⟩ := h
    rfl
  obtain ⟨l, st, rfl, ⟨asc, ll⟩, hs, q⟩ := h
  have he := end_le hs
  have hlf : (fg l st).length = tw (l.drop st) := rfl
  refine ⟨_, (pss_cons (ps_set (i := 2) sc_law_count.nd rfl (Or.inl rfl) (pv 1))
    (pss_cons (ps_while PassesOwn.never (PW.pt (pw_and (pt_cmpR op_lt (pv 2) (pe_callB call_len_str rfl T.n_len boot_len (pa_cons (pv 0) pa_nil)) (nomark _)) (pw_and1 (pt_cmpR op_in_str (pe_ix ix_str (pv 0) (pv 2) (fun _ _ => rfl)) pe_str rfl))))
    (pss_one (ps_set (i := 2) sc_law_count.nd rfl (Or.inl rfl) (pe_op op_add (pv 2) pe_int))))
    (pss_cons (ps_set (i := 3) sc_law_count.nd rfl (Or.inl rfl) (pe_slice sl_str (pv 0) (po_some (pv 1)) (po_some (pv 2))))
    (pss_cons (ps_if (PW.pt (pw_or (pt_cmpR op_eq (pv 3) pe_str (nomark _)) (pw_or (pt_cmpR op_gt (pe_callB call_len_str rfl T.n_len boot_len (pa_cons (pv 3) pa_nil)) pe_int (nomark _)) (pw_or1 (PW.pt (pw_and (pt_cmpR op_eq (pe_ix ix_str (pv 3) pe_int (fun _ _ => rfl)) pe_str (nomark _)) (pw_and1 (pt_cmpR op_ne (pv 3) pe_str (nomark _)))))))))
    (pss_one (ps_ret (pe_tup (pa_cons (pe_un un_neg pe_int) (pa_cons (pv 1) pa_nil)))))
    pss_nil)
    (pss_one (ps_ret (pe_tup (pa_cons (pe_callTy call_int_str rfl T.n_int boot_int (pa_cons (pv 3) pa_nil)) (pa_cons (pv 2) pa_nil))))))))), ?_⟩
  walk_at "sf"
  refine while_go (fun m σ H' => ∃ e : Nat, m = l.length - e ∧ st ≤ e ∧ e ≤ l.length ∧ e + tw (l.drop e) = st + tw (l.drop st) ∧ σ = [some (.str (S l)), some (.int (st : Int)), some (.int (e : Int)), none] ∧ H' = H) ⟨_, st, rfl, Nat.le_refl _, hs, rfl, rfl, rfl⟩ ?_
  rintro m σ H' ⟨e, rfl, h1, h2, h3, rfl, rfl⟩
  walk_at "sf"
  refine ⟨_, rfl, by rw [S_len l]; exact lenOK (by lia), ?_⟩
  rw [S_len l]
  walk_at "sf"
  by_cases hlt : e < l.length
  case' pos =>
    rw [if_pos (by simpa using hlt)]
    walk_at "sf"
    refine ⟨S l, _, _, rfl, rfl, by rw [S_len l]; exact lenOK (by lia), atI_str hlt, ?_⟩
    walk_at "sf"
    refine ⟨_, _, rfl, rfl, ?_⟩
    have hc : l[e] < 128 := asc _ (List.getElem_mem hlt)
    rw [in_dig _ hc]
    rw [drop_at hlt, tw_cons] at h3
    walk_at "sf"
    refine ite2 (fun c => ?_) (fun c => ?_)
    · rw [if_pos c] at h3
      refine ⟨_, fun σ' H' h => h, ?_⟩
      walk_at "sf"
      exact ⟨_, by lia, e + 1, rfl, by lia, by lia, by lia, rfl, rfl⟩
    rw [if_neg c] at h3
    walk_at "sf"
  case' neg =>
    rw [if_neg (by simpa using hlt)]
    have he' : e = l.length := by lia
    rw [he', List.drop_length, tw_nil] at h3
    rw [← he'] at h3
    walk_at "sf"
    rw [if_neg (by decide)]
    walk_at "sf"
  all_goals
    have ee : e = st + tw (l.drop st) := by lia
    subst ee
    clear h3 h2 h1
    refine ⟨_, rfl, ?_⟩
    refine ⟨_, rfl, _, rfl, S l, rfl, by rw [S_len l]; exact lenOK (by lia), ?_⟩
    rw [sl_S (by lia), Nat.add_sub_cancel_left, fg_take]
    walk_at "sf"
    refine r_eqS ?_
    rw [lit_e, eqS]
    walk_at "sf"
    unfold cnt at q
    cases hv : vl (fg l st) with
    | none =>
      rw [hv] at q
      refine ite2 (fun c => ?_) (fun c => ?_)
      · rw [if_pos rfl]
        walk_at "sf"
        exact q
      have hne : fg l st ≠ [] := by simpa using c
      walk_at "sf"
      refine ⟨_, rfl, by rw [S_len (fg l st)]; exact lenOK (by lia), ?_⟩
      rw [S_len (fg l st)]
      walk_at "sf"
      refine ite2 (fun c2 => ?_) (fun c2 => ?_)
      · rw [if_pos rfl]
        walk_at "sf"
        exact q
      have hz : nz (fg l st) = true := by
        rcases vl_none hv with z | z | z
        · exact absurd z hne
        · exact absurd (by simp; lia) c2
        · exact z
      have hp : 0 < (fg l st).length := List.length_pos_iff.mpr hne
      unfold nz at hz
      simp only [Bool.and_eq_true, beq_iff_eq, Bool.not_eq_true', decide_eq_false_iff_not] at hz
      walk_at "sf"
      refine ⟨S (fg l st), _, _, rfl, rfl, by rw [S_len (fg l st)]; exact lenOK (by lia), atI_str (e := 0) hp, ?_⟩
      walk_at "sf"
      refine r_eqS ?_
      have h48 : (fg l st)[0] = 48 := head48 hp hz.1
      rw [lit_0, one_char, h48]
      walk_at "sf"
      rw [if_pos (by decide)]
      walk_at "sf"
      refine r_neS ?_
      rw [eqS]
      walk_at "sf"
      rw [if_pos (by simpa using hz.2)]
      walk_at "sf"
      exact q
    | some n =>
      rw [hv] at q
      obtain ⟨n1, n2, n3, n4, n5⟩ := vl_some hv fg_isd
      rw [if_neg (by simpa using n1)]
      walk_at "sf"
      refine ⟨_, rfl, by rw [S_len (fg l st)]; exact lenOK (by lia), ?_⟩
      rw [S_len (fg l st)]
      walk_at "sf"
      rw [if_neg (by simp; lia)]
      have hp : 0 < (fg l st).length := List.length_pos_iff.mpr n1
      walk_at "sf"
      refine ⟨S (fg l st), _, _, rfl, rfl, by rw [S_len (fg l st)]; exact lenOK (by lia), atI_str (e := 0) hp, ?_⟩
      walk_at "sf"
      refine r_eqS ?_
      rw [lit_0, one_char]
      walk_at "sf"
      refine ite_keep (fun c hB => ?_) ?_
      · have h48 : (fg l st)[0] = 48 := by simpa using c
        have hds : fg l st = [48] := nz_one hp h48 n3
        walk_at "sf"
        refine r_neS ?_
        rw [eqS, decide_eq_true hds]
        walk_at "sf"
        rw [if_neg (by decide)]
        rw [if_neg (by decide)] at hB
        exact hB
      show (if false = true then _ else _)
      rw [if_neg (by decide)]
      walk_at "sf"
      refine ⟨_, _, rfl, n5, by rw [S_len (fg l st)]; lia, ?_⟩
      walk_at "sf"
      exact q
theorem ok_law_part (T : Nm mg) (g_law_count : FnB P w K mg base 1 "_law_count" ["_law_text", "_law_at"] spCount) (D : DefB K mg "_law_part" s_law_part ["_law_text", "_law_at", "_law_last"]) : FnB P w K mg base 2 "_law_part" ["_law_text", "_law_at", "_law_last"] spPartL := by
  refine D.ok sc_law_part (fun vs H Q E h => ?_) (fun f cdv A outer s H vs Q E hr h => ?_)
  · obtain ⟨l, s, last, rfl, _⟩ := h
    rfl
  obtain ⟨l, st, last, rfl, asc, hs, q⟩ := h
  have ll := asc.2
  have he := end_le hs
  have inc : ∀ i : Nat, (i : Int) + 1 = ((i + 1 : Nat) : Int) := fun i => by lia
  refine ⟨_, (pss_cons (ps_set (i := 3) sc_law_part.nd rfl (Or.inl rfl) pe_int)
    (pss_cons (ps_set (i := 4) sc_law_part.nd rfl (Or.inl rfl) (pv 1))
    (pss_cons (ps_if (pt_cmpR op_ne (pe_slice sl_str (pv 0) (po_some (pv 1)) (po_some (pe_op op_add (pv 1) pe_int))) pe_str (nomark _))
    (pss_cons (ps_asg (pe_fn g_law_count hr (pa_cons (pv 0) (pa_cons (pv 1) pa_nil))) (pg_tup rfl (pgs_cons (pg_name (i := 3) sc_law_part.nd rfl (Or.inl rfl)) (pgs_cons (pg_name (i := 4) sc_law_part.nd rfl (Or.inl rfl)) pgs_nil))))
    (pss_one (ps_if (PW.pt (pw_or (pt_cmpR op_lt (pv 3) pe_int (nomark _)) (pw_or1 (PW.pt (pw_and (pt_cmpR op_eq (pe_slice sl_str (pv 0) (po_some (pv 4)) (po_some (pe_op op_add (pv 4) pe_int))) pe_str (nomark _)) (pw_and1 (pt_cmpR op_lt (pv 3) pe_int (nomark _))))))))
    (pss_one (ps_ret (pe_tup (pa_cons (pe_un un_neg pe_int) (pa_cons pe_int (pa_cons (pv 1) pa_nil))))))
    pss_nil)))
    pss_nil)
    (pss_cons (ps_set (i := 5) sc_law_part.nd rfl (Or.inl rfl) pe_int)
    (pss_cons (ps_if (pt_cmpR op_eq (pe_slice sl_str (pv 0) (po_some (pv 4)) (po_some (pe_op op_add (pv 4) pe_int))) pe_str (nomark _))
    (pss_cons (ps_set (i := 5) sc_law_part.nd rfl (Or.inl rfl) pe_int)
    (pss_cons (ps_set (i := 4) sc_law_part.nd rfl (Or.inl rfl) (pe_op op_add (pv 4) pe_int))
    (pss_one (ps_if (pt_cmpR op_eq (pe_slice sl_str (pv 0) (po_some (pv 4)) (po_some (pe_op op_add (pv 4) pe_int))) pe_str (nomark _))
    (pss_cons (ps_asg (pe_fn g_law_count hr (pa_cons (pv 0) (pa_cons (pe_op op_add (pv 4) pe_int) pa_nil))) (pg_tup rfl (pgs_cons (pg_name (i := 5) sc_law_part.nd rfl (Or.inl rfl)) (pgs_cons (pg_name (i := 6) sc_law_part.nd rfl (Or.inl rfl)) pgs_nil))))
    (pss_cons (ps_if (PW.pt (pw_or (pt_cmpR op_lt (pv 5) pe_int (nomark _)) (pw_or1 (pt_cmpR op_gt (pv 5) pe_int (nomark _)))))
    (pss_one (ps_ret (pe_tup (pa_cons (pe_un un_neg pe_int) (pa_cons pe_int (pa_cons (pe_op op_add (pv 4) pe_int) pa_nil))))))
    pss_nil)
    (pss_one (ps_set (i := 4) sc_law_part.nd rfl (Or.inl rfl) (pv 6)))))
    pss_nil))))
    pss_nil)
    (pss_cons (ps_if (pt_cmpR op_ge (pv 5) (pv 2) (nomark _))
    (pss_one (ps_ret (pe_tup (pa_cons (pe_un un_neg pe_int) (pa_cons pe_int (pa_cons (pv 1) pa_nil))))))
    pss_nil)
    (pss_one (ps_ret (pe_tup (pa_cons (pv 3) (pa_cons (pv 5) (pa_cons (pv 4) pa_nil)))))))))))), ?_⟩
  walk_at "sf"
  refine ⟨_, rfl, ?_⟩
  walk_at "sf"
  refine ⟨_, rfl, S l, rfl, by rw [S_len l]; exact lenOK (by lia), ?_⟩
  rw [inc, sl_S (by lia)]
  walk_at "sf"
  refine r_neS ?_
  rw [lit_x, is1]
  walk_at "sf"
  unfold ptL pt at q
  cases hx : at1 l st 120
  case' «true» =>
    have htw := x_tw hx
    rw [if_neg (by decide)]
    have hsz : sz l st = .ok 1 := by
      unfold sz
      rw [htw, Nat.add_zero, hx]
      simp
    show tNext _ ([some (.str (S l)), some (.int (st : Int)), some (.int (last : Int)), some (.int ((0 + 1 : Nat) : Int)), some (.int ((st + 0 : Nat) : Int)), none, none] : L2.St) _
    generalize hn : (0 + 1 : Nat) = n
    generalize hm0 : st + 0 = m
    generalize hH : H = H1
    have s1 : Same H H1 := by rw [← hH]; exact Same.refl _
    have hz : sz l st = .ok n := by rw [← hn]; exact hsz
    have hm : st + tw (l.drop st) = m := by rw [htw]; exact hm0
    have hml : m ≤ l.length := by rw [← hm]; exact he
    rw [hz, hm] at q
    clear hH hsz htw hn hm0 he hm
  case' «false» =>
    rw [if_pos (by decide)]
    walk_at "sf"
    refine ⟨l, st, rfl, asc, hs, fun g hg => ?_⟩
    unfold cnt
    have hsz0 : (at1 l (st + tw (l.drop st)) 120 && st == st + tw (l.drop st)) = false := by
      by_cases z : st = st + tw (l.drop st)
      · rw [← z, hx]; rfl
      · have : (st == st + tw (l.drop st)) = false := beq_eq_false_iff_ne.mpr z
        rw [this, Bool.and_false]
    rcases hv : vl (fg l st) with _ | n
    · have hsz : sz l st = .error st := by
        unfold sz
        rw [hsz0, if_neg (by decide), hv]
      rw [hsz] at q
      dsimp only at q ⊢
      have sg := Same.new hg (.tup [.int (-1), .int (st : Int)])
      walk_at "sf"
      refine r_gtup (SqT.of upd_same) rfl ?_
      walk_at "sf"
      rw [if_pos (by decide), if_pos rfl]
      walk_at "sf"
      intro g2 hg2
      exact q g2 _ (sg.trans (Same.new hg2 _)) upd_same
    dsimp only
    have s1 := Same.new hg (.tup [.int (n : Int), .int ((st + tw (l.drop st) : Nat) : Int)])
    have hg1 : upd H g (.tup [.int (n : Int), .int ((st + tw (l.drop st) : Nat) : Int)]) g = some (.tup [.int (n : Int), .int ((st + tw (l.drop st) : Nat) : Int)]) := upd_same
    generalize upd H g (.tup [.int (n : Int), .int ((st + tw (l.drop st) : Nat) : Int)]) = H1 at s1 hg1 ⊢
    walk_at "sf"
    refine r_gtup (SqT.of hg1) rfl ?_
    clear hg1
    walk_at "sf"
    have hsz : sz l st = if n = 0 ∨ (at1 l (st + tw (l.drop st)) 120 = true ∧ n = 1) then .error st else .ok n := by
      unfold sz
      rw [hsz0, if_neg (by decide), hv]
    generalize hm : st + tw (l.drop st) = m at he hsz q ⊢
    by_cases c0 : n = 0
    · rw [if_pos (.inl c0)] at hsz
      rw [hsz] at q
      rw [if_pos (by simp; lia), if_pos rfl]
      walk_at "sf"
      intro g2 hg2
      exact q g2 _ (s1.trans (Same.new hg2 _)) upd_same
    rw [if_neg (by simp; lia)]
    walk_at "sf"
    refine ⟨_, rfl, ?_⟩
    walk_at "sf"
    refine ⟨_, rfl, S l, rfl, by rw [S_len l]; exact lenOK (by lia), ?_⟩
    rw [inc, sl_S (by lia)]
    walk_at "sf"
    refine r_eqS ?_
    rw [is1]
    walk_at "sf"
    by_cases c1 : at1 l m 120 = true ∧ n = 1
    · rw [if_pos (.inr c1)] at hsz
      rw [hsz] at q
      rw [c1.1, if_pos rfl]
      walk_at "sf"
      rw [if_pos (by simp; lia)]
      walk_at "sf"
      intro g2 hg2
      exact q g2 _ (s1.trans (Same.new hg2 _)) upd_same
    rw [if_neg (fun z => z.elim c0 c1)] at hsz
    have hz := hsz
    have hml : m ≤ l.length := he
    refine ite_keep (fun c hB => ?_) ?_
    · walk_at "sf"
      have hn2 : ¬ n < 2 := fun z => c1 ⟨c, by lia⟩
      rw [if_neg (by simp; lia)]
      first
      | exact hB
      | (rw [if_neg (by decide)] at hB; exact hB)
    show (if false = true then _ else _)
    rw [if_neg (by decide)]
    show tNext _ ([some (.str (S l)), some (.int (st : Int)), some (.int (last : Int)), some (.int (n : Int)), some (.int (m : Int)), none, none] : L2.St) _
    rw [hz] at q
    clear hsz hsz0 hv c0 c1 he hg hm
  all_goals
    clear hz hx
    dsimp only at q
    walk_at "sf"
    refine ⟨_, rfl, ?_⟩
    walk_at "sf"
    refine ⟨_, rfl, S l, rfl, by rw [S_len l]; exact lenOK (by lia), ?_⟩
    rw [inc, sl_S (by lia)]
    walk_at "sf"
    refine r_eqS ?_
    rw [is1]
    walk_at "sf"
    unfold pw at q
    cases h1 : at1 l m 120 with
    | false =>
      rw [h1, if_pos rfl] at q
      rw [if_neg (by decide)]
      dsimp only at q
      walk_at "sf"
      by_cases c : last ≤ 0
      · rw [if_pos c] at q
        rw [if_pos (by simp; lia)]
        walk_at "sf"
        intro g2 hg2
        exact q g2 _ (s1.trans (Same.new hg2 _)) upd_same
      · rw [if_neg c] at q
        rw [if_neg (by simp; lia)]
        walk_at "sf"
        intro g2 hg2
        exact q g2 _ (s1.trans (Same.new hg2 _)) upd_same
    | true =>
    rw [h1, if_neg (by decide)] at q
    rw [if_pos rfl]
    have l1 := at1_lt h1
    walk_at "sf"
    refine ⟨_, rfl, ?_⟩
    walk_at "sf"
    refine ⟨_, rfl, S l, rfl, by rw [S_len l]; exact lenOK (by lia), ?_⟩
    rw [inc, inc, sl_S (by lia)]
    walk_at "sf"
    refine r_eqS ?_
    rw [lit_h, is1]
    walk_at "sf"
    cases h2 : at1 l (m + 1) 94 with
    | false =>
      rw [h2, if_pos rfl] at q
      rw [if_neg (by decide)]
      dsimp only at q
      walk_at "sf"
      by_cases c : last ≤ 1
      · rw [if_pos c] at q
        rw [if_pos (by simp; lia)]
        walk_at "sf"
        intro g2 hg2
        exact q g2 _ (s1.trans (Same.new hg2 _)) upd_same
      · rw [if_neg c] at q
        rw [if_neg (by simp; lia)]
        walk_at "sf"
        intro g2 hg2
        exact q g2 _ (s1.trans (Same.new hg2 _)) upd_same
    | true =>
    rw [h2, if_neg (by decide)] at q
    rw [if_pos rfl]
    have l2 := at1_lt h2
    walk_at "sf"
    rw [inc]
    refine ⟨l, m + 2, rfl, asc, by lia, fun g hg => ?_⟩
    unfold cnt
    rcases hv : vl (fg l (m + 2)) with _ | p
    · rw [hv] at q
      dsimp only at q ⊢
      have sg := s1.trans (Same.new hg (.tup [.int (-1), .int ((m + 2 : Nat) : Int)]))
      walk_at "sf"
      refine r_gtup (SqT.of upd_same) rfl ?_
      walk_at "sf"
      rw [if_pos (by decide), if_pos rfl]
      walk_at "sf"
      intro g2 hg2
      exact q g2 _ (sg.trans (Same.new hg2 _)) upd_same
    rw [hv] at q
    dsimp only at q ⊢
    have sg := s1.trans (Same.new hg (.tup [.int (p : Int), .int ((m + 2 + tw (l.drop (m + 2)) : Nat) : Int)]))
    walk_at "sf"
    refine r_gtup (SqT.of upd_same) rfl ?_
    walk_at "sf"
    by_cases c2 : p < 2
    · rw [if_pos (.inl c2)] at q
      dsimp only at q
      rw [if_pos (by simp; lia), if_pos rfl]
      walk_at "sf"
      intro g2 hg2
      exact q g2 _ (sg.trans (Same.new hg2 _)) upd_same
    rw [if_neg (by simp; lia)]
    walk_at "sf"
    by_cases c3 : 12 < p
    · rw [if_pos (.inr c3)] at q
      dsimp only at q
      rw [if_pos (by simp; lia)]
      walk_at "sf"
      intro g2 hg2
      exact q g2 _ (sg.trans (Same.new hg2 _)) upd_same
    rw [if_neg (by lia)] at q
    dsimp only at q
    rw [if_neg (by simp; lia)]
    walk_at "sf"
    by_cases c : last ≤ p
    · rw [if_pos c] at q
      rw [if_pos (by simp; lia)]
      walk_at "sf"
      intro g2 hg2
      exact q g2 _ (sg.trans (Same.new hg2 _)) upd_same
    · rw [if_neg c] at q
      rw [if_neg (by simp; lia)]
      walk_at "sf"
      intro g2 hg2
      exact q g2 _ (sg.trans (Same.new hg2 _)) upd_same
end
end K24
namespace K24
open PySem PyProof.Rows L2 SF PySem.W
noncomputable def LRes (H : Hp) (g : Addr) : Except Nat (List Int) → Prop
  | .ok xs => ∃ p, H g = some (.tup [.ref p, .int 0]) ∧ IL H p xs
  | .error e => H g = some (.tup [.non, .int (e : Int)])
noncomputable def spReadL : Sp := fun vs H Q _ => ∃ l : List Nat, vs = [.str (S l)] ∧ Asc l ∧ ∀ g H', Same H H' → LRes H' g (rdT l) → Q (.ref g) H'
theorem take_trim {rs : List Int} {p0 : Nat} (hl : p0 < rs.length) (h0 : co rs p0 ≠ 0) (hz : ∀ j, p0 < j → co rs j = 0) : trimL rs = rs.take (p0 + 1) := by
  have hlen : (rs.take (p0 + 1)).length = p0 + 1 := by rw [List.length_take]; lia
  have hco : ∀ j, j ≤ p0 → co (rs.take (p0 + 1)) j = co rs j := fun j hj => by
    rw [co_lt (by lia), co_lt (by lia), List.getElem_take]
  refine (trimL_tr rs).inj (Tr.of_last fun _ => ?_) fun j => ?_
  · rw [hlen, Nat.add_sub_cancel, hco p0 (Nat.le_refl _)]
    exact h0
  · rw [trimL_co]
    by_cases hj : j ≤ p0
    · rw [hco j hj]
    · rw [hz j (by lia), co_ge (by lia)]
theorem co_set {rs : List Int} {p : Nat} {v : Int} (hp : p < rs.length) (j : Nat) : co (rs.set p v) j = if j = p then v else co rs j := by
  by_cases hj : j < rs.length
  · rw [co_lt (by rw [List.length_set]; exact hj), List.getElem_set]
    by_cases e : p = j
    · rw [if_pos e, if_pos e.symm]
    · rw [if_neg e, if_neg (Ne.symm e), co_lt hj]
  · rw [co_ge (by rw [List.length_set]; lia), if_neg (by lia), co_ge (by lia)]
theorem tn_sign {l : List Nat} {e : Nat} {b : Bool} (h : tn l e = some b) : ∃ c, l[e + 1]? = some c ∧ c < 128 ∧ decide (c = 45) = b := by
  have key : ∀ c : Nat, (l.drop e).take 3 = [32, c, 32] → l[e + 1]? = some c := fun c z => by
    have := congrArg (fun x : List Nat => x[1]?) z
    simpa [List.getElem?_take, List.getElem?_drop] using this
  unfold tn at h
  split at h
  · rename_i c; cases h; exact ⟨43, key 43 c, by decide, rfl⟩
  · split at h
    · rename_i c; cases h; exact ⟨45, key 45 c, by decide, rfl⟩
    · cases h
theorem sgn_eq (b : Bool) : (1 : Int) - 2 * (if b = true then 1 else 0) = if b then -1 else 1 := by cases b <;> rfl
theorem in_turn {l : List Nat} {e : Nat} : inV (.str (S ((l.drop e).take 3))) [.str (Str.ofString " + "), .str (Str.ofString " - ")] = (tn l e).isSome := by
  rw [lit_bp, lit_bm]
  show ((S [32, 43, 32] == S ((l.drop e).take 3)) || ((S [32, 45, 32] == S ((l.drop e).take 3)) || false)) = _
  have ee : ∀ b : List Nat, (S b == S ((l.drop e).take 3)) = decide ((l.drop e).take 3 = b) := fun b => by
    rw [Bool.eq_iff_iff]
    simp only [decide_eq_true_eq, beq_iff_eq]
    exact ⟨fun z => (S_inj z).symm, fun z => by rw [z]⟩
  rw [ee, ee, Bool.or_false]
  unfold tn
  by_cases h1 : (l.drop e).take 3 = [32, 43, 32]
  · rw [if_pos h1, decide_eq_true h1]; rfl
  · rw [if_neg h1, decide_eq_false h1]
    by_cases h2 : (l.drop e).take 3 = [32, 45, 32]
    · rw [if_pos h2, decide_eq_true h2]; rfl
    · rw [if_neg h2, decide_eq_false h2]; rfl
section
variable {P : Program} {w : World} {K : Frag} {mg : Str → Option Value} {base : Heap}
theorem ok_law_read (T : Nm mg) (g_law_part : FnB P w K mg base 2 "_law_part" ["_law_text", "_law_at", "_law_last"] spPartL) (D : DefB K mg "_law_read" s_law_read ["_law_text"]) : FnB P w K mg base 3 "_law_read" ["_law_text"] spReadL := by
  refine D.ok sc_law_read (fun vs H Q E h => ?_) (fun f cdv A outer s H vs Q E hr h => ?_)
  · obtain ⟨l, rfl, _⟩ := h
    rfl
  obtain ⟨l, rfl, asc, q⟩ := h
  have ll := asc.2
  refine ⟨_, (pss_cons (ps_if (pt_cmpR op_eq (pv 0) pe_str (nomark _))
    (pss_one (ps_ret (pe_tup (pa_cons (pe_lst pa_nil) (pa_cons pe_int pa_nil)))))
    pss_nil)
    (pss_cons (ps_set (i := 1) sc_law_read.nd rfl (Or.inl rfl) (pe_callTy call_int1 rfl T.n_int boot_int (pa_cons (pe_cmpR op_eq (pe_slice sl_str (pv 0) po_none (po_some pe_int)) pe_str (nomark _)) pa_nil)))
    (pss_cons (ps_set (i := 2) sc_law_read.nd rfl (Or.inl rfl) (pe_op op_sub pe_int (pe_op op_mulL pe_int (pv 1))))
    (pss_cons (ps_set (i := 3) sc_law_read.nd rfl (Or.inl rfl) (pe_lst pa_nil))
    (pss_cons (ps_set (i := 4) sc_law_read.nd rfl (Or.inl rfl) pe_int)
    (pss_one (ps_while PassesOwn.never (pt_truth pe_bl (fun _ => rfl))
    (pss_cons (ps_asg (pe_fn g_law_part hr (pa_cons (pv 0) (pa_cons (pv 1) (pa_cons (pv 4) pa_nil)))) (pg_tup rfl (pgs_cons (pg_name (i := 5) sc_law_read.nd rfl (Or.inl rfl)) (pgs_cons (pg_name (i := 6) sc_law_read.nd rfl (Or.inl rfl)) (pgs_cons (pg_name (i := 7) sc_law_read.nd rfl (Or.inl rfl)) pgs_nil)))))
    (pss_cons (ps_if (pt_cmpR op_lt (pv 5) pe_int (nomark _))
    (pss_one (ps_ret (pe_tup (pa_cons pe_non (pa_cons (pv 7) pa_nil)))))
    pss_nil)
    (pss_cons (ps_if (pt_cmpR (op_eqE hr.units0) (pv 3) (pe_lst pa_nil) (nomark _))
    (pss_one (ps_set (i := 3) sc_law_read.nd rfl (Or.inl rfl) (pe_op op_rep (pe_lst (pa_cons pe_int pa_nil)) (pe_op op_add (pv 6) pe_int))))
    pss_nil)
    (pss_cons (ps_asg (pe_op op_mulL (pv 2) (pv 5)) (pg_sub (pv 3) (pv 6) set_list))
    (pss_cons (ps_set (i := 4) sc_law_read.nd rfl (Or.inl rfl) (pv 6))
    (pss_cons (ps_if (pt_cmpR op_eq (pv 7) (pe_callB call_len_str rfl T.n_len boot_len (pa_cons (pv 0) pa_nil)) (nomark _))
    (pss_one (ps_ret (pe_tup (pa_cons (pv 3) (pa_cons pe_int pa_nil)))))
    pss_nil)
    (pss_cons (ps_if (pt_cmpR op_notIn_seq (pe_slice sl_str (pv 0) (po_some (pv 7)) (po_some (pe_op op_add (pv 7) pe_int))) (pe_lst (pa_cons pe_str (pa_cons pe_str pa_nil))) rfl)
    (pss_one (ps_ret (pe_tup (pa_cons pe_non (pa_cons (pv 7) pa_nil)))))
    pss_nil)
    (pss_cons (ps_set (i := 2) sc_law_read.nd rfl (Or.inl rfl) (pe_op op_sub pe_int (pe_op op_mulL pe_int (pe_callTy call_int1 rfl T.n_int boot_int (pa_cons (pe_cmpR op_eq (pe_ix ix_str (pv 0) (pe_op op_add (pv 7) pe_int) (fun _ _ => rfl)) pe_str (nomark _)) pa_nil)))))
    (pss_one (ps_set (i := 1) sc_law_read.nd rfl (Or.inl rfl) (pe_op op_add (pv 7) pe_int)))))))))))))))))), ?_⟩
  walk_at "sf"
  refine r_eqS ?_
  rw [lit_0, eqS]
  walk_at "sf"
  unfold rdT at q
  by_cases hz : l = [48]
  · rw [if_pos hz] at q
    rw [if_pos (by simpa using hz)]
    walk_at "sf"
    intro p hp
    walk_at "sf"
    intro g hg
    have e1 := Same.new hg (.tup [.ref p, .int 0])
    exact q g _ ((Same.new hp (.lst [])).trans e1) ⟨p, upd_same, e1 _ _ upd_same⟩
  rw [if_neg hz] at q
  rw [if_neg (by simpa using hz)]
  walk_at "sf"
  refine ⟨_, rfl, S l, rfl, by rw [S_len l]; exact lenOK (by lia), ?_⟩
  have one : (1 : Int) = ((1 : Nat) : Int) := rfl
  rw [show Txt.slice (S l) none (some 1) = S (l.take 1) from sl_to (j := 1)]
  walk_at "sf"
  refine r_eqS ?_
  have e45 : decide (S (l.take 1) = S [45]) = at1 l 0 45 := by
    rw [eqS]
    unfold at1
    rw [Bool.eq_iff_iff]
    simp
  rw [lit_m, e45]
  have hs0 := s0_le l
  unfold s0 at hs0
  generalize at1 l 0 45 = neg0 at q hs0 ⊢
  walk_at "sf"
  refine .inr ⟨_, rfl, ?_⟩
  walk_at "sf"
  refine r_i (IntMulOk.of_left (intBits_le_64 (by decide) (by decide))) ?_
  walk_at "sf"
  rw [sgn_eq]
  have e1 : (if neg0 = true then 1 else 0 : Int) = (((if neg0 then 1 else 0 : Nat)) : Int) := by cases neg0 <;> rfl
  rw [e1]
  generalize (if neg0 then 1 else 0 : Nat) = st0 at q hs0 ⊢
  intro p1 hp1
  have s1 := Same.new hp1 (.lst [])
  have h1 : IL (upd H p1 (.lst [])) p1 [] := upd_same
  generalize upd H p1 (.lst []) = H1 at s1 h1 ⊢
  walk_at "sf"
  dsimp only
  refine while_go (fun m σ H' => ∃ (k st last : Nat) (neg : Bool) (rs made : List Int) (pm : Addr) (z1 z2 z3 : Option V), m = k ∧ σ = [some (.str (S l)), some (.int (st : Int)), some (.int (if neg then -1 else 1)), some (.ref pm), some (.int (last : Int)), z1, z2, z3] ∧ Same H H' ∧ IL H' pm made ∧ H pm = none ∧ rs.length = 13 ∧ last < k ∧ st ≤ l.length ∧
      ((made = [] ∧ rs = List.replicate 13 0 ∧ last = 13) ∨ ∃ p0, made = rs.take (p0 + 1) ∧ p0 ≤ 12 ∧ last ≤ p0 ∧ co rs p0 ≠ 0 ∧ ∀ j, p0 < j → co rs j = 0) ∧ ∀ g H', Same H H' → LRes H' g (rd k l st neg last rs) → Q (.ref g) H')
    ⟨_, 14, st0, 13, neg0, List.replicate 13 0, [], p1, _, _, _, rfl, rfl, s1, h1, hp1, rfl, by decide, hs0, .inl ⟨rfl, rfl, rfl⟩, q⟩ ?_
  rintro k0 σ H2 ⟨k, st, last, neg, rs, made, pm, z1, z2, z3, rfl, rfl, s2, h2, n2, lrs, hlk, hst, hmade, q⟩
  obtain ⟨k, rfl⟩ : ∃ k', k0 = k' + 1 := ⟨k0 - 1, by lia⟩
  walk_at "sf"
  refine ⟨_, rfl, ?_⟩
  show (if true = true then _ else _)
  rw [if_pos rfl]
  refine ⟨_, fun σ' H' h => h, ?_⟩
  walk_at "sf"
  refine ⟨l, st, last, rfl, asc, hst, fun g H3 s23 hg => ?_⟩
  have s3 := s2.trans s23
  have h3 := s23 _ _ h2
  unfold rd at q
  unfold ptL at hg
  rcases hp : pt l st last with e | ⟨n, p, e⟩
  · rw [hp] at hg q
    dsimp only at hg q
    walk_at "sf"
    refine r_gtup (SqT.of hg) rfl ?_
    walk_at "sf"
    rw [if_pos (by decide)]
    walk_at "sf"
    intro g2 hg2
    exact q g2 _ (s3.trans (Same.new hg2 _)) upd_same
  rw [hp] at hg q
  dsimp only at hg q
  obtain ⟨he, hp12, hpl, hn1, hn2⟩ := pt_le hst hp
  walk_at "sf"
  refine r_gtup (SqT.of hg) rfl ?_
  walk_at "sf"
  rw [if_neg (by first | (simp; done) | (simp; lia))]
  walk_at "sf"
  intro pe hpe
  have se := Same.new hpe (.lst [])
  refine ⟨pm, pe, made.map V.int, rfl, rfl, SqL.of (se _ _ h3), SqL.of upd_same, ?_⟩
  have h4 := se _ _ h3
  have s4 := s3.trans se
  generalize upd H3 pe (.lst []) = H4 at se h4 s4 ⊢
  walk_at "sf"
  generalize hcv : (if neg then -(n : Int) else (n : Int)) = cv at q
  have ev : (if neg then -1 else 1 : Int) * (n : Int) = cv := by
    rw [← hcv]
    cases neg
    · exact Int.one_mul _
    · show (-1 : Int) * n = -n
      lia
  have hcv0 : cv ≠ 0 := by
    rw [← hcv]
    cases neg
    · show (n : Int) ≠ 0; lia
    · show -(n : Int) ≠ 0; lia
  by_cases hmd : made = []
  case' pos =>
    rw [if_pos (by simp [hmd])]
    walk_at "sf"
    intro pz hpz
    walk_at "sf"
    refine ⟨pz, _, _, rfl, rfl, upd_same, by lia, by lia, by show 1 * ((p : Int) + 1).toNat ≤ sizeLine; exact small4 (by lia), fun pq hpq => ?_⟩
    have s5 := s4.trans ((Same.new hpz (.lst [V.int 0])).trans (Same.new hpq (.lst (List.replicate ((p : Int) + 1).toNat [V.int 0]).flatten)))
    have h5 : IL (upd (upd H4 pz (.lst [V.int 0])) pq (.lst (List.replicate ((p : Int) + 1).toNat [V.int 0]).flatten)) pq (List.replicate (p + 1) 0) := by
      show upd _ pq _ pq = _
      have : ((p : Int) + 1).toNat = p + 1 := by lia
      rw [upd_same, this, rep_flat, map_rep]
    have nq : H pq = none := (s4.trans (Same.new hpz _)).free hpq
    generalize upd (upd H4 pz (.lst [V.int 0])) pq (.lst (List.replicate ((p : Int) + 1).toNat [V.int 0]).flatten) = H5 at s5 h5 ⊢
    generalize hmk : List.replicate (p + 1) (0 : Int) = mk at h5
    have hJ : ∃ p0, mk = rs.take (p0 + 1) ∧ p ≤ p0 ∧ p0 ≤ 12 ∧ (∀ j, p0 < j → co rs j = 0) ∧ (p < p0 → co rs p0 ≠ 0) := by
      rcases hmade with ⟨_, hrs, _⟩ | ⟨p0, hm, h12, hl0, hne, hzz⟩
      · refine ⟨p, ?_, Nat.le_refl _, hp12, fun j hj => ?_, fun z => absurd z (Nat.lt_irrefl _)⟩
        · rw [← hmk, hrs, List.take_replicate, Nat.min_eq_left (by lia)]
        · rw [hrs]
          by_cases hj2 : j < 13
          · rw [co_lt (by rw [List.length_replicate]; exact hj2)]; exact List.getElem_replicate ..
          · exact co_ge (by rw [List.length_replicate]; lia)
      · rw [hmd] at hm
        have := congrArg List.length hm
        rw [List.length_take] at this
        simp at this
        lia
    show tSeq _ _ _ ([some (.str (S l)), some (.int (st : Int)), some (.int (if neg then -1 else 1)), some (.ref pq), some (.int (last : Int)), some (.int (n : Int)), some (.int (p : Int)), some (.int (e : Int))] : L2.St) _
    clear hmk hpz hpq
  case' neg =>
    rw [if_neg (by simpa using hmd)]
    show tSeq _ _ _ ([some (.str (S l)), some (.int (st : Int)), some (.int (if neg then -1 else 1)), some (.ref pm), some (.int (last : Int)), some (.int (n : Int)), some (.int (p : Int)), some (.int (e : Int))] : L2.St) _
    have hJ : ∃ p0, made = rs.take (p0 + 1) ∧ p ≤ p0 ∧ p0 ≤ 12 ∧ (∀ j, p0 < j → co rs j = 0) ∧ (p < p0 → co rs p0 ≠ 0) := by
      rcases hmade with ⟨hm, _, _⟩ | ⟨p0, hm, h12, hl0, hne, hzz⟩
      · exact absurd hm hmd
      · exact ⟨p0, hm, by lia, h12, hzz, fun _ => hne⟩
    generalize hmk : made = mk at h4 hJ
    generalize hpq : pm = pq at h4 n2 ⊢
    generalize hH5 : H4 = H5 at h4 s4 ⊢
    have h5 := h4
    have s5 := s4
    have nq := n2
    clear hmk hH5 hpq
  all_goals
    clear hmd hmade
    obtain ⟨p0, emk, hpp, hp0, hzz, hnz⟩ := hJ
    walk_at "sf"
    refine r_i (IntMulOk.of_left (intBits_le_64 (by cases neg <;> decide) (by cases neg <;> decide))) ?_
    rw [ev]
    walk_at "sf"
    refine ⟨pq, _, _, p, rfl, rfl, h5, ix_nat (by rw [List.length_map, emk, List.length_take]; lia), ?_⟩
    have s6 : Same H (upd H5 pq (.lst ((mk.map V.int).set p (.int cv)))) := fun c o zz => by
      rw [upd_ne (ne_of_none zz nq)]
      exact s5 _ _ zz
    have h6 : IL (upd H5 pq (.lst ((mk.map V.int).set p (.int cv)))) pq ((rs.set p cv).take (p0 + 1)) := by
      show upd _ pq _ pq = _
      rw [upd_same, ← List.map_set, emk, List.take_set]
    generalize upd H5 pq (.lst ((mk.map V.int).set p (.int cv))) = H6 at s6 h6 ⊢
    have lr6 : (rs.set p cv).length = 13 := by rw [List.length_set]; exact lrs
    have hz6 : ∀ j, p0 < j → co (rs.set p cv) j = 0 := fun j hj => by rw [co_set (by lia), if_neg (by lia)]; exact hzz j hj
    have hn6 : co (rs.set p cv) p0 ≠ 0 := by
      rw [co_set (by lia)]
      by_cases z : p0 = p
      · rw [if_pos z]; exact hcv0
      · rw [if_neg z]; exact hnz (by lia)
    generalize rs.set p cv = rs' at q h6 lr6 hz6 hn6 ⊢
    have inc : ∀ i : Nat, (i : Int) + 1 = ((i + 1 : Nat) : Int) := fun i => by lia
    have c3 : (e : Int) + 3 = ((e + 3 : Nat) : Int) := by lia
    walk_at "sf"
    refine ⟨_, rfl, by rw [S_len l]; exact lenOK (by lia), ?_⟩
    rw [S_len l]
    walk_at "sf"
    by_cases hel : e = l.length
    · rw [if_pos hel] at q
      rw [if_pos (by simp; lia)]
      walk_at "sf"
      intro g2 hg2
      refine q g2 _ (s6.trans (Same.new hg2 _)) ⟨pq, upd_same, ?_⟩
      rw [take_trim (by lia) hn6 hz6]
      exact (Same.new hg2 _) _ _ h6
    rw [if_neg hel] at q
    rw [if_neg (by simp; lia)]
    walk_at "sf"
    refine ⟨_, rfl, ?_⟩
    walk_at "sf"
    refine ⟨_, rfl, S l, rfl, by rw [S_len l]; exact lenOK (by lia), ?_⟩
    rw [c3, sl_S (by lia), Nat.add_sub_cancel_left]
    walk_at "sf"
    intro lp hlp
    have s7 := Same.new hlp (.lst [.str (Str.ofString " + "), .str (Str.ofString " - ")])
    have hlp1 : upd H6 lp (.lst [.str (Str.ofString " + "), .str (Str.ofString " - ")]) lp = some (.lst [.str (Str.ofString " + "), .str (Str.ofString " - ")]) := upd_same
    generalize upd H6 lp (.lst [.str (Str.ofString " + "), .str (Str.ofString " - ")]) = H7 at s7 hlp1 ⊢
    walk_at "sf"
    refine ⟨lp, _, rfl, .inl (SqL.of hlp1), rfl, rfl, ?_⟩
    rw [in_turn]
    walk_at "sf"
    rcases ht : tn l e with _ | b
    · rw [ht] at q
      show (if (!(none : Option Bool).isSome) = true then _ else _)
      rw [if_pos (by decide)]
      walk_at "sf"
      intro g2 hg2
      exact q g2 _ ((s6.trans s7).trans (Same.new hg2 _)) upd_same
    rw [ht] at q
    show (if (!(some b : Option Bool).isSome) = true then _ else _)
    rw [if_neg (by simp)]
    have hte := tn_le ht
    obtain ⟨c, hc, _, hb⟩ := tn_sign ht
    have hce : l[e + 1]'(by lia) = c := by rw [List.getElem?_eq_getElem (by lia)] at hc; exact Option.some.inj hc
    walk_at "sf"
    rw [inc]
    refine ⟨S l, _, _, rfl, rfl, by rw [S_len l]; exact lenOK (by lia), atI_str (by lia), ?_⟩
    rw [hce]
    walk_at "sf"
    refine r_eqS ?_
    rw [one_char, hb]
    walk_at "sf"
    refine .inr ⟨_, rfl, ?_⟩
    walk_at "sf"
    refine r_i (IntMulOk.of_left (intBits_le_64 (by decide) (by decide))) ?_
    walk_at "sf"
    rw [sgn_eq, c3]
    exact ⟨k, by lia, k, e + 3, p, b, rs', rs'.take (p0 + 1), pq, _, _, _, rfl, rfl, s6.trans s7, s7 _ _ h6, nq, lr6, by lia, hte, .inr ⟨p0, rfl, hp0, hpp, hn6, hz6⟩, q⟩
end
end K24
namespace K24
open PySem PyProof.Rows L2 SF PySem.W
noncomputable def RRes (H : Hp) (g : Addr) : Except Nat (Int × Int) → Prop
  | .ok (t, u) => ∃ p, H g = some (.tup [.ref p, .int 0]) ∧ H p = some (.tup [.int t, .int u])
  | .error e => H g = some (.tup [.non, .int (e : Int)])
noncomputable def spReadRL : Sp := fun vs H Q _ => ∃ l : List Nat, vs = [.str (S l)] ∧ Asc l ∧ ∀ g H', Same H H' → RRes H' g (rrT l) → Q (.ref g) H'
theorem bd12 {n : Nat} (h : n < 10 ^ 12) : Bd 8000 (n : Int) := by
  show (n : Int).natAbs < 2 ^ 8000
  have : (10 : Nat) ^ 12 < 2 ^ 8000 := Nat.lt_of_lt_of_le (show 10 ^ 12 < 2 ^ 40 by decide) (Nat.pow_le_pow_right (by decide) (by decide))
  rw [Int.natAbs_natCast]
  exact Nat.lt_trans h this
section
variable {P : Program} {w : World} {K : Frag} {mg : Str → Option Value} {base : Heap}
theorem ok_law_read_ratio (T : Nm mg) (g_law_count : FnB P w K mg base 1 "_law_count" ["_law_text", "_law_at"] spCount) (g_law_common : FnB P w K mg base 1 "_law_common" ["_law_one", "_law_other"] spCommon)
    (D : DefB K mg "_law_read_ratio" s_law_read_ratio ["_law_text"]) : FnB P w K mg base 2 "_law_read_ratio" ["_law_text"] spReadRL := by
  refine D.ok sc_law_read_ratio (fun vs H Q E h => ?_) (fun f cdv A outer s H vs Q E hr h => ?_)
  · obtain ⟨l, rfl, _⟩ := h
    rfl
  obtain ⟨l, rfl, asc, q⟩ := h
  have ll := asc.2
  have inc : ∀ i : Nat, (i : Int) + 1 = ((i + 1 : Nat) : Int) := fun i => by lia
  refine ⟨_, (pss_cons (ps_set (i := 1) sc_law_read_ratio.nd rfl (Or.inl rfl) (pe_callTy call_int1 rfl T.n_int boot_int (pa_cons (pe_cmpR op_eq (pe_slice sl_str (pv 0) po_none (po_some pe_int)) pe_str (nomark _)) pa_nil)))
    (pss_cons (ps_asg (pe_fn g_law_count hr (pa_cons (pv 0) (pa_cons (pv 1) pa_nil))) (pg_tup rfl (pgs_cons (pg_name (i := 2) sc_law_read_ratio.nd rfl (Or.inl rfl)) (pgs_cons (pg_name (i := 3) sc_law_read_ratio.nd rfl (Or.inl rfl)) pgs_nil))))
    (pss_cons (ps_if (PW.pt (pw_or (pt_cmpR op_lt (pv 2) pe_int (nomark _)) (pw_or1 (PW.pt (pw_and (pt_cmpR op_eq (pv 2) pe_int (nomark _)) (pw_and1 (pt_cmpR op_eq (pv 1) pe_int (nomark _))))))))
    (pss_one (ps_ret (pe_tup (pa_cons pe_non (pa_cons (pv 1) pa_nil)))))
    pss_nil)
    (pss_cons (ps_set (i := 2) sc_law_read_ratio.nd rfl (Or.inl rfl) (pe_op op_mulL (pv 2) (pe_op op_sub pe_int (pe_op op_mulL pe_int (pv 1)))))
    (pss_cons (ps_if (pt_cmpR op_eq (pv 3) (pe_callB call_len_str rfl T.n_len boot_len (pa_cons (pv 0) pa_nil)) (nomark _))
    (pss_one (ps_ret (pe_tup (pa_cons (pe_tup (pa_cons (pv 2) (pa_cons pe_int pa_nil))) (pa_cons pe_int pa_nil)))))
    pss_nil)
    (pss_cons (ps_if (pt_cmpR op_ne (pe_ix ix_str (pv 0) (pv 3) (fun _ _ => rfl)) pe_str (nomark _))
    (pss_one (ps_ret (pe_tup (pa_cons pe_non (pa_cons (pv 3) pa_nil)))))
    pss_nil)
    (pss_cons (ps_asg (pe_fn g_law_count hr (pa_cons (pv 0) (pa_cons (pe_op op_add (pv 3) pe_int) pa_nil))) (pg_tup rfl (pgs_cons (pg_name (i := 4) sc_law_read_ratio.nd rfl (Or.inl rfl)) (pgs_cons (pg_name (i := 5) sc_law_read_ratio.nd rfl (Or.inl rfl)) pgs_nil))))
    (pss_cons (ps_if (PW.pt (pw_or (pt_cmpR op_lt (pv 4) pe_int (nomark _)) (pw_or1 (pt_cmpR op_ne (pe_fn g_law_common hr (pa_cons (pv 2) (pa_cons (pv 4) pa_nil))) pe_int (nomark _)))))
    (pss_one (ps_ret (pe_tup (pa_cons pe_non (pa_cons (pe_op op_add (pv 3) pe_int) pa_nil)))))
    pss_nil)
    (pss_cons (ps_if (pt_cmpR op_lt (pv 5) (pe_callB call_len_str rfl T.n_len boot_len (pa_cons (pv 0) pa_nil)) (nomark _))
    (pss_one (ps_ret (pe_tup (pa_cons pe_non (pa_cons (pv 5) pa_nil)))))
    pss_nil)
    (pss_one (ps_ret (pe_tup (pa_cons (pe_tup (pa_cons (pv 2) (pa_cons (pv 4) pa_nil))) (pa_cons pe_int pa_nil)))))))))))))), ?_⟩
  walk_at "sf"
  refine ⟨_, rfl, S l, rfl, by rw [S_len l]; exact lenOK (by lia), ?_⟩
  rw [show Txt.slice (S l) none (some 1) = S (l.take 1) from sl_to (j := 1)]
  walk_at "sf"
  refine r_eqS ?_
  have e45 : decide (S (l.take 1) = S [45]) = at1 l 0 45 := by
    rw [eqS]
    unfold at1
    rw [Bool.eq_iff_iff]
    simp
  rw [lit_m, e45]
  have hs0 := s0_le l
  unfold s0 at hs0
  unfold rrT at q
  generalize at1 l 0 45 = neg at q hs0 ⊢
  walk_at "sf"
  refine .inr ⟨_, rfl, ?_⟩
  have e1 : (if neg = true then 1 else 0 : Int) = (((if neg then 1 else 0 : Nat)) : Int) := by cases neg <;> rfl
  have hsg : (1 : Int) - 2 * (((if neg then 1 else 0 : Nat)) : Int) = if neg then -1 else 1 := by cases neg <;> rfl
  have hst1 : ((if neg then 1 else 0 : Nat) = 1) ↔ neg = true := by cases neg <;> simp
  rw [e1]
  generalize (if neg then 1 else 0 : Nat) = st at q hs0 hsg hst1 ⊢
  have he := end_le hs0
  walk_at "sf"
  refine ⟨l, st, rfl, asc, hs0, fun g hg => ?_⟩
  unfold cnt
  rcases hv : vl (fg l st) with _ | t
  · rw [hv] at q
    dsimp only at q ⊢
    have sg := Same.new hg (.tup [.int (-1), .int (st : Int)])
    walk_at "sf"
    refine r_gtup (SqT.of upd_same) rfl ?_
    walk_at "sf"
    rw [if_pos (by decide), if_pos rfl]
    walk_at "sf"
    intro g2 hg2
    exact q g2 _ (sg.trans (Same.new hg2 _)) upd_same
  rw [hv] at q
  dsimp only at q ⊢
  have ht12 := (vl_some hv fg_isd).2.2.2.1
  have s1 := Same.new hg (.tup [.int (t : Int), .int ((st + tw (l.drop st) : Nat) : Int)])
  have hg1 : upd H g (.tup [.int (t : Int), .int ((st + tw (l.drop st) : Nat) : Int)]) g = some (.tup [.int (t : Int), .int ((st + tw (l.drop st) : Nat) : Int)]) := upd_same
  generalize upd H g (.tup [.int (t : Int), .int ((st + tw (l.drop st) : Nat) : Int)]) = H1 at s1 hg1 ⊢
  generalize st + tw (l.drop st) = e at he q hg1 ⊢
  walk_at "sf"
  refine r_gtup (SqT.of hg1) rfl ?_
  walk_at "sf"
  rw [if_neg (by first | (simp; done) | (simp; lia))]
  walk_at "sf"
  by_cases c1 : neg = true ∧ t = 0
  · rw [if_pos c1] at q
    rw [if_pos (by simp; lia)]
    walk_at "sf"
    rw [if_pos (by simp; have := hst1.mpr c1.1; lia)]
    walk_at "sf"
    intro g2 hg2
    exact q g2 _ (s1.trans (Same.new hg2 _)) upd_same
  rw [if_neg c1] at q
  refine ite_keep (fun c hB => ?_) ?_
  · walk_at "sf"
    have ht0 : t = 0 := by
      have := of_decide_eq_true c
      lia
    have hst0 : ¬ st = 1 := fun z => c1 ⟨hst1.mp z, ht0⟩
    rw [if_neg (by simp; lia)]
    first
    | exact hB
    | (rw [if_neg (by decide)] at hB; exact hB)
  show (if false = true then _ else _)
  rw [if_neg (by decide)]
  walk_at "sf"
  refine r_i (IntMulOk.of_left (intBits_le_64 (by decide) (by decide))) ?_
  walk_at "sf"
  rw [hsg]
  refine r_i (IntMulOk.of_left (intBits_le_64 (by lia) (by lia))) ?_
  have ev : (t : Int) * (if neg then -1 else 1) = if neg then -(t : Int) else t := by
    cases neg
    · exact Int.mul_one _
    · show (t : Int) * -1 = -t
      lia
  rw [ev]
  walk_at "sf"
  refine ⟨_, rfl, by rw [S_len l]; exact lenOK (by lia), ?_⟩
  rw [S_len l]
  walk_at "sf"
  unfold un at q
  by_cases hel : e = l.length
  · have h47 : at1 l e 47 = false := Bool.eq_false_iff.mpr fun z => by have := at1_lt z; lia
    rw [h47, if_pos rfl] at q
    dsimp only at q
    rw [if_neg (by lia)] at q
    rw [if_pos (by simp; lia)]
    walk_at "sf"
    intro g2 hg2
    walk_at "sf"
    intro g3 hg3
    exact q g3 _ (s1.trans ((Same.new hg2 _).trans (Same.new hg3 _))) ⟨g2, upd_same, (Same.new hg3 _) _ _ upd_same⟩
  rw [if_neg (by simp; lia)]
  have hlt : e < l.length := by lia
  walk_at "sf"
  refine ⟨S l, _, _, rfl, rfl, by rw [S_len l]; exact lenOK (by lia), atI_str hlt, ?_⟩
  walk_at "sf"
  refine r_neS ?_
  have h47 : decide ((⟨#[l[e]]⟩ : Str) = S [47]) = at1 l e 47 := by
    rw [one_char]
    unfold at1
    rw [drop_at hlt, List.take_succ_cons, List.take_zero, Bool.eq_iff_iff]
    simp
  rw [lit_s, h47]
  walk_at "sf"
  cases h1 : at1 l e 47 with
  | false =>
    rw [h1, if_pos rfl] at q
    dsimp only at q
    rw [if_pos hel] at q
    rw [if_pos (by decide)]
    walk_at "sf"
    intro g2 hg2
    exact q g2 _ (s1.trans (Same.new hg2 _)) upd_same
  | true =>
  rw [h1, if_neg (by decide)] at q
  rw [if_neg (by decide)]
  walk_at "sf"
  rw [inc]
  refine ⟨l, e + 1, rfl, asc, by lia, fun g2 hg2 => ?_⟩
  unfold cnt
  rcases hu : vl (fg l (e + 1)) with _ | u
  · rw [hu] at q
    dsimp only at q ⊢
    have s2 := s1.trans (Same.new hg2 (.tup [.int (-1), .int ((e + 1 : Nat) : Int)]))
    walk_at "sf"
    refine r_gtup (SqT.of upd_same) rfl ?_
    walk_at "sf"
    rw [if_pos (by decide), if_pos rfl]
    walk_at "sf"
    intro g3 hg3
    exact q g3 _ (s2.trans (Same.new hg3 _)) upd_same
  rw [hu] at q
  dsimp only at q ⊢
  have hu12 := (vl_some hu fg_isd).2.2.2.1
  have s2 := s1.trans (Same.new hg2 (.tup [.int (u : Int), .int ((e + 1 + tw (l.drop (e + 1)) : Nat) : Int)]))
  have hgg : upd H1 g2 (.tup [.int (u : Int), .int ((e + 1 + tw (l.drop (e + 1)) : Nat) : Int)]) g2 = some (.tup [.int (u : Int), .int ((e + 1 + tw (l.drop (e + 1)) : Nat) : Int)]) := upd_same
  generalize upd H1 g2 (.tup [.int (u : Int), .int ((e + 1 + tw (l.drop (e + 1)) : Nat) : Int)]) = H2 at s2 hgg ⊢
  have he2 := end_le (l := l) (s := e + 1) (by lia)
  walk_at "sf"
  refine r_gtup (SqT.of hgg) rfl ?_
  generalize e + 1 + tw (l.drop (e + 1)) = e2 at he2 q ⊢
  walk_at "sf"
  by_cases c2 : u < 2
  · rw [if_pos (.inl c2)] at q
    dsimp only at q
    rw [if_pos (by simp; lia), if_pos rfl]
    walk_at "sf"
    intro g3 hg3
    exact q g3 _ (s2.trans (Same.new hg3 _)) upd_same
  rw [if_neg (by simp; lia)]
  walk_at "sf"
  have hgc : Int.gcd (if neg then -(t : Int) else t) u = Int.gcd (t : Int) u := by
    cases neg
    · rfl
    · exact Int.neg_gcd ..
  refine ⟨_, _, rfl, ?_, bd12 hu12, ?_⟩
  · cases neg
    · exact bd12 ht12
    · show (-(t : Int)).natAbs < _
      rw [Int.natAbs_neg]
      exact bd12 ht12
  rw [hgc]
  walk_at "sf"
  by_cases c3 : Int.gcd (t : Int) u = 1
  · rw [if_neg (by lia)] at q
    dsimp only at q
    rw [if_neg (by simp [c3])]
    walk_at "sf"
    refine ⟨_, rfl, by rw [S_len l]; exact lenOK (by lia), ?_⟩
    rw [S_len l]
    walk_at "sf"
    by_cases hel2 : e2 = l.length
    · rw [if_neg (by lia)] at q
      rw [if_neg (by simp; lia)]
      walk_at "sf"
      intro g3 hg3
      walk_at "sf"
      intro g4 hg4
      exact q g4 _ (s2.trans ((Same.new hg3 _).trans (Same.new hg4 _))) ⟨g3, upd_same, (Same.new hg4 _) _ _ upd_same⟩
    · rw [if_pos hel2] at q
      rw [if_pos (by simp; lia)]
      walk_at "sf"
      intro g3 hg3
      exact q g3 _ (s2.trans (Same.new hg3 _)) upd_same
  · rw [if_pos (.inr c3)] at q
    dsimp only at q
    have hc3 : ¬ ((Int.gcd (t : Int) u : Nat) : Int) = 1 := fun z => c3 (Int.ofNat.inj z)
    rw [if_pos (by rw [decide_eq_false hc3]; rfl)]
    walk_at "sf"
    intro g3 hg3
    exact q g3 _ (s2.trans (Same.new hg3 _)) upd_same
noncomputable def Pl (n : Nat) (l : List Nat) : Prop := (∀ c ∈ l, c < 128) ∧ l.length ≤ n
noncomputable def spSpoilt : Sp := fun vs H Q _ => ∃ (l : List Nat) (m : Int) (n : Nat), vs = [.str (S l), .int m] ∧ Pl n l ∧ n ≤ 800 ∧ 0 ≤ m ∧ ∀ l', Pl (n + 1) l' → Q (.str (S l')) H
theorem pl_take {n : Nat} {l : List Nat} (h : Pl n l) (i : Nat) : Pl (min i n) (l.take i) := ⟨fun c hc => h.1 c (List.mem_of_mem_take hc), by rw [List.length_take]; have := h.2; lia⟩
theorem pl_drop {n : Nat} {l : List Nat} (h : Pl n l) (i : Nat) : ∀ c ∈ l.drop i, c < 128 := fun c hc => h.1 c (List.mem_of_mem_drop hc)
theorem mem3 {a b : List Nat} (ha : ∀ c ∈ a, c < 128) (hb : ∀ c ∈ b, c < 128) : ∀ c ∈ a ++ b, c < 128 := fun c hc => (List.mem_append.mp hc).elim (ha c) (hb c)
theorem signs_ok : ∀ c ∈ (("0123456789x^+- /.y" : Str).cps.toList), c < 128 := by decide +kernel
theorem signs_len : ("0123456789x^+- /.y" : Str).length = 18 := by decide +kernel
theorem sign_at {i : Int} (h0 : 0 ≤ i) (h1 : i < 18) : ∃ c, atI ("0123456789x^+- /.y" : Str).cps.toList i = some c ∧ c < 128 := by
  obtain ⟨n, rfl⟩ := Int.eq_ofNat_of_zero_le h0
  have hn : n < ("0123456789x^+- /.y" : Str).cps.toList.length := by
    have : ("0123456789x^+- /.y" : Str).cps.toList.length = 18 := by decide +kernel
    lia
  exact ⟨_, atI_nat (List.getElem?_eq_getElem hn), signs_ok _ (List.getElem_mem hn)⟩
theorem ok_law_spoilt (T : Nm mg) (D : DefB K mg "_law_spoilt" s_law_spoilt ["_law_text", "_law_more"]) : FnB P w K mg base 1 "_law_spoilt" ["_law_text", "_law_more"] spSpoilt := by
  refine D.ok sc_law_spoilt (fun vs H Q E h => ?_) (fun f cdv A outer s H vs Q E hr h => ?_)
  · obtain ⟨l, m, n, rfl, _⟩ := h
    rfl
  obtain ⟨l, m, n, rfl, hp, hn, hm, q⟩ := h
  have ll := hp.2
  refine ⟨_, (pss_cons (ps_set (i := 2) sc_law_spoilt.nd rfl (Or.inl rfl) pe_str)
    (pss_cons (ps_set (i := 3) sc_law_spoilt.nd rfl (Or.inl rfl) (pe_op op_modN (pe_op op_fdivL (pv 1) pe_int) (pe_op op_add (pe_callB call_len_str rfl T.n_len boot_len (pa_cons (pv 0) pa_nil)) pe_int)))
    (pss_cons (ps_set (i := 4) sc_law_spoilt.nd rfl (Or.inl rfl) (pe_ix ix_str (pv 2) (pe_op op_modN (pe_op op_fdivL (pv 1) pe_int) (pe_callB call_len_str rfl T.n_len boot_len (pa_cons (pv 2) pa_nil))) (fun _ _ => rfl)))
    (pss_cons (ps_set (i := 5) sc_law_spoilt.nd rfl (Or.inl rfl) (pe_op op_modN (pv 1) pe_int))
    (pss_cons (ps_if (pt_cmpR op_lt (pv 5) pe_int (nomark _))
    (pss_one (ps_ret (pe_op op_add_str (pe_op op_add_str (pe_slice sl_str (pv 0) po_none (po_some (pv 3))) (pv 4)) (pe_slice sl_str (pv 0) (po_some (pv 3)) po_none))))
    pss_nil)
    (pss_cons (ps_if (pt_cmpR op_eq (pv 5) pe_int (nomark _))
    (pss_one (ps_ret (pe_op op_add_str (pe_slice sl_str (pv 0) po_none (po_some (pv 3))) (pe_slice sl_str (pv 0) (po_some (pe_op op_add (pv 3) pe_int)) po_none))))
    pss_nil)
    (pss_cons (ps_if (pt_cmpR op_eq (pv 5) pe_int (nomark _))
    (pss_one (ps_ret (pe_op op_add_str (pe_op op_add_str (pe_slice sl_str (pv 0) po_none (po_some (pv 3))) (pe_slice sl_str (pv 0) (po_some (pv 3)) (po_some (pe_op op_add (pv 3) pe_int)))) (pe_slice sl_str (pv 0) (po_some (pv 3)) po_none))))
    pss_nil)
    (pss_cons (ps_if (pt_cmpR op_eq (pv 5) pe_int (nomark _))
    (pss_one (ps_ret (pe_slice sl_str (pv 0) po_none (po_some (pv 3)))))
    pss_nil)
    (pss_one (ps_ret (pe_op op_add_str (pe_op op_add_str (pe_slice sl_str (pv 0) po_none (po_some (pv 3))) (pv 4)) (pe_slice sl_str (pv 0) (po_some (pe_op op_add (pv 3) pe_int)) po_none)))))))))))), ?_⟩
  walk_at "sf"
  refine r_i (d64 8 (by decide) (by decide)) ?_
  obtain ⟨a1, a2, a3⟩ := fdiv_nn (x := m) (d := 8) hm (by decide)
  rw [a1]
  walk_at "sf"
  refine ⟨_, rfl, by rw [S_len l]; exact lenOK (by lia), ?_⟩
  rw [S_len l]
  walk_at "sf"
  refine r_i (by lia) ?_
  obtain ⟨b1, b2, b3⟩ := fm (x := m / 8) (m := (l.length : Int) + 1) (by lia)
  rw [b1]
  obtain ⟨i, hi⟩ := Int.eq_ofNat_of_zero_le b2
  rw [hi]
  rw [hi] at b3
  have hil : i ≤ l.length := by lia
  walk_at "sf"
  refine r_i (d64 4096 (by decide) (by decide)) ?_
  obtain ⟨c1, c2, c3⟩ := fdiv_nn (x := m) (d := 4096) hm (by decide)
  rw [c1]
  walk_at "sf"
  refine ⟨_, rfl, by rw [signs_len]; exact lenOK (by decide), ?_⟩
  rw [signs_len]
  walk_at "sf"
  refine r_i (by decide) ?_
  obtain ⟨d1, d2, d3⟩ := fm (x := m / 4096) (m := 18) (by decide)
  have d1' : (m / 4096).fmod ((18 : Nat) : Int) = m / 4096 % 18 := d1
  rw [d1']
  obtain ⟨c, hc, hc2⟩ := sign_at d2 d3
  refine ⟨_, _, c, rfl, rfl, by rw [signs_len]; exact lenOK (by decide), hc, ?_⟩
  walk_at "sf"
  refine r_i (by decide) ?_
  generalize m.fmod 8 = way
  have inc : (i : Int) + 1 = ((i + 1 : Nat) : Int) := by lia
  have hc1 : ∀ x ∈ [c], x < 128 := fun x hx => by rw [List.mem_singleton.mp hx]; exact hc2
  have ht := pl_take hp i
  have htl := ht.2
  have hd0 := pl_drop hp i
  have hd1 := pl_drop hp (i + 1)
  have lt0 : (l.take i).length ≤ i := by rw [List.length_take]; exact Nat.min_le_left _ _
  have ld0 : (l.drop i).length = l.length - i := List.length_drop
  have ld1 : (l.drop (i + 1)).length = l.length - (i + 1) := List.length_drop
  have l1 : ([c] : List Nat).length = 1 := rfl
  have lS : ∀ x : List Nat, (S x).length = x.length := S_len
  walk_at "sf"
  refine ite2 (fun _ => ?_) (fun _ => ?_)
  · walk_at "sf"
    refine ⟨_, rfl, S l, rfl, by rw [S_len l]; exact lenOK (by lia), ?_⟩
    rw [sl_to]
    walk_at "sf"
    refine ⟨_, S [c], rfl, rfl, by rw [lS, lS]; exact lenOK (by lia), ?_⟩
    rw [S_app]
    walk_at "sf"
    refine ⟨_, rfl, S l, rfl, by rw [S_len l]; exact lenOK (by lia), ?_⟩
    rw [sl_from]
    refine ⟨_, _, rfl, rfl, by rw [lS, lS, List.length_append]; exact lenOK (by lia), ?_⟩
    rw [S_app]
    exact q _ ⟨mem3 (mem3 ht.1 hc1) hd0, by rw [List.length_append, List.length_append]; lia⟩
  walk_at "sf"
  refine ite2 (fun _ => ?_) (fun _ => ?_)
  · walk_at "sf"
    refine ⟨_, rfl, S l, rfl, by rw [S_len l]; exact lenOK (by lia), ?_⟩
    rw [sl_to]
    walk_at "sf"
    refine ⟨_, rfl, ?_⟩
    walk_at "sf"
    refine ⟨S l, rfl, by rw [S_len l]; exact lenOK (by lia), ?_⟩
    rw [inc, sl_from]
    refine ⟨_, _, rfl, rfl, by rw [lS, lS]; exact lenOK (by lia), ?_⟩
    rw [S_app]
    exact q _ ⟨mem3 ht.1 hd1, by rw [List.length_append]; lia⟩
  walk_at "sf"
  refine ite2 (fun _ => ?_) (fun _ => ?_)
  · walk_at "sf"
    refine ⟨_, rfl, S l, rfl, by rw [S_len l]; exact lenOK (by lia), ?_⟩
    rw [sl_to]
    walk_at "sf"
    refine ⟨_, rfl, ?_⟩
    walk_at "sf"
    refine ⟨_, rfl, S l, rfl, by rw [S_len l]; exact lenOK (by lia), ?_⟩
    rw [inc, sl_S (by lia), Nat.add_sub_cancel_left]
    have l3 : ((l.drop i).take 1).length ≤ 1 := by rw [List.length_take]; exact Nat.min_le_left _ _
    have h3 : ∀ x ∈ (l.drop i).take 1, x < 128 := fun x hx => hd0 x (List.mem_of_mem_take hx)
    refine ⟨_, _, rfl, rfl, by rw [lS, lS]; exact lenOK (by lia), ?_⟩
    rw [S_app]
    walk_at "sf"
    refine ⟨_, rfl, S l, rfl, by rw [S_len l]; exact lenOK (by lia), ?_⟩
    rw [sl_from]
    refine ⟨_, _, rfl, rfl, by rw [lS, lS, List.length_append]; exact lenOK (by lia), ?_⟩
    rw [S_app]
    exact q _ ⟨mem3 (mem3 ht.1 h3) hd0, by rw [List.length_append, List.length_append]; lia⟩
  walk_at "sf"
  refine ite2 (fun _ => ?_) (fun _ => ?_)
  · walk_at "sf"
    refine ⟨_, rfl, S l, rfl, by rw [S_len l]; exact lenOK (by lia), ?_⟩
    rw [sl_to]
    exact q _ ⟨ht.1, by lia⟩
  walk_at "sf"
  refine ⟨_, rfl, S l, rfl, by rw [S_len l]; exact lenOK (by lia), ?_⟩
  rw [sl_to]
  walk_at "sf"
  refine ⟨_, S [c], rfl, rfl, by rw [lS, lS]; exact lenOK (by lia), ?_⟩
  rw [S_app]
  walk_at "sf"
  refine ⟨_, rfl, ?_⟩
  walk_at "sf"
  refine ⟨S l, rfl, by rw [S_len l]; exact lenOK (by lia), ?_⟩
  rw [inc, sl_from]
  refine ⟨_, _, rfl, rfl, by rw [lS, lS, List.length_append]; exact lenOK (by lia), ?_⟩
  rw [S_app]
  exact q _ ⟨mem3 (mem3 ht.1 hc1) hd1, by rw [List.length_append, List.length_append]; lia⟩
end
end K24
namespace K24
open PySem PyProof.Rows L2 SF PySem.W
section
variable {P : Program} {w : World} {K : Frag} {mg : Str → Option Value} {base : Heap}
noncomputable def spSome : Sp := fun vs H Q _ => ∃ m : Int, vs = [.int m] ∧ 0 ≤ m ∧ ∀ l' H', Pl 40 l' → Same H H' → Q (.str (S l')) H'
noncomputable def plV : V → Bool
  | .str z => z.cps.toList.all (· < 128) && z.length ≤ 40
  | _ => false
theorem plV_some {xs : List V} (h : xs.all plV = true) {i : Nat} (hi : i < xs.length) : ∃ l, atI xs (i : Int) = some (.str (S l)) ∧ Pl 40 l := by
  have hx := List.all_eq_true.mp h _ (List.getElem_mem hi)
  have e := atI_nat (List.getElem?_eq_getElem hi)
  rw [e]
  cases hv : xs[i] with
  | str z =>
    rw [hv] at hx
    simp only [plV, Bool.and_eq_true, decide_eq_true_eq] at hx
    refine ⟨z.cps.toList, by rw [S_list], fun c hc => by simpa using List.all_eq_true.mp hx.1 c hc, ?_⟩
    have := hx.2
    have e2 : z.cps.toList.length = z.length := by show z.cps.toList.length = z.cps.size; simp
    rw [e2]; exact this
  | _ => rw [hv] at hx; cases hx
theorem r_strsA {σ : L2.St} {H : Hp} {Q : List V → Hp → Prop} {ns : List Str} (hp : (ns.map V.str).all plV = true) (h : ∀ A : List V, A.all plV = true → A.length = ns.length → Q A H) : tStrs ns σ H Q := h _ hp (List.length_map _)
theorem ok_law_some (T : Nm mg) (D : DefB K mg "_law_some" s_law_some ["_law_more"]) : FnB P w K mg base 1 "_law_some" ["_law_more"] spSome := by
  refine D.ok sc_law_some (fun vs H Q E h => ?_) (fun f cdv A outer s H vs Q E hr h => ?_)
  · obtain ⟨m, rfl, _⟩ := h
    rfl
  obtain ⟨m, rfl, hm, q⟩ := h
  refine' ⟨_, ?term, ?rest⟩
  case' term => refine' (pss_cons ?s1 ?r1)
  case' s1 => with_reducible refine' (ps_set (i := 1) ?nd1 ?hi1 ?hl1 ?x1 ?hs1 ?hf1)
  case nd1 => exact sc_law_some.nd
  case hi1 => rfl
  case hl1 => exact Or.inl rfl
  case hs1 => rfl
  case hf1 => first | exact .inl rfl | exact .inr rfl
  case' x1 => with_reducible refine' (pe_lst ?li1)
  case' li1 => with_reducible refine' (pa_strs ?ii1)
  case ii1 => exact (.cons (.cons (.cons (.cons (.cons (.cons (.cons (.cons (.cons (.cons (.cons (.cons (.cons (.cons .nil))))))))))))))
  case' r1 => refine' (pss_cons ?s2 ?r2)
  case' s2 => with_reducible refine' (ps_set (i := 1) ?nd2 ?hi2 ?hl2 ?x2 ?hs2 ?hf2)
  case nd2 => exact sc_law_some.nd
  case hi2 => rfl
  case hl2 => exact Or.inl rfl
  case hs2 => rfl
  case hf2 => first | exact .inl rfl | exact .inr rfl
  case' x2 => with_reducible refine' (pe_op ?op2 ?l2 ?y2)
  case op2 => exact op_cat
  case l2 => exact (pv 1)
  case' y2 => with_reducible refine' (pe_lst ?li2)
  case' li2 => with_reducible refine' (pa_strs ?ii2)
  case ii2 => exact (.cons (.cons (.cons (.cons (.cons (.cons (.cons (.cons (.cons (.cons .nil))))))))))
  case' r2 => refine' (pss_cons ?s3 ?r3)
  case' s3 => with_reducible refine' (ps_set (i := 1) ?nd3 ?hi3 ?hl3 ?x3 ?hs3 ?hf3)
  case nd3 => exact sc_law_some.nd
  case hi3 => rfl
  case hl3 => exact Or.inl rfl
  case hs3 => rfl
  case hf3 => first | exact .inl rfl | exact .inr rfl
  case' x3 => with_reducible refine' (pe_op ?op3 ?l3 ?y3)
  case op3 => exact op_cat
  case l3 => exact (pv 1)
  case' y3 => with_reducible refine' (pe_lst ?li3)
  case' li3 => with_reducible refine' (pa_strs ?ii3)
  case ii3 => exact (.cons (.cons (.cons (.cons (.cons (.cons (.cons .nil)))))))
  case' r3 => refine' (pss_cons ?s4 ?r4)
  case' s4 => with_reducible refine' (ps_set (i := 1) ?nd4 ?hi4 ?hl4 ?x4 ?hs4 ?hf4)
  case nd4 => exact sc_law_some.nd
  case hi4 => rfl
  case hl4 => exact Or.inl rfl
  case hs4 => rfl
  case hf4 => first | exact .inl rfl | exact .inr rfl
  case' x4 => with_reducible refine' (pe_op ?op4 ?l4 ?y4)
  case op4 => exact op_cat
  case l4 => exact (pv 1)
  case' y4 => with_reducible refine' (pe_lst ?li4)
  case' li4 => with_reducible refine' (pa_strs ?ii4)
  case ii4 => exact (.cons (.cons (.cons (.cons (.cons (.cons (.cons .nil)))))))
  case' r4 => refine' (pss_cons ?s5 ?r5)
  case' s5 => with_reducible refine' (ps_set (i := 1) ?nd5 ?hi5 ?hl5 ?x5 ?hs5 ?hf5)
  case nd5 => exact sc_law_some.nd
  case hi5 => rfl
  case hl5 => exact Or.inl rfl
  case hs5 => rfl
  case hf5 => first | exact .inl rfl | exact .inr rfl
  case' x5 => with_reducible refine' (pe_op ?op5 ?l5 ?y5)
  case op5 => exact op_cat
  case l5 => exact (pv 1)
  case' y5 => with_reducible refine' (pe_lst ?li5)
  case' li5 => with_reducible refine' (pa_strs ?ii5)
  case ii5 => exact (.cons (.cons (.cons (.cons (.cons (.cons (.cons (.cons (.cons (.cons (.cons .nil)))))))))))
  case' r5 => refine' (pss_cons ?s6 ?r6)
  case' s6 => with_reducible refine' (ps_set (i := 1) ?nd6 ?hi6 ?hl6 ?x6 ?hs6 ?hf6)
  case nd6 => exact sc_law_some.nd
  case hi6 => rfl
  case hl6 => exact Or.inl rfl
  case hs6 => rfl
  case hf6 => first | exact .inl rfl | exact .inr rfl
  case' x6 => with_reducible refine' (pe_op ?op6 ?l6 ?y6)
  case op6 => exact op_cat
  case l6 => exact (pv 1)
  case' y6 => with_reducible refine' (pe_lst ?li6)
  case' li6 => with_reducible refine' (pa_strs ?ii6)
  case ii6 => exact (.cons (.cons (.cons (.cons (.cons .nil)))))
  case' r6 => with_reducible refine' (pss_one ?s7)
  case' s7 => with_reducible refine' (ps_ret ?x7)
  case x7 => exact (pe_ix ix_list (pv 1) (pe_op op_modN (pv 0) (pe_callB call_len_seq rfl T.n_len boot_len (pa_cons (pv 1) pa_nil))) (fun _ _ => rfl))
  walk_at "sf"
  refine r_strsA (by decide +kernel) fun A1 a1 l1 => ?_
  have l1 : A1.length = 14 := l1
  refine ⟨small4 (by rw [l1]; decide), fun p1 hp1 => ?_⟩
  have s1 := Same.new hp1 (.lst A1)
  have h1 : upd H p1 (.lst A1) p1 = some (.lst A1) := upd_same
  generalize upd H p1 (.lst A1) = H1 at s1 h1 ⊢
  walk_at "sf"
  refine r_strsA (by decide +kernel) fun B2 b2 m2 => ?_
  have m2 : B2.length = 10 := m2
  refine ⟨small4 (by rw [m2]; decide), fun q2 hq2 => ?_⟩
  have t2 := Same.new hq2 (.lst B2)
  refine ⟨p1, q2, A1, B2, rfl, rfl, t2 _ _ h1, upd_same, small4 (by rw [l1, m2]; decide), fun p2 hp2 => ?_⟩
  have s2 := s1.trans (t2.trans (Same.new hp2 (.lst (A1 ++ B2))))
  have h2 : upd (upd H1 q2 (.lst B2)) p2 (.lst (A1 ++ B2)) p2 = some (.lst (A1 ++ B2)) := upd_same
  generalize upd (upd H1 q2 (.lst B2)) p2 (.lst (A1 ++ B2)) = H2 at s2 h2 ⊢
  have a2 : (A1 ++ B2).all plV = true := by rw [List.all_append, a1, b2]; rfl
  have l2 : (A1 ++ B2).length = 24 := by rw [List.length_append, l1, m2]
  generalize A1 ++ B2 = A2 at h2 a2 l2 ⊢
  walk_at "sf"
  refine r_strsA (by decide +kernel) fun B3 b3 m3 => ?_
  have m3 : B3.length = 7 := m3
  refine ⟨small4 (by rw [m3]; decide), fun q3 hq3 => ?_⟩
  have t3 := Same.new hq3 (.lst B3)
  refine ⟨p2, q3, A2, B3, rfl, rfl, t3 _ _ h2, upd_same, small4 (by rw [l2, m3]; decide), fun p3 hp3 => ?_⟩
  have s3 := s2.trans (t3.trans (Same.new hp3 (.lst (A2 ++ B3))))
  have h3 : upd (upd H2 q3 (.lst B3)) p3 (.lst (A2 ++ B3)) p3 = some (.lst (A2 ++ B3)) := upd_same
  generalize upd (upd H2 q3 (.lst B3)) p3 (.lst (A2 ++ B3)) = H3 at s3 h3 ⊢
  have a3 : (A2 ++ B3).all plV = true := by rw [List.all_append, a2, b3]; rfl
  have l3 : (A2 ++ B3).length = 31 := by rw [List.length_append, l2, m3]
  generalize A2 ++ B3 = A3 at h3 a3 l3 ⊢
  walk_at "sf"
  refine r_strsA (by decide +kernel) fun B4 b4 m4 => ?_
  have m4 : B4.length = 7 := m4
  refine ⟨small4 (by rw [m4]; decide), fun q4 hq4 => ?_⟩
  have t4 := Same.new hq4 (.lst B4)
  refine ⟨p3, q4, A3, B4, rfl, rfl, t4 _ _ h3, upd_same, small4 (by rw [l3, m4]; decide), fun p4 hp4 => ?_⟩
  have s4 := s3.trans (t4.trans (Same.new hp4 (.lst (A3 ++ B4))))
  have h4 : upd (upd H3 q4 (.lst B4)) p4 (.lst (A3 ++ B4)) p4 = some (.lst (A3 ++ B4)) := upd_same
  generalize upd (upd H3 q4 (.lst B4)) p4 (.lst (A3 ++ B4)) = H4 at s4 h4 ⊢
  have a4 : (A3 ++ B4).all plV = true := by rw [List.all_append, a3, b4]; rfl
  have l4 : (A3 ++ B4).length = 38 := by rw [List.length_append, l3, m4]
  generalize A3 ++ B4 = A4 at h4 a4 l4 ⊢
  walk_at "sf"
  refine r_strsA (by decide +kernel) fun B5 b5 m5 => ?_
  have m5 : B5.length = 11 := m5
  refine ⟨small4 (by rw [m5]; decide), fun q5 hq5 => ?_⟩
  have t5 := Same.new hq5 (.lst B5)
  refine ⟨p4, q5, A4, B5, rfl, rfl, t5 _ _ h4, upd_same, small4 (by rw [l4, m5]; decide), fun p5 hp5 => ?_⟩
  have s5 := s4.trans (t5.trans (Same.new hp5 (.lst (A4 ++ B5))))
  have h5 : upd (upd H4 q5 (.lst B5)) p5 (.lst (A4 ++ B5)) p5 = some (.lst (A4 ++ B5)) := upd_same
  generalize upd (upd H4 q5 (.lst B5)) p5 (.lst (A4 ++ B5)) = H5 at s5 h5 ⊢
  have a5 : (A4 ++ B5).all plV = true := by rw [List.all_append, a4, b5]; rfl
  have l5 : (A4 ++ B5).length = 49 := by rw [List.length_append, l4, m5]
  generalize A4 ++ B5 = A5 at h5 a5 l5 ⊢
  walk_at "sf"
  refine r_strsA (by decide +kernel) fun B6 b6 m6 => ?_
  have m6 : B6.length = 5 := m6
  refine ⟨small4 (by rw [m6]; decide), fun q6 hq6 => ?_⟩
  have t6 := Same.new hq6 (.lst B6)
  refine ⟨p5, q6, A5, B6, rfl, rfl, t6 _ _ h5, upd_same, small4 (by rw [l5, m6]; decide), fun p6 hp6 => ?_⟩
  have s6 := s5.trans (t6.trans (Same.new hp6 (.lst (A5 ++ B6))))
  have h6 : upd (upd H5 q6 (.lst B6)) p6 (.lst (A5 ++ B6)) p6 = some (.lst (A5 ++ B6)) := upd_same
  generalize upd (upd H5 q6 (.lst B6)) p6 (.lst (A5 ++ B6)) = H6 at s6 h6 ⊢
  have a6 : (A5 ++ B6).all plV = true := by rw [List.all_append, a5, b6]; rfl
  have l6 : (A5 ++ B6).length = 54 := by rw [List.length_append, l5, m6]
  generalize A5 ++ B6 = A6 at h6 a6 l6 ⊢
  walk_at "sf"
  refine ⟨p6, A6, rfl, .inl (SqL.of h6), ?_⟩
  rw [l6]
  refine r_i (by decide) ?_
  obtain ⟨c1, c2, c3⟩ := fm (x := m) (m := 54) (by decide)
  have c1' : m.fmod ((54 : Nat) : Int) = m % 54 := c1
  rw [c1']
  obtain ⟨i, hi⟩ := Int.eq_ofNat_of_zero_le c2
  rw [hi] at c3 ⊢
  obtain ⟨l', e1, e2⟩ := plV_some a6 (i := i) (by lia)
  refine r_ixL (SqL.of h6) e1 ?_
  exact q l' _ e2 s6
end
end K24
namespace K24
open PySem PyProof.Rows L2 SF PySem.W
section
variable {X : Cx}
inductive SameC (K : Frag) (H : Hp) : V → V → Prop
  | non : SameC K H .non .non
  | lst {p q : Addr} {xs : List Int} (hp : SqL K H p (xs.map V.int)) (hq : SqL K H q (xs.map V.int)) : SameC K H (.ref p) (.ref q)
  | tup {p q : Addr} {a b : Int} (hp : SqT K H p [.int a, .int b]) (hq : SqT K H q [.int a, .int b]) : SameC K H (.ref p) (.ref q)
noncomputable def rNeA (K : Frag) : R2 := fun x y H Q => ∃ (p q : Addr) (a a' : V) (n : Int), x = .ref p ∧ y = .ref q ∧ SqT K H p [a, .int n] ∧ SqT K H q [a', .int n] ∧ SameC K H a a' ∧ Q (.bl false) H
theorem eq_two_at {pins : List (Addr × Obj)} {s : Shared} {σ : L2.St} {H : Hp} {p q : Addr} {a b : Int} {A : Around} (hu : A.units < cLine) (I : Inv X pins σ H s) (hp : SqT X.K H p [.int a, .int b]) (hq : SqT X.K H q [.int a, .int b]) : SeqAt.EqAt A s (.ref p) (.ref q) true := by
  by_cases e : p = q
  · subst e; exact SeqAt.EqAt.same _
  · obtain ⟨its, r, pl, hz⟩ := I.tuple hp
    obtain ⟨its2, r2, pl2, hz2⟩ := I.tuple hq
    obtain ⟨u1, u2, rfl, ⟨t1, rfl⟩, ⟨t2, rfl⟩⟩ := vals2 r
    obtain ⟨w1, w2, rfl, ⟨t3, rfl⟩, ⟨t4, rfl⟩⟩ := vals2 r2
    refine SeqAt.EqAt.of_refs e ?_
    have z := SeqAt.RcAt.tuples (A := A) (s := s) (e := fun j => true) pl pl2 hu (fun j h1 h2 => by
      match j, h1, h2 with
      | 0, _, _ => have := SeqAt.EqAt.int_int (A := A.in1) (s := s) a t1 a t3; rw [beq_self_eq_true] at this; exact this
      | 1, _, _ => have := SeqAt.EqAt.int_int (A := A.in1) (s := s) b t2 b t4; rw [beq_self_eq_true] at this; exact this
      | j + 2, h1, _ => exact absurd h1 (by simp))
    exact z
theorem same_at {pins : List (Addr × Obj)} {s : Shared} {σ : L2.St} {H : Hp} {x y : V} {v u : Value} {A : Around} (hu : A.units < cLine) (I : Inv X pins σ H s) (rx : RelV x v) (ry : RelV y u) (h : SameC X.K H x y) : SeqAt.EqAt A s v u true := by
  cases h with
  | non => cases rx; cases ry; exact SeqAt.EqAt.same _
  | lst hp hq => cases rx; cases ry; exact eq_ints_at hu I hp hq
  | tup hp hq => cases rx; cases ry; exact eq_two_at hu I hp hq
theorem op_neA (hu : X.A.units + 64 < cLine) : OpR X (compareOp .NotEq) (rNeA X.K) := by
  intro pins s σ H x y v u Q I rx ry h
  obtain ⟨p, q, a, a', n, rfl, rfl, hp, hq, hs, h⟩ := h
  cases rx
  cases ry
  obtain ⟨its, r, pl, hz⟩ := I.tuple hp
  obtain ⟨its2, r2, pl2, hz2⟩ := I.tuple hq
  obtain ⟨u1, u2, rfl, r1, ⟨t2, rfl⟩⟩ := vals2 r
  obtain ⟨w1, w2, rfl, r3, ⟨t4, rfl⟩⟩ := vals2 r2
  have z := SeqAt.RcNeAt.tuples (A := X.A) (s := s) (e := fun j => true) pl pl2 (by lia) (fun j h1 h2 => by
    match j, h1, h2 with
    | 0, _, _ => exact same_at (show X.A.units + 1 < cLine by lia) I r1 r3 hs
    | 1, _, _ => have := SeqAt.EqAt.int_int (A := X.A.in1) (s := s) n t2 n t4; rw [beq_self_eq_true] at this; exact this
    | j + 2, h1, _ => exact absurd h1 (by simp))
  refine z X.prog X.w X.xe _ ?_
  exact ⟨.bl false, H, I, rfl, h⟩
end
end K24
namespace K24
open PySem PyProof.Rows L2 SF PySem.W
noncomputable def Sol : HO → Prop
  | .lst _ => True
  | .tup _ => True
  | .frz _ _ => True
  | _ => False
noncomputable def Keep (H H' : Hp) : Prop := ∀ b o, Sol o → H b = some o → H' b = some o
theorem Keep.refl (H : Hp) : Keep H H := fun _ _ _ h => h
theorem Keep.trans {H H1 H2 : Hp} (a : Keep H H1) (b : Keep H1 H2) : Keep H H2 := fun c o s h => b c o s (a c o s h)
theorem Keep.of {H H' : Hp} (s : Same H H') : Keep H H' := fun b o _ h => s b o h
theorem Keep.seq {K : Frag} {H H' : Hp} {a : Addr} {xs : List V} (e : Keep H H') (h : SqL K H a xs) : SqL K H' a xs := by
  rcases h with (h | ⟨o, h⟩) | h
  · exact .inl (.inl (e _ _ trivial h))
  · exact .inl (.inr ⟨o, e _ _ trivial h⟩)
  · exact .inr h
structure TbO (Pt : Addr) (q : Str) (H : Hp) : Prop where
  ex : ∃ ps : Array Value, H Pt = some (.tbl ps) ∧ TriplesOk ps.toList ∧ ∀ pos v, codeAmong pos ps.toList = some v → ∃ c' oc, v = .ref c' ∧ H c' = some (.frz oc (.own 0)) ∧ CdO oc q
theorem TbO.same {Pt : Addr} {q : Str} {H H' : Hp} (h : TbO Pt q H) (s : Same H H') : TbO Pt q H' := by
  obtain ⟨ps, a, b, c⟩ := h.ex
  exact ⟨ps, s _ _ a, b, fun pos v e => by obtain ⟨c', oc, e1, e2, e3⟩ := c pos v e; exact ⟨c', oc, e1, s _ _ e2, e3⟩⟩
theorem triples_snoc {i j : Int} {c : Value} : ∀ (l : List Value), TriplesOk l → TriplesOk (l ++ [rawInt i, rawInt j, c]) := by
  intro l
  fun_induction TriplesOk l with
  | case1 => intro _; exact trivial
  | case2 a b c d e l ih => intro h; exact ih h
  | case3 => intro h; exact h.elim
theorem among_snoc {pos : Pos} {i j : Int} {c v : Value} : ∀ (l : List Value), TriplesOk l → codeAmong pos (l ++ [rawInt i, rawInt j, c]) = some v → codeAmong pos l = some v ∨ v = c := by
  intro l
  fun_induction TriplesOk l with
  | case1 =>
    intro _ h
    simp only [List.nil_append, codeAmong, rawInt] at h
    split at h
    · exact .inr (Option.some.inj h).symm
    · cases h
  | case2 a b c' d e l ih =>
    intro h e1
    simp only [List.cons_append, codeAmong] at e1 ⊢
    split at e1
    · rename_i z
      rw [if_pos z]
      exact .inl e1
    · rename_i z
      rw [if_neg z]
      exact ih h e1
  | case3 => intro h; exact h.elim
theorem lam_step {Pt : Addr} {pos : Pos} {q : Str} {params : Arguments} {body : Expr} {scope : Scope} {σ : L2.St} {H : Hp} {Q : VK} (T : TbO Pt q H)
    (h : ∀ f c' oc H1, Keep H H1 → TbO Pt q H1 → H1 f = some (lamO f "<lambda>" q params body scope [] c') → H1 c' = some (.frz oc (.own 0)) → CdO oc q → Q (.ref f) H1) : tLam2 Pt pos q params body scope [] σ H Q := by
  obtain ⟨ps, hP, ht, hc⟩ := T.ex
  cases e : codeAmong pos ps.toList with
  | none =>
    refine .inl ⟨ps, hP, ht, e, fun f c' oc hcd e1 e2 e3 => ?_⟩
    have nP : ∀ b, H b = none → b ≠ Pt := fun b z y => by rw [y, hP] at z; cases z
    have keep : ∀ b o, Sol o → H b = some o → upd (upd (upd H Pt (.tbl (ps ++ #[rawInt pos.line, rawInt pos.col, .ref c']))) c' (.frz oc (.own 0))) f (lamO f "<lambda>" q params body scope [] c') b = some o := fun b o so z => by
      rw [upd_ne (ne_of_none z e1), upd_ne (ne_of_none z e2), upd_ne (fun y => by subst y; rw [hP] at z; cases z; exact so)]; exact z
    have hc1 : upd (upd (upd H Pt (.tbl (ps ++ #[rawInt pos.line, rawInt pos.col, .ref c']))) c' (.frz oc (.own 0))) f (lamO f "<lambda>" q params body scope [] c') c' = some (.frz oc (.own 0)) := by rw [upd_ne (Ne.symm e3), upd_same]
    refine h f c' oc _ keep ⟨ps ++ #[rawInt pos.line, rawInt pos.col, .ref c'], ?_, ?_, fun pos2 v e4 => ?_⟩ upd_same hc1 hcd
    · rw [upd_ne (Ne.symm (nP f e1)), upd_ne (Ne.symm (nP c' e2)), upd_same]
    · rw [Array.toList_append]; exact triples_snoc _ ht
    · rw [Array.toList_append] at e4
      rcases among_snoc _ ht e4 with z | z
      · obtain ⟨c2, oc2, y1, y2, y3⟩ := hc pos2 v z
        exact ⟨c2, oc2, y1, keep _ _ trivial y2, y3⟩
      · exact ⟨c', oc, z, hc1, hcd⟩
  | some v =>
    obtain ⟨c', oc, rfl, y2, y3⟩ := hc pos v e
    refine .inr ⟨ps, c', hP, ht, e, fun f e1 => ?_⟩
    have s := Same.new e1 (lamO f "<lambda>" q params body scope [] c')
    exact h f c' oc _ (Keep.of s) (T.same s) upd_same (s _ _ y2) y3
noncomputable def lamE (i : Nat) : Expr := match defBody s_law with
  | .For _ _ b _ _ :: _ => match b[i]? with
    | some (.If (.Compare (.Call _ (l :: _) _ _) _ _ _) _ _ _) => l
    | _ => .Constant .none 0 ⟨0, 0, 0, 0⟩
  | _ => .Constant .none 0 ⟨0, 0, 0, 0⟩
noncomputable def lamA (i : Nat) : Arguments := match lamE i with
  | .Lambda x _ _ _ => x
  | _ => { posonlyargs := [], args := [], vararg := none, kwonlyargs := [], kw_defaults := [], kwarg := none, defaults := [] }
noncomputable def lamB (i : Nat) : Expr := match lamE i with
  | .Lambda _ b _ _ => b
  | e => e
noncomputable def lamS (i : Nat) : Scope := match lamE i with
  | .Lambda _ _ sc _ => sc
  | _ => { kind := .function, names := [], isGenerator := false, isCoroutine := false }
noncomputable abbrev lamQ : Str := ("law" : Str) ++ ".<locals>." ++ "<lambda>"
theorem sc_lam8 : LamScope ["_law_here"] ["_law_here"] (lamS 8) := ⟨rfl, rfl, rfl, by decide +kernel, by decide +kernel⟩
theorem sc_lam9 : LamScope ["_law_here"] ["_law_here"] (lamS 9) := ⟨rfl, rfl, rfl, by decide +kernel, by decide +kernel⟩
section
variable {P : Program} {w : World} {K : Frag} {mg : Str → Option Value} {base : Heap} {c3 : Addr}
noncomputable def Wish {α : Type} (c3 : Addr) (rT : List Nat → Except Nat α) (obj : α → HO) (l : List Nat) (H : Hp) (Q : VK) (E : XK) : Prop := Res c3 E H (rT l) fun x => ∀ p H', Same H H' → H' p = some (obj x) → Q (.ref p) H'
noncomputable def Runs {α : Type} (P : Program) (w : World) (K : Frag) (mg : Str → Option Value) (base : Heap) (c3 : Addr) (params : Arguments) (body : Expr) (scope : Scope) (k : Nat) (rT : List Nat → Except Nat α) (obj : α → HO) : Prop :=
  ∀ (A : Around) (outer : List Env) (s : Shared) (H : Hp) (E : XK) (Q : VK) (f c' : Addr) (oc : Obj) (l : List Nat) (us : List Value), Env0 P w K mg base A outer s H → RoomG true k A → H f = some (lamO f "<lambda>" lamQ params body scope [] c') → H c' = some (.frz oc (.own 0)) → CdO oc lamQ →
    Vals [.str (S l)] us → Asc l → Wish c3 rT obj l H Q E → codeAny (model P w) A (.call (.ref f) ⟨us, []⟩) (CR (CXF P w) outer P w H s Q E) s
noncomputable def objL (xs : List Int) : HO := .lst (xs.map V.int)
noncomputable def objR (x : Int × Int) : HO := .tup [.int x.1, .int x.2]
theorem noone : ∀ x c, ([] : List (Str × Addr)).lookup x = some c → False := fun x c e => by cases e
theorem runs8 (g_read : FnGB P w K mg base (CXF P w) true 6 "read" ["text"] (fun _ => spRead c3)) : Runs P w K mg base c3 (lamA 8) (lamB 8) (lamS 8) 7 rdT objL := by
  intro A outer s H E Q f c' oc l us e0 hr hf hc hcd hv asc q
  obtain ⟨u, rfl, hu⟩ : ∃ u, us = [u] ∧ RelV (.str (S l)) u := by cases hv with | cons r t => cases t; exact ⟨_, rfl, r⟩
  obtain ⟨pm, ctv, ho⟩ := (e0.hok _ _ hf).1
  have hoc := (e0.hok _ _ hc).1
  obtain ⟨vs, tq, e2, e3⟩ := hcd
  refine lam_run (CX := CXF P w) (cm := true) (k := 6) (N := ["_law_here"]) (ps := ["_law_here"]) (us := [u]) sc_lam8 ho ⟨c', oc, vs, tq, rfl, hoc, e2, e3⟩ e0 hr rfl (fun x c e => (noone x c e).elim) (fun x y c e1 _ => (noone x c e1).elim) (fun x e => ?_) (σ := [some (.str (S l))]) rfl (fun i x v h1 h2 => ?_) fun hr2 => ⟨_, pe_fnG g_read hr2 leaves_cxL.passes (pa_cons (pv 0) pa_nil), ?_⟩
  · exact ((by decide +kernel : ∀ y ∈ (lamS 8).names, y.2 ≠ .free) _ (PySem.mem_of_lookup e) rfl).elim
  · match i, h1, h2 with
    | 0, h1, h2 =>
      cases h1; cases h2
      exact .inl ⟨rfl, u, hu, rfl⟩
    | i + 1, h1, h2 => cases h1
  · walk_at "sf"
    refine ⟨l, rfl, asc, ?_⟩
    unfold Wish at q
    cases hr : rdT l with
    | ok x => rw [hr] at q; exact q
    | error e => rw [hr] at q; exact q
theorem runs9 (g_read_ratio : FnGB P w K mg base (CXF P w) true 6 "read_ratio" ["text"] (fun _ => spReadR c3)) : Runs P w K mg base c3 (lamA 9) (lamB 9) (lamS 9) 7 rrT objR := by
  intro A outer s H E Q f c' oc l us e0 hr hf hc hcd hv asc q
  obtain ⟨u, rfl, hu⟩ : ∃ u, us = [u] ∧ RelV (.str (S l)) u := by cases hv with | cons r t => cases t; exact ⟨_, rfl, r⟩
  obtain ⟨pm, ctv, ho⟩ := (e0.hok _ _ hf).1
  have hoc := (e0.hok _ _ hc).1
  obtain ⟨vs, tq, e2, e3⟩ := hcd
  refine lam_run (CX := CXF P w) (cm := true) (k := 6) (N := ["_law_here"]) (ps := ["_law_here"]) (us := [u]) sc_lam9 ho ⟨c', oc, vs, tq, rfl, hoc, e2, e3⟩ e0 hr rfl (fun x c e => (noone x c e).elim) (fun x y c e1 _ => (noone x c e1).elim) (fun x e => ?_) (σ := [some (.str (S l))]) rfl (fun i x v h1 h2 => ?_) fun hr2 => ⟨_, pe_fnG g_read_ratio hr2 leaves_cxL.passes (pa_cons (pv 0) pa_nil), ?_⟩
  · exact ((by decide +kernel : ∀ y ∈ (lamS 9).names, y.2 ≠ .free) _ (PySem.mem_of_lookup e) rfl).elim
  · match i, h1, h2 with
    | 0, h1, h2 =>
      cases h1; cases h2
      exact .inl ⟨rfl, u, hu, rfl⟩
    | i + 1, h1, h2 => cases h1
  · walk_at "sf"
    refine ⟨l, rfl, asc, ?_⟩
    unfold Wish at q
    cases hr : rrT l with
    | ok x => rw [hr] at q; exact q
    | error e => rw [hr] at q; exact q
end
end K24
namespace K24
open PySem PyProof.Rows L2 SF PySem.W
section
variable {P : Program} {w : World} {K : Frag} {mg : Str → Option Value} {base : Heap} {a : Ad}
noncomputable def Ans {α : Type} (obj : α → HO) (H : Hp) (g : Addr) : Except Nat α → Prop
  | .ok x => ∃ p, H g = some (.tup [.ref p, .int 0]) ∧ H p = some (obj x)
  | .error e => H g = some (.tup [.non, .int (e : Int)])
noncomputable def spAns {α : Type} (Pt : Addr) (params : Arguments) (body : Expr) (scope : Scope) (rT : List Nat → Except Nat α) (obj : α → HO) : Sp := fun vs H Q _ => ∃ (f c' : Addr) (oc : Obj) (l : List Nat), vs = [.ref f, .str (S l)] ∧ Asc l ∧ TbO Pt lamQ H ∧ H f = some (lamO f "<lambda>" lamQ params body scope [] c') ∧ H c' = some (.frz oc (.own 0)) ∧ CdO oc lamQ ∧
  ∀ g H', Keep H H' → TbO Pt lamQ H' → Ans obj H' g (rT l) → Q (.ref g) H'
theorem eq_sameS {H : Hp} {Q : VK} {x : V} (hs : scal x x = true) (h : Q (.bl true) H) : rEq x x H Q := ⟨hs, by rw [decide_eq_true rfl]; exact h⟩
theorem pe_xatK {X : Cx} {K : Frag} (h : X.K = K) {e : Expr} {te : TE} {f : Str} {pos : Pos} (he : PE X e te) (hb : attributeBase e f X.env (eval e X.env) = eval e X.env) : PE X (.Attribute e f pos) (tXat K te f) := by subst h; exact pe_xat he hb
theorem keep_sub {x C t : Addr} {tb : Value} {d : Option Addr} {H H1 H' : Hp} {Pt : Addr} (s : Same H H1) (u : Sub x H1 H') (h : H1 x = some (excO x C t tb d)) (T : TbO Pt lamQ H) : Keep H H' ∧ TbO Pt lamQ H' := by
  have hk : Keep H H' := fun b o so e => u b o (fun z => by subst z; have := (s _ _ e).symm.trans h; cases this; exact so) (s _ _ e)
  obtain ⟨ps, e1, e2, e3⟩ := T.ex
  refine ⟨hk, ps, u _ _ (fun z => by subst z; have := (s _ _ e1).symm.trans h; cases this) (s _ _ e1), e2, fun pos v e => ?_⟩
  obtain ⟨c', oc, y1, y2, y3⟩ := e3 pos v e
  exact ⟨c', oc, y1, hk _ _ trivial y2, y3⟩
theorem ok_ans {α : Type} {params : Arguments} {body : Expr} {scope : Scope} {rT : List Nat → Except Nat α} {obj : α → HO} {Pt : Addr} (T : Nm mg) (C : Cl5 K mg a) (exm : exmOne K (.ref a.c3) (.ref a.c3) = some true) (R0 : Runs P w K mg base a.c3 params body scope 7 rT obj)
    (g_word : FnGB P w K mg base CX0 false 6 "_law_word" ["_law_e"] (fun _ => spWord a)) (D : DefB K mg "_law_answer_of" s_law_answer_of ["_law_rule", "_law_text"]) :
    FnGB P w K mg base CX0 true 8 "_law_answer_of" ["_law_rule", "_law_text"] (fun _ => spAns Pt params body scope rT obj) := by
  refine D.okG sc_law_answer_of (fun s vs H Q E h => ?_) (fun f0 cdv A outer s H vs Q E hcd hr h => ?_)
  · obtain ⟨f, c', oc, l, rfl, _⟩ := h
    rfl
  obtain ⟨f, c', oc, l, rfl, asc, tb0, hf, hc, hcdo, q⟩ := h
  obtain ⟨E1, hE1⟩ : ∃ E1 : XK, E1 = fun c d H1 => ∃ (dx : Addr) (p : Nat), c = .ref a.c3 ∧ d = some dx ∧ Same H H1 ∧ H1 dx = some (.xd [("at", .int (p : Int))]) ∧ rT l = .error p := ⟨_, rfl⟩
  obtain ⟨R, hR⟩ : ∃ R : Addr → Addr → List V → Hp → VK → Prop, R = fun f1 c1 vs1 H1 Q1 => c1 = c' ∧ vs1 = [.str (S l)] ∧ H1 c' = some (.frz oc (.own 0)) ∧ Wish a.c3 rT obj l H1 Q1 E1 := ⟨_, rfl⟩
  have run : ∀ pins pins' σ1 H1 s1 f1 c1 vs1 us1 Q1, Inv (inTry (cxG CX0 true P w K mg base ["_law_rule", "_law_text", "_law_e"] "_law_answer_of" (defScope s_law_answer_of) f0 cdv A outer s H E) pins E1) pins' σ1 H1 s1 → H1 f1 = some (lamO f1 "<lambda>" lamQ params body scope [] c1) → Vals vs1 us1 → R f1 c1 vs1 H1 Q1 →
      codeAny (model P w) (A.deeper (envOfC "_law_answer_of" (defScope s_law_answer_of) s.heap.objs.size f0 cdv)) (.call (.ref f1) ⟨us1, []⟩) (CR (CXF P w) (envOfC "_law_answer_of" (defScope s_law_answer_of) s.heap.objs.size f0 cdv :: outer) P w H1 s1 Q1 E1) s1 := by
    intro pins pins' σ1 H1 s1 f1 c1 vs1 us1 Q1 J hf1 hv r
    rw [hR] at r
    obtain ⟨rfl, rfl, hc1, wq⟩ := r
    exact R0 _ _ s1 H1 E1 Q1 f1 c1 oc l us1 J.env0 hr hf1 hc1 hcdo hv asc wq
  refine' ⟨_, pss_one (ps_try (E := E1) (i := 2) (c := a.c3) rfl rfl (fun pins => pss_one (ps_ret (pe_tup (pa_cons (pe_runA (CX := CXF P w) (E := E1) (i := 0) (R := R) rfl (Or.inl rfl) leaves_try.passes (pa_cons (pv 1) pa_nil) (run pins)) (pa_cons pe_int pa_nil)))))
    ?suite rfl C.m3 (fun C1 d H1 e => ?ex) sc_law_answer_of.nd rfl rfl), ?rest⟩
  case' suite => intro a'; refine' pss_one (ps_ret (pe_tup (pa_cons pe_non (pa_cons ?e1 pa_nil))))
  case' e1 => refine' (pe_ix (ix_listK (K := K) rfl) (pe_lst (pa_cons ?e2 (pa_cons ?e3 pa_nil))) ?e4 (fun _ _ => rfl))
  case e2 => exact (pe_un un_neg pe_int)
  case e3 => exact (pe_xatK (K := K) rfl (pv 2) rfl)
  case e4 => exact (pe_callTy call_int1 rfl T.n_int boot_int (pa_cons (pe_cmpR op_eq (pe_fnG g_word ((hr.mark).mono (by decide)) pass0 (pa_cons (pv 2) pa_nil)) pe_str (nomark _)) pa_nil))
  case ex =>
    rw [hE1] at e
    obtain ⟨dx, p, e1, _⟩ := e
    cases e1
    exact exm
  case rest =>
    refine ⟨?_, fun σ' H' a1 C1 t tb d H1 tb1 hl ha hsub h1 hE => ?_⟩
    · walk_at "sf"
      refine ⟨f, c', rfl, hf, ?_⟩
      walk_at "sf"
      refine ⟨hf, ?_⟩
      rw [hR]
      refine ⟨rfl, rfl, hc, ?_⟩
      unfold Wish
      cases hr2 : rT l with
      | ok x =>
        intro p H1 s1 hp1
        walk_at "sf"
        intro g hg
        have s2 := Same.new hg (.tup [.ref p, .int 0])
        refine q g _ (Keep.of (s1.trans s2)) (tb0.same (s1.trans s2)) ?_
        rw [hr2]
        exact ⟨p, upd_same, s2 _ _ hp1⟩
      | error p =>
        intro dx H1 s1 hd
        rw [hE1]
        exact ⟨dx, p, rfl, rfl, s1, hd, hr2⟩
    · rw [hE1] at hE
      obtain ⟨dx, p, e1, rfl, s1, hd, er⟩ := hE
      cases e1
      obtain ⟨y0, y1, y2, rfl⟩ : ∃ y0 y1 y2, σ' = [y0, y1, y2] := by
        match σ', hl with
        | [y0, y1, y2], _ => exact ⟨y0, y1, y2, rfl⟩
      obtain ⟨k1, tb2⟩ := keep_sub s1 hsub h1 tb0
      have hdx : H' dx = some (.xd [("at", .int (p : Int))]) := hsub _ _ (fun z => by subst z; rw [hd] at h1; cases h1) hd
      walk_at "sf"
      refine ⟨_, rfl, a1, a.c3, t, tb, dx, _, .int (p : Int), rfl, ha, hdx, (C.all (i := 3) (by decide)).1, C.at', rfl, ?_⟩
      walk_at "sf"
      intro g1 hg1
      have s2 := Same.new hg1 (.lst [V.int (-1), V.int (p : Int)])
      have hl2 : upd H' g1 (.lst [V.int (-1), V.int (p : Int)]) g1 = some (.lst [V.int (-1), V.int (p : Int)]) := upd_same
      generalize upd H' g1 (.lst [V.int (-1), V.int (p : Int)]) = H2 at s2 hl2 ⊢
      walk_at "sf"
      refine ⟨a1, 3, t, tb, some dx, rfl, by decide, s2 _ _ ha, .inr ⟨dx, _, rfl, s2 _ _ hdx⟩, fun H3 s3 => ?_⟩
      walk_at "sf"
      refine (show rEq (.str (nmW 3)) _ _ _ from eq_sameS rfl ?_)
      walk_at "sf"
      refine .inr ⟨true, rfl, ?_⟩
      refine r_ixL (SqL.of (s3 _ _ hl2)) (atI_nat (j := 1) (v := V.int (p : Int)) rfl) ?_
      walk_at "sf"
      intro g hg
      have s4 := (s2.trans s3).trans (Same.new hg (.tup [.non, .int (p : Int)]))
      refine q g _ (k1.trans (Keep.of s4)) (tb2.same s4) ?_
      rw [er]
      exact upd_same
end
end K24
namespace K24
open PySem PyProof.Rows L2 SF PySem.W
theorem meet {c : Bool} {t1 t2 : TS} {D : Ends} {σ : L2.St} {H : Hp} (G : L2.St → Hp → Prop) (h1 : ∀ D' : Ends, (∀ σ' H', G σ' H' → D'.nx σ' H') → t1 D' σ H) (h2 : ∀ D' : Ends, (∀ σ' H', G σ' H' → D'.nx σ' H') → t2 D' σ H) (h : ∀ σ' H', G σ' H' → D.nx σ' H') : if c = true then t1 D σ H else t2 D σ H := by
  cases c with
  | true => rw [if_pos rfl]; exact h1 D h
  | false => rw [if_neg (by decide)]; exact h2 D h
theorem two_at {x0 x1 : V} {i : Int} (h0 : 0 ≤ i) (h1 : i < 2) : ∃ x, atI [x0, x1] i = some x ∧ (x = x0 ∨ x = x1) := by
  obtain ⟨n, rfl⟩ := Int.eq_ofNat_of_zero_le h0
  match n, h1 with
  | 0, _ => exact ⟨x0, atI_nat rfl, .inl rfl⟩
  | 1, _ => exact ⟨x1, atI_nat rfl, .inr rfl⟩
  | n + 2, h => exact absurd h (by lia)
theorem pl_fig {n : Nat} (h : n < 10 ^ 4) : Pl 4 (fig n) := ⟨fun c hc => by have := fig_all n c hc; lia, fig_len 3 n h⟩
theorem pl_app {a b : List Nat} {m n k : Nat} (ha : Pl m a) (hb : Pl n b) (h : m + n ≤ k) : Pl k (a ++ b) := ⟨mem3 ha.1 hb.1, by rw [List.length_append]; have := ha.2; have := hb.2; lia⟩
theorem t_1 : (Str.ofString "x^3 - 2x + " : Str) = S ((Str.ofString "x^3 - 2x + " : Str).cps.toList) := (S_list _).symm
theorem t_2 : (Str.ofString "x^12 - x^2" : Str) = S ((Str.ofString "x^12 - x^2" : Str).cps.toList) := (S_list _).symm
theorem t_3 : (Str.ofString "-" : Str) = S ((Str.ofString "-" : Str).cps.toList) := (S_list _).symm
theorem t_4 : (Str.ofString "/7" : Str) = S ((Str.ofString "/7" : Str).cps.toList) := (S_list _).symm
theorem p_1 : Pl 11 (Str.ofString "x^3 - 2x + " : Str).cps.toList := by unfold Pl; decide +kernel
theorem p_2 : Pl 10 (Str.ofString "x^12 - x^2" : Str).cps.toList := by unfold Pl; decide +kernel
theorem p_3 : Pl 1 (Str.ofString "-" : Str).cps.toList := by unfold Pl; decide +kernel
theorem p_4 : Pl 2 (Str.ofString "/7" : Str).cps.toList := by unfold Pl; decide +kernel
theorem cl8 (L fa c : Addr) : closureFor (lamS 8) (envOfC "law" (defScope s_law) L fa (.ref c)) = pure [] := by first | (rfl; done) | kernel_rfl
theorem cl9 (L fa c : Addr) : closureFor (lamS 9) (envOfC "law" (defScope s_law) L fa (.ref c)) = pure [] := by first | (rfl; done) | kernel_rfl
theorem lgs {i : Int} (h0 : 0 ≤ i) (h : i < 2 ^ 64) : i.natAbs.log2 < 1920 := by
  have h1 : i.natAbs < 2 ^ 64 := by lia
  by_cases z : i.natAbs = 0
  · rw [z]; decide
  · exact Nat.lt_of_lt_of_le ((Nat.log2_lt z).mpr h1) (by decide)
section
variable {P : Program} {w : World} {K : Frag} {mg : Str → Option Value} {base : Heap} {a : Ad}
noncomputable def spLaw (K : Frag) (Pt : Addr) : Sp := fun vs H Q _ => ∃ (sa : Addr) (ns : List Int), vs = [.ref sa] ∧ SqL K H sa (ns.map V.int) ∧ ns.length ≤ 63 ∧ H Pt = some (.tbl #[]) ∧ ∀ H', Q (.bl true) H'
theorem ne8 {K : Frag} {H H' : Hp} {g g2 : Addr} {Q : VK} {r : Except Nat (List Int)} (s : Same H H') (an : Ans objL H g r) (lr : LRes H' g2 r) (q : Q (.bl false) H') : rNeA K (.ref g) (.ref g2) H' Q := by
  cases r with
  | ok xs =>
    obtain ⟨p, e1, e2⟩ := an
    obtain ⟨p', e3, e4⟩ := lr
    exact ⟨g, g2, .ref p, .ref p', 0, rfl, rfl, SqT.of (s _ _ e1), SqT.of e3, .lst (SqL.of (s _ _ e2)) (SqL.of e4), q⟩
  | error e => exact ⟨g, g2, .non, .non, e, rfl, rfl, SqT.of (s _ _ an), SqT.of lr, .non, q⟩
theorem ne9 {K : Frag} {H H' : Hp} {g g2 : Addr} {Q : VK} {r : Except Nat (Int × Int)} (s : Same H H') (an : Ans objR H g r) (lr : RRes H' g2 r) (q : Q (.bl false) H') : rNeA K (.ref g) (.ref g2) H' Q := by
  cases r with
  | ok xs =>
    obtain ⟨t, u⟩ := xs
    obtain ⟨p, e1, e2⟩ := an
    obtain ⟨p', e3, e4⟩ := lr
    exact ⟨g, g2, .ref p, .ref p', 0, rfl, rfl, SqT.of (s _ _ e1), SqT.of e3, .tup (SqT.of (s _ _ e2)) (SqT.of e4), q⟩
  | error e => exact ⟨g, g2, .non, .non, e, rfl, rfl, SqT.of (s _ _ an), SqT.of lr, .non, q⟩
theorem ok_law {fa c Pt : Addr} {fdl : FuncData} (T : Nm mg) (g_law_cell : FnB P w K mg base 20 "_law_cell" ["_law_script", "_law_k"] (spCell K)) (g_law_drawn : FnB P w K mg base 20 "_law_drawn" ["_law_cell_here", "_law_k"] spDrawn)
    (g_law_spoilt : FnB P w K mg base 20 "_law_spoilt" ["_law_text", "_law_more"] spSpoilt) (g_law_some : FnB P w K mg base 20 "_law_some" ["_law_more"] spSome) (g_law_read : FnB P w K mg base 20 "_law_read" ["_law_text"] spReadL) (g_law_read_ratio : FnB P w K mg base 20 "_law_read_ratio" ["_law_text"] spReadRL)
    (g_ans8 : FnGB P w K mg base CX0 true 20 "_law_answer_of" ["_law_rule", "_law_text"] (fun _ => spAns Pt (lamA 8) (lamB 8) (lamS 8) rdT objL)) (g_ans9 : FnGB P w K mg base CX0 true 20 "_law_answer_of" ["_law_rule", "_law_text"] (fun _ => spAns Pt (lamA 9) (lamB 9) (lamS 9) rrT objR))
    (F : Fun K "law" "law" s_law fa fdl) (hfd : fdl.code = .ref c) (hc : CodeHd base c Pt) (B : SF.BMain base mg) : FnG P w K mg base CX0 true 21 fa fdl ["_law_script"] (fun _ => spLaw K Pt) := by
  refine F.okG sc_law (fun s vs H Q E h => ?_) (fun cdv A outer s H vs Q E hcd hcv hr0 h => ?_)
  · obtain ⟨sa, ns, rfl, _⟩ := h
    rfl
  obtain ⟨sa, ns, rfl, hS, hl, hP, q⟩ := h
  obtain rfl : Value.ref c = cdv := hfd.symm.trans hcv
  have hr := hr0.calm
  have tb0 : TbO Pt lamQ H := ⟨#[], hP, trivial, fun pos v e => by cases e⟩
  have hclo8 := cl8 s.heap.objs.size fa c
  have hclo9 := cl9 s.heap.objs.size fa c
  have hu : A.units + 3 + 64 < cLine := by have := hr0.un; exact Nat.lt_of_le_of_lt (by show A.units + 3 + 64 ≤ A.units + 3 + 16 * 20 + 200; lia) this
  refine' ⟨_, PSs.nox (pss_cons (ps_for PassesOwn.never rfl (pi_range1 rfl T.n_range (pa_cons (pe_callB (call_max2 rfl) rfl T.n_max boot_max (pa_cons pe_int (pa_cons (pe_callB (call_min2 rfl) rfl T.n_min boot_min (pa_cons pe_int (pa_cons (pe_callB call_len_seq rfl T.n_len boot_len (pa_cons (pv 0) pa_nil)) pa_nil))) pa_nil))) pa_nil)) (pg_name (i := 1) sc_law.nd rfl (Or.inl rfl))
    (pss_cons (ps_set (i := 2) sc_law.nd rfl (Or.inl rfl) (pe_fn g_law_cell hr (pa_cons (pv 0) (pa_cons (pv 1) pa_nil))))
    (pss_cons (ps_set (i := 3) sc_law.nd rfl (Or.inl rfl) (pe_fn g_law_drawn hr (pa_cons (pv 2) (pa_cons (pv 1) pa_nil))))
    (pss_cons (ps_set (i := 4) sc_law.nd rfl (Or.inl rfl) (pe_op op_modN (pe_op op_fdivL (pv 3) pe_int) pe_int))
    (pss_cons (ps_set (i := 5) sc_law.nd rfl (Or.inl rfl) (pe_ix ix_list (pe_lst (pa_cons (pe_op op_add_str pe_str (pe_callTy call_str_int rfl T.n_str boot_str (pa_cons (pe_op op_add (pv 4) pe_int) pa_nil))) (pa_cons (pe_op op_add_str (pe_callTy call_str_int rfl T.n_str boot_str (pa_cons (pe_op op_add (pv 4) pe_int) pa_nil)) pe_str) pa_nil))) (pe_op op_modN (pv 3) pe_int) (fun _ _ => rfl)))
    (pss_cons (ps_if (pt_cmpR op_eq (pe_op op_modN (pe_op op_fdivL (pv 3) pe_int) pe_int) pe_int (nomark _))
    (pss_one (ps_set (i := 5) sc_law.nd rfl (Or.inl rfl) (pe_ix ix_list (pe_lst (pa_cons (pe_op op_add_str (pe_op op_add_str pe_str (pe_callTy call_str_int rfl T.n_str boot_str (pa_cons (pv 4) pa_nil))) pe_str) (pa_cons (pe_callTy call_str_int rfl T.n_str boot_str (pa_cons (pv 4) pa_nil)) pa_nil))) (pe_op op_modN (pv 3) pe_int) (fun _ _ => rfl))))
    pss_nil)
    (pss_cons (ps_set (i := 5) sc_law.nd rfl (Or.inl rfl) (pe_fn g_law_spoilt hr (pa_cons (pv 5) (pa_cons (pe_op op_fdivL (pv 3) pe_int) pa_nil))))
    (pss_cons (ps_if (pt_cmpR op_eq (pe_op op_modN (pe_op op_fdivL (pv 3) pe_int) pe_int) pe_int (nomark _))
    (pss_one (ps_set (i := 5) sc_law.nd rfl (Or.inl rfl) (pe_fn g_law_spoilt hr (pa_cons (pv 5) (pa_cons (pe_op op_fdivL (pv 3) (pe_op op_shl pe_int pe_int)) pa_nil)))))
    pss_nil)
    (pss_cons (ps_if (pt_cmpR op_eq (pe_op op_modN (pe_op op_fdivL (pv 3) pe_int) pe_int) pe_int (nomark _))
    (pss_one (ps_set (i := 5) sc_law.nd rfl (Or.inl rfl) (pe_fn g_law_some hr (pa_cons (pe_op op_fdivL (pv 3) pe_int) pa_nil))))
    pss_nil)
    (pss_cons (ps_if (pt_cmpR (op_neA hu) (pe_fnG (E := E0) g_ans8 hr0 pass0 (pa_cons (pe_lam2 (P := Pt) (cl := []) rfl hc hclo8 rfl B) (pa_cons (pv 5) pa_nil))) (pe_fn g_law_read hr (pa_cons (pv 5) pa_nil)) (nomark _))
    (pss_one (ps_ret pe_bl))
    pss_nil)
    (pss_one (ps_if (pt_cmpR (op_neA hu) (pe_fnG (E := E0) g_ans9 hr0 pass0 (pa_cons (pe_lam2 (P := Pt) (cl := []) rfl hc hclo9 rfl B) (pa_cons (pv 5) pa_nil))) (pe_fn g_law_read_ratio hr (pa_cons (pv 5) pa_nil)) (nomark _))
    (pss_one (ps_ret pe_bl))
    pss_nil))))))))))))
    (pss_one (ps_ret pe_bl))), ?rest⟩
  case rest =>
  walk_at "sf"
  refine ⟨sa, _, rfl, .inl hS, ?_⟩
  walk_at "sf"
  refine ⟨_, _, rfl, ?_⟩
  walk_at "sf"
  refine ⟨_, _, rfl, ?_⟩
  walk_at "sf"
  obtain ⟨n, hn, hn2⟩ : ∃ n : Nat, (if (if (((ns.map V.int).length : Nat) : Int) < 10 then (((ns.map V.int).length : Nat) : Int) else 10) > 1 then (if (((ns.map V.int).length : Nat) : Int) < 10 then (((ns.map V.int).length : Nat) : Int) else 10) else 1) = (n : Int) ∧ n ≤ 10 := by
    rw [List.length_map]
    refine ⟨if (if ns.length < 10 then ns.length else 10) > 1 then (if ns.length < 10 then ns.length else 10) else 1, ?_, ?_⟩
    · repeat' split <;> lia
    · repeat' split <;> lia
  rw [hn]
  refine ⟨_, rfl, by lia, by lia, ?_⟩
  refine for_range (n := n) (fun i σ H' => (∃ r1 r2 r3 r4 r5, σ = [some (.ref sa), r1, r2, r3, r4, r5]) ∧ Keep H H' ∧ TbO Pt lamQ H') ⟨⟨_, _, _, _, _, rfl⟩, Keep.refl _, tb0⟩ ?_ ?_
  · rintro i σ H' hix ⟨⟨r1, r2, r3, r4, r5, rfl⟩, k0, tb⟩
    walk_at "sf"
    refine ⟨sa, ns, _, rfl, k0.seq hS, hl, by lia, fun c0 H1 s1 => ?_⟩
    replace k0 := k0.trans (Keep.of s1)
    replace tb := tb.same s1
    clear s1
    walk_at "sf"
    refine ⟨_, _, rfl, fun m m0 mb => ?_⟩
    walk_at "sf"
    refine r_i (d64 64 (by decide) (by decide)) ?_
    walk_at "sf"
    refine r_i (by decide) ?_
    obtain ⟨wn, hw, hw2⟩ : ∃ wn : Nat, (m.fdiv 64).fmod 1000 = (wn : Int) ∧ wn < 1000 := by
      obtain ⟨a1, a2, a3⟩ := fm (x := m.fdiv 64) (m := 1000) (by decide)
      exact ⟨((m.fdiv 64) % 1000).toNat, by rw [a1]; lia, by lia⟩
    rw [hw]
    clear hw
    have e1 : (wn : Int) + 1 = ((wn + 1 : Nat) : Int) := by lia
    have e2 : (wn : Int) + 2 = ((wn + 2 : Nat) : Int) := by lia
    have f0 : Pl 4 (fig wn) := pl_fig (by lia)
    have f1 : Pl 4 (fig (wn + 1)) := pl_fig (by lia)
    have f2 : Pl 4 (fig (wn + 2)) := pl_fig (by lia)
    walk_at "sf"
    refine ⟨_, rfl, lgs (by lia) (by lia), ?_⟩
    rw [e1, fig_str]
    refine ⟨_, _, rfl, rfl, ?_, ?_⟩
    · rw [t_1, S_len, S_len]
      exact lenOK (by have := p_1.2; have := f1.2; lia)
    rw [t_1, S_app (Str.ofString "x^3 - 2x + " : Str).cps.toList (fig (wn + 1))]
    have g1 := pl_app (k := 40) p_1 f1 (by decide)
    generalize (Str.ofString "x^3 - 2x + " : Str).cps.toList ++ fig (wn + 1) = la at g1 ⊢
    walk_at "sf"
    refine ⟨_, rfl, lgs (by lia) (by lia), ?_⟩
    rw [e2, fig_str]
    walk_at "sf"
    refine ⟨_, _, rfl, rfl, ?_, ?_⟩
    · rw [t_2, S_len, S_len]
      exact lenOK (by have := p_2.2; have := f2.2; lia)
    rw [t_2, S_app (fig (wn + 2)) (Str.ofString "x^12 - x^2" : Str).cps.toList]
    have g2 := pl_app (k := 40) f2 p_2 (by decide)
    generalize fig (wn + 2) ++ (Str.ofString "x^12 - x^2" : Str).cps.toList = lb at g2 ⊢
    walk_at "sf"
    intro pl hpl
    have s2 := Same.new hpl (.lst [V.str (S la), V.str (S lb)])
    have hpl2 : upd H1 pl (.lst [V.str (S la), V.str (S lb)]) pl = some (.lst [V.str (S la), V.str (S lb)]) := upd_same
    generalize upd H1 pl (.lst [V.str (S la), V.str (S lb)]) = H2 at s2 hpl2 ⊢
    walk_at "sf"
    refine r_i (by decide) ?_
    obtain ⟨b1, b2, b3⟩ := fm (x := m) (m := 2) (by decide)
    rw [b1]
    obtain ⟨x, hx, hx2⟩ := two_at (x0 := V.str (S la)) (x1 := V.str (S lb)) b2 b3
    refine r_ixL (SqL.of hpl2) hx ?_
    obtain ⟨l0, rfl, pl0⟩ : ∃ l0, x = V.str (S l0) ∧ Pl 40 l0 := by
      rcases hx2 with rfl | rfl
      · exact ⟨la, rfl, g1⟩
      · exact ⟨lb, rfl, g2⟩
    clear hx hx2 g1 g2 hpl2 hpl
    replace k0 := k0.trans (Keep.of s2)
    replace tb := tb.same s2
    clear s2
    walk_at "sf"
    refine r_i (d64 2 (by decide) (by decide)) ?_
    walk_at "sf"
    refine r_i (by decide) ?_
    walk_at "sf"
    refine meet (fun σ' H' => ∃ l, σ' = [some (.ref sa), some (.int (0 + (i : Int))), some (.int c0), some (.int m), some (.int (wn : Int)), some (.str (S l))] ∧ Pl 40 l ∧ Keep H H' ∧ TbO Pt lamQ H') (fun D' hD => ?_) (fun D' hD => ?_) ?_
    · walk_at "sf"
      refine ⟨_, rfl, lgs (by lia) (by lia), ?_⟩
      rw [fig_str]
      refine ⟨_, _, rfl, rfl, ?_, ?_⟩
      · rw [t_3, S_len, S_len]
        exact lenOK (by have := p_3.2; have := f0.2; lia)
      rw [t_3, S_app (Str.ofString "-" : Str).cps.toList (fig wn)]
      have g1 := pl_app (k := 5) p_3 f0 (by decide)
      generalize (Str.ofString "-" : Str).cps.toList ++ fig wn = la at g1 ⊢
      walk_at "sf"
      refine ⟨_, _, rfl, rfl, ?_, ?_⟩
      · rw [t_4, S_len, S_len]
        exact lenOK (by have := p_4.2; have := g1.2; lia)
      rw [t_4, S_app la (Str.ofString "/7" : Str).cps.toList]
      have g3 := pl_app (k := 40) g1 p_4 (by decide)
      generalize la ++ (Str.ofString "/7" : Str).cps.toList = lb at g3 ⊢
      walk_at "sf"
      refine ⟨_, rfl, lgs (by lia) (by lia), ?_⟩
      rw [fig_str]
      walk_at "sf"
      intro pl hpl
      have s2 := Same.new hpl (.lst [V.str (S lb), V.str (S (fig wn))])
      have hpl2 : upd H2 pl (.lst [V.str (S lb), V.str (S (fig wn))]) pl = some (.lst [V.str (S lb), V.str (S (fig wn))]) := upd_same
      generalize upd H2 pl (.lst [V.str (S lb), V.str (S (fig wn))]) = H3 at s2 hpl2 ⊢
      walk_at "sf"
      refine r_i (by decide) ?_
      rw [b1]
      obtain ⟨x, hx, hx2⟩ := two_at (x0 := V.str (S lb)) (x1 := V.str (S (fig wn))) b2 b3
      refine r_ixL (SqL.of hpl2) hx ?_
      obtain ⟨l1, rfl, pl1⟩ : ∃ l0, x = V.str (S l0) ∧ Pl 40 l0 := by
        rcases hx2 with rfl | rfl
        · exact ⟨lb, rfl, g3⟩
        · exact ⟨_, rfl, f0.1, Nat.le_trans f0.2 (by decide)⟩
      exact hD _ _ ⟨l1, rfl, pl1, k0.trans (Keep.of s2), tb.same s2⟩
    · exact hD _ _ ⟨l0, rfl, pl0, k0, tb⟩
    clear pl0 k0 tb f0 f1 f2 e1 e2 hw2
    rintro σ' H' ⟨l, rfl, hpl, k0, tb⟩
    have dv : ∀ d : Int, 0 < d → 0 ≤ m.fdiv d := fun d hd => by rw [(fdiv_nn m0 hd).1]; exact (fdiv_nn m0 hd).2.1
    walk_at "sf"
    refine r_i (d64 1000000 (by decide) (by decide)) ?_
    walk_at "sf"
    refine ⟨l, _, 40, rfl, hpl, by decide, dv _ (by decide), fun l2 hl2 => ?_⟩
    walk_at "sf"
    refine r_i (d64 8 (by decide) (by decide)) ?_
    walk_at "sf"
    refine r_i (by decide) ?_
    walk_at "sf"
    refine meet (fun σ' H' => ∃ l, σ' = [some (.ref sa), some (.int (0 + (i : Int))), some (.int c0), some (.int m), some (.int (wn : Int)), some (.str (S l))] ∧ Pl 42 l ∧ Keep H H' ∧ TbO Pt lamQ H') (fun D' hD => ?_) (fun D' hD => ?_) ?_
    · walk_at "sf"
      refine r_i ⟨by decide, by decide, by decide⟩ ?_
      refine r_i ⟨by decide, by decide⟩ ?_
      walk_at "sf"
      refine ⟨l2, _, 41, rfl, hl2, by decide, dv _ (by decide), fun l3 hl3 => ?_⟩
      exact hD _ _ ⟨l3, rfl, hl3, k0, tb⟩
    · exact hD _ _ ⟨l2, rfl, ⟨hl2.1, Nat.le_trans hl2.2 (by decide)⟩, k0, tb⟩
    clear hl2 hpl k0 tb
    rintro σ' H' ⟨l, rfl, hpl, k0, tb⟩
    walk_at "sf"
    refine r_i (d64 8 (by decide) (by decide)) ?_
    walk_at "sf"
    refine r_i (by decide) ?_
    walk_at "sf"
    refine meet (fun σ' H' => ∃ l, σ' = [some (.ref sa), some (.int (0 + (i : Int))), some (.int c0), some (.int m), some (.int (wn : Int)), some (.str (S l))] ∧ Asc l ∧ Keep H H' ∧ TbO Pt lamQ H') (fun D' hD => ?_) (fun D' hD => ?_) ?_
    · walk_at "sf"
      refine r_i (d64 64 (by decide) (by decide)) ?_
      walk_at "sf"
      refine ⟨_, rfl, dv _ (by decide), fun l3 H4 hl3 s4 => ?_⟩
      exact hD _ _ ⟨l3, rfl, ⟨hl3.1, Nat.le_trans hl3.2 (by decide)⟩, k0.trans (Keep.of s4), tb.same s4⟩
    · exact hD _ _ ⟨l, rfl, ⟨hpl.1, Nat.le_trans hpl.2 (by decide)⟩, k0, tb⟩
    clear hpl k0 tb dv b1 b2 b3
    rintro σ' H' ⟨l, rfl, asc, k0, tb⟩
    walk_at "sf"
    refine lam_step tb (fun f c' oc H4 k4 tb4 h1 h2 h3 => ?_)
    walk_at "sf"
    refine ⟨f, c', oc, l, rfl, asc, tb4, h1, h2, h3, fun g H5 k5 tb5 an => ?_⟩
    replace k0 := (k0.trans k4).trans k5
    clear k4 k5 tb4 h1 h2 h3 tb
    walk_at "sf"
    refine ⟨l, rfl, asc, fun g2 H6 s6 lr => ?_⟩
    refine ne8 s6 an lr ?_
    walk_at "sf"
    refine iteF ?_
    clear lr an
    replace k0 := k0.trans (Keep.of s6)
    replace tb5 := tb5.same s6
    clear s6
    walk_at "sf"
    refine lam_step tb5 (fun f c' oc H4 k4 tb4 h1 h2 h3 => ?_)
    walk_at "sf"
    refine ⟨f, c', oc, l, rfl, asc, tb4, h1, h2, h3, fun g H7 k7 tb7 an => ?_⟩
    replace k0 := (k0.trans k4).trans k7
    clear k4 k7 tb4 h1 h2 h3 tb5
    walk_at "sf"
    refine ⟨l, rfl, asc, fun g2 H8 s8 lr => ?_⟩
    refine ne9 s8 an lr ?_
    walk_at "sf"
    refine iteF ?_
    walk_at "sf"
    exact ⟨⟨_, _, _, _, _, rfl⟩, k0.trans (Keep.of s8), tb7.same s8⟩
  rintro σ H9 ⟨⟨r1, r2, r3, r4, r5, rfl⟩, _, _⟩
  walk_at "sf"
  exact q H9
end
end K24
namespace K24
open PySem PyProof.Rows L2 SF PySem.W
section
variable {P : Program} {w : World} {K : Frag} {mg : Str → Option Value} {base : Heap} {a : Ad} {fI : Addr} {fd : FuncData}
theorem all_law {fa c Pt : Addr} {fdl : FuncData} {uM uP : Value} (T : Nm mg) (C : Cl5 K mg a) (I : Ini K a fI fd) (exm : exmOne K (.ref a.c3) (.ref a.c3) = some true) (hM : mg "MOST_FIGURES" = some uM ∧ RelV (.int 12) uM) (hP : mg "GREATEST_POWER" = some uP ∧ RelV (.int 12) uP) (F : Fun K "law" "law" s_law fa fdl)
    (d_common_divisor : DefB K mg "common_divisor" s_common_divisor ["one", "other"])
    (d_trimmed : DefB K mg "trimmed" s_trimmed ["row"])
    (d_end_of_figures : DefB K mg "end_of_figures" s_end_of_figures ["text", "start"])
    (d_number_between : DefB K mg "number_between" s_number_between ["text", "start", "end"])
    (d_size_between : DefB K mg "size_between" s_size_between ["text", "start", "end"])
    (d_power_at : DefB K mg "power_at" s_power_at ["text", "start"])
    (d_part_at : DefB K mg "part_at" s_part_at ["text", "start", "above"])
    (d_turn_at : DefB K mg "turn_at" s_turn_at ["text", "start"])
    (d_read : DefB K mg "read" s_read ["text"])
    (d_under_at : DefB K mg "under_at" s_under_at ["text", "start", "top"])
    (d_read_ratio : DefB K mg "read_ratio" s_read_ratio ["text"])
    (d_law_cell : DefB K mg "_law_cell" s_law_cell ["_law_script", "_law_k"])
    (d_law_drawn : DefB K mg "_law_drawn" s_law_drawn ["_law_cell_here", "_law_k"])
    (d_law_word : DefB K mg "_law_word" s_law_word ["_law_e"])
    (d_law_common : DefB K mg "_law_common" s_law_common ["_law_one", "_law_other"])
    (d_law_count : DefB K mg "_law_count" s_law_count ["_law_text", "_law_at"])
    (d_law_part : DefB K mg "_law_part" s_law_part ["_law_text", "_law_at", "_law_last"])
    (d_law_read : DefB K mg "_law_read" s_law_read ["_law_text"])
    (d_law_read_ratio : DefB K mg "_law_read_ratio" s_law_read_ratio ["_law_text"])
    (d_law_spoilt : DefB K mg "_law_spoilt" s_law_spoilt ["_law_text", "_law_more"])
    (d_law_some : DefB K mg "_law_some" s_law_some ["_law_more"])
    (d_law_answer_of : DefB K mg "_law_answer_of" s_law_answer_of ["_law_rule", "_law_text"])
    (hfd : fdl.code = .ref c) (hc : CodeHd base c Pt) (B : SF.BMain base mg) : FnG P w K mg base CX0 true 21 fa fdl ["_law_script"] (fun _ => spLaw K Pt) := by
  have BI : Bx K mg a.c3 fI fd := ⟨I.cls, I.fn, (C.all (i := 3) (by decide)).2.1, C.m3, I.b2⟩
  have gi := ok_init (P := P) (w := w) (base := base) C I
  have gw := ok_law_word (P := P) (w := w) (base := base) T C d_law_word
  have ge := lift (ok_end_of_figures (P := P) (w := w) (base := base) T d_end_of_figures)
  have gn := ok_number_between (P := P) (w := w) (base := base) T BI gi hM d_number_between
  have gs := ok_size_between BI gi gn d_size_between
  have gp := ok_power_at T BI gi hP (gmono ge (by decide)) gn d_power_at
  have gpa := ok_part_at T BI gi (gmono ge (by decide)) gs gp d_part_at
  have gt := ok_turn_at (P := P) (w := w) (base := base) BI gi d_turn_at
  have gtr := lift (ok_trimmed (P := P) (w := w) (base := base) T d_trimmed)
  have gr := ok_read T hP gpa (gmono gt (by decide)) (gmono gtr (by decide)) d_read
  have gcd := lift (ok_common_divisor (P := P) (w := w) (base := base) T d_common_divisor)
  have gu := ok_under_at T BI gi (gmono ge (by decide)) gn (gmono gcd (by decide)) d_under_at
  have grr := ok_read_ratio T BI gi (gmono ge (by decide)) (gmono gn (by decide)) gu d_read_ratio
  have gc := ok_law_count (P := P) (w := w) (base := base) T d_law_count
  have glp := ok_law_part T gc d_law_part
  have glr := ok_law_read T glp d_law_read
  have glc := ok_law_common (P := P) (w := w) (base := base) T d_law_common
  have glrr := ok_law_read_ratio T gc glc d_law_read_ratio
  have a8 := ok_ans (Pt := Pt) T C exm (runs8 gr) (gmono gw (by decide)) d_law_answer_of
  have a9 := ok_ans (Pt := Pt) T C exm (runs9 (gmono grr (by decide))) (gmono gw (by decide)) d_law_answer_of
  exact ok_law T ((ok_law_cell T d_law_cell).mono (by decide)) ((ok_law_drawn d_law_drawn).mono (by decide)) ((ok_law_spoilt T d_law_spoilt).mono (by decide)) ((ok_law_some T d_law_some).mono (by decide)) (glr.mono (by decide)) (glrr.mono (by decide)) (gmono a8 (by decide)) (gmono a9 (by decide)) F hfd hc B
end
theorem exm_mk {K : Frag} {mg : Str → Option Value} {cf c0 c1 c2 c3 c4 : Addr} (_C : Cl5 K mg ⟨cf, c0, c1, c2, c3, c4⟩) (h : exmOne K (.ref c3) (.ref c3) = some true) : exmOne K (.ref (Ad.mk cf c0 c1 c2 c3 c4).c3) (.ref (Ad.mk cf c0 c1 c2 c3 c4).c3) = some true := h
theorem cl5_mk {K : Frag} {h : Heap} {mg : Str → Option Value} {cf c0 c1 c2 c3 c4 : Addr} (X : K.In h) (G : h.Ns mainGlobals mg) (ef : nsIn K mainGlobals "FootError" = some (some (.ref cf))) (e0 : nsIn K mainGlobals "NoRatio" = some (some (.ref c0))) (e1 : nsIn K mainGlobals "NoNumber" = some (some (.ref c1)))
    (e2 : nsIn K mainGlobals "TooGreat" = some (some (.ref c2))) (e3 : nsIn K mainGlobals "BadText" = some (some (.ref c3))) (e4 : nsIn K mainGlobals "BadRow" = some (some (.ref c4))) (ok : okB K ⟨cf, c0, c1, c2, c3, c4⟩ = true) : Cl5 K mg ⟨cf, c0, c1, c2, c3, c4⟩ :=
  ⟨mg_of X G ef, mg_of X G e0, mg_of X G e1, mg_of X G e2, mg_of X G e3, mg_of X G e4, ok⟩
theorem ini_mk {K : Frag} {cf c0 c1 c2 c3 c4 fI Td : Addr} {od an : Option Addr} {osl : Array (Option Value)} {kV doc pm cdv ct : Value} {ot : Obj} {t : Tok} {n : Nat} {mg : Str → Option Value} (_C : Cl5 K mg ⟨cf, c0, c1, c2, c3, c4⟩) (_e : findIn K (.ref c3) "__init__" = some (some (.ref fI)))
    (lk : K.lookup fI = some ⟨.type "function", od, .func (fnOf "__init__" "BadText.__init__" (defArgs s_init) (defBody s_init) (defScope s_init) (.ref Td) kV doc pm an cdv ct), osl⟩) (hcd : codeIn K cdv "BadText.__init__" = true) (ht : K.lookup Td = some ot) (hs : ot.data = .seq #[.int 0 t] n)
    (o1 : excInI K c3 bmV "ValueError.__new__" fI = true) (o2 : excOver K c3 = true) (o3 : findIn K (.ref c3) "__setattr__" = some (some (.builtin "object.__setattr__"))) (o4 : mroIn K c3 (.type "object") = some true)
    (o5 : specialIn K (.ref cf) "__getattribute__" = some (some (.builtin "type.__getattribute__"))) (o6 : readsIn K cf (.type "type") = true) (o7 : findCls K (.ref cf) (.type "type") "__init__" = some (.val (.builtin "ValueError.__init__"))) :
    ∃ fI' fd, Ini K ⟨cf, c0, c1, c2, c3, c4⟩ fI' fd := by
  refine ⟨fI, _, ⟨.type "function", od, .ref Td, kV, doc, pm, an, cdv, ct, osl, rfl, lk, hcd⟩, ⟨t, fun s us X hl => ?_⟩, fun s us X hl => ?_, by show (K.lookup fI).map _ = _; rw [lk]; rfl, o1, o2, o3, o4, o5, o6, o7⟩
  · have h2 : us.length = 2 := by simpa using hl
    match us, h2 with
    | [u1, u2], _ => exact binds_K X rfl ht hs rfl rfl
  · have h2 : us.length = 3 := by simpa using hl
    match us, h2 with
    | [u1, u2, u3], _ => first | exact binds_K X rfl ht hs rfl rfl | exact BindsTo.of_eq rfl
theorem walk {l : OpenLaw} {j : Nat} {q : Program} {loose : List Str} {XP : (Str → Option Value) → Heap → Prop} {YP : World → Heap → Prop} {d : DefRec} {K : Params → Frag} (hn : l.most = some 63) (hdf : d.params.defaults = []) (hrec : (recsOf q)[j]? = some d)
    (hY : ∀ (w : World) (h : Heap), YP w h → (K w.params).In h) (hKt : ∀ w : World, noTabs (K w.params) = true)
    (F : ∀ (w : World) (mg : Str → Option Value) (fa : Addr) (h : Heap), (K w.params).In h → h.Ns mainGlobals mg → mg d.name = some (.ref fa) →
      ∃ fd : FuncData, (∃ oc od sl, (K w.params).lookup fa = some ⟨oc, od, .func fd, sl⟩) ∧ (∀ (s : Shared) (u : Value), BindsTo s fd ⟨[u], []⟩ [("_law_script", u)]) ∧
        ∀ (base : Heap) (c Pt : Addr), fd.code = .ref c → (K w.params).In base → base.Ns mainGlobals mg → SF.BMain base mg → CodeHd base c Pt → FnG l.prog w (K w.params) mg base CX0 true 21 fa fd ["_law_script"] fun _ => spLaw (K w.params) Pt) (hi : importsNone q = true) :
    WalkO q loose XP YP l.row.toRowW d [] (fun f vs => PySem.call f vs) :=
  SF.walk2 (n := 63) (k := 21) (x := "_law_script") (sp := spLaw) hn (by decide) hdf ⟨rfl, by decide, by decide⟩ hrec hY hKt F (fun _ _ _ a ns hl hS hP => ⟨a, ns, rfl, hS, hl, hP, fun _ => rfl⟩) hi
theorem law_mk {K : Frag} {h : Heap} {mg : Str → Option Value} {fa f : Addr} {od an : Option Addr} {sl : Array (Option Value)} {oc kV doc pm cd ct : Value} (X : K.In h) (G : h.Ns mainGlobals mg) (hfa : mg "law" = some (.ref fa))
    (a : nsIn K mainGlobals "law" = some (some (.ref f))) (l : K.lookup f = some ⟨oc, od, .func (fnOf "law" "law" (defArgs s_law) (defBody s_law) (defScope s_law) .none kV doc pm an cd ct), sl⟩)
    (c : codeIn K cd "law" = true) (k : keepIn K (.ref f) = true) : ∃ fd : FuncData, (∃ oc od sl, K.lookup fa = some ⟨oc, od, .func fd, sl⟩) ∧ (∀ (s : Shared) (v : Value), BindsTo s fd ⟨[v], []⟩ [("_law_script", v)]) ∧ Fun K "law" "law" s_law fa fd := by
  have e := hfa.symm.trans (mg_of X G a)
  cases e
  exact ⟨_, ⟨_, _, _, l⟩, fun s v => .of_eq rfl, fun_mk (st := s_law) l c k⟩
end K24
open PySem PySem.W PyProof.Rows
set_option maxRecDepth 100000 in
set_option maxHeartbeats 0 in
theorem PySem.Challenge.cw_surefoot_k24_texts_refused_holds : PySem.Challenge.rw_surefoot_k24_texts_refused.Holds := by
  w_on; o_law; k_head; (case hw => w_witness2)
  k_fill
  refine K24.walk (l := PySem.Challenge.rw_surefoot_k24_texts_refused) (j := 24) rfl rfl ?rcx (fun w h Y => PySem.W.km_in_of Y) ?ntx ?F ?I
  case rcx => kernel_rfl
  case ntx => intro w; kernel_rfl
  case I => decide +kernel
  case F =>
    intro w mg fa h KX G hmg
    have T : K24.Nm mg := by
      refine' ⟨PySem.W.mg_none_of KX G ?t1, PySem.W.mg_none_of KX G ?t2, PySem.W.mg_none_of KX G ?t3, PySem.W.mg_none_of KX G ?t4, PySem.W.mg_none_of KX G ?t5, PySem.W.mg_none_of KX G ?t6, PySem.W.mg_none_of KX G ?t7, PySem.W.mg_none_of KX G ?t8, PySem.W.mg_none_of KX G ?t9, PySem.W.mg_none_of KX G ?t10, PySem.W.mg_none_of KX G ?t11, PySem.W.mg_none_of KX G ?t12, PySem.W.mg_none_of KX G ?t13, PySem.W.mg_none_of KX G ?t14, PySem.W.mg_none_of KX G ?t15⟩
      all_goals k_is
    have L := by
      refine' K24.law_mk KX G hmg ?a ?l ?c ?k
      (case a => k_is); (case l => k_is); (case c => k_is); (case k => k_is)
    obtain ⟨fd, lk, hb, F⟩ := L
    have C := by
      refine' K24.cl5_mk KX G ?ef ?e0 ?e1 ?e2 ?e3 ?e4 ?ok
      (case ef => k_is); (case e0 => k_is); (case e1 => k_is); (case e2 => k_is); (case e3 => k_is); (case e4 => k_is)
      (case ok => kernel_rfl)
    have I := by
      refine' K24.ini_mk C ?e ?lk ?cd ?td ?hs ?o1 ?o2 ?o3 ?o4 ?o5 ?o6 ?o7
      (case e => k_is); (case lk => k_is); (case cd => k_is); (case td => k_is); (case hs => rfl)
      all_goals kernel_rfl
    obtain ⟨fI, fdI, I⟩ := I
    have X := by
      refine' K24.exm_mk C ?x
      (case x => kernel_rfl)
    refine ⟨fd, lk, hb, fun base c Pt hfd _ _ B hc => ?_⟩
    refine' K24.all_law T C I X ⟨PySem.W.mg_of KX G ?g1, ?h1⟩ ⟨PySem.W.mg_of KX G ?g2, ?h2⟩ F (L2.def_of KX G ?a1 ?l1 ?c1 ?k1 ?b1) (L2.def_of KX G ?a2 ?l2 ?c2 ?k2 ?b2) (L2.def_of KX G ?a3 ?l3 ?c3 ?k3 ?b3) (L2.def_of KX G ?a4 ?l4 ?c4 ?k4 ?b4) (L2.def_of KX G ?a5 ?l5 ?c5 ?k5 ?b5) (L2.def_of KX G ?a6 ?l6 ?c6 ?k6 ?b6) (L2.def_of KX G ?a7 ?l7 ?c7 ?k7 ?b7) (L2.def_of KX G ?a8 ?l8 ?c8 ?k8 ?b8) (L2.def_of KX G ?a9 ?l9 ?c9 ?k9 ?b9) (L2.def_of KX G ?a10 ?l10 ?c10 ?k10 ?b10) (L2.def_of KX G ?a11 ?l11 ?c11 ?k11 ?b11) (L2.def_of KX G ?a12 ?l12 ?c12 ?k12 ?b12) (L2.def_of KX G ?a13 ?l13 ?c13 ?k13 ?b13) (L2.def_of KX G ?a14 ?l14 ?c14 ?k14 ?b14) (L2.def_of KX G ?a15 ?l15 ?c15 ?k15 ?b15) (L2.def_of KX G ?a16 ?l16 ?c16 ?k16 ?b16) (L2.def_of KX G ?a17 ?l17 ?c17 ?k17 ?b17) (L2.def_of KX G ?a18 ?l18 ?c18 ?k18 ?b18) (L2.def_of KX G ?a19 ?l19 ?c19 ?k19 ?b19) (L2.def_of KX G ?a20 ?l20 ?c20 ?k20 ?b20) (L2.def_of KX G ?a21 ?l21 ?c21 ?k21 ?b21) (L2.def_of KX G ?a22 ?l22 ?c22 ?k22 ?b22) hfd hc B
    (case a1 => k_is); (case l1 => k_is); (case c1 => k_is); (case k1 => k_is); (case b1 => exact fun _ _ _ _ _ _ us hl => match us, hl with | [_, _], _ => rfl)
    (case a2 => k_is); (case l2 => k_is); (case c2 => k_is); (case k2 => k_is); (case b2 => exact fun _ _ _ _ _ _ us hl => match us, hl with | [_], _ => rfl)
    (case a3 => k_is); (case l3 => k_is); (case c3 => k_is); (case k3 => k_is); (case b3 => exact fun _ _ _ _ _ _ us hl => match us, hl with | [_, _], _ => rfl)
    (case a4 => k_is); (case l4 => k_is); (case c4 => k_is); (case k4 => k_is); (case b4 => exact fun _ _ _ _ _ _ us hl => match us, hl with | [_, _, _], _ => rfl)
    (case a5 => k_is); (case l5 => k_is); (case c5 => k_is); (case k5 => k_is); (case b5 => exact fun _ _ _ _ _ _ us hl => match us, hl with | [_, _, _], _ => rfl)
    (case a6 => k_is); (case l6 => k_is); (case c6 => k_is); (case k6 => k_is); (case b6 => exact fun _ _ _ _ _ _ us hl => match us, hl with | [_, _], _ => rfl)
    (case a7 => k_is); (case l7 => k_is); (case c7 => k_is); (case k7 => k_is); (case b7 => exact fun _ _ _ _ _ _ us hl => match us, hl with | [_, _, _], _ => rfl)
    (case a8 => k_is); (case l8 => k_is); (case c8 => k_is); (case k8 => k_is); (case b8 => exact fun _ _ _ _ _ _ us hl => match us, hl with | [_, _], _ => rfl)
    (case a9 => k_is); (case l9 => k_is); (case c9 => k_is); (case k9 => k_is); (case b9 => exact fun _ _ _ _ _ _ us hl => match us, hl with | [_], _ => rfl)
    (case a10 => k_is); (case l10 => k_is); (case c10 => k_is); (case k10 => k_is); (case b10 => exact fun _ _ _ _ _ _ us hl => match us, hl with | [_, _, _], _ => rfl)
    (case a11 => k_is); (case l11 => k_is); (case c11 => k_is); (case k11 => k_is); (case b11 => exact fun _ _ _ _ _ _ us hl => match us, hl with | [_], _ => rfl)
    (case a12 => k_is); (case l12 => k_is); (case c12 => k_is); (case k12 => k_is); (case b12 => exact fun _ _ _ _ _ _ us hl => match us, hl with | [_, _], _ => rfl)
    (case a13 => k_is); (case l13 => k_is); (case c13 => k_is); (case k13 => k_is); (case b13 => exact fun _ _ _ _ _ _ us hl => match us, hl with | [_, _], _ => rfl)
    (case a14 => k_is); (case l14 => k_is); (case c14 => k_is); (case k14 => k_is); (case b14 => exact fun _ _ _ _ _ _ us hl => match us, hl with | [_], _ => rfl)
    (case a15 => k_is); (case l15 => k_is); (case c15 => k_is); (case k15 => k_is); (case b15 => exact fun _ _ _ _ _ _ us hl => match us, hl with | [_, _], _ => rfl)
    (case a16 => k_is); (case l16 => k_is); (case c16 => k_is); (case k16 => k_is); (case b16 => exact fun _ _ _ _ _ _ us hl => match us, hl with | [_, _], _ => rfl)
    (case a17 => k_is); (case l17 => k_is); (case c17 => k_is); (case k17 => k_is); (case b17 => exact fun _ _ _ _ _ _ us hl => match us, hl with | [_, _, _], _ => rfl)
    (case a18 => k_is); (case l18 => k_is); (case c18 => k_is); (case k18 => k_is); (case b18 => exact fun _ _ _ _ _ _ us hl => match us, hl with | [_], _ => rfl)
    (case a19 => k_is); (case l19 => k_is); (case c19 => k_is); (case k19 => k_is); (case b19 => exact fun _ _ _ _ _ _ us hl => match us, hl with | [_], _ => rfl)
    (case a20 => k_is); (case l20 => k_is); (case c20 => k_is); (case k20 => k_is); (case b20 => exact fun _ _ _ _ _ _ us hl => match us, hl with | [_, _], _ => rfl)
    (case a21 => k_is); (case l21 => k_is); (case c21 => k_is); (case k21 => k_is); (case b21 => exact fun _ _ _ _ _ _ us hl => match us, hl with | [_], _ => rfl)
    (case a22 => k_is); (case l22 => k_is); (case c22 => k_is); (case k22 => k_is); (case b22 => exact fun _ _ _ _ _ _ us hl => match us, hl with | [_, _], _ => rfl)
    (case g1 => k_is)
    (case h1 => exact ⟨_, rfl⟩)
    (case g2 => k_is)
    (case h2 => exact ⟨_, rfl⟩)
#print axioms PySem.Challenge.cw_surefoot_k24_texts_refused_holds
