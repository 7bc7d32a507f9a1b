import PyProof.Rows.All
import Wide.All
import OpenK.AllK
import Wide.FinOn
import Lean
import PyProof.EqAt
import PyProof.EqKinds
import PyProof.TupleCall
import PySem.Challenge.RW_surefoot_k16_whole_drawn_together
set_option Elab.async false
set_option linter.all false
set_option maxRecDepth 100000
namespace L2
open PySem PySem.Spec PyProof.Rows
noncomputable abbrev Key := Sum Int Str
noncomputable def keyIs : Key → Value → Bool
  | .inl k, v => Value.isInt k v
  | .inr x, v => Value.isStrOf x v
noncomputable def keyH (w : World) : Key → Int
  | .inl k => hashInt k
  | .inr x => hashStr w x
theorem keyIs_shape : ∀ {k : Key} {v : Value}, keyIs k v = true → (∃ i t, k = Sum.inl i ∧ v = Value.int i t) ∨ (∃ x t, k = Sum.inr x ∧ v = Value.str x t)
  | .inl i, v, h => by
    obtain ⟨t, e⟩ := Value.isInt_shape (k := i) (v := v) h
    exact .inl ⟨i, t, rfl, e⟩
  | .inr x, v, h => by
    obtain ⟨t, e⟩ := Value.isStrOf_shape (x := x) (v := v) h
    exact .inr ⟨x, t, rfl, e⟩
theorem key_ll (a b : Int) : decide ((Sum.inl a : Key) = Sum.inl b) = (a == b) := by
  by_cases e : a = b
  · subst e; simp
  · have h : ¬ (Sum.inl a : Key) = Sum.inl b := fun q => e (Sum.inl.inj q)
    rw [decide_eq_false h]
    exact (beq_eq_false_iff_ne.mpr e).symm
theorem key_rr (a b : Str) : decide ((Sum.inr a : Key) = Sum.inr b) = decide (a = b) := by
  by_cases e : a = b
  · subst e; simp
  · have h : ¬ (Sum.inr a : Key) = Sum.inr b := fun q => e (Sum.inr.inj q)
    rw [decide_eq_false h, decide_eq_false e]
theorem key_lr (a : Int) (b : Str) : decide ((Sum.inl a : Key) = Sum.inr b) = false := decide_eq_false (fun q => nomatch q)
theorem key_rl (a : Str) (b : Int) : decide ((Sum.inr a : Key) = Sum.inl b) = false := decide_eq_false (fun q => nomatch q)
noncomputable def mixKind (prog : Program) (w : World) : PySem.KeyKind prog w Key where
  is := keyIs
  hash := keyH w
  inj := fun v a b ha hb => by
    rcases keyIs_shape ha with ⟨i, t, rfl, rfl⟩ | ⟨x, t, rfl, rfl⟩
    · rcases keyIs_shape hb with ⟨j, u, rfl, e⟩ | ⟨y, u, rfl, e⟩
      · injection e with e1 _; rw [e1]
      · exact nomatch e
    · rcases keyIs_shape hb with ⟨j, u, rfl, e⟩ | ⟨y, u, rfl, e⟩
      · exact nomatch e
      · injection e with e1 _; rw [e1]
  byValue := fun k v h => by
    rcases keyIs_shape h with ⟨i, t, rfl, rfl⟩ | ⟨x, t, rfl, rfl⟩ <;> rfl
  pyHash := fun hv h => by
    rcases keyIs_shape hv with ⟨i, t, rfl, rfl⟩ | ⟨x, t, rfl, rfl⟩
    · exact wpAny_pyHash_int h
    · exact wpAny_pyHash_str h
  eqBool := fun hu hv h => by
    rcases keyIs_shape hu with ⟨i, t, rfl, rfl⟩ | ⟨x, t, rfl, rfl⟩
    · rcases keyIs_shape hv with ⟨j, u, rfl, rfl⟩ | ⟨y, u, rfl, rfl⟩
      · rw [key_ll] at h; exact wpAny_eqBool_int h
      · rw [key_lr] at h; exact SeqAt.EqAt.int_str i t y u _ _ _ _ h
    · rcases keyIs_shape hv with ⟨j, u, rfl, rfl⟩ | ⟨y, u, rfl, rfl⟩
      · rw [key_rl] at h; exact SeqAt.EqAt.str_int x t j u _ _ _ _ h
      · rw [key_rr] at h; exact wpAny_eqBool_str h
  «strs» := fun k x t v h => by
    rcases keyIs_shape h with ⟨i, u, rfl, e⟩ | ⟨y, u, rfl, e⟩
    · exact nomatch e
    · injection e with e1 _
      subst e1
      cases v <;> rfl
end L2
namespace L2
open PySem PySem.Spec PyProof.Rows
inductive V where
  | non | bl (b : Bool) | int (i : Int) | str (x : Str) | byt (b : Array UInt8) | flt (b : UInt64) | ref (a : Addr) | ty (n : String)
  deriving DecidableEq
noncomputable def RelV : V → Value → Prop
  | .non, u => u = Value.none
  | .bl b, u => u = Value.bool b
  | .int i, u => ∃ t, u = Value.int i t
  | .str x, u => ∃ t, u = Value.str x t
  | .byt b, u => ∃ t, u = Value.bytes b t
  | .flt b, u => ∃ t, u = Value.float b t
  | .ref a, u => u = Value.ref a
  | .ty n, u => u = Value.type n
noncomputable abbrev Vals : List V → List Value → Prop := Paired RelV
theorem Vals.length {xs : List V} {us : List Value} (r : Vals xs us) : xs.length = us.length := Paired.length r
theorem Vals.get : ∀ {xs : List V} {us : List Value} {i : Nat} {x : V}, Vals xs us → xs[i]? = some x → ∃ u, us[i]? = some u ∧ RelV x u
  | _, _, _, _, .nil, e => by simp at e
  | _, _, 0, _, .cons r _, e => by simp at e; subst e; exact ⟨_, rfl, r⟩
  | _, _, i + 1, x, .cons _ t, e => by
    obtain ⟨u, h1, h2⟩ := Vals.get (i := i) (x := x) t (by simpa using e)
    exact ⟨u, by simpa using h1, h2⟩
theorem Vals.set {x : V} {u : Value} (r : RelV x u) : ∀ {xs : List V} {us : List Value} (i : Nat), Vals xs us → Vals (xs.set i x) (us.set i u)
  | _, _, _, .nil => .nil
  | _, _, 0, .cons _ t => .cons r t
  | _, _, i + 1, .cons q t => .cons q (Vals.set r i t)
theorem Vals.append : ∀ {xs ys : List V} {us ws : List Value}, Vals xs us → Vals ys ws → Vals (xs ++ ys) (us ++ ws)
  | _, _, _, _, .nil, s => s
  | _, _, _, _, .cons r t, s => .cons r (Vals.append t s)
theorem Vals.take : ∀ {xs : List V} {us : List Value} (n : Nat), Vals xs us → Vals (xs.take n) (us.take n)
  | _, _, 0, _ => .nil
  | _, _, _ + 1, .nil => .nil
  | _, _, n + 1, .cons r t => .cons r (Vals.take n t)
theorem Vals.drop : ∀ {xs : List V} {us : List Value} (n : Nat), Vals xs us → Vals (xs.drop n) (us.drop n)
  | _, _, 0, r => r
  | _, _, _ + 1, .nil => .nil
  | _, _, n + 1, .cons _ t => Vals.drop n t
noncomputable def RelO : Option V → Option Value → Prop
  | some v, some u => RelV v u
  | none, none => True
  | _, _ => False
noncomputable def KV {κ : Type} : List (κ × V) → List (κ × Value) → Prop := Paired fun (p : κ × V) (q : κ × Value) => p.1 = q.1 ∧ RelV p.2 q.2
noncomputable def kV : Key → V
  | .inl i => .int i
  | .inr x => .str x
inductive HO where
    | lst (xs : List V)
    | tup (xs : List V)
    | dK (kvs : List (Key × V)) | dT (kvs : List (List Key × V))
    | set (S : Int → Bool) (n : Nat)
    | ins (C dx : Addr) (fs : List (Str × V))
    | own (x : Addr)
    | xd (fs : List (Str × V))
    | met (f x : Addr)
    | rng (lo hi : Int)
    | frz (o : Obj) (u : HO)
    | tbl (ps : Array Value)
    | ext (φ : Heap → Prop)
noncomputable abbrev Hp := Addr → Option HO
noncomputable def upd (H : Hp) (a : Addr) (o : HO) : Hp := fun b => if b = a then some o else H b
theorem upd_same {H : Hp} {a : Addr} {o : HO} : upd H a o a = some o := by unfold upd; rw [if_pos rfl]
theorem upd_ne {H : Hp} {a b : Addr} {o : HO} (h : b ≠ a) : upd H a o b = H b := by unfold upd; rw [if_neg h]
theorem ne_of_none {H : Hp} {a b : Addr} {o : HO} (h : H a = some o) (h' : H b = none) : a ≠ b := by
  intro e; subst e; rw [h] at h'; cases h'
section
variable (P : Program) (w : World)
noncomputable def ObjOk (H : Hp) (h : Heap) (a : Addr) : HO → Prop
  | .lst xs => xs.length ≤ sizeLine ∧ ∃ (its : List Value) (n : Nat), Vals xs its ∧ h.get? a = some { cls := .type "list", data := .seq its.toArray n }
  | .tup xs => xs.length ≤ sizeLine ∧ ∃ its : List Value, Vals xs its ∧ IsTup h a its.toArray
  | .dK kvs => kvs.length ≤ sizeLine ∧ (a == sysModules) = false ∧ ∃ vs, KV kvs vs ∧ h.DictOf (mixKind P w) a vs
  | .dT kvs => kvs.length ≤ sizeLine ∧ (a == sysModules) = false ∧ ∃ xs : List (List Key × Addr × Value),
      Paired (fun (p : List Key × V) (q : List Key × Addr × Value) => p.1 = q.1 ∧ H q.2.1 = some (.tup (p.1.map kV)) ∧ RelV p.2 q.2.2) kvs xs ∧
      ∃ o es ep, h.get? a = some o ∧ o.ExactDict ∧ o.data = .dict es ep ∧ es.toList = xs.map (entryOfKey (tupleKind (mixKind P w))) ∧ (xs.map (·.1)).Nodup
  | .set S n => h.SetOf (intKind P w) a S n
  | .ins C dx fs => H dx = some (.own a) ∧ fs.length ≤ 1000 ∧ dx ≠ a ∧ h.get? a = some (PySem.W.instObj C dx) ∧
      ∃ mA, h.Ns1 dx mA ∧ (∀ f, RelO (fs.lookup f) (mA f)) ∧ PySem.Within mA (fs.map (·.1))
  | .own _ => ∃ o, h.get? a = some o
  | .xd fs => ∃ mA, h.Ns1 a mA ∧ ∀ f, RelO (fs.lookup f) (mA f)
  | .rng lo hi => ∃ t u v, h.get? a = some { cls := .type "range", data := .fields #[.int lo t, .int hi u, .int 1 v] }
  | .frz o u => h.get? a = some o ∧ ObjOk H h a u
  | .tbl ps => h.get? a = some { cls := .none, data := .fields ps }
  | .met f x => h.get? a = some (PySem.W.methodObj (.ref f) (.ref x))
  | .ext φ => φ h ∧ (∃ o, h.get? a = some o) ∧ ∀ h1 h2 : Heap, φ h1 → (∀ o, h1.get? a = some o → h2.get? a = some o) → φ h2
noncomputable def HOk (H : Hp) (h : Heap) : Prop := ∀ a o, H a = some o → ObjOk P w H h a o
end
section
variable {P : Program} {w : World} {H H' : Hp} {h h' : Heap} {a : Addr} {o : HO}
theorem ObjOk.lt (x : ObjOk P w H h a o) : a < h.objs.size := by
  cases o with
  | lst xs => obtain ⟨_, _, _, _, e⟩ := x; exact Heap.lt_size e
  | tup xs => obtain ⟨_, _, _, p⟩ := x; exact p.lt
  | dK kvs => obtain ⟨_, _, _, _, o, _, _, e, _⟩ := x; exact Heap.lt_size e
  | dT kvs => obtain ⟨_, _, _, _, o, _, _, e, _⟩ := x; exact Heap.lt_size e
  | set S n => obtain ⟨o, _, _, _, e, _⟩ := x; exact Heap.lt_size e
  | ins C dx fs => obtain ⟨_, _, _, e, _⟩ := x; exact Heap.lt_size e
  | own y => obtain ⟨_, e⟩ := x; exact Heap.lt_size e
  | xd fs => obtain ⟨_, ⟨_, _, _, e, _⟩, _⟩ := x; exact Heap.lt_size e
  | rng lo hi => obtain ⟨_, _, _, e⟩ := x; exact Heap.lt_size e
  | frz ob u => obtain ⟨e, _⟩ := x; exact Heap.lt_size e
  | tbl ps => exact Heap.lt_size (show h.get? a = some _ from x)
  | met f y => exact Heap.lt_size (show h.get? a = some _ from x)
  | ext φ => obtain ⟨_, ⟨_, e⟩, _⟩ := x; exact Heap.lt_size e
theorem Paired.mapP {α β : Type} {F G : α → β → Prop} : ∀ {l₁ : List α} {l₂ : List β}, Paired F l₁ l₂ → (∀ a b, F a b → G a b) → Paired G l₁ l₂
  | _, _, .nil, _ => .nil
  | _, _, .cons r t, f => .cons (f _ _ r) (Paired.mapP t f)
theorem ObjOk.stay (x : ObjOk P w H h a o) (k : ∀ b u, (b = a ∨ H b = some (.own a)) → h.get? b = some u → h'.get? b = some u)
    (ho : ∀ b, H b = some (.own a) → H' b = some (.own a)) (ht : ∀ b xs, H b = some (.tup xs) → H' b = some (.tup xs)) : ObjOk P w H' h' a o := by
  induction o with
  | lst xs => obtain ⟨z, its, n, r, e⟩ := x; exact ⟨z, its, n, r, k _ _ (.inl rfl) e⟩
  | tup xs => obtain ⟨z, its, r, ob, e, c⟩ := x; exact ⟨z, its, r, ob, k _ _ (.inl rfl) e, c⟩
  | dK kvs => obtain ⟨z, y, vs, r, ob, es, ep, e, c⟩ := x; exact ⟨z, y, vs, r, ob, es, ep, k _ _ (.inl rfl) e, c⟩
  | dT kvs =>
    obtain ⟨z, y, xs, r, ob, es, ep, e, c⟩ := x
    exact ⟨z, y, xs, Paired.mapP r fun p q z => ⟨z.1, ht _ _ z.2.1, z.2.2⟩, ob, es, ep, k _ _ (.inl rfl) e, c⟩
  | set S n => obtain ⟨ob, es, ep, t, e, c⟩ := x; exact ⟨ob, es, ep, t, k _ _ (.inl rfl) e, c⟩
  | ins C dx fs =>
    obtain ⟨d, z, ne, e, mA, ⟨od, es, ep, e2, c⟩, r⟩ := x
    exact ⟨ho _ d, z, ne, k _ _ (.inl rfl) e, mA, ⟨od, es, ep, k _ _ (.inr d) e2, c⟩, r⟩
  | own y => obtain ⟨ob, e⟩ := x; exact ⟨ob, k _ _ (.inl rfl) e⟩
  | xd fs => obtain ⟨mA, ⟨od, es, ep, e, c⟩, r⟩ := x; exact ⟨mA, ⟨od, es, ep, k _ _ (.inl rfl) e, c⟩, r⟩
  | rng lo hi => obtain ⟨t, u, v, e⟩ := x; exact ⟨t, u, v, k _ _ (.inl rfl) e⟩
  | frz ob u ih => obtain ⟨e, q⟩ := x; exact ⟨k _ _ (.inl rfl) e, ih q⟩
  | tbl ps =>
    have e : h.get? a = some { cls := .none, data := .fields ps } := x
    show h'.get? a = some { cls := .none, data := .fields ps }
    exact k a _ (.inl rfl) e
  | met f y =>
    have e : h.get? a = some (PySem.W.methodObj (.ref f) (.ref y)) := x
    show h'.get? a = some (PySem.W.methodObj (.ref f) (.ref y))
    exact k a _ (.inl rfl) e
  | ext φ => obtain ⟨p, ⟨o, e⟩, st⟩ := x; exact ⟨st _ _ p fun o q => k _ _ (.inl rfl) q, ⟨o, k _ _ (.inl rfl) e⟩, st⟩
theorem HOk.lt (x : HOk P w H h) (e : H a = some o) : a < h.objs.size := (x a o e).lt
theorem HOk.fresh (x : HOk P w H h) (e : h.objs.size ≤ a) : H a = none := by
  cases q : H a with
  | none => rfl
  | some u => exact absurd (Nat.lt_of_lt_of_le (x.lt q) e) (Nat.lt_irrefl _)
theorem HOk.kept (x : HOk P w H h) (k : ∀ b u, h.get? b = some u → h'.get? b = some u) : HOk P w H h' := fun a o e =>
  (x a o e).stay (fun b u _ q => k b u q) (fun _ q => q) fun _ _ q => q
theorem HOk.laid (x : HOk P w H h) (k : ∀ b u, h.get? b = some u → h'.get? b = some u) (hp : h.objs.size ≤ a) (new : ObjOk P w (upd H a o) h' a o) : HOk P w (upd H a o) h' := fun b u e => by
  have hn := x.fresh hp
  by_cases hb : b = a
  · subst hb; rw [upd_same] at e; cases e; exact new
  · rw [upd_ne hb] at e
    exact (x b u e).stay (fun c v _ q => k c v q) (fun c q => by rw [upd_ne (ne_of_none q hn)]; exact q) fun c xs q => by rw [upd_ne (ne_of_none q hn)]; exact q
end
noncomputable def Rd (H : Hp) (a : Addr) (u : HO) : Prop := H a = some u ∨ ∃ o, H a = some (.frz o u)
theorem Rd.ok {P : Program} {w : World} {H : Hp} {h : Heap} {a : Addr} {u : HO} (r : Rd H a u) (x : HOk P w H h) : ObjOk P w H h a u := by
  rcases r with r | ⟨o, r⟩
  · exact x a u r
  · obtain ⟨_, q⟩ := x a _ r
    exact q
noncomputable def Mut : Option HO → Prop
  | some (.lst _) => True
  | some (.dK _) => True
  | some (.dT _) => True
  | some (.set _ _) => True
  | some (.ins _ _ _) => True
  | some (.ext _) => True
  | _ => False
section
variable {P : Program} {w : World} {H : Hp} {h h' : Heap} {x e : Addr} {o' : HO}
theorem HOk.write (ok : HOk P w H h) (mu : Mut (H x)) (he : e = x ∨ H e = some (.own x)) (k : ∀ b u, b ≠ e → h.get? b = some u → h'.get? b = some u) (heo : ∃ u, h'.get? e = some u)
    (new : ObjOk P w (upd H x o') h' x o') : HOk P w (upd H x o') h' := fun b u q => by
  have nown : ∀ c y, H c = some (.own y) → c ≠ x := fun c y r z => by subst z; rw [r] at mu; exact mu
  have ntup : ∀ c xs, H c = some (.tup xs) → c ≠ x := fun c xs r z => by subst z; rw [r] at mu; exact mu
  by_cases hb : b = x
  · subst hb; rw [upd_same] at q; cases q; exact new
  · rw [upd_ne hb] at q
    by_cases hbe : b = e
    · have q' : H b = some (.own x) := by
        rcases he with z | z
        · exact absurd (hbe.trans z) hb
        · rw [hbe]; exact z
      rw [q] at q'; cases q'
      obtain ⟨v, hv⟩ := heo
      exact ⟨v, by rw [hbe]; exact hv⟩
    · refine (ok b u q).stay (fun c v hc r => k c v ?_ r) (fun c r => by rw [upd_ne (nown c b r)]; exact r) fun c xs r => by rw [upd_ne (ntup c xs r)]; exact r
      rcases hc with rfl | hc
      · exact hbe
      · rintro rfl
        rcases he with z | z
        · exact nown c b hc z
        · rw [hc] at z; cases z; exact hb rfl
end
structure Un (fs ex : List Addr) (H H' : Hp) (h h' : Heap) : Prop where
  keep : ∀ b o, h.get? b = some o → H b = none → b ∉ fs → b ∉ ex → h'.get? b = some o
  slot : ∀ b o, h.get? b = some o → H b = none → b ∈ fs → b ∉ ex → ∃ sl, h'.get? b = some { o with slots := sl }
  free : ∀ b o, h.get? b = some o → H b = none → b ∉ ex → H' b = none
  there : ∀ b o, h.get? b = some o → b ∉ ex → ∃ o', h'.get? b = some o'
  tups : ∀ b xs, H b = some (.tup xs) → H' b = some (.tup xs)
  frzs : ∀ b o u, H b = some (.frz o u) → H' b = some (.frz o u)
  tbls : ∀ b ps, H b = some (.tbl ps) → ∃ more, H' b = some (.tbl (ps ++ more))
section
variable {fs fs' ex ex' : List Addr} {H H1 H2 : Hp} {h h1 h2 h' : Heap} {a x e : Addr} {o : HO}
theorem Un.any (u : Un fs ex H H1 h h1) {b : Addr} {ob : Obj} (q : h.get? b = some ob) (n : H b = none) (hx : b ∉ ex) : ∃ sl, h1.get? b = some { ob with slots := sl } := by
  by_cases hb : b ∈ fs
  · exact u.slot b ob q n hb hx
  · exact ⟨ob.slots, u.keep b ob q n hb hx⟩
theorem Un.kept (k : ∀ b u, h.get? b = some u → h'.get? b = some u) : Un fs ex H H h h' :=
  ⟨fun b ob q _ _ _ => k b ob q, fun b ob q _ _ _ => ⟨ob.slots, k b ob q⟩, fun _ _ _ n _ => n, fun b ob q _ => ⟨ob, k b ob q⟩, fun _ _ q => q, fun _ _ _ q => q, fun _ ps q => ⟨#[], by rw [q]; simp⟩⟩
theorem Un.refl : Un fs ex H H h h := Un.kept fun _ _ q => q
theorem Un.laid (k : ∀ b u, h.get? b = some u → h'.get? b = some u) (hp : h.objs.size ≤ a) (hn : H a = none) : Un fs ex H (upd H a o) h h' where
  keep := fun b u q _ _ _ => k b u q
  slot := fun b u q _ _ _ => ⟨u.slots, k b u q⟩
  free := fun b u q n _ => by rw [upd_ne (Nat.ne_of_lt (Nat.lt_of_lt_of_le (Heap.lt_size q) hp))]; exact n
  there := fun b u q _ => ⟨u, k b u q⟩
  tups := fun b xs q => by rw [upd_ne (ne_of_none q hn)]; exact q
  frzs := fun b u xs q => by rw [upd_ne (ne_of_none q hn)]; exact q
  tbls := fun b ps q => ⟨#[], by rw [upd_ne (ne_of_none q hn), q]; simp⟩
theorem Un.write (mu : Mut (H x)) (he : e = x ∨ H e = some (.own x)) (k : ∀ b u, b ≠ e → h.get? b = some u → h'.get? b = some u) (heo : ∃ u, h'.get? e = some u) : Un fs ex H (upd H x o) h h' := by
  have hx : ∀ b, H b = none → b ≠ x := fun b n z => by subst z; rw [n] at mu; exact mu
  have hb : ∀ b, H b = none → b ≠ e := fun b n z => by
    subst z
    rcases he with r | r
    · exact hx b n r
    · rw [n] at r; cases r
  have hm : ∀ b u, H b = some u → ¬ Mut (some u) → b ≠ x := fun b u q nm z => by subst z; rw [q] at mu; exact nm mu
  refine ⟨fun b u q n _ _ => k b u (hb b n) q, fun b u q n _ _ => ⟨u.slots, k b u (hb b n) q⟩, fun b u q n _ => by rw [upd_ne (hx b n)]; exact n, fun b u q _ => ?_,
    fun b xs q => by rw [upd_ne (hm b _ q fun z => z)]; exact q, fun b u xs q => by rw [upd_ne (hm b _ q fun z => z)]; exact q, fun b ps q => ⟨#[], by rw [upd_ne (hm b _ q fun z => z), q]; simp⟩⟩
  by_cases hbe : b = e
  · subst hbe; exact heo
  · exact ⟨u, k b u hbe q⟩
end
noncomputable def trk (h : Heap) (H : Hp) : List Addr := (List.range h.objs.size).filter fun a => (H a).isSome
noncomputable def hidT (h : Heap) (H : Hp) : Heap := PySem.W.hideAll h (trk h H)
theorem hidT_size (h : Heap) (H : Hp) : (hidT h H).objs.size = h.objs.size := PySem.W.hideAll_size _ _
theorem hidT_get {h : Heap} {H : Hp} {b : Addr} {o : Obj} (e : h.get? b = some o) (n : H b = none) : (hidT h H).get? b = some o :=
  PySem.W.hideAll_get _ e fun hm => by
    have q : (H b).isSome = true := (List.mem_filter.mp hm).2
    rw [n] at q; simp at q
theorem of_hidT {h : Heap} {H : Hp} {b : Addr} {o : Obj} (e : (hidT h H).get? b = some o) : h.get? b = some o ∧ H b = none := by
  have e' : h.get? b = some o := PySem.W.of_hideAll (trk h H) e
  refine ⟨e', ?_⟩
  cases q : H b with
  | none => rfl
  | some x =>
    have hm : b ∈ trk h H := List.mem_filter.mpr ⟨List.mem_range.mpr (Heap.lt_size e'), by simp [q]⟩
    have z : (hidT h H).get? b = none := PySem.W.hideAll_none (trk h H) hm
    rw [z] at e; cases e
noncomputable def allNews (g h : Heap) (L : Addr) : List (Addr × Obj) := (List.range h.objs.size).filterMap fun a => if a = L ∨ (g.get? a).isSome = true then none else (h.get? a).map fun o => (a, o)
noncomputable def rest (g h : Heap) (L d : Addr) : List (Addr × Obj) := (allNews g h L).filter fun p => decide (p.1 ≠ d)
end L2
namespace L2
open PySem PySem.Spec PyProof.Rows
structure Mod (K : PySem.W.Frag) (mg : Str → Option Value) (base : Heap) : Prop where
  kin : K.In base
  glob : base.Ns mainGlobals mg
  blt : ∃ mb, base.Ns builtinsNs mb ∧ ∀ x : Str, x ≠ "__name__" → mb x = bootBuiltins x
  nolimit : base.NoLimit
  seer : base.NoSeer
structure Cx where
  prog : Program
  w : World
  K : PySem.W.Frag
  mg : Str → Option Value
  base : Heap
  A : Around
  N : List Str
  s₀ : Shared
  H₀ : Hp
  env : Env
  outer : List Env
  stack : List Env
  ex : List Addr
  fn : Str → Bool
  calm : Bool
  pn : List (Addr × Obj)
  xe : Value → Shared → Prop
noncomputable def frs (l : List Env) : List Addr := l.filterMap (·.frame)
noncomputable abbrev Cx.fs (X : Cx) : List Addr := frs X.outer
noncomputable def Vis (sc : Scope) (x : Str) : Prop := sc.names.lookup x = some .local ∨ sc.names.lookup x = some .cell ∨ sc.names.lookup x = some .free
noncomputable def Loc (sc : Scope) (x : Str) : Prop := sc.names.lookup x = some .local ∨ sc.names.lookup x = some .cell
noncomputable def Look (env : Env) (h : Heap) (m : Str → Option Value) (x : Str) (u : Value) : Prop :=
  (env.kindOf x = some .local ∧ m x = some u) ∨ ((env.kindOf x = some .cell ∨ env.kindOf x = some .free) ∧ ∃ c, env.cells.lookup x = some c ∧ h.IsCell c (some u))
structure Cx.Ok (X : Cx) : Prop where
  mod : Mod X.K X.mg X.base
  kind : X.env.scope.kind = .function
  glob : X.env.globals = mainGlobals
  blt : X.env.builtins = builtinsNs
  above : X.s₀.heap.objs.size ≤ X.env.locals
  inj : ∀ x y c, X.env.cells.lookup x = some c → X.env.cells.lookup y = some c → x = y
  has : ∀ x, (X.env.kindOf x = some .cell ∨ X.env.kindOf x = some .free) → ∃ c, X.env.cells.lookup x = some c
  cab : ∀ x c, X.fn x = true → X.env.cells.lookup x = some c → X.s₀.heap.objs.size ≤ c
  hd : X.calm = true → X.A.handled = none
  frames : X.A.frames = some X.stack
  stk : X.stack = X.outer ∨ (X.stack = X.env :: X.outer ∧ X.env.frame = some X.env.locals)
  exf : ∀ b ∈ X.ex, b ≠ X.env.locals ∧ ∀ x c, X.env.cells.lookup x = some c → c ≠ b
  bs : ∀ b o, X.base.get? b = some o → X.s₀.heap.get? b = some o ∧ X.H₀ b = none
  bsz : X.base.objs.size ≤ X.s₀.heap.objs.size
  noex : ∀ b o, X.base.get? b = some o → b ∉ X.ex
  exfs : ∀ b ∈ X.ex, b ∉ X.fs
  funs : X.s₀.heap.FunFrames X.base X.outer
  frf : ∀ b ∈ X.fs, X.H₀ b = none
structure Inv (X : Cx) (pins : List (Addr × Obj)) (σ : List (Option V)) (H : Hp) (s : Shared) : Prop where
  ok : X.Ok
  os : s.os = X.s₀.os
  bare : AllBare s.gens
  base : Un X.fs X.ex X.H₀ H X.s₀.heap s.heap
  loc : ∃ m, s.heap.Ns X.env.locals m ∧ ∀ (i : Nat) (x : Str) (v : V), X.N[i]? = some x → σ[i]? = some (some v) → Vis X.env.scope x → ∃ u, RelV v u ∧ Look X.env s.heap m x u
  cell : ∀ x c, X.env.cells.lookup x = some c → ∃ v, s.heap.IsCell c v
  free : H X.env.locals = none
  freeC : ∀ x c, X.env.cells.lookup x = some c → H c = none
  pin : ∀ p ∈ X.pn ++ pins, s.heap.get? p.1 = some p.2 ∧ H p.1 = none ∧ p.1 ≠ X.env.locals ∧ p.1 ∉ X.fs ∧ ∀ v, p.2.data ≠ .cell v
  hok : HOk X.prog X.w H s.heap
  len : σ.length = X.N.length
section
variable {X : Cx} {pins : List (Addr × Obj)} {σ : List (Option V)} {H H' : Hp} {s : Shared} {h' : Heap}
theorem Cx.Ok.nofr (ok : X.Ok) {b : Addr} {o : Obj} (e : X.base.get? b = some o) : b ∉ X.fs := fun hb => by
  have := (ok.funs.mem hb).1
  rw [e] at this; cases this
theorem Inv.bs (I : Inv X pins σ H s) : ∀ b o, X.base.get? b = some o → s.heap.get? b = some o ∧ H b = none := fun b o e =>
  ⟨I.base.keep b o (I.ok.bs b o e).1 (I.ok.bs b o e).2 (I.ok.nofr e) (I.ok.noex b o e), I.base.free b o (I.ok.bs b o e).1 (I.ok.bs b o e).2 (I.ok.noex b o e)⟩
theorem Inv.bk (I : Inv X pins σ H s) : ∀ b o, X.base.get? b = some o → s.heap.get? b = some o := fun b o e => (I.bs b o e).1
theorem Inv.mod (I : Inv X pins σ H s) : Mod X.K X.mg X.base := I.ok.mod
theorem Inv.kIn (I : Inv X pins σ H s) : X.K.In s.heap := I.ok.mod.kin.keeps I.bk
theorem Inv.nolimit (I : Inv X pins σ H s) : s.heap.NoLimit := I.ok.mod.nolimit.keeps I.bk
theorem Inv.lt (I : Inv X pins σ H s) : X.env.locals < s.heap.objs.size := let ⟨_, hn, _⟩ := I.loc; hn.lt
theorem Inv.sz (I : Inv X pins σ H s) : X.s₀.heap.objs.size ≤ s.heap.objs.size := Nat.le_trans I.ok.above (Nat.le_of_lt I.lt)
theorem Inv.nofs (I : Inv X pins σ H s) {a : Addr} (h : s.heap.objs.size ≤ a) : a ∉ X.fs := fun hb => by
  obtain ⟨_, o, ho, _⟩ := I.ok.funs.mem hb
  exact absurd (Nat.lt_of_lt_of_le (Heap.lt_size ho) (Nat.le_trans I.sz h)) (Nat.lt_irrefl _)
theorem Inv.cne (I : Inv X pins σ H s) : ∀ x c, X.env.cells.lookup x = some c → c ≠ X.env.locals := fun x c e z => by
  obtain ⟨v, o, ho, hd⟩ := I.cell x c e
  obtain ⟨m, ⟨o', es, ep, ho', hd', _⟩, _⟩ := I.loc
  rw [z, ho'] at ho; cases ho; rw [hd'] at hd; cases hd
theorem Inv.funs (I : Inv X pins σ H s) : s.heap.FunFrames X.base X.outer := by
  have all : ∀ (l : List Env), (∀ b ∈ frs l, b ∈ X.fs) → X.s₀.heap.FunFrames X.base l → s.heap.FunFrames X.base l := by
    intro l
    induction l with
    | nil => intro _ _; trivial
    | cons env r ih =>
      intro hs hl
      obtain ⟨hk, ⟨L, o, hf, hn, ho, hd⟩, hr⟩ := hl
      have hL : L ∈ X.fs := hs L (by unfold frs; rw [List.filterMap_cons, hf]; exact List.mem_cons_self)
      obtain ⟨sl, e⟩ := I.base.slot L o ho (I.ok.frf L hL) hL fun z => I.ok.exfs L z hL
      exact ⟨hk, ⟨L, _, hf, hn, e, hd⟩, ih (fun b hb => hs b (by unfold frs; rw [List.filterMap_cons, hf]; exact List.mem_cons_of_mem _ hb)) hr⟩
  exact all X.outer (fun _ hb => hb) I.ok.funs
theorem Inv.stack (I : Inv X pins σ H s) : s.heap.FunFrames X.base X.stack := by
  rcases I.ok.stk with e | ⟨e, hf⟩
  · rw [e]; exact I.funs
  · rw [e]
    obtain ⟨m, hn, _⟩ := I.loc
    refine .cons (by rw [I.ok.kind]; decide) hf hn ?_ I.funs
    exact Heap.get?_none_of_le (Nat.le_trans I.ok.bsz I.ok.above)
theorem Inv.stkSub (I : Inv X pins σ H s) : ∀ b ∈ frs X.stack, b ∈ X.env.locals :: X.fs := fun b hb => by
  rcases I.ok.stk with e | ⟨e, hf⟩
  · rw [e] at hb; exact List.mem_cons_of_mem _ hb
  · rw [e] at hb
    unfold frs at hb
    rw [List.filterMap_cons, hf] at hb
    exact hb
theorem Inv.stkFree (I : Inv X pins σ H s) : ∀ b ∈ frs X.stack, H b = none := fun b hb => by
  rcases List.mem_cons.mp (I.stkSub b hb) with e | hb
  · rw [e]; exact I.free
  · obtain ⟨_, o, ho, _⟩ := I.ok.funs.mem hb
    exact I.base.free b o ho (I.ok.frf b hb) fun z => I.ok.exfs b z hb
theorem Inv.step {g' : Array GenState} {t' : Nat} {d' : Drawn} {ch : List Addr} (I : Inv X pins σ H s)
    (hch : ∀ b ∈ ch, (b ∈ X.ex ∨ X.s₀.heap.objs.size ≤ b) ∧ b ≠ X.env.locals ∧ (∀ x c, X.env.cells.lookup x = some c → c ≠ b) ∧ ∀ p ∈ X.pn ++ pins, p.1 ≠ b)
    (keep : ∀ b o, b ≠ X.env.locals → b ∉ X.fs → b ∉ ch → s.heap.get? b = some o → H b = none → h'.get? b = some o)
    (slot : ∀ b o, b ≠ X.env.locals → b ∈ X.fs → b ∉ ch → s.heap.get? b = some o → H b = none → ∃ sl, h'.get? b = some { o with slots := sl }) (free : ∀ b o, b ∉ ch → s.heap.get? b = some o → H b = none → H' b = none)
    (there : ∀ b o, b ∉ ch → s.heap.get? b = some o → ∃ o', h'.get? b = some o')
    (tups : ∀ b xs, H b = some (.tup xs) → H' b = some (.tup xs)) (frzs : ∀ b o u, H b = some (.frz o u) → H' b = some (.frz o u)) (tbls : ∀ b ps, H b = some (.tbl ps) → ∃ more, H' b = some (.tbl (ps ++ more)))
    (ns : ∀ m, s.heap.Ns X.env.locals m → h'.Ns X.env.locals m) (hok : HOk X.prog X.w H' h') (hg : AllBare g') :
    Inv X pins σ H' { s with heap := h', gens := g', drawn := d', toks := t' } := by
  have neL : ∀ b o, X.s₀.heap.get? b = some o → b ≠ X.env.locals := fun b o e => Nat.ne_of_lt (Nat.lt_of_lt_of_le (Heap.lt_size e) I.ok.above)
  have neC : ∀ b o, X.s₀.heap.get? b = some o → b ∉ X.ex → b ∉ ch := fun b o e hx hb => by
    rcases (hch b hb).1 with z | z
    · exact hx z
    · exact absurd (Nat.lt_of_lt_of_le (Heap.lt_size e) z) (Nat.lt_irrefl _)
  have cellK : ∀ x c, X.env.cells.lookup x = some c → ∀ v, s.heap.IsCell c v → h'.IsCell c v := fun x c e v ⟨o, ho, hd⟩ => by
    have nch : c ∉ ch := fun z => (hch c z).2.2.1 x c e rfl
    by_cases hc : c ∈ X.fs
    · obtain ⟨sl, q⟩ := slot c o (I.cne x c e) hc nch ho (I.freeC x c e)
      exact ⟨_, q, hd⟩
    · exact ⟨o, keep c o (I.cne x c e) hc nch ho (I.freeC x c e), hd⟩
  refine ⟨I.ok, I.os, hg, ⟨fun b o e n hb hx => ?_, fun b o e n hb hx => ?_, fun b o e n hx => ?_, fun b o e hx => ?_, fun b xs e => tups b xs (I.base.tups b xs e), fun b o xs e => frzs b o xs (I.base.frzs b o xs e), fun b ps e => ?_⟩, ?_, fun x c e => ?_, ?_, fun x c e => ?_, fun p hp => ?_, hok, I.len⟩
  · exact keep b o (neL b o e) hb (neC b o e hx) (I.base.keep b o e n hb hx) (I.base.free b o e n hx)
  · obtain ⟨sl, e1⟩ := I.base.slot b o e n hb hx
    obtain ⟨sl', e2⟩ := slot b _ (neL b o e) hb (neC b o e hx) e1 (I.base.free b o e n hx)
    exact ⟨sl', e2⟩
  · obtain ⟨o', e1⟩ := I.base.there b o e hx
    exact free b o' (neC b o e hx) e1 (I.base.free b o e n hx)
  · obtain ⟨o', e1⟩ := I.base.there b o e hx
    exact there b o' (neC b o e hx) e1
  · obtain ⟨m1, e1⟩ := I.base.tbls b ps e
    obtain ⟨m2, e2⟩ := tbls b _ e1
    exact ⟨m1 ++ m2, by rw [e2, Array.append_assoc]⟩
  · obtain ⟨m, hn, hl⟩ := I.loc
    refine ⟨m, ns m hn, fun i x v e1 e2 e3 => ?_⟩
    obtain ⟨u, r, l⟩ := hl i x v e1 e2 e3
    refine ⟨u, r, ?_⟩
    rcases l with l | ⟨k, c, e, z⟩
    · exact .inl l
    · exact .inr ⟨k, c, e, cellK x c e _ z⟩
  · obtain ⟨v, z⟩ := I.cell x c e
    exact ⟨v, cellK x c e v z⟩
  · obtain ⟨m, ⟨o, _, _, ho, _⟩, _⟩ := I.loc
    exact free _ o (fun z => (hch _ z).2.1 rfl) ho I.free
  · obtain ⟨v, o, ho, hd⟩ := I.cell x c e
    exact free c o (fun z => (hch c z).2.2.1 x c e rfl) ho (I.freeC x c e)
  · obtain ⟨e, n, ne, nf, d⟩ := I.pin p hp
    have nch : p.1 ∉ ch := fun z => (hch p.1 z).2.2.2 p hp rfl
    exact ⟨keep p.1 p.2 ne nf nch e n, free p.1 p.2 nch e n, ne, nf, d⟩
theorem Inv.un {t' : Nat} (I : Inv X pins σ H s) (u : Un X.fs [] H H' s.heap h') (hok : HOk X.prog X.w H' h') : Inv X pins σ H' { s with heap := h', toks := t' } := by
  obtain ⟨m, ⟨o, es, ep, ho, r⟩, _⟩ := id I.loc
  obtain ⟨sl, hL⟩ := u.any ho I.free (by simp)
  exact I.step (g' := s.gens) (d' := s.drawn) (ch := []) (fun _ z => nomatch z) (fun b o _ hb _ e n => u.keep b o e n hb (by simp)) (fun b o _ hb _ e n => u.slot b o e n hb (by simp)) (fun b o _ e n => u.free b o e n (by simp)) (fun b o _ e => u.there b o e (by simp)) u.tups u.frzs u.tbls (fun m' hm => by
    obtain ⟨o', es', ep', ho', r'⟩ := hm
    rw [ho] at ho'; cases ho'
    exact ⟨_, es', ep', hL, r'⟩) hok I.bare
theorem Inv.call {g' : Array GenState} {t' : Nat} {d' : Drawn} {ch : List Addr} (I : Inv X pins σ H s) (u : Un (frs X.stack) ch H H' s.heap h') (hok : HOk X.prog X.w H' h') (hg : AllBare g')
    (hch : ∀ b ∈ ch, (b ∈ X.ex ∨ X.s₀.heap.objs.size ≤ b) ∧ b ≠ X.env.locals ∧ (∀ x c, X.env.cells.lookup x = some c → c ≠ b) ∧ ∀ p ∈ X.pn ++ pins, p.1 ≠ b) :
    Inv X pins σ H' { s with heap := h', gens := g', drawn := d', toks := t' } := by
  obtain ⟨m, ⟨o, es, ep, ho, r⟩, _⟩ := id I.loc
  obtain ⟨sl, hL⟩ := u.any ho I.free fun z => (hch _ z).2.1 rfl
  exact I.step (ch := ch) hch (fun b o hL hb hc e n => u.keep b o e n (fun z => (List.mem_cons.mp (I.stkSub b z)).elim hL hb) hc) (fun b o _ _ hc e n => u.any e n hc) (fun b o hc e n => u.free b o e n hc) (fun b o hc e => u.there b o e hc) u.tups u.frzs u.tbls (fun m' hm => by
    obtain ⟨o', es', ep', ho', r'⟩ := hm
    rw [ho] at ho'; cases ho'
    exact ⟨_, es', ep', hL, r'⟩) hok hg
theorem Inv.turned {t' : Nat} {it : Addr} (I : Inv X pins σ H s) (k : ∀ b o, b ≠ it → s.heap.get? b = some o → h'.get? b = some o) (hn : H it = none) (hL : it ≠ X.env.locals)
    (h1 : it ∈ X.ex ∨ X.s₀.heap.objs.size ≤ it) (h2 : ∀ x c, X.env.cells.lookup x = some c → c ≠ it) (h3 : ∀ p ∈ X.pn ++ pins, p.1 ≠ it) : Inv X pins σ H { s with heap := h', toks := t' } := by
  have nit : ∀ b u, H b = some u → b ≠ it := fun b u e z => by rw [z, hn] at e; cases e
  refine I.step (g' := s.gens) (d' := s.drawn) (ch := [it]) (fun b hb => ?_) (fun b o _ _ hc e _ => k b o (fun z => hc (by simp [z])) e) (fun b o _ _ hc e _ => ⟨o.slots, k b o (fun z => hc (by simp [z])) e⟩) (fun _ _ _ _ n => n)
    (fun b o hc e => ⟨o, k b o (fun z => hc (by simp [z])) e⟩) (fun _ _ e => e) (fun _ _ _ e => e) (fun b ps e => ⟨#[], by rw [e]; simp⟩) (fun m hm => ?_) (fun b u e => ?_) I.bare
  · have e : b = it := by simpa using hb
    subst e
    exact ⟨h1, hL, h2, h3⟩
  · obtain ⟨o, es, ep, ho, r⟩ := hm
    exact ⟨o, es, ep, k _ o (Ne.symm hL) ho, r⟩
  · refine (I.hok b u e).stay (fun c v hc q => k c v ?_ q) (fun _ q => q) fun _ _ q => q
    rcases hc with z | z
    · rw [z]; exact nit b u e
    · exact nit c _ z
theorem Inv.tok (I : Inv X pins σ H s) (t : Nat) : Inv X pins σ H { s with toks := t } := I.un (h' := s.heap) (t' := t) Un.refl I.hok
theorem Inv.kept {t' : Nat} (I : Inv X pins σ H s) (k : ∀ b u, s.heap.get? b = some u → h'.get? b = some u) : Inv X pins σ H { s with heap := h', toks := t' } := I.un (Un.kept k) (I.hok.kept k)
theorem Inv.laid {a : Addr} {o : HO} {t' : Nat} (I : Inv X pins σ H s) (k : ∀ b u, s.heap.get? b = some u → h'.get? b = some u) (hp : s.heap.objs.size ≤ a) (new : ObjOk X.prog X.w (upd H a o) h' a o) :
    Inv X pins σ (upd H a o) { s with heap := h', toks := t' } := I.un (Un.laid k hp (I.hok.fresh hp)) (I.hok.laid k hp new)
theorem Inv.write {x e : Addr} {o : HO} {t' : Nat} (I : Inv X pins σ H s) (mu : Mut (H x)) (he : e = x ∨ H e = some (.own x)) (k : ∀ b u, b ≠ e → s.heap.get? b = some u → h'.get? b = some u) (heo : ∃ u, h'.get? e = some u)
    (new : ObjOk X.prog X.w (upd H x o) h' x o) : Inv X pins σ (upd H x o) { s with heap := h', toks := t' } := I.un (Un.write mu he k heo) (I.hok.write mu he k heo new)
theorem Inv.pins_of {pins' : List (Addr × Obj)} (I : Inv X pins σ H s) (h : ∀ p ∈ pins', s.heap.get? p.1 = some p.2 ∧ H p.1 = none ∧ p.1 ≠ X.env.locals ∧ p.1 ∉ X.fs ∧ ∀ v, p.2.data ≠ .cell v) : Inv X pins' σ H s :=
  ⟨I.ok, I.os, I.bare, I.base, I.loc, I.cell, I.free, I.freeC, fun p hp => (List.mem_append.mp hp).elim (fun z => I.pin p (List.mem_append_left _ z)) (h p), I.hok, I.len⟩
theorem nodup_ix {N : List Str} (hN : N.Nodup) {i j : Nat} {x : Str} (a : N[i]? = some x) (b : N[j]? = some x) : i = j := by
  obtain ⟨h1, e1⟩ := List.getElem?_eq_some_iff.mp a
  obtain ⟨h2, e2⟩ := List.getElem?_eq_some_iff.mp b
  exact (List.getElem_inj hN).mp (e1.trans e2.symm)
theorem store_ok2 {M : Model} {A : Around} {E : Value → Shared → Prop} {i : Nat} {x : Str} {v : V} {u : Value} {Q : Unit → Shared → Prop} (I : Inv X pins σ H s) (hN : X.N.Nodup) (hi : X.N[i]? = some x) (hx : Loc X.env.scope x) (r : RelV v u)
    (h : ∀ s', Inv X pins (σ.set i (some v)) H s' → (∃ a, Heap.SameBut a s.heap s'.heap ∧ (a = X.env.locals ∨ X.env.cells.lookup x = some a)) → Q () s') (hf : X.fn x = true ∨ X.env.scope.names.lookup x = some .local := by first | exact .inl rfl | exact .inr rfl | assumption) : wpAny M A (storeName X.env x u) Q E s := by
  obtain ⟨m, hn, hl⟩ := id I.loc
  have hcls : (X.env.scope.kind == .class || (X.env.scope.kind == .module && X.env.locals != X.env.globals)) = false := by rw [I.ok.kind]; rfl
  have hiσ : i < σ.length := by rw [I.len]; exact (List.getElem?_eq_some_iff.mp hi).1
  have cne := I.cne
  have tracked : ∀ {a : Addr} {h' : Heap}, (∃ o, s.heap.get? a = some o ∧ H a = none) → Heap.SameBut a s.heap h' → HOk X.prog X.w H h' := fun {a h'} ha hs b ob e => by
    obtain ⟨_, _, hfree⟩ := ha
    refine (I.hok b ob e).stay (fun c w' hc q => (hs.2 c ?_).trans q) (fun _ q => q) fun _ _ q => q
    rintro rfl
    rcases hc with rfl | hc
    · rw [hfree] at e; cases e
    · rw [hfree] at hc; cases hc
  rcases hx with hk | hk
  · refine wpAny_storeName_local hk hn (fun h' hn' hs => ?_) hcls
    obtain ⟨oL, _, _, hoL, _⟩ := id hn
    refine h _ ⟨I.ok, I.os, I.bare, ⟨fun b o e n hb hx => ?_, fun b o e n hb hx => ?_, I.base.free, fun b o e hx => ?_, I.base.tups, I.base.frzs, I.base.tbls⟩, ⟨_, hn', fun j y v' e1 e2 e3 => ?_⟩, fun y c e => ?_, I.free, I.freeC, fun p hp => ?_, tracked ⟨oL, hoL, I.free⟩ hs, by simpa using I.len⟩ ⟨_, hs, .inl rfl⟩
    · exact (hs.2 b (Nat.ne_of_lt (Nat.lt_of_lt_of_le (Heap.lt_size e) I.ok.above))).trans (I.base.keep b o e n hb hx)
    · obtain ⟨sl, e1⟩ := I.base.slot b o e n hb hx
      exact ⟨sl, (hs.2 b (Nat.ne_of_lt (Nat.lt_of_lt_of_le (Heap.lt_size e) I.ok.above))).trans e1⟩
    · obtain ⟨o', e1⟩ := I.base.there b o e hx
      exact ⟨o', (hs.2 b (Nat.ne_of_lt (Nat.lt_of_lt_of_le (Heap.lt_size e) I.ok.above))).trans e1⟩
    · by_cases hj : j = i
      · subst hj
        rw [hi] at e1; cases e1
        rw [List.getElem?_set_self hiσ] at e2
        cases e2
        exact ⟨u, r, .inl ⟨hk, by simp⟩⟩
      · rw [List.getElem?_set_ne (Ne.symm hj)] at e2
        obtain ⟨u', r', q⟩ := hl j y v' e1 e2 e3
        refine ⟨u', r', ?_⟩
        rcases q with ⟨k, e⟩ | ⟨k, c, e, z⟩
        · refine .inl ⟨k, ?_⟩
          have : y ≠ x := fun e => hj (nodup_ix hN e1 (e ▸ hi))
          simp [this, e]
        · exact .inr ⟨k, c, e, z.sameBut hs (cne y c e)⟩
    · obtain ⟨w', z⟩ := I.cell y c e
      exact ⟨w', z.sameBut hs (cne y c e)⟩
    · obtain ⟨e, n, ne, nf, d⟩ := I.pin p hp
      exact ⟨(hs.2 p.1 ne).trans e, n, ne, nf, d⟩
  · have hfn : X.fn x = true := by
      rcases hf with z | z
      · exact z
      · rw [z] at hk; cases hk
    obtain ⟨c, hc⟩ := I.ok.has x (.inl hk)
    obtain ⟨w', z⟩ := I.cell x c hc
    refine wpAny_storeName_cell I.ok.kind hk hc z (fun h' hc' hs => ?_)
    obtain ⟨oc, hoc, hocd⟩ := id z
    refine h { s with heap := h' } ⟨I.ok, I.os, I.bare, ⟨fun b o e n hb hx => ?_, fun b o e n hb hx => ?_, I.base.free, fun b o e hx => ?_, I.base.tups, I.base.frzs, I.base.tbls⟩, ⟨m, hn.sameBut hs (Ne.symm (cne x c hc)), fun j y v' e1 e2 e3 => ?_⟩, fun y c' e => ?_, I.free, I.freeC, fun p hp => ?_, tracked ⟨oc, hoc, I.freeC x c hc⟩ hs, by simpa using I.len⟩ ⟨c, hs, .inr hc⟩
    · exact (hs.2 b (Nat.ne_of_lt (Nat.lt_of_lt_of_le (Heap.lt_size e) (I.ok.cab x c hfn hc)))).trans (I.base.keep b o e n hb hx)
    · obtain ⟨sl, e1⟩ := I.base.slot b o e n hb hx
      exact ⟨sl, (hs.2 b (Nat.ne_of_lt (Nat.lt_of_lt_of_le (Heap.lt_size e) (I.ok.cab x c hfn hc)))).trans e1⟩
    · obtain ⟨o', e1⟩ := I.base.there b o e hx
      exact ⟨o', (hs.2 b (Nat.ne_of_lt (Nat.lt_of_lt_of_le (Heap.lt_size e) (I.ok.cab x c hfn hc)))).trans e1⟩
    · by_cases hj : j = i
      · subst hj
        rw [hi] at e1; cases e1
        rw [List.getElem?_set_self hiσ] at e2
        cases e2
        exact ⟨u, r, .inr ⟨.inl hk, c, hc, hc'⟩⟩
      · rw [List.getElem?_set_ne (Ne.symm hj)] at e2
        obtain ⟨u', r', q⟩ := hl j y v' e1 e2 e3
        refine ⟨u', r', ?_⟩
        rcases q with q | ⟨k, c', e, z'⟩
        · exact .inl q
        · refine .inr ⟨k, c', e, z'.sameBut hs ?_⟩
          rintro rfl
          exact hj (nodup_ix hN e1 (I.ok.inj _ _ _ e hc ▸ hi))
    · by_cases hcc : c' = c
      · subst hcc; exact ⟨_, hc'⟩
      · obtain ⟨w2, z2⟩ := I.cell y c' e
        exact ⟨w2, z2.sameBut hs hcc⟩
    · obtain ⟨e, n, ne, nf, d⟩ := I.pin p hp
      refine ⟨(hs.2 p.1 ?_).trans e, n, ne, nf, d⟩
      intro q
      rw [q, hoc] at e
      have q' : oc = p.2 := Option.some.inj e
      exact d w' (by rw [← q']; exact hocd)
theorem store_ok {M : Model} {A : Around} {E : Value → Shared → Prop} {i : Nat} {x : Str} {v : V} {u : Value} {Q : Unit → Shared → Prop} (I : Inv X pins σ H s) (hN : X.N.Nodup) (hi : X.N[i]? = some x) (hx : Loc X.env.scope x) (r : RelV v u)
    (h : ∀ s', Inv X pins (σ.set i (some v)) H s' → Q () s') (hf : X.fn x = true ∨ X.env.scope.names.lookup x = some .local := by first | exact .inl rfl | exact .inr rfl | assumption) : wpAny M A (storeName X.env x u) Q E s :=
  store_ok2 I hN hi hx r (fun s' I' _ => h s' I') hf
theorem Inv.call' {s' : Shared} {ch : List Addr} (I : Inv X pins σ H s) (ho : s'.os = s.os) (u : Un (frs X.stack) ch H H' s.heap s'.heap) (hok : HOk X.prog X.w H' s'.heap) (hg : AllBare s'.gens)
    (hch : ∀ b ∈ ch, (b ∈ X.ex ∨ X.s₀.heap.objs.size ≤ b) ∧ b ≠ X.env.locals ∧ (∀ x c, X.env.cells.lookup x = some c → c ≠ b) ∧ ∀ p ∈ X.pn ++ pins, p.1 ≠ b) : Inv X pins σ H' s' := by
  obtain ⟨h', g', d', t', o'⟩ := s'
  have e : o' = s.os := ho
  subst e
  exact I.call (g' := g') (t' := t') (d' := d') u hok hg hch
end
noncomputable abbrev XK := Value → Option Addr → Hp → Prop
noncomputable abbrev St := List (Option V)
noncomputable abbrev VK := V → Hp → Prop
noncomputable abbrev TE := St → Hp → VK → Prop
noncomputable abbrev TT := St → Hp → (Bool → Hp → Prop) → Prop
noncomputable abbrev TA := St → Hp → (List V → Hp → Prop) → Prop
structure Ends where
  nx : St → Hp → Prop
  rt : VK
  bk : St → Hp → Prop := fun _ _ => False
  ct : St → Hp → Prop := fun _ _ => False
noncomputable abbrev TS := Ends → St → Hp → Prop
noncomputable def EP (X : Cx) (pins : List (Addr × Obj)) (σ : St) (Q : VK) (u : Value) (s' : Shared) : Prop := ∃ v H', Inv X pins σ H' s' ∧ RelV v u ∧ Q v H'
noncomputable def TP (X : Cx) (pins : List (Addr × Obj)) (σ : St) (Q : Bool → Hp → Prop) (b : Bool) (s' : Shared) : Prop := ∃ H', Inv X pins σ H' s' ∧ Q b H'
noncomputable def AP (X : Cx) (pins : List (Addr × Obj)) (σ : St) (Q : List V → Hp → Prop) (us : List Value) (s' : Shared) : Prop := ∃ vs H', Inv X pins σ H' s' ∧ Vals vs us ∧ Q vs H'
noncomputable def SP (X : Cx) (pins : List (Addr × Obj)) (D : Ends) (f : Flow) (s' : Shared) : Prop :=
  match f with
  | .next => ∃ σ' H', Inv X pins σ' H' s' ∧ D.nx σ' H'
  | .brk => ∃ σ' H', Inv X pins σ' H' s' ∧ D.bk σ' H'
  | .cont => ∃ σ' H', Inv X pins σ' H' s' ∧ D.ct σ' H'
  | .ret u => ∃ v σ' H', Inv X pins σ' H' s' ∧ RelV v u ∧ D.rt v H'
noncomputable def PE (X : Cx) (e : Expr) (t : TE) : Prop :=
  ∀ (pins : List (Addr × Obj)) (s : Shared) (σ : St) (H : Hp) (Q : VK), Inv X pins σ H s → t σ H Q → wpAny (model X.prog X.w) X.A (eval e X.env) (EP X pins σ Q) X.xe s
noncomputable def PT (X : Cx) (e : Expr) (t : TT) : Prop :=
  ∀ (pins : List (Addr × Obj)) (s : Shared) (σ : St) (H : Hp) (Q : Bool → Hp → Prop), Inv X pins σ H s → t σ H Q → wpAny (model X.prog X.w) X.A (isTrue e X.env (eval e X.env)) (TP X pins σ Q) X.xe s
noncomputable def PW (X : Cx) (e : Expr) (t : TT) : Prop :=
  ∀ (whole : Sem Value) (pins : List (Addr × Obj)) (s : Shared) (σ : St) (H : Hp) (Q : Bool → Hp → Prop), Inv X pins σ H s → t σ H Q → wpAny (model X.prog X.w) X.A (isTrue e X.env whole) (TP X pins σ Q) X.xe s
theorem PW.pt {X : Cx} {e : Expr} {t : TT} (h : PW X e t) : PT X e t := h _
noncomputable def PA (X : Cx) (es : List Expr) (t : TA) : Prop :=
  ∀ (pos : Pos) (pins : List (Addr × Obj)) (s : Shared) (σ : St) (H : Hp) (Q : List V → Hp → Prop), Inv X pins σ H s → t σ H Q → wpAny (model X.prog X.w) X.A (spliced (backTo pos (starEach es X.env))) (AP X pins σ Q) X.xe s
noncomputable def PS (X : Cx) (st : Stmt) (t : TS) : Prop :=
  ∀ (pins : List (Addr × Obj)) (s : Shared) (σ : St) (H : Hp) (D : Ends), Inv X pins σ H s → t D σ H → wpAny (model X.prog X.w) X.A (exec st X.env) (SP X pins D) X.xe s
noncomputable def PSs (X : Cx) (st : List Stmt) (t : TS) : Prop :=
  ∀ (pins : List (Addr × Obj)) (s : Shared) (σ : St) (H : Hp) (D : Ends), Inv X pins σ H s → t D σ H → wpAny (model X.prog X.w) X.A (execs st X.env) (SP X pins D) X.xe s
theorem thn {α : Type} {t : Sem α} {Q Q' : α → Shared → Prop} {M : Model} {A : Around} {E : Value → Shared → Prop} {s : Shared} (h : wpAny M A t Q E s) (hQ : ∀ a s, Q a s → Q' a s) : wpAny M A t Q' E s := wpAny_mono h hQ fun _ _ x => x
end L2
namespace L2
open PySem PySem.Spec PyProof.Rows
section
variable {X : Cx}
noncomputable def tVar (i : Nat) : TE := fun σ H Q => ∃ v, σ[i]? = some (some v) ∧ Q v H
noncomputable def tC (v : V) : TE := fun _ H Q => Q v H
theorem pe_var {i : Nat} {x : Str} {pos : Pos} (hN : X.N[i]? = some x) (hv : Vis X.env.scope x) (hd : (x == ("__debug__" : Str)) = false := by decide) (hcd : (x == ("__classdict__" : Str)) = false := by decide) : PE X (.Name x pos) (tVar i) := by
  intro pins s σ H Q I h
  obtain ⟨v, e, h⟩ := h
  obtain ⟨m, hn, hl⟩ := I.loc
  obtain ⟨u, r, l⟩ := hl i x v hN e hv
  have fin : EP X pins σ Q u s := ⟨v, H, I, r, h⟩
  rcases l with ⟨hk, hm⟩ | ⟨hk, c, hc, hcell⟩
  · exact wpAny_Name (wpAny_loadName_local I.ok.kind hk hn hm fin) hd
  · rcases hk with hk | hk
    · exact wpAny_Name (wpAny_loadName_cell I.ok.kind hk hc hcell fin) hd
    · exact wpAny_Name (wpAny_loadName_free I.ok.kind hk hc hcell fin hcd) hd
theorem pe_int {i j pos} : PE X (.Constant (.int i) j pos) (tC (.int i)) := fun _ _ _ H _ I h => wpAny_Constant_int ⟨.int i, H, I.tok _, ⟨_, rfl⟩, h⟩
theorem pe_bl {b j pos} : PE X (.Constant (.bool b) j pos) (tC (.bl b)) := fun _ _ _ H _ I h => Constant_bool ⟨.bl b, H, I, rfl, h⟩
theorem pe_non {j pos} : PE X (.Constant .none j pos) (tC .non) := fun _ _ _ H _ I h => Constant_none ⟨.non, H, I, rfl, h⟩
noncomputable def Gl (X : Cx) (x : Str) : Prop := X.env.kindOf x = some .globalImplicit
theorem ld_glob {E : Value → Shared → Prop} {pins : List (Addr × Obj)} {s : Shared} {σ : St} {H : Hp} {x : Str} {u : Value} {pos : Pos} {Q : Value → Shared → Prop} (I : Inv X pins σ H s) (hg : Gl X x) (hm : X.mg x = some u) (h : Q u s)
    (hd : (x == ("__debug__" : Str)) = false := by decide) : wpAny (model X.prog X.w) X.A (eval (.Name x pos) X.env) Q E s :=
  Calls.Name_function_global I.ok.kind hg (Calls.loadGlobal_global (by rw [I.ok.glob]; exact I.mod.glob.keeps I.bk) hm h) hd
theorem ld_blt {E : Value → Shared → Prop} {pins : List (Addr × Obj)} {s : Shared} {σ : St} {H : Hp} {x : Str} {u : Value} {pos : Pos} {Q : Value → Shared → Prop} (I : Inv X pins σ H s) (hg : Gl X x) (hm : X.mg x = none) (hv : bootBuiltins x = some u) (h : Q u s)
    (hn : x ≠ "__name__" := by decide) (hd : (x == ("__debug__" : Str)) = false := by decide) : wpAny (model X.prog X.w) X.A (eval (.Name x pos) X.env) Q E s := by
  obtain ⟨mb, h1, h2⟩ := I.mod.blt
  exact Calls.Name_function_global I.ok.kind hg (Calls.loadGlobal_builtin (by rw [I.ok.glob]; exact I.mod.glob.keeps I.bk) hm (by rw [I.ok.blt]; exact h1.keeps I.bk) ((h2 x hn).trans hv) h) hd
theorem pe_glob {x : Str} {v : V} {u : Value} {pos : Pos} (hg : Gl X x) (hm : X.mg x = some u) (r : RelV v u) (hd : (x == ("__debug__" : Str)) = false := by decide) : PE X (.Name x pos) (tC v) :=
  fun _ _ _ H _ I h => ld_glob I hg hm ⟨v, H, I, r, h⟩ hd
variable {a b : Expr} {ta tb : TE} {pos : Pos}
noncomputable def tB (t : TE) : TT := fun σ H Q => t σ H fun x H1 => ∃ c, x = .bl c ∧ Q c H1
theorem pt_val {e : Expr} {t : TE} (h : PE X e t) (he : ∀ whole, isTrue e X.env whole = (do let v ← whole; standAt e.pos; holding [v] (truthy v)) := by intro _; rfl) : PT X e (tB t) := by
  intro pins s σ H Q I hw
  refine isTrue_plain (thn (h pins s σ H _ I hw) fun v s1 ⟨x, H1, I1, r1, q1⟩ => ?_) (he _)
  obtain ⟨d, rfl, q⟩ := q1
  cases r1
  exact wpAny_truthy_bool ⟨H1, I1, q⟩
variable {tA tB' : TT} {rest : List Expr}
noncomputable def tAnd (t u : TT) : TT := fun σ H Q => t σ H fun c H1 => if c = true then u σ H1 Q else Q false H1
noncomputable def tOr (t u : TT) : TT := fun σ H Q => t σ H fun c H1 => if c = true then Q true H1 else u σ H1 Q
noncomputable def tNot (t : TT) : TT := fun σ H Q => t σ H fun c H1 => Q (!c) H1
theorem pw_and1 (ha : PT X a tA) : PW X (.BoolOp .And [a] pos) tA := by
  intro wh pins s σ H Q I h
  refine isTrue_and (thn (ha pins s σ H Q I h) fun c s1 e => ?_)
  cases c with
  | true => exact isTrue_and_nil e
  | false => exact e
theorem pw_or1 (ha : PT X a tA) : PW X (.BoolOp .Or [a] pos) tA := by
  intro wh pins s σ H Q I h
  refine isTrue_or (thn (ha pins s σ H Q I h) fun c s1 e => ?_)
  cases c with
  | false => exact isTrue_or_nil e
  | true => exact e
theorem pw_and (ha : PT X a tA) (hb : PW X (.BoolOp .And (b :: rest) pos) tB') : PW X (.BoolOp .And (a :: b :: rest) pos) (tAnd tA tB') := by
  intro wh pins s σ H Q I h
  refine isTrue_and (thn (ha pins s σ H _ I h) fun c s1 ⟨H1, I1, q1⟩ => ?_)
  cases c with
  | true => exact hb wh pins s1 σ H1 Q I1 q1
  | false => exact ⟨H1, I1, q1⟩
theorem pw_or (ha : PT X a tA) (hb : PW X (.BoolOp .Or (b :: rest) pos) tB') : PW X (.BoolOp .Or (a :: b :: rest) pos) (tOr tA tB') := by
  intro wh pins s σ H Q I h
  refine isTrue_or (thn (ha pins s σ H _ I h) fun c s1 ⟨H1, I1, q1⟩ => ?_)
  cases c with
  | true => exact ⟨H1, I1, q1⟩
  | false => exact hb wh pins s1 σ H1 Q I1 q1
theorem pt_not (ha : PT X a tA) : PT X (.UnaryOp .Not a pos) (tNot tA) := by
  intro pins s σ H Q I h
  exact isTrue_not (ha pins s σ H (fun c H1 => Q (!c) H1) I h)
noncomputable def tAndV (ta tb : TE) : TE := fun σ H Q => ta σ H fun x H1 => ∃ c, x = .bl c ∧ if c = true then tb σ H1 Q else Q (.bl false) H1
noncomputable def tOrV (ta tb : TE) : TE := fun σ H Q => ta σ H fun x H1 => ∃ c, x = .bl c ∧ if c = true then Q (.bl true) H1 else tb σ H1 Q
noncomputable def tNotV (ta : TE) : TE := fun σ H Q => ta σ H fun x H1 => ∃ c, x = .bl c ∧ Q (.bl (!c)) H1
noncomputable def tIf (t : TT) (ta tb : TE) : TE := fun σ H Q => t σ H fun c H1 => if c = true then ta σ H1 Q else tb σ H1 Q
theorem pe_ifExp {c : Expr} (hc : PT X c tA) (ha : PE X a ta) (hb : PE X b tb) : PE X (.IfExp c a b pos) (tIf tA ta tb) := by
  intro pins s σ H Q I h
  refine wpAny_IfExp (thn (hc pins s σ H _ I h) fun d s1 ⟨H1, I1, q1⟩ => ?_)
  cases d with
  | true => exact ha pins s1 σ H1 Q I1 q1
  | false => exact hb pins s1 σ H1 Q I1 q1
end
end L2
namespace L2
open PySem PySem.Spec PyProof.Rows
noncomputable def SqL (K : PySem.W.Frag) (H : Hp) (a : Addr) (xs : List V) : Prop :=
  Rd H a (.lst xs) ∨
    ∃ (o : Obj) (its : Array Value) (n : Nat), K.lookup a = some o ∧ o.cls = .type "list" ∧ o.dict = none ∧ o.data = .seq its n ∧ its.size ≤ sizeLine ∧ Vals xs its.toList
noncomputable def SqT (K : PySem.W.Frag) (H : Hp) (a : Addr) (xs : List V) : Prop :=
  Rd H a (.tup xs) ∨
    ∃ (o : Obj) (its : Array Value) (n : Nat), K.lookup a = some o ∧ o.cls = .type "tuple" ∧ o.data = .seq its n ∧ its.size ≤ sizeLine ∧ Vals xs its.toList
noncomputable def absV : Value → Option V
  | .none => some .non
  | .bool b => some (.bl b)
  | .int i _ => some (.int i)
  | .str x _ => some (.str x)
  | .bytes b _ => some (.byt b)
  | .float b _ => some (.flt b)
  | .ref a => some (.ref a)
  | .type n => some (.ty n)
  | _ => none
theorem RelV.abs {x : V} {u : Value} (r : RelV x u) : absV u = some x := by
  cases x with
  | non => cases r; rfl
  | bl _ => cases r; rfl
  | int _ => obtain ⟨t, rfl⟩ := r; rfl
  | str _ => obtain ⟨t, rfl⟩ := r; rfl
  | byt _ => obtain ⟨t, rfl⟩ := r; rfl
  | flt _ => obtain ⟨t, rfl⟩ := r; rfl
  | ref _ => cases r; rfl
  | ty _ => cases r; rfl
theorem RelV.inj {x y : V} {u : Value} (r : RelV x u) (q : RelV y u) : x = y := Option.some.inj (r.abs.symm.trans q.abs)
theorem Vals.inj : ∀ {xs ys : List V} {us : List Value}, Vals xs us → Vals ys us → xs = ys
  | _, _, _, .nil, .nil => rfl
  | _, _, _, .cons r t, .cons r' t' => by rw [r.inj r', Vals.inj t t']
section
variable {X : Cx} {pins : List (Addr × Obj)} {σ : St} {H : Hp} {s : Shared} {a : Addr} {xs ys : List V}
theorem SqL.of {K : PySem.W.Frag} (h : H a = some (.lst xs)) : SqL K H a xs := .inl (.inl h)
theorem SqT.of {K : PySem.W.Frag} (h : H a = some (.tup xs)) : SqT K H a xs := .inl (.inl h)
theorem Inv.list (I : Inv X pins σ H s) (h : SqL X.K H a xs) : ∃ its : List Value, Vals xs its ∧ PlainL s.heap a its.toArray ∧ xs.length ≤ sizeLine := by
  rcases h with h | ⟨o, its, n, hk, hc, hd, hs, hz, r⟩
  · obtain ⟨z, its, n, r, e⟩ := h.ok I.hok
    exact ⟨its, r, ⟨_, n, e, rfl, rfl, rfl⟩, z⟩
  · refine ⟨its.toList, r, ⟨o, n, I.kIn a o hk, hc, hd, by simpa using hs⟩, ?_⟩
    have e := r.length
    simp only [Array.length_toList] at e
    lia
theorem Inv.tuple (I : Inv X pins σ H s) (h : SqT X.K H a xs) : ∃ its : List Value, Vals xs its ∧ IsTup s.heap a its.toArray ∧ xs.length ≤ sizeLine := by
  rcases h with h | ⟨o, its, n, hk, hc, hs, hz, r⟩
  · obtain ⟨z, its, r, p⟩ := h.ok I.hok
    exact ⟨its, r, p, z⟩
  · refine ⟨its.toList, r, ⟨o, I.kIn a o hk, hc, n, by simpa using hs⟩, ?_⟩
    have e := r.length
    simp only [Array.length_toList] at e
    lia
theorem Inv.list_inj (I : Inv X pins σ H s) (h : SqL X.K H a xs) (h' : SqL X.K H a ys) : xs = ys := by
  obtain ⟨its, r, ⟨o, n, e, _, _, d⟩, _⟩ := I.list h
  obtain ⟨its', r', ⟨o', n', e', _, _, d'⟩, _⟩ := I.list h'
  rw [e] at e'; cases e'
  rw [d] at d'
  injection d' with d1 _
  have : its = its' := by simpa using congrArg Array.toList d1
  subst this
  exact r.inj r'
end
noncomputable abbrev Cx.wish (X : Cx) (E : Value → Shared → Prop) : Cx := { X with xe := E }
noncomputable abbrev Cx.nox (X : Cx) : Cx := X.wish fun _ _ => False
theorem Cx.Ok.wish {X : Cx} (ok : X.Ok) (E : Value → Shared → Prop) : (X.wish E).Ok :=
  ⟨ok.mod, ok.kind, ok.glob, ok.blt, ok.above, ok.inj, ok.has, ok.cab, ok.hd, ok.frames, ok.stk, ok.exf, ok.bs, ok.bsz, ok.noex, ok.exfs, ok.funs, ok.frf⟩
theorem Cx.Ok.unwish {X : Cx} {E : Value → Shared → Prop} (ok : (X.wish E).Ok) : X.Ok :=
  ⟨ok.mod, ok.kind, ok.glob, ok.blt, ok.above, ok.inj, ok.has, ok.cab, ok.hd, ok.frames, ok.stk, ok.exf, ok.bs, ok.bsz, ok.noex, ok.exfs, ok.funs, ok.frf⟩
section
variable {X : Cx} {pins : List (Addr × Obj)} {σ : St} {H : Hp} {s : Shared} {E : Value → Shared → Prop}
theorem Inv.wish (I : Inv X pins σ H s) (E : Value → Shared → Prop) : Inv (X.wish E) pins σ H s := ⟨I.ok.wish E, I.os, I.bare, I.base, I.loc, I.cell, I.free, I.freeC, I.pin, I.hok, I.len⟩
theorem Inv.unwish (I : Inv (X.wish E) pins σ H s) : Inv X pins σ H s := ⟨I.ok.unwish, I.os, I.bare, I.base, I.loc, I.cell, I.free, I.freeC, I.pin, I.hok, I.len⟩
theorem SP.unwish {D : Ends} {f : Flow} {s' : Shared} (h : SP (X.wish E) pins D f s') : SP X pins D f s' := by
  cases f with
  | next => obtain ⟨σ', H', I, q⟩ := h; exact ⟨σ', H', I.unwish, q⟩
  | brk => obtain ⟨σ', H', I, q⟩ := h; exact ⟨σ', H', I.unwish, q⟩
  | cont => obtain ⟨σ', H', I, q⟩ := h; exact ⟨σ', H', I.unwish, q⟩
  | ret u => obtain ⟨v, σ', H', I, r, q⟩ := h; exact ⟨v, σ', H', I.unwish, r, q⟩
theorem PSs.nox {st : List Stmt} {t : TS} (h : PSs X.nox st t) : PSs X st t := fun pins s σ H D I hw =>
  wpAny_mono (h pins s σ H D (I.wish _) hw) (fun _ _ q => q.unwish) fun _ _ z => False.elim z
end
section
variable {X : Cx} {st : Stmt} {rest : List Stmt} {t u : TS} {e : Expr} {te : TE} {pos : Pos}
noncomputable def tNext : TS := fun D σ H => D.nx σ H
noncomputable def tSeq (t u : TS) : TS := fun D σ H => t { D with nx := u D } σ H
theorem pss_nil : PSs X [] tNext := fun _ _ σ H _ I h => wpAny_execs_nil ⟨σ, H, I, h⟩
theorem pss_cons (h1 : PS X st t) (h2 : PSs X rest u) : PSs X (st :: rest) (tSeq t u) := by
  intro pins s σ H D I h
  refine wpAny_execs_cons (thn (h1 pins s σ H { D with nx := u D } I h) fun f s1 q => ?_)
  cases f with
  | next =>
    obtain ⟨σ', H', I', q⟩ := q
    exact h2 pins s1 σ' H' D I' q
  | ret v => exact q
  | brk => exact q
  | cont => exact q
theorem pss_one (h1 : PS X st t) : PSs X [st] t := by
  intro pins s σ H D I h
  refine wpAny_execs_cons (thn (h1 pins s σ H D I h) fun f s1 q => ?_)
  cases f with
  | next => exact wpAny_execs_nil q
  | ret v => exact q
  | brk => exact q
  | cont => exact q
theorem Inv.quiet {pins : List (Addr × Obj)} {σ : St} {H : Hp} {s : Shared} (I : Inv X pins σ H s) : interactive X.env = false := by simp [interactive, I.ok.kind]
noncomputable def tDrop (te : TE) : TS := fun D σ H => te σ H fun _ H1 => D.nx σ H1
theorem ps_expr (he : PE X e te) (hs : swapsWith e none pos.line X.env = pure false := by rfl) : PS X (.Expr e pos) (tDrop te) := by
  intro pins s σ H D I h
  exact wpAny_Expr_any (thn (he pins s σ H _ I h) fun v s1 ⟨x, H1, I1, r1, q1⟩ => ⟨σ, H1, I1, q1⟩) I.quiet hs
noncomputable def tRet (te : TE) : TS := fun D σ H => te σ H D.rt
theorem ps_ret (he : PE X e te) : PS X (.Return (some e) pos) (tRet te) := by
  intro pins s σ H D I h
  exact wpAny_Return_some (thn (he pins s σ H _ I h) fun v s1 ⟨x, H1, I1, r1, q1⟩ => ⟨x, σ, H1, I1, r1, q1⟩)
noncomputable def tIfS (c : TT) (t u : TS) : TS := fun D σ H => c σ H fun b H1 => if b = true then t D σ H1 else u D σ H1
theorem ps_if {c : Expr} {a b : List Stmt} {tc : TT} (hc : PT X c tc) (ha : PSs X a t) (hb : PSs X b u) : PS X (.If c a b pos) (tIfS tc t u) := by
  intro pins s σ H D I h
  refine wpAny_If (thn (hc pins s σ H _ I h) fun d s1 ⟨H1, I1, q1⟩ => ?_)
  cases d with
  | true => exact ha pins s1 σ H1 D I1 q1
  | false => exact hb pins s1 σ H1 D I1 q1
noncomputable def tNever : TS := fun _ _ _ => False
theorem ps_never : PS X st tNever := fun _ _ _ _ _ _ h => h.elim
end
noncomputable abbrev TG := V → St → Hp → (St → Hp → Prop) → Prop
noncomputable abbrev TGs := List V → St → Hp → (St → Hp → Prop) → Prop
noncomputable def PG (X : Cx) (target : Expr) (t : TG) : Prop :=
  ∀ (pins : List (Addr × Obj)) (s : Shared) (σ : St) (H : Hp) (v : V) (u : Value) (Q : St → Hp → Prop), Inv X pins σ H s → RelV v u → t v σ H Q →
    wpAny (model X.prog X.w) X.A (assign target X.env u) (fun _ s' => ∃ σ' H', Inv X pins σ' H' s' ∧ Q σ' H') X.xe s
noncomputable def PGs (X : Cx) (ts : List Expr) (t : TGs) : Prop :=
  ∀ (pins : List (Addr × Obj)) (s : Shared) (σ : St) (H : Hp) (vs : List V) (us : List Value) (Q : St → Hp → Prop), Inv X pins σ H s → Vals vs us → t vs σ H Q →
    wpAny (model X.prog X.w) X.A (assignInOrder ((assignEach ts X.env).map (·.2)) us) (fun _ s' => ∃ σ' H', Inv X pins σ' H' s' ∧ Q σ' H') X.xe s
noncomputable abbrev TSet := V → V → V → Hp → (Hp → Prop) → Prop
noncomputable def PSet (X : Cx) (t : TSet) : Prop :=
  ∀ (pins : List (Addr × Obj)) (s : Shared) (σ : St) (H : Hp) (o i v : V) (ov iv u : Value) (Q : Hp → Prop), Inv X pins σ H s → RelV o ov → RelV i iv → RelV v u → t o i v H Q →
    wpAny (model X.prog X.w) X.A (setItem ov iv u) (fun _ s' => ∃ H', Inv X pins σ H' s' ∧ Q H') X.xe s
section
variable {X : Cx} {pos : Pos}
noncomputable def gName (i : Nat) : TG := fun v σ H Q => Q (σ.set i (some v)) H
theorem pg_name {i : Nat} {x : Str} (hN : X.N.Nodup) (hi : X.N[i]? = some x) (hx : Loc X.env.scope x) (hf : X.fn x = true ∨ X.env.scope.names.lookup x = some .local := by first | exact .inl rfl | exact .inr rfl | assumption) : PG X (.Name x pos) (gName i) := by
  intro pins s σ H v u Q I r h
  exact wpAny_assign_Name (store_ok I hN hi hx r (fun s' I' => ⟨_, H, I', h⟩) hf)
noncomputable def gNil : TGs := fun vs σ H Q => vs = [] ∧ Q σ H
noncomputable def gCons (t : TG) (u : TGs) : TGs := fun vs σ H Q => ∃ v r, vs = v :: r ∧ t v σ H fun σ' H' => u r σ' H' Q
theorem pgs_nil : PGs X [] gNil := by
  intro pins s σ H vs us Q I r h
  obtain ⟨e, h⟩ := h
  subst e
  cases r
  exact assignInOrder_nil ⟨σ, H, I, h⟩
theorem pgs_cons {e : Expr} {es : List Expr} {t : TG} {u : TGs} (h1 : PG X e t) (h2 : PGs X es u)
    (hs : (assignEach (e :: es) X.env).map (·.2) = assign e X.env :: (assignEach es X.env).map (·.2) := by rfl) : PGs X (e :: es) (gCons t u) := by
  intro pins s σ H vs us Q I r h
  obtain ⟨v, vr, e1, h⟩ := h
  subst e1
  cases r with
  | cons r rr =>
    rw [hs]
    refine assignInOrder_cons (thn (h1 pins s σ H _ _ _ I r h) fun _ s1 ⟨σ1, H1, I1, q1⟩ => ?_)
    exact h2 pins s1 σ1 H1 _ _ Q I1 rr q1
noncomputable def gTup (K : PySem.W.Frag) (n : Nat) (t : TGs) : TG := fun v σ H Q => ∃ a xs, v = .ref a ∧ SqT K H a xs ∧ xs.length = n ∧ t xs σ H Q
theorem pg_tup {es : List Expr} {k : Nat} {t : TGs} {n : Nat} (hc : X.calm = true) (h : PGs X es t)
    (hn : (assignEach es X.env).length = n := by rfl) (hst : (assignEach es X.env).findIdx? (·.1) = none := by rfl) : PG X (.Tuple es k pos) (gTup X.K n t) := by
  intro pins s σ H v u Q I r hw
  obtain ⟨a, xs, e1, hq, hl, hw⟩ := hw
  subst e1
  cases r
  obtain ⟨its, rv, ht, hz⟩ := I.tuple hq
  refine assign_Tuple_tuple (I.ok.hd hc) ht (by simp [hn, ← hl, rv.length]) hst fun h' hx => ?_
  have I1 : Inv X pins σ H { s with heap := h' } := I.kept (t' := s.toks) fun b o e => hx b o (Nat.ne_of_lt (Heap.lt_size e)) e
  exact h pins _ σ H xs _ Q I1 (by simpa using rv) hw
noncomputable def gSub (to ti : TE) (t : TSet) : TG := fun v σ H Q => to σ H fun o H1 => ti σ H1 fun i H2 => t o i v H2 fun H3 => Q σ H3
theorem pg_sub {o i : Expr} {to ti : TE} {t : TSet} (ho : PE X o to) (hi : PE X i ti) (hs : PSet X t)
    (ha : ∀ v, assign (.Subscript o i pos) X.env v = (do
      let ov ← holding [v] (eval o X.env)
      let iv ← holding [v, ov] (eval i X.env)
      standAt pos
      holding [v, ov, iv] (setItem ov iv v)
      release [v, ov, iv] []) := by intro _; rfl) : PG X (.Subscript o i pos) (gSub to ti t) := by
  intro pins s σ H v u Q I r h
  rw [ha]
  refine wpAny_bind (wpAny_holding (thn (ho pins s σ H _ I h) fun ov s1 ⟨x, H1, I1, r1, q1⟩ => ?_))
  refine wpAny_bind (wpAny_holding (thn (hi pins s1 σ H1 _ I1 q1) fun iv s2 ⟨y, H2, I2, r2, q2⟩ => ?_))
  refine wpAny_bind (wpAny_standAt (wpAny_bind (wpAny_holding (thn (hs pins s2 σ H2 x y v ov iv u _ I2 r1 r2 r q2) fun _ s3 ⟨H3, I3, q3⟩ => ?_))))
  exact wpAny_release ⟨σ, H3, I3, q3⟩
noncomputable def tAsg (te : TE) (g : TG) : TS := fun D σ H => te σ H fun x H1 => g x σ H1 D.nx
theorem ps_asg {tg e : Expr} {te : TE} {g : TG} (he : PE X e te) (hg : PG X tg g) (hs : swapsWithSole [tg] e pos.line X.env = pure false := by rfl) (hw : swappedStores [tg] e X.env = pure none := by rfl)
    (h1 : (assignEach [tg] X.env).map (·.2) = [assign tg X.env] := by rfl) : PS X (.Assign [tg] e pos) (tAsg te g) := by
  intro pins s σ H D I h
  refine wpAny_Assign_stores (thn (he pins s σ H _ I h) fun v s1 ⟨x, H1, I1, r1, q1⟩ => ?_) hs hw
  rw [h1]
  exact thn (hg pins s1 σ H1 x v _ I1 r1 q1) fun _ s2 q => q
theorem ps_set {i : Nat} {x : Str} {e : Expr} {te : TE} {pos' : Pos} (hN : X.N.Nodup) (hi : X.N[i]? = some x) (hx : Loc X.env.scope x) (he : PE X e te) (hs : swapsWith e (some (.Name x pos')) pos.line X.env = pure false := by rfl) (hf : X.fn x = true ∨ X.env.scope.names.lookup x = some .local := by first | exact .inl rfl | exact .inr rfl | assumption) :
    PS X (.Assign [.Name x pos'] e pos) (tAsg te (gName i)) := by
  intro pins s σ H D I h
  refine wpAny_Assign_Name (thn (he pins s σ H _ I h) fun v s1 ⟨y, H1, I1, r1, q1⟩ => ?_) hs
  exact store_ok I1 hN hi hx r1 (fun s2 I2 => ⟨_, H1, I2, q1⟩) hf
end
section
variable {X : Cx} {pos : Pos}
noncomputable def tWhile (c : TT) (tb : TS) : TS := fun D σ H => ∃ W : Nat → St → Hp → Prop, (∃ m, W m σ H) ∧ ∀ m σ H, W m σ H →
  c σ H fun b H1 => if b = true then ∃ N : St → Hp → Prop, (∀ σ' H', N σ' H' → ∃ m', m' < m ∧ W m' σ' H') ∧ tb { D with nx := N, ct := N, bk := D.nx } σ H1 else D.nx σ H1
theorem ps_while {c : Expr} {body : List Stmt} {tc : TT} {tb : TS} (hp : PassesOwn (model X.prog X.w) X.A X.env X.xe) (hc : PT X c tc) (hb : PSs X body tb) : PS X (.While c body [] pos) (tWhile tc tb) := by
  intro pins s σ H D I h
  obtain ⟨W, ⟨m0, w0⟩, turn⟩ := h
  refine wpAny_While (codeAny_whileLoop (fun n s' => ∃ σ' H', Inv X pins σ' H' s' ∧ W n σ' H') ?_ m0 ⟨σ, H, I, w0⟩)
  rintro n s1 ⟨σ1, H1, I1, w1⟩
  refine wpAny_passesOwn hp (thn (hc pins s1 σ1 H1 _ I1 (turn n σ1 H1 w1)) fun b s2 ⟨H2, I2, q2⟩ => ?_)
  cases b with
  | true =>
    obtain ⟨N, hN, q2⟩ := q2
    rw [if_pos rfl]
    refine wpAny_passesOwn hp (thn (hb pins s2 σ1 H2 _ I2 q2) fun f s3 q3 => ?_)
    cases f with
    | next =>
      obtain ⟨σ3, H3, I3, n3⟩ := q3
      obtain ⟨m', hm, w3⟩ := hN σ3 H3 n3
      exact ⟨m', hm, σ3, H3, I3, w3⟩
    | cont =>
      obtain ⟨σ3, H3, I3, n3⟩ := q3
      obtain ⟨m', hm, w3⟩ := hN σ3 H3 n3
      exact ⟨m', hm, σ3, H3, I3, w3⟩
    | brk => exact q3
    | ret v => exact q3
  | false =>
    rw [if_neg Bool.false_ne_true]
    exact wpAny_execs_nil ⟨σ1, H2, I2, q2⟩
end
structure It where
  go : Nat → Hp → Prop
  yld : Nat → Hp → V → Hp → Prop
  stop : Nat → Hp → Prop
noncomputable def FpOk (X : Cx) (pins : List (Addr × Obj)) (H : Hp) (b : Addr) : Prop :=
  H b = none ∧ b ≠ X.env.locals ∧ b ∉ X.fs ∧ (b ∈ X.ex ∨ X.s₀.heap.objs.size ≤ b) ∧ (∀ x c, X.env.cells.lookup x = some c → c ≠ b) ∧ ∀ p ∈ X.pn ++ pins, p.1 ≠ b
theorem Inv.fpOk {X : Cx} {pins : List (Addr × Obj)} {σ : St} {H H' : Hp} {s : Shared} {b : Addr} (I : Inv X pins σ H s) (hb : s.heap.objs.size ≤ b) (hn : H' b = none) : FpOk X pins H' b := by
  refine ⟨hn, Nat.ne_of_gt (Nat.lt_of_lt_of_le I.lt hb), I.nofs hb, .inr (Nat.le_trans I.sz hb), fun x c e z => ?_, fun p hp z => ?_⟩
  · obtain ⟨v, q⟩ := I.cell x c e
    exact absurd (Nat.lt_of_lt_of_le q.lt (by rw [z]; exact hb)) (Nat.lt_irrefl _)
  · exact absurd (Nat.lt_of_lt_of_le (Heap.lt_size (I.pin p hp).1) (by rw [z]; exact hb)) (Nat.lt_irrefl _)
structure Turn (P : Program) (w : World) (K : PySem.W.Frag) (tg : Expr) (J : It) (fp : List Addr) (it : Addr) (tn : Nat → Heap → Prop) : Prop where
  mem : it ∈ fp
  obj : ∀ i h, tn i h → ∀ b ∈ fp, ∃ o, h.get? b = some o ∧ ∀ v, o.data ≠ .cell v
  keep : ∀ i h h', tn i h → (∀ b ∈ fp, ∀ o, h.get? b = some o → h'.get? b = some o) → tn i h'
  item : ∀ (X : Cx), X.prog = P → X.w = w → X.K = K → X.calm = true → ∀ (i : Nat) (pins : List (Addr × Obj)) (s : Shared) (σ : St) (H : Hp) (E : Value → Shared → Prop), Inv X pins σ H s → (∀ b ∈ fp, FpOk X pins H b) → tn i s.heap → J.go i H →
    wpAny (model P w) X.A (pyNext (.ref it)) (fun r s1 => ∃ u, r = some u ∧
      wpAny (model P w) X.A (letOwnedTupleGo tg (.ref it) u) (fun _ s2 => ∃ x H', Inv X pins σ H' s2 ∧ RelV x u ∧ J.yld i H x H' ∧ tn (i + 1) s2.heap ∧ ∀ b ∈ fp, H' b = none) E s1) E s
  done : ∀ (X : Cx), X.prog = P → X.w = w → X.K = K → X.calm = true → ∀ (i : Nat) (pins : List (Addr × Obj)) (s : Shared) (σ : St) (H : Hp) (E : Value → Shared → Prop), Inv X pins σ H s → (∀ b ∈ fp, FpOk X pins H b) → tn i s.heap → J.stop i H →
    wpAny (model P w) X.A (pyNext (.ref it)) (fun r s1 => r = none ∧ Inv X pins σ H s1) E s
  self : ∀ (A : Around) (i : Nat) (s : Shared) (Q : Value → Shared → Prop) (E : Value → Shared → Prop), tn i s.heap → Q (.ref it) s → wpAny (model P w) A (pyIter (.ref it)) Q E s
noncomputable abbrev TI := St → Hp → (It → Hp → Prop) → Prop
noncomputable def PIE (X : Cx) (pins : List (Addr × Obj)) (σ : St) (tg : Expr) (R : It → Hp → Prop) (itv : Value) (s2 : Shared) : Prop :=
  ∃ (it : Addr) (fp : List Addr) (tn : Nat → Heap → Prop) (J : It) (H' : Hp), itv = .ref it ∧ Inv X pins σ H' s2 ∧ Turn X.prog X.w X.K tg J fp it tn ∧ tn 0 s2.heap ∧ (∀ b ∈ fp, FpOk X pins H' b) ∧ R J H'
noncomputable def PI (X : Cx) (tg iter : Expr) (wi : TI) : Prop :=
  ∀ (pins : List (Addr × Obj)) (s : Shared) (σ : St) (H : Hp) (R : It → Hp → Prop), Inv X pins σ H s → wi σ H R →
    wpAny (model X.prog X.w) X.A (eval iter X.env) (fun v s1 => wpAny (model X.prog X.w) X.A (pyIter v) (PIE X pins σ tg R) X.xe s1) X.xe s
theorem go_of {M : Model} {A : Around} {E : Value → Shared → Prop} {s : Shared} {tg : Expr} {it : Addr} {u : Value} {o : Obj} {n : String} {vs : Array Value} {Q : Unit → Shared → Prop} (ho : s.heap.get? it = some o) (hc : o.cls = .type n) (hd : o.data = .fields vs)
    (hn : ["enumerate", "zip", "dict_itemiterator", "dict_reverseitemiterator", "odict_iterator", "itertools.zip_longest", "itertools.pairwise"].contains n = false) (hQ : Q () s) : wpAny M A (letOwnedTupleGo tg (.ref it) u) Q E s := by
  unfold letOwnedTupleGo
  cases tg <;> first
    | exact wpAny_pure hQ
    | (cases u <;> first
        | exact wpAny_pure hQ
        | (refine wpAny_bind (wpAny_load ho ?_)
           rw [hc, hd]
           show wpAny M A (if (["enumerate", "zip", "dict_itemiterator", "dict_reverseitemiterator", "odict_iterator", "itertools.zip_longest", "itertools.pairwise"].contains n && vs[0]? == some (rawInt _)) = true then _ else _) Q E s
           rw [if_neg (by intro h; rw [hn, Bool.false_and] at h; cases h)]
           exact wpAny_pure hQ))
noncomputable def Itl (K : PySem.W.Frag) (a : Addr) : It :=
  ⟨fun i H => ∃ xs x, SqL K H a xs ∧ xs[i]? = some x, fun i H x H' => H' = H ∧ ∀ xs, SqL K H a xs → xs[i]? = some x, fun i H => ∃ xs, SqL K H a xs ∧ xs.length ≤ i⟩
noncomputable def Itr (lo : Int) (n : Nat) : It := ⟨fun i _ => i < n, fun i H x H' => H' = H ∧ x = .int (lo + i), fun i _ => n ≤ i⟩
theorem turn_list {P : Program} {w : World} {K : PySem.W.Frag} {tg : Expr} (a it : Addr) : Turn P w K tg (Itl K a) [it] it (fun i h => h.IsListIter it a i) where
  mem := by simp
  obj := fun i h st b hb => by
    have e : b = it := by simpa using hb
    subst e
    obtain ⟨o, e, c, d⟩ := st
    exact ⟨o, e, fun v z => by rw [d] at z; cases z⟩
  keep := fun i h h' st k => st.at fun o e => k it (by simp) o e
  item := by
    intro X hP hw hK hc i pins s σ H E I hf st hg
    subst hP hw hK
    obtain ⟨xs, x, hq, hx⟩ := hg
    obtain ⟨its, rv, p, hz⟩ := I.list hq
    obtain ⟨u, hu, ru⟩ := rv.get hx
    obtain ⟨f0, f1, f2, f3, f4, f5⟩ := hf it (by simp)
    refine wpAny_pyNext_list_item st p.isList (x := u) (by simpa using hu) fun h' st' sb => ?_
    have I1 : Inv X pins σ H { s with heap := h' } := I.turned (t' := s.toks) (fun b o hb e => (sb.2 b hb).trans e) f0 f1 f3 f4 f5
    obtain ⟨o, e, c, d⟩ := id st'
    exact ⟨u, rfl, go_of (s := { s with heap := h' }) e c d (by decide) ⟨x, H, I1, ru, ⟨rfl, fun ys hy => by rw [I.list_inj hy hq]; exact hx⟩, st', fun b hb => (hf b hb).1⟩⟩
  done := by
    intro X hP hw hK hc i pins s σ H E I hf st hg
    subst hP hw hK
    obtain ⟨xs, hq, hx⟩ := hg
    obtain ⟨its, rv, p, hz⟩ := I.list hq
    obtain ⟨f0, f1, f2, f3, f4, f5⟩ := hf it (by simp)
    have hl := rv.length
    exact wpAny_pyNext_list_end (I.ok.hd hc) st p.isList (by simp; lia) fun h' eb => ⟨rfl, I.turned (t' := s.toks) (fun b o hb e => eb b o hb e) f0 f1 f3 f4 f5⟩
  self := fun _ _ _ _ _ st h => wpAny_pyIter_listiter st h
theorem turn_range {P : Program} {w : World} {K : PySem.W.Frag} {tg : Expr} (it : Addr) (lo : Int) (n : Nat) : Turn P w K tg (Itr lo n) [it] it (fun i h => IsRangeIter h it (lo + (i : Nat) * 1) ((n : Int) - (i : Nat)) 1) where
  mem := by simp
  obj := fun i h st b hb => by
    have e : b = it := by simpa using hb
    subst e
    exact ⟨_, st, fun v z => by
      have z' : Data.fields _ = Data.cell v := z
      cases z'⟩
  keep := fun i h h' st k => k it (by simp) _ st
  item := by
    intro X hP hw hK hc i pins s σ H E I hf st hg
    subst hP hw hK
    obtain ⟨f0, f1, f2, f3, f4, f5⟩ := hf it (by simp)
    have W := Walks.range (prog := X.prog) (w := X.w) (I.ok.hd hc) it lo 1 n
    refine W.item i s _ _ hg st fun v h' tk hv st' kk => ?_
    obtain ⟨t, rfl⟩ := hv
    have I1 : Inv X pins σ H { s with heap := h', toks := tk } := I.turned (fun b o hb e => kk b o (by simpa using hb) e) f0 f1 f3 f4 f5
    refine ⟨_, rfl, go_of (s := { s with heap := h', toks := tk }) (n := "range_iterator") st' rfl rfl (by decide) ⟨.int (lo + i), H, I1, ⟨t, ?_⟩, ⟨rfl, rfl⟩, st', fun b hb => (hf b hb).1⟩⟩
    rw [Int.mul_one]
  done := by
    intro X hP hw hK hc i pins s σ H E I hf st hg
    subst hP hw hK
    obtain ⟨f0, f1, f2, f3, f4, f5⟩ := hf it (by simp)
    exact wpAny_pyNext_range_end (I.ok.hd hc) st (by have : n ≤ i := hg; lia) fun h' eb => ⟨rfl, I.turned (t' := s.toks) (fun b o hb e => eb b o hb e) f0 f1 f3 f4 f5⟩
  self := fun _ _ _ _ _ st h => wpAny_pyIter_rangeiter st h
end L2
namespace L2
open PySem PySem.Spec PyProof.Rows
section
variable {X : Cx} {tg : Expr}
noncomputable def iList (K : PySem.W.Frag) (tl : TE) : TI := fun σ H R => tl σ H fun x H1 => ∃ a, x = .ref a ∧ (∃ xs, SqL K H1 a xs) ∧ R (Itl K a) H1
theorem pi_list {l : Expr} {tl : TE} (hl : PE X l tl) : PI X tg l (iList X.K tl) := by
  intro pins s σ H R I h
  refine thn (hl pins s σ H _ I h) fun v s1 ⟨x, H1, I1, r1, q1⟩ => ?_
  obtain ⟨a, e, ⟨xs, hq⟩, q⟩ := q1
  subst e
  cases r1
  obtain ⟨its, rv, p, hz⟩ := I1.list hq
  refine wpAny_pyIter_list p.isList ?_
  refine ⟨s1.heap.objs.size, [s1.heap.objs.size], _, _, H1, rfl, I1.kept (t' := s1.toks) fun b o e => Heap.get?_push_of_some _ e, turn_list a _, ⟨_, Heap.get?_push_size _ rfl, rfl, rfl⟩, fun b hb => ?_, q⟩
  have e : b = s1.heap.objs.size := by simpa using hb
  subst e
  exact I1.fpOk (Nat.le_refl _) (I1.hok.fresh (Nat.le_refl _))
theorem range_it {pins : List (Addr × Obj)} {σ : St} {H : Hp} {s : Shared} {R : It → Hp → Prop} {E : Value → Shared → Prop} {lo hi : Int} {t u v : Tok} {tk : Nat} (I : Inv X pins σ H s) (h1 : -(2 ^ 62) ≤ lo) (h2 : lo < 2 ^ 62) (h3 : -(2 ^ 62) ≤ hi) (h4 : hi < 2 ^ 62)
    (q : R (Itr lo (hi - lo).toNat) H) : wpAny (model X.prog X.w) X.A (pyIter (.ref s.heap.objs.size)) (PIE X pins σ tg R) E { s with heap := s.heap.push { cls := .type "range", data := .fields #[.int lo t, .int hi u, .int 1 v] }, toks := tk } := by
  refine wpAny_pyIter_range (IsRange.new ..) (small_one h1 h2 h3 h4) ?_
  have I1 : Inv X pins σ H { s with heap := s.heap.push { cls := .type "range", data := .fields #[.int lo t, .int hi u, .int 1 v] }, toks := tk } := I.kept fun b o e => Heap.get?_push_of_some _ e
  refine ⟨(s.heap.push { cls := .type "range", data := .fields #[.int lo t, .int hi u, .int 1 v] }).objs.size, [(s.heap.push { cls := .type "range", data := .fields #[.int lo t, .int hi u, .int 1 v] }).objs.size], _, _, H, rfl,
    I1.kept (t' := tk) fun b o e => Heap.get?_push_of_some _ e, turn_range _ lo (hi - lo).toNat, ?_, fun b hb => ?_, q⟩
  · have e1 : lo + ((0 : Nat) : Int) * 1 = lo := by simp
    have e2 : (((hi - lo).toNat : Nat) : Int) - ((0 : Nat) : Int) = Builtin.Range.rangeSize lo hi 1 := by rw [rangeSize_one]; split <;> lia
    show IsRangeIter _ _ (lo + ((0 : Nat) : Int) * 1) ((((hi - lo).toNat : Nat) : Int) - ((0 : Nat) : Int)) 1
    rw [e1, e2]
    exact Heap.get?_push_size _ rfl
  · have e : b = (s.heap.push { cls := .type "range", data := .fields #[.int lo t, .int hi u, .int 1 v] }).objs.size := by simpa using hb
    subst e
    exact I1.fpOk (Nat.le_refl _) (I1.hok.fresh (Nat.le_refl _))
noncomputable def iRng1 (ta : TA) : TI := fun σ H R => ta σ H fun vs H1 => ∃ j : Int, vs = [.int j] ∧ -(2 ^ 62) ≤ j ∧ j < 2 ^ 62 ∧ R (Itr 0 j.toNat) H1
noncomputable def iRng2 (ta : TA) : TI := fun σ H R => ta σ H fun vs H1 => ∃ i j : Int, vs = [.int i, .int j] ∧ (-(2 ^ 62) ≤ i ∧ i < 2 ^ 62 ∧ -(2 ^ 62) ≤ j ∧ j < 2 ^ 62) ∧ R (Itr i (j - i).toNat) H1
theorem pi_range1 {a : Expr} {ta : TA} {p pos : Pos} (hg : Gl X "range") (hm : X.mg "range" = none) (ha : PA X [a] ta) (hs : starEach [a] X.env = [(false, eval a X.env)] := by rfl) : PI X tg (.Call (.Name "range" p) [a] [] pos) (iRng1 ta) := by
  intro pins s σ H R I h
  refine Call_ (ld_blt I hg hm boot_range (PyProof.Rows.callWith_type1 (thn (ha pos pins s σ H _ I h) fun us s1 ⟨vs, H1, I1, r1, q1⟩ => ?_) hs rfl))
  obtain ⟨j, e, q1, q2, q⟩ := q1
  subst e
  cases r1 with
  | cons r rr =>
    cases rr
    obtain ⟨t, rfl⟩ := r
    exact call_range_1 (range_it I1 (by lia) (by lia) q1 q2 (by simpa using q))
noncomputable def tFor (wi : TI) (g : TG) (tb : TS) : TS := fun D σ H => wi σ H fun J H1 => ∃ W : Nat → Nat → St → Hp → Prop, (∃ m, W 0 m σ H1) ∧ ∀ i m σ H, W i m σ H →
  (J.stop i H ∧ D.nx σ H) ∨ (J.go i H ∧ ∃ N : St → Hp → Prop, (∀ σ' H', N σ' H' → ∃ m', m' < m ∧ W (i + 1) m' σ' H') ∧ ∀ x H', J.yld i H x H' → g x σ H' fun σ2 H2 => tb { D with nx := N, ct := N, bk := D.nx } σ2 H2)
noncomputable def pinsAt (fp : List Addr) (h : Heap) : List (Addr × Obj) := fp.filterMap fun b => (h.get? b).map fun o => (b, o)
theorem mem_pinsAt {fp : List Addr} {h : Heap} {b : Addr} {o : Obj} (hb : b ∈ fp) (e : h.get? b = some o) : (b, o) ∈ pinsAt fp h := List.mem_filterMap.mpr ⟨b, hb, by rw [e]; rfl⟩
theorem of_pinsAt {fp : List Addr} {h : Heap} {p : Addr × Obj} (hp : p ∈ pinsAt fp h) : p.1 ∈ fp ∧ h.get? p.1 = some p.2 := by
  obtain ⟨b, hb, e⟩ := List.mem_filterMap.mp hp
  cases q : h.get? b with
  | none => rw [q] at e; cases e
  | some o =>
    rw [q] at e
    have e' : (b, o) = p := Option.some.inj e
    subst e'
    exact ⟨hb, q⟩
theorem Inv.pinned {pins : List (Addr × Obj)} {σ : St} {H : Hp} {s : Shared} {fp : List Addr} (I : Inv X pins σ H s) (hf : ∀ b ∈ fp, FpOk X pins H b) (ho : ∀ b ∈ fp, ∃ o, s.heap.get? b = some o ∧ ∀ v, o.data ≠ .cell v) : Inv X (pins ++ pinsAt fp s.heap) σ H s :=
  I.pins_of fun p hp => (List.mem_append.mp hp).elim (fun z => I.pin p (List.mem_append_right _ z)) fun z => by
    obtain ⟨hb, e⟩ := of_pinsAt z
    obtain ⟨f0, f1, f2, _⟩ := hf p.1 hb
    obtain ⟨o, e', d⟩ := ho p.1 hb
    rw [e] at e'; cases e'
    exact ⟨e, f0, f1, f2, d⟩
theorem Inv.unpinned {pins pl : List (Addr × Obj)} {σ : St} {H : Hp} {s : Shared} (I : Inv X (pins ++ pl) σ H s) : Inv X pins σ H s := I.pins_of fun p hp => I.pin p (List.mem_append_right _ (List.mem_append_left _ hp))
theorem ps_for {iter : Expr} {body : List Stmt} {wi : TI} {g : TG} {tb : TS} {pos : Pos} (hp : PassesOwn (model X.prog X.w) X.A X.env X.xe) (hc : X.calm = true) (hi : PI X tg iter wi) (hg : PG X tg g) (hb : PSs X body tb)
    (hs : ∀ x, foldedSetIterable iter X.env x = pure x := by intro _; rfl) : PS X (.For tg iter body [] pos) (tFor wi g tb) := by
  intro pins s σ H D I h
  refine wpAny_For (thn (hi pins s σ H _ I h) fun v s1 h1 => thn h1 fun itv s2 h2 => ?_) hs
  obtain ⟨it, fp, tn, J, H2, e, I2, T, st2, f2, W, ⟨m0, w0⟩, turn⟩ := h2
  subst e
  have stat : ∀ {H' : Hp}, (∀ b ∈ fp, H' b = none) → ∀ b ∈ fp, FpOk X pins H' b := fun hn b hb => ⟨hn b hb, (f2 b hb).2⟩
  refine codeAny_forLoop_any (fun n s' => ∃ i σ' H', Inv X pins σ' H' s' ∧ tn i s'.heap ∧ (∀ b ∈ fp, H' b = none) ∧ W i n σ' H') ?_ m0 ⟨0, σ, H2, I2, st2, fun b hb => (f2 b hb).1, w0⟩
  rintro n s3 ⟨i, σ3, H3, I3, st3, fr3, w3⟩
  rcases turn i n σ3 H3 w3 with ⟨stop, qn⟩ | ⟨go, N, hN, step⟩
  · refine wpAny_passesOwn hp (thn (T.done X rfl rfl rfl hc i pins s3 σ3 H3 X.xe I3 (stat fr3) st3 stop) fun r s4 ⟨hr, I4⟩ => ?_)
    subst hr
    exact wpAny_execs_nil ⟨σ3, H3, I4, qn⟩
  · refine wpAny_passesOwn hp (thn (T.item X rfl rfl rfl hc i pins s3 σ3 H3 X.xe I3 (stat fr3) st3 go) fun r s4 ⟨u, hr, h4⟩ => ?_)
    subst hr
    refine wpAny_passesOwn hp (thn h4 fun _ s5 ⟨x, H5, I5, r5, y5, st5, fr5⟩ => ?_)
    have I5' := I5.pinned (stat fr5) (T.obj _ _ st5)
    refine wpAny_passesOwn hp (thn (hg _ s5 σ3 H5 x u _ I5' r5 (step x H5 y5)) fun _ s6 ⟨σ6, H6, I6, q6⟩ => ?_)
    refine wpAny_passesOwn hp (thn (hb _ s6 σ6 H6 _ I6 q6) fun f s7 q7 => ?_)
    have again : ∀ {σ7 : St} {H7 : Hp}, Inv X (pins ++ pinsAt fp s5.heap) σ7 H7 s7 → N σ7 H7 → ∃ m, m < n ∧ ∃ i σ' H', Inv X pins σ' H' s7 ∧ tn i s7.heap ∧ (∀ b ∈ fp, H' b = none) ∧ W i m σ' H' := fun {σ7 H7} I7 n7 => by
      obtain ⟨m', hm, w7⟩ := hN σ7 H7 n7
      refine ⟨m', hm, i + 1, σ7, H7, I7.unpinned, T.keep _ _ _ st5 fun b hb o e => (I7.pin (b, o) (List.mem_append_right _ (List.mem_append_right _ (mem_pinsAt hb e)))).1, fun b hb => ?_, w7⟩
      obtain ⟨o, e, d⟩ := T.obj _ _ st5 b hb
      exact (I7.pin (b, o) (List.mem_append_right _ (List.mem_append_right _ (mem_pinsAt hb e)))).2.1
    cases f with
    | next => obtain ⟨σ7, H7, I7, n7⟩ := q7; exact again I7 n7
    | cont => obtain ⟨σ7, H7, I7, n7⟩ := q7; exact again I7 n7
    | brk => obtain ⟨σ7, H7, I7, q7⟩ := q7; exact ⟨σ7, H7, I7.unpinned, q7⟩
    | ret v => obtain ⟨x7, σ7, H7, I7, r7, q7⟩ := q7; exact ⟨x7, σ7, H7, I7.unpinned, r7, q7⟩
end
theorem for_list {K : PySem.W.Frag} {a : Addr} {xs : List V} {g : TG} {tb : TS} {D : Ends} {σ : St} {H : Hp} (Pv : Nat → St → Hp → Prop) (h0 : Pv 0 σ H) (hl : ∀ i σ H, i ≤ xs.length → Pv i σ H → SqL K H a xs)
    (hs : ∀ i x σ H, xs[i]? = some x → Pv i σ H → g x σ H fun σ2 H2 => tb { D with nx := Pv (i + 1), ct := Pv (i + 1), bk := D.nx } σ2 H2) (hd : ∀ σ H, Pv xs.length σ H → D.nx σ H) :
    ∃ W : Nat → Nat → St → Hp → Prop, (∃ m, W 0 m σ H) ∧ ∀ i m σ H, W i m σ H →
      ((Itl K a).stop i H ∧ D.nx σ H) ∨ ((Itl K a).go i H ∧ ∃ N : St → Hp → Prop, (∀ σ' H', N σ' H' → ∃ m', m' < m ∧ W (i + 1) m' σ' H') ∧ ∀ x H', (Itl K a).yld i H x H' → g x σ H' fun σ2 H2 => tb { D with nx := N, ct := N, bk := D.nx } σ2 H2) := by
  refine ⟨fun i m σ H => m = xs.length - i ∧ i ≤ xs.length ∧ Pv i σ H, ⟨xs.length, by simp, Nat.zero_le _, h0⟩, ?_⟩
  rintro i m σ H ⟨rfl, hi, p⟩
  have q := hl i σ H hi p
  by_cases hlt : i < xs.length
  · refine .inr ⟨⟨xs, xs[i], q, by simp [hlt]⟩, Pv (i + 1), fun σ' H' p' => ⟨xs.length - (i + 1), by lia, rfl, hlt, p'⟩, fun x H' y => ?_⟩
    obtain ⟨e, y⟩ := y
    subst e
    exact hs i x σ _ (y xs q) p
  · have e : i = xs.length := by lia
    subst e
    exact .inl ⟨⟨xs, q, Nat.le_refl _⟩, hd σ H p⟩
theorem for_range {lo : Int} {n : Nat} {g : TG} {tb : TS} {D : Ends} {σ : St} {H : Hp} (Pv : Nat → St → Hp → Prop) (h0 : Pv 0 σ H)
    (hs : ∀ i σ H, i < n → Pv i σ H → g (.int (lo + i)) σ H fun σ2 H2 => tb { D with nx := Pv (i + 1), ct := Pv (i + 1), bk := D.nx } σ2 H2) (hd : ∀ σ H, Pv n σ H → D.nx σ H) :
    ∃ W : Nat → Nat → St → Hp → Prop, (∃ m, W 0 m σ H) ∧ ∀ i m σ H, W i m σ H →
      ((Itr lo n).stop i H ∧ D.nx σ H) ∨ ((Itr lo n).go i H ∧ ∃ N : St → Hp → Prop, (∀ σ' H', N σ' H' → ∃ m', m' < m ∧ W (i + 1) m' σ' H') ∧ ∀ x H', (Itr lo n).yld i H x H' → g x σ H' fun σ2 H2 => tb { D with nx := N, ct := N, bk := D.nx } σ2 H2) := by
  refine ⟨fun i m σ H => m = n - i ∧ i ≤ n ∧ Pv i σ H, ⟨n, by simp, Nat.zero_le _, h0⟩, ?_⟩
  rintro i m σ H ⟨rfl, hi, p⟩
  by_cases hlt : i < n
  · refine .inr ⟨hlt, Pv (i + 1), fun σ' H' p' => ⟨n - (i + 1), by lia, rfl, hlt, p'⟩, fun x H' y => ?_⟩
    obtain ⟨e, y⟩ := y
    subst e y
    exact hs i σ _ hlt p
  · have e : i = n := by lia
    subst e
    exact .inl ⟨Nat.le_refl _, hd σ H p⟩
end L2
namespace L2
open PySem PySem.Spec PyProof.Rows
noncomputable abbrev R2 := V → V → Hp → VK → Prop
noncomputable def OpR (X : Cx) (f : Value → Value → Sem Value) (r : R2) : Prop :=
  ∀ (pins : List (Addr × Obj)) (s : Shared) (σ : St) (H : Hp) (x y : V) (v u : Value) (Q : VK), Inv X pins σ H s → RelV x v → RelV y u → r x y H Q →
    wpAny (model X.prog X.w) X.A (f v u) (EP X pins σ Q) X.xe s
noncomputable def UnR (X : Cx) (f : Value → Sem Value) (r : V → Hp → VK → Prop) : Prop :=
  ∀ (pins : List (Addr × Obj)) (s : Shared) (σ : St) (H : Hp) (x : V) (v : Value) (Q : VK), Inv X pins σ H s → RelV x v → r x H Q →
    wpAny (model X.prog X.w) X.A (f v) (EP X pins σ Q) X.xe s
noncomputable def CallR (X : Cx) (f : Value) (r : List V → Hp → VK → Prop) : Prop :=
  ∀ (pins : List (Addr × Obj)) (s : Shared) (σ : St) (H : Hp) (xs : List V) (us : List Value) (Q : VK), Inv X pins σ H s → Vals xs us → r xs H Q →
    wpAny (model X.prog X.w) X.A (call f us) (EP X pins σ Q) X.xe s
noncomputable def TruR (X : Cx) (r : V → Hp → (Bool → Hp → Prop) → Prop) : Prop :=
  ∀ (pins : List (Addr × Obj)) (s : Shared) (σ : St) (H : Hp) (x : V) (v : Value) (Q : Bool → Hp → Prop), Inv X pins σ H s → RelV x v → r x H Q →
    wpAny (model X.prog X.w) X.A (truthy v) (TP X pins σ Q) X.xe s
noncomputable def tOp (r : R2) (ta tb : TE) : TE := fun σ H Q => ta σ H fun x H1 => tb σ H1 fun y H2 => r x y H2 Q
noncomputable def tUn (r : V → Hp → VK → Prop) (ta : TE) : TE := fun σ H Q => ta σ H fun x H1 => r x H1 Q
noncomputable def rI (C : Int → Int → Prop) (g : Int → Int → V) : R2 := fun x y H Q => ∃ i j, x = .int i ∧ y = .int j ∧ C i j ∧ Q (g i j) H
noncomputable def rI0 (g : Int → Int → V) : R2 := fun x y H Q => ∃ i j, x = .int i ∧ y = .int j ∧ Q (g i j) H
noncomputable def rU (g : Int → V) : V → Hp → VK → Prop := fun x H Q => ∃ i, x = .int i ∧ Q (g i) H
section
variable {X : Cx} {a b c : Expr} {ta tb tc : TE} {pos : Pos}
theorem binT (ha : PE X a ta) (hb : PE X b tb) {pins : List (Addr × Obj)} {s : Shared} {σ : St} {H : Hp} {R : V → V → Hp → Prop} (I : Inv X pins σ H s)
    (h : ta σ H fun x H1 => tb σ H1 fun y H2 => R x y H2) {Q : Value → Shared → Prop} {f : Value → Value → Sem Value}
    (hf : ∀ v u s2 x y H2, Inv X pins σ H2 s2 → RelV x v → RelV y u → R x y H2 → wpAny (model X.prog X.w) X.A (f v u) Q X.xe s2) :
    wpAny (model X.prog X.w) X.A (eval a X.env) (fun v s₁ => wpAny (model X.prog X.w) X.A (eval b X.env) (fun u s₂ => wpAny (model X.prog X.w) X.A (f v u) Q X.xe s₂) X.xe s₁) X.xe s := by
  refine thn (ha pins s σ H _ I h) fun v s1 ⟨x, H1, I1, r1, q1⟩ => ?_
  refine thn (hb pins s1 σ H1 _ I1 q1) fun u s2 ⟨y, H2, I2, r2, q2⟩ => ?_
  exact hf v u s2 x y H2 I2 r1 r2 q2
theorem pe_op {op : Operator} {r : R2} (ho : OpR X (binaryOp op) r) (ha : PE X a ta) (hb : PE X b tb) : PE X (.BinOp a op b pos) (tOp r ta tb) := by
  intro pins s σ H Q I h
  exact wpAny_BinOp (binT ha hb I h fun v u s2 x y H2 I2 rx ry q => ho pins s2 σ H2 x y v u Q I2 rx ry q)
theorem pe_un {op : UnaryOp} {r : V → Hp → VK → Prop} (ho : UnR X (unaryOp op) r) (ha : PE X a ta) : PE X (.UnaryOp op a pos) (tUn r ta) := by
  intro pins s σ H Q I h
  exact UnaryOp_ (thn (ha pins s σ H _ I h) fun v s1 ⟨x, H1, I1, r1, q1⟩ => ho pins s1 σ H1 x v Q I1 r1 q1)
theorem opI {f : Value → Value → Sem Value} {C : Int → Int → Prop} {g : Int → Int → Int}
    (rule : ∀ (i j : Int) (t u : Tok) (s : Shared) (Q : Value → Shared → Prop) (E : Value → Shared → Prop), C i j → Q (.int (g i j) s.toks) { s with toks := s.toks + 1 } → wpAny (model X.prog X.w) X.A (f (.int i t) (.int j u)) Q E s) :
    OpR X f (rI C fun i j => .int (g i j)) := by
  intro pins s σ H x y v u Q I rx ry h
  obtain ⟨i, j, rfl, rfl, hc, q⟩ := h
  obtain ⟨t, rfl⟩ := rx
  obtain ⟨t', rfl⟩ := ry
  exact rule i j t t' s _ _ hc ⟨.int (g i j), H, I.tok _, ⟨_, rfl⟩, q⟩
theorem opI0 {f : Value → Value → Sem Value} {g : Int → Int → Int}
    (rule : ∀ (i j : Int) (t u : Tok) (s : Shared) (Q : Value → Shared → Prop) (E : Value → Shared → Prop), Q (.int (g i j) s.toks) { s with toks := s.toks + 1 } → wpAny (model X.prog X.w) X.A (f (.int i t) (.int j u)) Q E s) :
    OpR X f (rI0 fun i j => .int (g i j)) := by
  intro pins s σ H x y v u Q I rx ry h
  obtain ⟨i, j, rfl, rfl, q⟩ := h
  obtain ⟨t, rfl⟩ := rx
  obtain ⟨t', rfl⟩ := ry
  exact rule i j t t' s _ _ ⟨.int (g i j), H, I.tok _, ⟨_, rfl⟩, q⟩
theorem opB0 {f : Value → Value → Sem Value} {g : Int → Int → Bool}
    (rule : ∀ (i j : Int) (t u : Tok) (s : Shared) (Q : Value → Shared → Prop) (E : Value → Shared → Prop), Q (.bool (g i j)) s → wpAny (model X.prog X.w) X.A (f (.int i t) (.int j u)) Q E s) :
    OpR X f (rI0 fun i j => .bl (g i j)) := by
  intro pins s σ H x y v u Q I rx ry h
  obtain ⟨i, j, rfl, rfl, q⟩ := h
  obtain ⟨t, rfl⟩ := rx
  obtain ⟨t', rfl⟩ := ry
  exact rule i j t t' s _ _ ⟨.bl (g i j), H, I, rfl, q⟩
noncomputable def CPow (i j : Int) : Prop := 0 ≤ j ∧ j ≤ 1000000 ∧ i.natAbs < 2 ^ 64
theorem op_add : OpR X (binaryOp .Add) (rI0 fun i j => .int (i + j)) := opI0 fun _ _ _ _ _ _ _ q => add_int q
theorem op_sub : OpR X (binaryOp .Sub) (rI0 fun i j => .int (i - j)) := opI0 fun _ _ _ _ _ _ _ q => sub_int q
theorem op_modN : OpR X (binaryOp .Mod) (rI (fun _ j => j ≠ 0) fun i j => .int (i.fmod j)) := opI fun _ _ _ _ _ _ _ hc q => mod_int' hc q
theorem op_pow : OpR X (binaryOp .Pow) (rI CPow fun i j => .int (i ^ j.toNat)) := opI fun _ _ _ _ _ _ _ hc q => pow_int_small hc.1 hc.2.1 hc.2.2 q
theorem op_shl : OpR X (binaryOp .LShift) (rI CPow fun i j => .int (i * 2 ^ j.toNat)) := opI fun _ _ _ _ _ _ _ hc q => lshift_int_small hc.1 hc.2.1 hc.2.2 q
theorem unI {f : Value → Sem Value} {g : Int → Int}
    (rule : ∀ (i : Int) (t : Tok) (s : Shared) (Q : Value → Shared → Prop) (E : Value → Shared → Prop), Q (.int (g i) s.toks) { s with toks := s.toks + 1 } → wpAny (model X.prog X.w) X.A (f (.int i t)) Q E s) :
    UnR X f (rU fun i => .int (g i)) := by
  intro pins s σ H x v Q I rx h
  obtain ⟨i, rfl, q⟩ := h
  obtain ⟨t, rfl⟩ := rx
  exact rule i t s _ _ ⟨.int (g i), H, I.tok _, ⟨_, rfl⟩, q⟩
theorem un_neg : UnR X (unaryOp .USub) (rU fun i => .int (-i)) := unI fun _ _ _ _ _ q => neg_int q
end
noncomputable def scal : V → V → Bool
  | .non, .non => true | .non, .int _ => true | .int _, .non => true | .non, .bl _ => true | .bl _, .non => true | .non, .str _ => true | .str _, .non => true
  | .int _, .int _ => true | .bl _, .bl _ => true | .str _, .str _ => true | .byt _, .byt _ => true
  | .int _, .str _ => true | .str _, .int _ => true | .bl _, .str _ => true | .str _, .bl _ => true
  | _, _ => false
noncomputable def rEq : R2 := fun x y H Q => scal x y = true ∧ Q (.bl (decide (x = y))) H
noncomputable def rNe : R2 := fun x y H Q => scal x y = true ∧ Q (.bl (!decide (x = y))) H
theorem dec_int {i j : Int} : decide (V.int i = V.int j) = (i == j) := by
  rw [Bool.eq_iff_iff]
  simp
theorem dec_bl {i j : Bool} : decide (V.bl i = V.bl j) = (i == j) := by
  rw [Bool.eq_iff_iff]
  simp
theorem dec_str {i j : Str} : decide (V.str i = V.str j) = (i == j) := by
  rw [Bool.eq_iff_iff]
  simp
theorem dec_byt {i j : Array UInt8} : decide (V.byt i = V.byt j) = (i.toList == j.toList) := by
  rw [Bool.eq_iff_iff]
  cases i
  cases j
  simp
section
variable {X : Cx} {a b c : Expr} {ta tb tc : TE} {pos : Pos}
theorem fin_bl {pins : List (Addr × Obj)} {σ : St} {H : Hp} {s : Shared} {Q : VK} {k k' : Bool} (I : Inv X pins σ H s) (q : Q (.bl k) H) (e : k = k') : EP X pins σ Q (.bool k') s := by
  subst e
  exact ⟨.bl k, H, I, rfl, q⟩
theorem op_eq : OpR X (compareOp .Eq) rEq := by
  intro pins s σ H x y v u Q I rx ry h
  obtain ⟨hs, q⟩ := h
  cases x with
  | non =>
    cases rx
    cases y with
    | non => cases ry; exact PySem.EqNone.eq_none_none (fin_bl I q (by simp))
    | bl j => cases ry; exact PySem.EqNone.eq_none_bool (fin_bl I q (by simp))
    | int j => obtain ⟨t', rfl⟩ := ry; exact PySem.EqNone.eq_none_int (fin_bl I q (by simp))
    | str j => obtain ⟨t', rfl⟩ := ry; exact PySem.EqNone.eq_none_str (fin_bl I q (by simp))
    | _ => exact absurd (show false = true from hs) Bool.false_ne_true
  | bl i =>
    cases rx
    cases y with
    | non => cases ry; exact PySem.EqNone.eq_bool_none (fin_bl I q (by simp))
    | bl j => cases ry; exact eq_bool (fin_bl I q dec_bl)
    | str j => obtain ⟨t', rfl⟩ := ry; exact PySem.EqMixed.eq_bool_str (fin_bl I q (by simp))
    | _ => exact absurd (show false = true from hs) Bool.false_ne_true
  | int i =>
    obtain ⟨t, rfl⟩ := rx
    cases y with
    | non => cases ry; exact PySem.EqNone.eq_int_none (fin_bl I q (by simp))
    | int j => obtain ⟨t', rfl⟩ := ry; exact eq_int (fin_bl I q dec_int)
    | str j => obtain ⟨t', rfl⟩ := ry; exact PySem.EqMixed.eq_int_str (fin_bl I q (by simp))
    | _ => exact absurd (show false = true from hs) Bool.false_ne_true
  | str i =>
    obtain ⟨t, rfl⟩ := rx
    cases y with
    | non => cases ry; exact PySem.EqNone.eq_str_none (fin_bl I q (by simp))
    | bl j => cases ry; exact PySem.EqMixed.eq_str_bool (fin_bl I q (by simp))
    | int j => obtain ⟨t', rfl⟩ := ry; exact PySem.EqMixed.eq_str_int (fin_bl I q (by simp))
    | str j => obtain ⟨t', rfl⟩ := ry; exact eq_str (fin_bl I q dec_str)
    | _ => exact absurd (show false = true from hs) Bool.false_ne_true
  | byt i =>
    obtain ⟨t, rfl⟩ := rx
    cases y with
    | byt j => obtain ⟨t', rfl⟩ := ry; exact PySem.W.eq_bytes (fin_bl I q dec_byt)
    | _ => exact absurd (show false = true from hs) Bool.false_ne_true
  | _ => cases y <;> exact absurd (show false = true from hs) Bool.false_ne_true
theorem op_ne : OpR X (compareOp .NotEq) rNe := by
  intro pins s σ H x y v u Q I rx ry h
  obtain ⟨hs, q⟩ := h
  cases x with
  | non =>
    cases rx
    cases y with
    | non => cases ry; exact PySem.EqNone.ne_none_none (fin_bl I q (by simp))
    | bl j => cases ry; exact PySem.EqNone.ne_none_bool (fin_bl I q (by simp))
    | int j => obtain ⟨t', rfl⟩ := ry; exact PySem.EqNone.ne_none_int (fin_bl I q (by simp))
    | str j => obtain ⟨t', rfl⟩ := ry; exact PySem.EqNone.ne_none_str (fin_bl I q (by simp))
    | _ => exact absurd (show false = true from hs) Bool.false_ne_true
  | bl i =>
    cases rx
    cases y with
    | non => cases ry; exact PySem.EqNone.ne_bool_none (fin_bl I q (by simp))
    | bl j => cases ry; exact ne_bool (fin_bl I q (congrArg not dec_bl))
    | str j => obtain ⟨t', rfl⟩ := ry; exact PySem.EqMixed.ne_bool_str (fin_bl I q (by simp))
    | _ => exact absurd (show false = true from hs) Bool.false_ne_true
  | int i =>
    obtain ⟨t, rfl⟩ := rx
    cases y with
    | non => cases ry; exact PySem.EqNone.ne_int_none (fin_bl I q (by simp))
    | int j => obtain ⟨t', rfl⟩ := ry; exact ne_int (fin_bl I q (congrArg not dec_int))
    | str j => obtain ⟨t', rfl⟩ := ry; exact PySem.EqMixed.ne_int_str (fin_bl I q (by simp))
    | _ => exact absurd (show false = true from hs) Bool.false_ne_true
  | str i =>
    obtain ⟨t, rfl⟩ := rx
    cases y with
    | non => cases ry; exact PySem.EqNone.ne_str_none (fin_bl I q (by simp))
    | bl j => cases ry; exact PySem.EqMixed.ne_str_bool (fin_bl I q (by simp))
    | int j => obtain ⟨t', rfl⟩ := ry; exact PySem.EqMixed.ne_str_int (fin_bl I q (by simp))
    | str j => obtain ⟨t', rfl⟩ := ry; exact ne_str (fin_bl I q (congrArg not dec_str))
    | _ => exact absurd (show false = true from hs) Bool.false_ne_true
  | byt i =>
    obtain ⟨t, rfl⟩ := rx
    cases y with
    | byt j => obtain ⟨t', rfl⟩ := ry; exact PySem.W.ne_bytes (fin_bl I q (congrArg not dec_byt))
    | _ => exact absurd (show false = true from hs) Bool.false_ne_true
  | _ => cases y <;> exact absurd (show false = true from hs) Bool.false_ne_true
theorem op_lt : OpR X (compareOp .Lt) (rI0 fun i j => .bl (decide (i < j))) := opB0 fun _ _ _ _ _ _ _ q => lt_int q
theorem op_gt : OpR X (compareOp .Gt) (rI0 fun i j => .bl (decide (j < i))) := opB0 fun _ _ _ _ _ _ _ q => gt_int q
theorem op_ge : OpR X (compareOp .GtE) (rI0 fun i j => .bl (decide (j ≤ i))) := opB0 fun _ _ _ _ _ _ _ q => ge_int q
theorem op_isN : OpR X (compareOp .Is) (fun x y H Q => y = .non ∧ Q (.bl (decide (x = .non))) H) := by
  intro pins s σ H x y v u Q I rx ry h
  obtain ⟨rfl, q⟩ := h
  cases ry
  refine is_none_gen (fin_bl I q ?_)
  cases x <;> first
    | (cases rx; rfl)
    | (obtain ⟨t, rfl⟩ := rx; rfl)
theorem op_notN : OpR X (compareOp .IsNot) (fun x y H Q => y = .non ∧ Q (.bl (!decide (x = .non))) H) := by
  intro pins s σ H x y v u Q I rx ry h
  obtain ⟨rfl, q⟩ := h
  cases ry
  refine isnot_none_gen (fin_bl I q ?_)
  cases x <;> first
    | (cases rx; rfl)
    | (obtain ⟨t, rfl⟩ := rx; rfl)
theorem nomark (b : Expr) {op : CmpOp} (h : op ≠ .In := by decide) (h2 : op ≠ .NotIn := by decide) : behindInMarks op b = false := by
  have e1 : (op == CmpOp.In) = false := by cases op <;> first | rfl | exact absurd rfl h
  have e2 : (op == CmpOp.NotIn) = false := by cases op <;> first | rfl | exact absurd rfl h2
  cases b <;> simp [behindInMarks, e1, e2]
theorem pe_cmpR {op : CmpOp} {r : R2} (ho : OpR X (compareOp op) r) (ha : PE X a ta) (hb : PE X b tb) (hm : behindInMarks op b = false) : PE X (.Compare a [op] [b] pos) (tOp r ta tb) := by
  intro pins s σ H Q I h
  exact wpAny_Compare1 (binT ha hb I h fun v u s2 x y H2 I2 rx ry q => ho pins s2 σ H2 x y v u Q I2 rx ry q) hm
noncomputable def tTest (t : TE) : TT := fun σ H Q => t σ H fun x H' => ∃ k, x = .bl k ∧ Q k H'
theorem pt_cmpR {op : CmpOp} {r : R2} (ho : OpR X (compareOp op) r) (ha : PE X a ta) (hb : PE X b tb) (hm : behindInMarks op b = false) : PT X (.Compare a [op] [b] pos) (tTest (tOp r ta tb)) := by
  intro pins s σ H Q I h
  refine wpAny_isTrue_Compare1 (thn (ha pins s σ H _ I h) fun v s1 ⟨x, H1, I1, r1, q1⟩ => thn (hb pins s1 σ H1 _ I1 q1) fun u s2 ⟨y, H2, I2, r2, q2⟩ =>
    thn (ho pins s2 σ H2 x y v u _ I2 r1 r2 q2) fun c s3 ⟨z, H3, I3, r3, k, e, q3⟩ => ?_) hm
  subst e
  cases r3
  exact wpAny_truthy_bool ⟨H3, I3, q3⟩
noncomputable def TruV (K : PySem.W.Frag) (x : V) (H : Hp) (k : Bool) : Prop :=
  match x with
  | .non => k = false
  | .bl b => k = b
  | .int i => k = (i != 0)
  | .str y => y.length ≤ sizeLine ∧ k = ((y.length : Int) != 0)
  | .byt y => y.size ≤ sizeLine ∧ k = ((y.size : Int) != 0)
  | .ref p => (∃ xs, SqL K H p xs ∧ k = !xs.isEmpty) ∨ (∃ xs, SqT K H p xs ∧ k = !xs.isEmpty) ∨ ∃ kvs, H p = some (.dK kvs) ∧ k = !kvs.isEmpty
  | _ => False
theorem isEmpty_kv {κ : Type} {kvs : List (κ × V)} {vs : List (κ × Value)} (r : KV kvs vs) : (!vs.isEmpty) = !kvs.isEmpty := by
  cases r <;> rfl
theorem isEmpty_of {xs : List V} {its : List Value} (r : Vals xs its) : (!its.toArray.isEmpty) = !xs.isEmpty := by
  cases r <;> simp
theorem line63 : (sizeLine : Nat) < 2 ^ 63 := by rw [sizeLine_eq]; decide
theorem tru_ok : TruR X (fun x H Q => ∃ k, TruV X.K x H k ∧ Q k H) := by
  intro pins s σ H x v Q I rx h
  obtain ⟨k, e, q⟩ := h
  have hl := line63
  have hs : sizeLine = 16777216 := sizeLine_eq
  cases x with
  | non =>
    cases rx
    have e' : k = false := e
    subst e'
    exact truthy_none ⟨H, I, q⟩
  | bl b =>
    cases rx
    have e' : k = b := e
    subst e'
    exact wpAny_truthy_bool ⟨H, I, q⟩
  | int i =>
    obtain ⟨t, rfl⟩ := rx
    have e' : k = (i != 0) := e
    subst e'
    exact PySem.P.truthy_int ⟨H, I, q⟩
  | str y =>
    obtain ⟨t, rfl⟩ := rx
    obtain ⟨hy, e'⟩ : y.length ≤ sizeLine ∧ k = ((y.length : Int) != 0) := e
    subst e'
    exact PySem.P.truthy_str (by lia) ⟨H, I.tok _, q⟩
  | byt y =>
    obtain ⟨t, rfl⟩ := rx
    obtain ⟨hy, e'⟩ : y.size ≤ sizeLine ∧ k = ((y.size : Int) != 0) := e
    subst e'
    exact PySem.W.truthy_bytes (by lia) ⟨H, I.tok _, q⟩
  | ref p =>
    cases rx
    have e' : (∃ xs, SqL X.K H p xs ∧ k = !xs.isEmpty) ∨ (∃ xs, SqT X.K H p xs ∧ k = !xs.isEmpty) ∨ ∃ kvs, H p = some (.dK kvs) ∧ k = !kvs.isEmpty := e
    rcases e' with ⟨xs, hx, e'⟩ | ⟨xs, hx, e'⟩ | ⟨kvs, hx, e'⟩
    · subst e'
      obtain ⟨its, r, pl, hz⟩ := I.list hx
      have hlen := r.length
      exact wpAny_truthy_list pl.isList (by simp only [List.size_toArray]; lia) ⟨H, I.tok _, by rw [isEmpty_of r]; exact q⟩
    · subst e'
      obtain ⟨its, r, pl, hz⟩ := I.tuple hx
      have hlen := r.length
      exact truthy_tuple pl (by simp only [List.size_toArray]; lia) ⟨H, I.tok _, by rw [isEmpty_of r]; exact q⟩
    · subst e'
      obtain ⟨hz, hS, vs, r, m⟩ : kvs.length ≤ sizeLine ∧ (p == sysModules) = false ∧ ∃ vs, KV kvs vs ∧ s.heap.DictOf (mixKind X.prog X.w) p vs := I.hok p _ hx
      have hlen : kvs.length = vs.length := Paired.length r
      exact wpAny_truthy_dict hS m (by lia) ⟨H, I.tok _, by rw [isEmpty_kv r]; exact q⟩
  | _ => exact (show False from e).elim
theorem pt_truth (ha : PE X a ta) (he : ∀ whole, isTrue a X.env whole = (do let v ← whole; standAt a.pos; holding [v] (truthy v))) :
    PT X a (fun σ H Q => ta σ H fun x H' => ∃ k, TruV X.K x H' k ∧ Q k H') := by
  intro pins s σ H Q I h
  exact isTrue_plain (thn (ha pins s σ H _ I h) fun v s1 ⟨x, H1, I1, r1, q1⟩ => tru_ok pins s1 σ H1 x v Q I1 r1 q1) (he _)
theorem vals1 {x : V} {us : List Value} (r : Vals [x] us) : ∃ u, us = [u] ∧ RelV x u := by
  cases r with
  | cons r1 r2 => cases r2; exact ⟨_, rfl, r1⟩
theorem vals2 {x y : V} {us : List Value} (r : Vals [x, y] us) : ∃ u w', us = [u, w'] ∧ RelV x u ∧ RelV y w' := by
  cases r with
  | cons r1 r2 =>
    cases r2 with
    | cons r3 r4 => cases r4; exact ⟨_, _, rfl, r1, r3⟩
theorem call_abs : CallR X (.builtin "abs") (fun xs H Q => ∃ i, xs = [.int i] ∧ Q (.int (if i < 0 then -i else i)) H) := by
  intro pins s σ H xs us Q I r h
  obtain ⟨i, rfl, q⟩ := h
  obtain ⟨u, rfl, t, rfl⟩ := vals1 r
  exact call_abs_int fun u tk => ⟨.int (if i < 0 then -i else i), H, I.tok _, ⟨_, rfl⟩, q⟩
theorem call_min2 (hc : X.calm = true) : CallR X (.builtin "min") (fun xs H Q => ∃ i j, xs = [.int i, .int j] ∧ Q (.int (if j < i then j else i)) H) := by
  intro pins s σ H xs us Q I r h
  obtain ⟨i, j, rfl, q⟩ := h
  obtain ⟨u, w', rfl, ⟨t, rfl⟩, ⟨t', rfl⟩⟩ := vals2 r
  refine min_two_ints (I.ok.hd hc) fun h' tk k => ⟨_, H, I.kept k, ?_, q⟩
  by_cases hj : j < i
  · rw [if_pos hj, if_pos hj]; exact ⟨_, rfl⟩
  · rw [if_neg hj, if_neg hj]; exact ⟨_, rfl⟩
theorem call_int1 : CallR X (.type "int") (fun xs H Q => (∃ i, xs = [.int i] ∧ Q (.int i) H) ∨ ∃ k, xs = [.bl k] ∧ Q (.int (if k then 1 else 0)) H) := by
  intro pins s σ H xs us Q I r h
  rcases h with ⟨i, rfl, q⟩ | ⟨k, rfl, q⟩
  · obtain ⟨u, rfl, t, rfl⟩ := vals1 r
    exact call_int_int ⟨.int i, H, I, ⟨_, rfl⟩, q⟩
  · obtain ⟨u, rfl, r1⟩ := vals1 r
    cases r1
    exact call_int_bool ⟨.int (if k then 1 else 0), H, I.tok _, ⟨_, rfl⟩, q⟩
end
end L2
namespace L2
open PySem PySem.Spec PyProof.Rows
structure ObjM (h : Heap) (x dx C : Addr) (mA : Str → Option Value) : Prop where
  obj : h.get? x = some (PySem.W.instObj C dx)
  ns : h.Ns1 dx mA
  ne : dx ≠ x
section
variable {prog : Program} {w : World} {A : Around} {E : Value → Shared → Prop} {s : Shared} {K : PySem.W.Frag} {x dx C f : Addr} {mA : Str → Option Value} {name : Str} {v : Value}
end
section
variable {P : Program} {w : World} {H H' : Hp} {h h' : Heap} {a C dx : Addr} {fs fs' : List (Str × V)}
end
structure Cls (K : PySem.W.Frag) (C : Addr) : Prop where
  pg : PySem.W.plainGet K C Str.empty = true
  hd : PySem.W.hasDictIn K C = true
  po : PySem.W.plainOver K C = true
  sa : PySem.W.findIn K (.ref C) "__setattr__" = some (some (.builtin "object.__setattr__"))
structure Con (K : PySem.W.Frag) (C : Addr) (f : Str) (v : V) (u : Value) : Prop where
  at_ : PySem.W.findIn K (.ref C) f = some (some u)
  rel : RelV v u
  get : PySem.W.specialIn K u "__get__" = some none
  cp : PySem.W.copiedNames.contains f = false
structure Meth (K : PySem.W.Frag) (C : Addr) (m : Str) (f : Addr) : Prop where
  at_ : PySem.W.findIn K (.ref C) m = some (some (.ref f))
  fn : PySem.W.isFn K (.ref f) = true
  kp : PySem.W.keepIn K (.ref f) = true
section
variable {X : Cx} {pins : List (Addr × Obj)} {σ : St} {H : Hp} {s : Shared} {a C dx : Addr} {fs : List (Str × V)} {f : Str} {v : V} {A : Around} {E : Value → Shared → Prop}
end
section
variable {X : Cx} {o e value : Expr} {f : Str} {pos pos' tpos : Pos} {ta tv : TE}
end
section
variable {X : Cx} {pins : List (Addr × Obj)} {σ : St} {H : Hp} {s : Shared} {A : Around} {E : Value → Shared → Prop} {Q : Value → Shared → Prop} {c : Value} {b : Bool}
inductive TyOf (K : PySem.W.Frag) (H : Hp) : V → Value → Prop where
  | non : TyOf K H .non (.type "NoneType")
  | bl (x : Bool) : TyOf K H (.bl x) (.type "bool")
  | int (i : Int) : TyOf K H (.int i) (.type "int")
  | str (x : Str) : TyOf K H (.str x) (.type "str")
  | flt (x : UInt64) : TyOf K H (.flt x) (.type "float")
  | lst {a : Addr} {xs : List V} (e : H a = some (.lst xs)) : TyOf K H (.ref a) (.type "list")
  | frz {a : Addr} {o : Obj} {xs : List V} (e : H a = some (.frz o (.lst xs))) : TyOf K H (.ref a) (.type "list")
  | tup {a : Addr} {xs : List V} (e : H a = some (.tup xs)) : TyOf K H (.ref a) (.type "tuple")
  | dK {a : Addr} {kvs : List (Key × V)} (e : H a = some (.dK kvs)) : TyOf K H (.ref a) (.type "dict")
  | dT {a : Addr} {kvs : List (List Key × V)} (e : H a = some (.dT kvs)) : TyOf K H (.ref a) (.type "dict")
  | ins {a C dx : Addr} {fs : List (Str × V)} (e : H a = some (.ins C dx fs)) (cl : Cls K C) (ha : PySem.W.findIn K (.ref C) "__class__" = some (some (.builtin "object.__class__")))
      (hn : PySem.W.specialIn K (.builtin "object.__class__") "__get__" = some (some (.builtin "getset_descriptor.__get__"))) (htk : PySem.W.takesIn K (.builtin "object.__class__") = some true)
      (hm : PySem.W.mroIn K C (.type "object") = some true) : TyOf K H (.ref a) (.ref C)
end
end L2
namespace L2
open PySem PySem.Spec PyProof.Rows
structure Room (k : Nat) (A : Around) : Prop where
  hd : A.handled = none
  dp : A.depth + 3 * k + 5 < recursionLimit
  un : A.units + 16 * k + 200 < cLine
theorem Room.mono {j k : Nat} {A : Around} (r : Room k A) (h : j ≤ k) : Room j A := ⟨r.hd, by have := r.dp; lia, by have := r.un; lia⟩
theorem Room.deeper {k : Nat} {A : Around} (r : Room (k + 1) A) (env : Env) : Room k (A.deeper env) :=
  ⟨r.hd, by have := r.dp; show A.depth + 1 + 3 * k + 5 < _; lia, by have := r.un; show A.units + 3 + 16 * k + 200 < _; lia⟩
theorem Room.depth {k : Nat} {A : Around} (r : Room k A) : A.depth < recursionLimit := by have := r.dp; lia
theorem Room.units {k : Nat} {A : Around} (r : Room k A) : A.units + 64 < cLine := by have := r.un; lia
theorem Room.units0 {k : Nat} {A : Around} (r : Room k A) : A.units < cLine := by have := r.un; lia
noncomputable def tNil : TA := fun _ H Q => Q [] H
noncomputable def tCons (ta : TE) (tr : TA) : TA := fun σ H Q => ta σ H fun x H1 => tr σ H1 fun xs H2 => Q (x :: xs) H2
section
variable {X : Cx} {e : Expr} {es : List Expr} {te : TE} {t : TA} {pos : Pos}
theorem pa_nil : PA X [] tNil := fun _ _ _ _ H Q I h => Calls.spliced_nil ⟨[], H, I, .nil, h⟩
theorem pa_cons (ha : PE X e te) (hr : PA X es t) (hs : starEach (e :: es) X.env = (false, eval e X.env) :: starEach es X.env := by rfl) : PA X (e :: es) (tCons te t) := by
  intro pos pins s σ H Q I h
  rw [hs]
  show wpAny _ _ (spliced ((false, eval e X.env) :: backTo pos (starEach es X.env))) _ _ s
  refine Calls.spliced_cons (thn (ha pins s σ H _ I h) fun u s1 ⟨x, H1, I1, r1, q1⟩ => ?_)
  exact thn (hr pos pins s1 σ H1 _ I1 q1) fun us s2 ⟨xs, H2, I2, r2, q2⟩ => ⟨x :: xs, H2, I2, .cons r1 r2, q2⟩
noncomputable def tTup (t : TA) : TE := fun σ H Q => t σ H fun xs H1 => xs.length ≤ sizeLine ∧ ∀ p, H1 p = none → Q (.ref p) (upd H1 p (.tup xs))
noncomputable def tLst (t : TA) : TE := fun σ H Q => t σ H fun xs H1 => xs.length ≤ sizeLine ∧ ∀ p, H1 p = none → Q (.ref p) (upd H1 p (.lst xs))
theorem pe_tup {x1} (h : PA X es t) : PE X (.Tuple es x1 pos) (tTup t) := by
  intro pins s σ H Q I hq
  refine wpAny_Tuple_spliced (thn (h pos pins s σ H _ I hq) fun us s1 ⟨xs, H1, I1, r, z, q⟩ => ⟨by rw [← r.length]; exact z, ?_⟩)
  have hf : H1 s1.heap.objs.size = none := I1.hok.fresh (Nat.le_refl _)
  refine ⟨.ref s1.heap.objs.size, upd H1 s1.heap.objs.size (.tup xs), I1.laid (t' := s1.toks) (fun b u e => Heap.get?_push_of_some _ e) (Nat.le_refl _) ?_, rfl, q _ hf⟩
  exact ⟨z, us, r, ⟨_, Heap.get?_push_size _ rfl, rfl, _, rfl⟩⟩
theorem pe_lst (h : PA X es t) : PE X (.List es pos) (tLst t) := by
  intro pins s σ H Q I hq
  refine wpAny_List_spliced (thn (h pos pins s σ H _ I hq) fun us s1 ⟨xs, H1, I1, r, z, q⟩ => ⟨by rw [← r.length]; exact z, ?_⟩)
  have hf : H1 s1.heap.objs.size = none := I1.hok.fresh (Nat.le_refl _)
  refine ⟨.ref s1.heap.objs.size, upd H1 s1.heap.objs.size (.lst xs), I1.laid (t' := s1.toks) (fun b u e => Heap.get?_push_of_some _ e) (Nat.le_refl _) ?_, rfl, q _ hf⟩
  exact ⟨z, us, 0, r, Heap.get?_push_size _ rfl⟩
end
noncomputable abbrev Sp := List V → Hp → VK → XK → Prop
noncomputable abbrev CXT := List Env → Hp → Shared → XK → Value → Shared → Prop
structure Env0 (P : Program) (w : World) (K : PySem.W.Frag) (mg : Str → Option Value) (base : Heap) (A : Around) (outer : List Env) (s : Shared) (H : Hp) : Prop where
  frames : A.frames = some outer
  mod : Mod K mg base
  bs : ∀ b o, base.get? b = some o → s.heap.get? b = some o ∧ H b = none
  bsz : base.objs.size ≤ s.heap.objs.size
  funs : s.heap.FunFrames base outer
  frf : ∀ b ∈ frs outer, H b = none
  hok : HOk P w H s.heap
  bare : AllBare s.gens
noncomputable def CE (outer : List Env) (P : Program) (w : World) (H : Hp) (s : Shared) (Q : VK) (u : Value) (s' : Shared) : Prop :=
  ∃ v H', s'.os = s.os ∧ AllBare s'.gens ∧ Un (frs outer) [] H H' s.heap s'.heap ∧ HOk P w H' s'.heap ∧ RelV v u ∧ Q v H'
noncomputable def CR (CX : CXT) (outer : List Env) (P : Program) (w : World) (H : Hp) (s : Shared) (Q : VK) (E : XK) (r : Result) (s' : Shared) : Prop :=
  match r with
  | .ok (.ret u) => CE outer P w H s Q u s'
  | .ok _ => False
  | .error e => CX outer H s E e s'
structure FnOk (P : Program) (w : World) (K : PySem.W.Frag) (mg : Str → Option Value) (base : Heap) (CX : CXT) (k : Nat) (f : Addr) (fd : FuncData) (ps : List Str) (sp : Sp) : Prop where
  len : ∀ vs H Q E, sp vs H Q E → vs.length = ps.length
  run : ∀ (A : Around) (outer : List Env) (s : Shared) (H : Hp) (args : Args) (us : List Value) (vs : List V) (Q : VK) (E : XK), Room k A → Env0 P w K mg base A outer s H → BindsTo s fd args (ps.zip us) → Vals vs us → sp vs H Q E →
    codeAny (model P w) A (.call (.ref f) args) (CR CX outer P w H s Q E) s
theorem FnOk.mono {P : Program} {w : World} {K : PySem.W.Frag} {mg : Str → Option Value} {base : Heap} {CX : CXT} {j k : Nat} {f : Addr} {fd : FuncData} {ps : List Str} {sp : Sp} (F : FnOk P w K mg base CX j f fd ps sp) (h : j ≤ k) :
    FnOk P w K mg base CX k f fd ps sp := ⟨F.len, fun A outer s H args us vs Q E hr => F.run A outer s H args us vs Q E (hr.mono h)⟩
section
variable {X : Cx} {pins : List (Addr × Obj)} {σ : St} {H : Hp} {s s' : Shared}
theorem Inv.env0 (I : Inv X pins σ H s) : Env0 X.prog X.w X.K X.mg X.base X.A X.stack s H :=
  ⟨I.ok.frames, I.ok.mod, I.bs, Nat.le_trans I.ok.bsz I.sz, I.stack, I.stkFree, I.hok, I.bare⟩
theorem Inv.after {Q : VK} {u : Value} (I : Inv X pins σ H s) (h : CE X.stack X.prog X.w H s Q u s') : EP X pins σ Q u s' := by
  obtain ⟨v, H', os, bare, un, hok, r, q⟩ := h
  obtain ⟨hh, g, d, t, os'⟩ := s'
  obtain rfl : os' = s.os := os
  exact ⟨v, H', I.call (h' := hh) (g' := g) (d' := d) (t' := t) (ch := []) un hok bare (fun b z => absurd z (by simp)), r, q⟩
end
noncomputable def tCall (sp : Sp) (dvs : List V) (E : XK) (t : TA) : TE := fun σ H Q => t σ H fun vs H1 => sp (vs ++ dvs) H1 Q E
noncomputable def Binds (K : PySem.W.Frag) (fd : FuncData) (ps : List Str) (ds : List Value) : Prop :=
  ∀ (s : Shared) (us : List Value), K.In s.heap → (us ++ ds).length = ps.length → BindsTo s fd ⟨us, []⟩ (ps.zip (us ++ ds))
theorem Binds.all {K : PySem.W.Frag} {fd : FuncData} {ps : List Str} (h : ∀ us : List Value, us.length = ps.length → bindArgs fd ⟨us, []⟩ = pure (ps.zip us)) : Binds K fd ps [] := fun s us _ hl => by
  rw [List.append_nil] at hl ⊢
  exact .of_eq (h us hl)
noncomputable def Passes (CX : CXT) (X : Cx) (E : XK) : Prop := ∀ (pins : List (Addr × Obj)) (σ : St) (H : Hp) (s : Shared) (e : Value) (s' : Shared), Inv X pins σ H s → CX X.stack H s E e s' → X.xe e s'
section
variable {X : Cx} {CX : CXT} {k : Nat} {f C : Addr} {fd : FuncData} {ps : List Str} {sp : Sp} {dvs : List V} {ds : List Value} {E : XK} {x m : Str} {p pos apos : Pos} {e o : Expr} {es : List Expr} {ta : TE} {t : TA}
theorem run_fn {pins : List (Addr × Obj)} {σ : St} {H : Hp} {s : Shared} {Q : VK} {us : List Value} {vs : List V} (F : FnOk X.prog X.w X.K X.mg X.base CX k f fd ps sp) (hr : Room k X.A) (hb : Binds X.K fd ps ds) (hd : Vals dvs ds) (hx : Passes CX X E)
    (I : Inv X pins σ H s) (r : Vals vs us) (h : sp (vs ++ dvs) H Q E) : wpAny (model X.prog X.w) X.A (call (.ref f) us) (EP X pins σ Q) X.xe s := by
  have r2 : Vals (vs ++ dvs) (us ++ ds) := r.append hd
  have hl : (us ++ ds).length = ps.length := by rw [← r2.length]; exact F.len _ _ _ _ h
  refine wpAny_call (codeAny_mono (F.run X.A X.stack s H ⟨us, []⟩ (us ++ ds) (vs ++ dvs) Q E hr I.env0 (hb s us I.kIn hl) r2 h) fun r s' hq => ?_)
  cases r with
  | error e => exact hx pins σ H s e s' I hq
  | ok fl =>
    cases fl with
    | ret u => exact I.after hq
    | next => exact False.elim hq
    | brk => exact False.elim hq
    | cont => exact False.elim hq
theorem pe_call (F : FnOk X.prog X.w X.K X.mg X.base CX k f fd ps sp) (hr : Room k X.A) (hg : Gl X x) (hm : X.mg x = some (.ref f)) (hk : PySem.W.keepIn X.K (.ref f) = true) (hb : Binds X.K fd ps ds) (hd : Vals dvs ds) (hx : Passes CX X E)
    (ha : PA X (e :: es) t) (hdb : (x == ("__debug__" : Str)) = false := by decide) (he : starEach (e :: es) X.env = (false, eval e X.env) :: starEach es X.env := by rfl) (hpl : (backTo pos (starEach es X.env)).any (·.1) = false := by rfl) :
    PE X (.Call (.Name x p) (e :: es) [] pos) (tCall sp dvs E t) := by
  intro pins s σ H Q I h
  refine wpAny_Call_Name_kw (ld_glob I hg hm ?_ hdb)
  refine PySem.W.callWith_K (h₀ := X.base) I.ok.mod.kin hk (thn (ha pos pins s σ H _ I h) fun us s1 ⟨vs, H1, I1, r, q⟩ => ⟨I1.kIn, ?_⟩) he hpl
  exact run_fn F hr hb hd hx I1 r q
structure Mk (K : PySem.W.Frag) (C f : Addr) : Prop where
  makes : PySem.W.makesIn K C = true
  init : PySem.W.findIn K (.ref C) "__init__" = some (some (.ref f))
  fn : PySem.W.isFn K (.ref f) = true
  kp : PySem.W.keepIn K (.ref C) = true
end
section
variable {X : Cx} {CX : CXT} {k : Nat} {f C : Addr} {fd : FuncData} {ps ks : List Str} {sp : Sp} {E : XK} {x m : Str} {p pos apos kpos : Pos} {e o : Expr} {es : List Expr} {kws : List Keyword} {te ta : TE} {t tk : TA} {nm : Option Str}
structure KBinds (K : PySem.W.Frag) (fd : FuncData) (ps ks : List Str) (g : List Value → List Value → List Value) (gV : List V → List V → List V) : Prop where
  to : ∀ (s : Shared) (us ws : List Value), K.In s.heap → (g us ws).length = ps.length → BindsTo s fd ⟨us, ks.zip ws⟩ (ps.zip (g us ws))
  rel : ∀ {vs : List V} {us : List Value} {zs : List V} {ws : List Value}, Vals vs us → Vals zs ws → Vals (gV vs zs) (g us ws)
variable {g : List Value → List Value → List Value} {gV : List V → List V → List V}
end
structure FnScope (N P : List Str) (sc : Scope) : Prop where
  kind : sc.kind = .function
  co : sc.isCoroutine = false
  gen : sc.isGenerator = false
  nd : N.Nodup
  pre : N.take P.length = P
  par : ∀ x ∈ P, sc.names.lookup x = some .local ∨ sc.names.lookup x = some .cell
  nofree : ∀ y ∈ sc.names, y.2 ≠ .free
theorem bindL_out {kindOf : Str → Option NameKind} {x : Str} : ∀ {binds : List (Str × Value)} {m : Str → Option Value}, (∀ v, (x, v) ∉ binds) → bindL kindOf binds m x = m x
  | [], _, _ => rfl
  | (n, v) :: r, m, h => by
    unfold bindL
    rw [bindL_out fun w hw => h w (List.mem_cons_of_mem _ hw)]
    split
    · have : x ≠ n := by rintro rfl; exact h v List.mem_cons_self
      simp [this]
    · rfl
theorem bindC_out {kindOf : Str → Option NameKind} {x : Str} : ∀ {binds : List (Str × Value)} {m : Str → Option Value}, (∀ v, (x, v) ∉ binds) → bindC kindOf binds m x = m x
  | [], _, _ => rfl
  | (n, v) :: r, m, h => by
    unfold bindC
    rw [bindC_out fun w hw => h w (List.mem_cons_of_mem _ hw)]
    split
    · rfl
    · have : x ≠ n := by rintro rfl; exact h v List.mem_cons_self
      simp [this]
theorem bindL_get {kindOf : Str → Option NameKind} {x : Str} {v : Value} : ∀ {P : List Str} {vs : List Value} {i : Nat} {m : Str → Option Value}, P.Nodup → P[i]? = some x → vs[i]? = some v → kindOf x = some .local →
    bindL kindOf (P.zip vs) m x = some v
  | [], _, _, _, _, h, _, _ => by simp at h
  | _ :: _, [], _, _, _, _, h, _ => by simp at h
  | p :: P, w :: vs, 0, m, nd, h1, h2, hk => by
    simp at h1 h2; subst h1; subst h2
    show bindL kindOf ((p, w) :: P.zip vs) m p = _
    unfold bindL
    rw [bindL_out fun v hv => (List.nodup_cons.mp nd).1 (List.of_mem_zip hv).1, if_pos hk]
    simp
  | p :: P, w :: vs, i + 1, m, nd, h1, h2, hk => by
    show bindL kindOf ((p, w) :: P.zip vs) m x = _
    unfold bindL
    exact bindL_get (i := i) (List.nodup_cons.mp nd).2 (by simpa using h1) (by simpa using h2) hk
theorem bindC_get {kindOf : Str → Option NameKind} {x : Str} {v : Value} : ∀ {P : List Str} {vs : List Value} {i : Nat} {m : Str → Option Value}, P.Nodup → P[i]? = some x → vs[i]? = some v → kindOf x ≠ some .local →
    bindC kindOf (P.zip vs) m x = some v
  | [], _, _, _, _, h, _, _ => by simp at h
  | _ :: _, [], _, _, _, _, h, _ => by simp at h
  | p :: P, w :: vs, 0, m, nd, h1, h2, hk => by
    simp at h1 h2; subst h1; subst h2
    show bindC kindOf ((p, w) :: P.zip vs) m p = _
    unfold bindC
    rw [bindC_out fun v hv => (List.nodup_cons.mp nd).1 (List.of_mem_zip hv).1, if_neg hk]
    simp
  | p :: P, w :: vs, i + 1, m, nd, h1, h2, hk => by
    show bindC kindOf ((p, w) :: P.zip vs) m x = _
    unfold bindC
    exact bindC_get (i := i) (List.nodup_cons.mp nd).2 (by simpa using h1) (by simpa using h2) hk
noncomputable def start (N : List Str) (vs : List V) : St := vs.map some ++ List.replicate (N.length - vs.length) none
noncomputable def cxOf (CX : CXT) (P : Program) (w : World) (K : PySem.W.Frag) (mg : Str → Option Value) (base : Heap) (N : List Str) (qual : Str) (scope : Scope) (f : Addr) (cd : Value) (A : Around) (outer : List Env) (s : Shared) (H : Hp) (E : XK) : Cx where
  prog := P
  w := w
  K := K
  mg := mg
  base := base
  A := A.deeper (envOfC qual scope s.heap.objs.size f cd)
  N := N
  s₀ := s
  H₀ := H
  env := envOfC qual scope s.heap.objs.size f cd
  outer := outer
  stack := envOfC qual scope s.heap.objs.size f cd :: outer
  ex := []
  calm := true
  fn := fun _ => true
  pn := []
  xe := fun e s' => wpAny (model P w) (A.deeper (envOfC qual scope s.heap.objs.size f cd)) (leaving (envOfC qual scope s.heap.objs.size f cd) e) (fun _ s'' => CX outer H s E e s'') (fun e' s'' => CX outer H s E e' s'') s'
theorem cell_has {sc : Scope} {n : Nat} {x : Str} (h : sc.names.lookup x = some .cell) : ∃ c, (cellsFrom n sc.names []).lookup x = some c := by
  have q := PySem.W.cellsFrom_some sc.names n [] (.inl h)
  exact Option.isSome_iff_exists.mp q
theorem inv_start {CX : CXT} {P : Program} {w : World} {K : PySem.W.Frag} {mg : Str → Option Value} {base : Heap} {N ps : List Str} {qual : Str} {scope : Scope} {f : Addr} {cd : Value} {A : Around} {outer : List Env} {s s1 : Shared} {H : Hp} {E : XK} {us : List Value} {vs : List V}
    (S : FnScope N ps scope) (hd : A.handled = none) (e0 : Env0 P w K mg base A outer s H) (hl : vs.length = ps.length) (r : Vals vs us)
    (x : InCallC s s.heap.objs.size (bindL (envOfC qual scope s.heap.objs.size f cd).kindOf (ps.zip us) fun _ => none) (cellsFrom (s.heap.objs.size + 1) scope.names []) (bindC (envOfC qual scope s.heap.objs.size f cd).kindOf (ps.zip us) fun _ => none) s1) :
    Inv (cxOf CX P w K mg base N qual scope f cd A outer s H E) [] (start N vs) H s1 := by
  have hpl : ps.length ≤ N.length := by have := congrArg List.length S.pre; rw [List.length_take] at this; lia
  obtain ⟨h1, tk, rfl, hk⟩ := x.done
  have noA : ∀ b : Addr, b ∉ (cxOf CX P w K mg base N qual scope f cd A outer s H E).ex := fun b z => absurd (show b ∈ ([] : List Addr) from z) (by simp)
  refine ⟨⟨e0.mod, S.kind, rfl, rfl, Nat.le_refl _, fun y z c h1 h2 => ?_, fun y hy => ?_, fun y c _ h => ?_, fun _ => hd, Around.frames_deeper e0.frames, .inr ⟨rfl, rfl⟩, fun b z => absurd z (noA b), e0.bs, e0.bsz, fun b _ _ => noA b, fun b z => absurd z (noA b), e0.funs, e0.frf⟩,
    rfl, e0.bare, Un.kept hk, ⟨_, x.toInCall.ns, fun i y v h1 h2 h3 => ?_⟩, fun y c h => ⟨_, x.cell y c h⟩, e0.hok.fresh (Nat.le_refl _), fun y c h => ?_, fun p hp => absurd (show p ∈ ([] : List (Addr × Obj)) from hp) (by simp), e0.hok.kept hk, ?_⟩
  · exact name_of_addr x.apart (PySem.mem_of_lookup h1) (PySem.mem_of_lookup h2)
  · have hy : scope.names.lookup y = some .cell ∨ scope.names.lookup y = some .free := hy
    rcases hy with hy | hy
    · exact cell_has hy
    · exact absurd rfl (S.nofree _ (PySem.mem_of_lookup hy))
  · exact Nat.le_of_lt (x.above y c (PySem.mem_of_lookup h))
  · have hi : i < vs.length := by
      unfold start at h2
      by_cases hi : i < vs.length
      · exact hi
      · rw [List.getElem?_append_right (by simpa using hi)] at h2
        rw [List.getElem?_replicate] at h2
        split at h2 <;> cases h2
    have ha : vs[i]? = some v := by
      unfold start at h2
      rw [List.getElem?_append_left (by simpa using hi), List.getElem?_map] at h2
      cases e : vs[i]? with
      | none => rw [e] at h2; cases h2
      | some a => rw [e] at h2; cases h2; rfl
    obtain ⟨u, hu, rv⟩ := r.get ha
    have hp : ps[i]? = some y := by
      rw [← S.pre, List.getElem?_take_of_lt (by lia)]; exact h1
    have ndP : ps.Nodup := by rw [← S.pre]; exact S.nd.sublist (List.take_sublist _ _)
    refine ⟨u, rv, ?_⟩
    rcases S.par y (List.mem_of_getElem? hp) with k | k
    · exact .inl ⟨k, bindL_get ndP hp hu k⟩
    · obtain ⟨c, e⟩ := cell_has (n := s.heap.objs.size + 1) k
      refine .inr ⟨.inl k, c, e, ?_⟩
      have q := x.cell y c e
      rw [bindC_get ndP hp hu (by show scope.names.lookup y ≠ _; rw [k]; decide)] at q
      exact q
  · exact e0.hok.fresh (Nat.le_of_lt (x.above y c (PySem.mem_of_lookup h)))
  · unfold start
    show _ = N.length
    rw [List.length_append, List.length_map, List.length_replicate]
    lia
theorem fn_of {CX : CXT} {P : Program} {w : World} {K : PySem.W.Frag} {mg : Str → Option Value} {base : Heap} {k : Nat} {f : Addr} {name qual : Str} {params : Arguments} {body : List Stmt} {scope : Scope} {dV kV doc pm cdv ct oc : Value} {an od : Option Addr}
    {osl : Array (Option Value)} {N ps : List Str} {sp : Sp} (lk : K.lookup f = some ⟨oc, od, .func (PySem.W.fnOf name qual params body scope dV kV doc pm an cdv ct), osl⟩) (hcd : PySem.W.codeIn K cdv qual = true) (S : FnScope N ps scope)
    (len : ∀ vs H Q E, sp vs H Q E → vs.length = ps.length)
    (hbody : ∀ (A : Around) (outer : List Env) (s : Shared) (H : Hp) (vs : List V) (Q : VK) (E : XK), Room k (A.deeper (envOfC qual scope s.heap.objs.size f cdv)) → sp vs H Q E →
      ∃ t, PSs (cxOf CX P w K mg base N qual scope f cdv A outer s H E) body t ∧ t { nx := fun _ H' => Q .non H', rt := Q } (start N vs) H) :
    FnOk P w K mg base CX (k + 1) f (PySem.W.fnOf name qual params body scope dV kV doc pm an cdv ct) ps sp := by
  refine ⟨len, fun A outer s H args us vs Q E hr e0 hb r hsp => ?_⟩
  have hl := len _ _ _ _ hsp
  have KX : K.In s.heap := e0.mod.kin.keeps fun b o e => (e0.bs b o e).1
  have lim : s.heap.NoLimit := e0.mod.nolimit.keeps fun b o e => (e0.bs b o e).1
  have hkind : ∀ y ∈ ps.zip us, scope.names.lookup y.1 = some .local ∨ (scope.names.lookup y.1 = some .cell ∧ ((cellsFrom (s.heap.objs.size + 1) scope.names []).lookup y.1).isSome = true) := fun ⟨n, v⟩ hy => by
    rcases S.par n (List.of_mem_zip hy).1 with q | q
    · exact .inl q
    · exact .inr ⟨q, PySem.W.cellsFrom_some _ _ _ (.inl q)⟩
  refine codeAny_call_function hr.depth (KX _ _ lk) rfl S.co S.gen rfl (PySem.W.codeRec_of KX hcd) (hb _ _ _ _ ?_)
  refine wpAny_newFunctionEnv_cells S.kind hkind fun env he s1 x => ?_
  subst he
  refine ⟨lim.keeps x.toInCall.keep, codeAny_func ?_⟩
  obtain ⟨t, ht, hq⟩ := hbody A outer s H vs Q E (hr.deeper _) hsp
  have I : Inv (cxOf CX P w K mg base N qual scope f cdv A outer s H E) [] (start N vs) H s1 := inv_start S hr.hd e0 hl r x
  refine wpAny_mono (ht [] s1 (start N vs) H _ I hq) (fun fl s' hs => ?_) fun e s' hs => hs
  have fin : ∀ {σ' : St} {H' : Hp} {v : V} {u : Value}, Inv (cxOf CX P w K mg base N qual scope f cdv A outer s H E) [] σ' H' s' → RelV v u → Q v H' → CE outer P w H s Q u s' :=
    fun {σ' H' v u} J rv q => ⟨v, H', J.os, J.bare, J.base, J.hok, rv, q⟩
  cases fl with
  | ret u =>
    obtain ⟨v, σ', H', J, rv, q⟩ := hs
    exact fin J rv q
  | next =>
    obtain ⟨σ', H', J, q⟩ := hs
    exact fin (v := V.non) (u := Value.none) J rfl q
  | brk =>
    obtain ⟨_, _, _, q⟩ := hs
    exact False.elim q
  | cont =>
    obtain ⟨_, _, _, q⟩ := hs
    exact False.elim q
end L2
namespace L2
open PySem PySem.Spec PyProof.Rows
section
variable {X : Cx} {x : Str} {p pos : Pos} {e : Expr} {es : List Expr} {t : TA} {id T : String} {r : List V → Hp → VK → Prop}
noncomputable def tCB (r : List V → Hp → VK → Prop) (t : TA) : TE := fun σ H Q => t σ H fun vs H1 => r vs H1 Q
theorem pe_callB (hc : CallR X (.builtin id) r) (hg : Gl X x) (hm : X.mg x = none) (hv : bootBuiltins x = some (.builtin id)) (ha : PA X (e :: es) t) (hn : x ≠ "__name__" := by decide) (hdb : (x == ("__debug__" : Str)) = false := by decide)
    (he : starEach (e :: es) X.env = (false, eval e X.env) :: starEach es X.env := by rfl) (hpl : (backTo pos (starEach es X.env)).any (·.1) = false := by rfl) : PE X (.Call (.Name x p) (e :: es) [] pos) (tCB r t) := by
  intro pins s σ H Q I h
  refine wpAny_Call_Name_kw (ld_blt I hg hm hv ?_ hn hdb)
  exact PyProof.Rows.callWith_builtin1 (thn (ha pos pins s σ H _ I h) fun us s1 ⟨vs, H1, I1, r1, q1⟩ => hc pins s1 σ H1 vs us Q I1 r1 q1) he hpl
theorem pe_callTy (hc : CallR X (.type T) r) (hg : Gl X x) (hm : X.mg x = none) (hv : bootBuiltins x = some (.type T)) (ha : PA X (e :: es) t) (hn : x ≠ "__name__" := by decide) (hdb : (x == ("__debug__" : Str)) = false := by decide)
    (he : starEach (e :: es) X.env = (false, eval e X.env) :: starEach es X.env := by rfl) (hpl : (backTo pos (starEach es X.env)).any (·.1) = false := by rfl) : PE X (.Call (.Name x p) (e :: es) [] pos) (tCB r t) := by
  intro pins s σ H Q I h
  refine wpAny_Call_Name_kw (ld_blt I hg hm hv ?_ hn hdb)
  exact PyProof.Rows.callWith_type1 (thn (ha pos pins s σ H _ I h) fun us s1 ⟨vs, H1, I1, r1, q1⟩ => hc pins s1 σ H1 vs us Q I1 r1 q1) he hpl
end
end L2
namespace HT
open PySem PyProof.Rows
section
open PySem.SeqAt
open PySem.AutoSeq1 (wpAny_loadPart')
open PySem.MeetsSeq PySem.MeetsSeq2 PySem.MeetsSeq3
end
section
variable {prog : Program} {w : World} {A : Around} {E : Value → Shared → Prop} {s : Shared}
noncomputable def sIx (n d : Nat) : Option Int → Nat
  | none => d
  | some v => if v < 0 then (v + (n : Int)).toNat else min v.toNat n
theorem sIx_none (n d : Nat) : sIx n d none = d := rfl
theorem sIx_nat (n d k : Nat) : sIx n d (some (k : Int)) = min k n := by
  show (if (k : Int) < 0 then ((k : Int) + (n : Int)).toNat else min (k : Int).toNat n) = min k n
  rw [if_neg (by lia), Int.toNat_natCast]
end
end HT
namespace L2
open PySem PySem.Spec PyProof.Rows
noncomputable abbrev TO := St → Hp → (Option Int → Hp → Prop) → Prop
noncomputable def PO (X : Cx) (e : Option Expr) (t : TO) : Prop :=
  ∀ (pins : List (Addr × Obj)) (s : Shared) (σ : St) (H : Hp) (Q : Option Int → Hp → Prop), Inv X pins σ H s → t σ H Q →
    wpAny (model X.prog X.w) X.A (evalPart e X.env) (fun u s' => ∃ o H', Inv X pins σ H' s' ∧ IsPart u o ∧ Q o H') X.xe s
noncomputable def tNoPart : TO := fun _ H Q => Q none H
noncomputable def tPart (t : TE) : TO := fun σ H Q => t σ H fun x H1 => ∃ i, x = .int i ∧ Q (some i) H1
theorem intsAre_of {ns : List Int} : ∀ {us : List Value}, Vals (ns.map V.int) us → IntsAre us ns := by
  induction ns with
  | nil => intro us r; rw [List.map_nil] at r; cases r; exact .nil
  | cons n ns ih =>
    intro us r
    rw [List.map_cons] at r
    cases r with
    | cons r1 r2 =>
      obtain ⟨t, e⟩ := r1
      subst e
      exact .cons n t (ih r2)
section
variable {X : Cx} {e : Expr} {te : TE} {lo hi : Option Expr} {tl th : TO} {pos p2 : Pos}
theorem po_none : PO X none tNoPart := by
  intro pins s σ H Q I h
  rw [evalPart_none]
  exact wpAny_pure ⟨none, H, I, .none, h⟩
theorem po_some (h : PE X e te) : PO X (some e) (tPart te) := by
  intro pins s σ H Q I hw
  rw [evalPart_some]
  refine thn (h pins s σ H _ I hw) fun u s1 ⟨x, H1, I1, r1, q1⟩ => ?_
  obtain ⟨i, rfl, q⟩ := q1
  obtain ⟨t, rfl⟩ := r1
  exact ⟨some i, H1, I1, .int i t, q⟩
noncomputable def SlR (X : Cx) (r : V → Option Int → Option Int → Hp → VK → Prop) : Prop :=
  ∀ (pins : List (Addr × Obj)) (s : Shared) (σ : St) (H : Hp) (x : V) (v vl vu : Value) (lo hi : Option Int) (sl : Addr) (Q : VK), Inv X pins σ H s → RelV x v → s.heap.IsSliceOf sl vl vu .none → IsPart vl lo → IsPart vu hi → r x lo hi H Q →
    ∃ T id, typeLookup (.type T) "__getitem__" = pure (some (.builtin id)) ∧ s.TypeIs v T ∧ wpAny (model X.prog X.w) X.A (getItem v (.ref sl)) (EP X pins σ Q) X.xe s
noncomputable def tSl (r : V → Option Int → Option Int → Hp → VK → Prop) (te : TE) (tl th : TO) : TE := fun σ H Q => te σ H fun x H1 => tl σ H1 fun l H2 => th σ H2 fun u H3 => r x l u H3 Q
theorem pe_slice {r : V → Option Int → Option Int → Hp → VK → Prop} (hr : SlR X r) (he : PE X e te) (hl : PO X lo tl) (hu : PO X hi th) : PE X (.Subscript e (.Slice lo hi none p2) pos) (tSl r te tl th) := by
  intro pins s σ H Q I h
  refine Subscript_ (thn (he pins s σ H _ I h) fun v s1 ⟨x, H1, I1, r1, q1⟩ => ?_)
  refine wpAny_Slice (thn (hl pins s1 σ H1 _ I1 q1) fun vl s2 ⟨l, H2, I2, pl, q2⟩ => thn (hu pins s2 σ H2 _ I2 q2) fun vu s3 ⟨u, H3, I3, pu, q3⟩ => ?_)
  rw [evalPart_none]
  refine wpAny_pure ?_
  have I4 : Inv X pins σ H3 { s3 with heap := s3.heap.push { cls := .type "slice", data := .fields #[vl, vu, .none] } } := I3.kept (t' := s3.toks) fun b ob q => Heap.get?_push_of_some _ q
  obtain ⟨T, id, hT, ht, hg⟩ := hr pins { s3 with heap := s3.heap.push { cls := .type "slice", data := .fields #[vl, vu, .none] } } σ H3 x v vl vu l u s3.heap.objs.size Q I4 r1 (Heap.IsSliceOf.new ..) pl pu q3
  show wpAny (model X.prog X.w) X.A (subscriptTail e (.Slice lo hi none p2) v (.ref s3.heap.objs.size)) (EP X pins σ Q) X.xe { s3 with heap := s3.heap.push { cls := .type "slice", data := .fields #[vl, vu, .none] } }
  exact tail_any (ops := [.ref s3.heap.objs.size, v]) ht hT hg (by with_unfolding_all rfl)
noncomputable def cutV (xs : List V) (lo hi : Option Int) : List V := (xs.drop (HT.sIx xs.length 0 lo)).take (HT.sIx xs.length xs.length hi - HT.sIx xs.length 0 lo)
theorem cutV_length (xs : List V) (lo hi : Option Int) : (cutV xs lo hi).length ≤ xs.length := by
  unfold cutV
  rw [List.length_take, List.length_drop]
  lia
end
end L2
namespace L2
open PySem PySem.Spec PyProof.Rows
noncomputable def ixN (n : Nat) (i : Int) : Option Nat := if 0 ≤ i then (if i < n then some i.toNat else none) else if -(n : Int) ≤ i then some (i + n).toNat else none
noncomputable def atI {α : Type} (xs : List α) (i : Int) : Option α := (ixN xs.length i).bind fun j => xs[j]?
theorem ixN_seq {n : Nat} {i : Int} {j : Nat} (h : ixN n i = some j) : seqIndex? i n = some j ∧ j < n ∧ -(n : Int) ≤ i ∧ i < n := by
  unfold ixN at h
  by_cases h0 : 0 ≤ i
  · rw [if_pos h0] at h
    by_cases h1 : i < n
    · rw [if_pos h1] at h
      have e : i.toNat = j := Option.some.inj h
      exact ⟨by rw [seqIndex_of h0 h1, e], by lia, by lia, h1⟩
    · rw [if_neg h1] at h; cases h
  · rw [if_neg h0] at h
    by_cases h1 : -(n : Int) ≤ i
    · rw [if_pos h1] at h
      have e : (i + n).toNat = j := Option.some.inj h
      exact ⟨by rw [seqIndex_neg (by lia) h1, e], by lia, h1, by lia⟩
    · rw [if_neg h1] at h; cases h
theorem atI_get {α : Type} {xs : List α} {i : Int} {v : α} (h : atI xs i = some v) : ∃ j, seqIndex? i xs.length = some j ∧ xs[j]? = some v ∧ j < xs.length ∧ -(xs.length : Int) ≤ i ∧ i < xs.length := by
  unfold atI at h
  cases e : ixN xs.length i with
  | none => rw [e] at h; cases h
  | some j =>
    rw [e] at h
    obtain ⟨h1, h2, h3, h4⟩ := ixN_seq e
    exact ⟨j, h1, h, h2, h3, h4⟩
theorem atI_nat {α : Type} {xs : List α} {j : Nat} {v : α} (h : xs[j]? = some v) : atI xs (j : Int) = some v := by
  have hj : j < xs.length := (List.getElem?_eq_some_iff.mp h).1
  have e : ixN xs.length (j : Int) = some j := by
    unfold ixN
    rw [if_pos (by lia), if_pos (by lia)]; simp
  unfold atI; rw [e]; exact h
noncomputable def PlainIx (b : Expr) : Prop := ∀ o i, subscripted b false o i = operate [o, i] (getItem o i)
noncomputable def IxR (X : Cx) (r : R2) : Prop :=
  ∀ (value slice : Expr) (pins : List (Addr × Obj)) (s : Shared) (σ : St) (H : Hp) (x y : V) (v u : Value) (Q : VK), Inv X pins σ H s → RelV x v → RelV y u → r x y H Q →
    subscripted slice false v u = operate [v, u] (getItem v u) → wpAny (model X.prog X.w) X.A (subscriptTail value slice v u) (EP X pins σ Q) X.xe s
noncomputable def MtR (X : Cx) (id : String) (r : V → List V → Hp → VK → Prop) : Prop :=
  ∀ (pins : List (Addr × Obj)) (s : Shared) (σ : St) (H : Hp) (x : V) (xs : List V) (v : Value) (us : List Value) (Q : VK), Inv X pins σ H s → RelV x v → Vals xs us → r x xs H Q →
    wpAny (model X.prog X.w) X.A (call (.builtin id) (v :: us)) (EP X pins σ Q) X.xe s
section
variable {X : Cx} {a b : Expr} {ta tb : TE} {pos : Pos}
theorem pe_ix {r : R2} (hr : IxR X r) (ha : PE X a ta) (hb : PE X b tb) (hs : PlainIx b) : PE X (.Subscript a b pos) (tOp r ta tb) := by
  intro pins s σ H Q I h
  exact Subscript_ (binT ha hb I h fun v u s2 x y H2 I2 rx ry q => hr a b pins s2 σ H2 x y v u Q I2 rx ry q (hs _ _))
noncomputable def rIxL (K : PySem.W.Frag) : R2 := fun x y H Q => ∃ p xs i v, x = .ref p ∧ y = .int i ∧ SqL K H p xs ∧ atI xs i = some v ∧ Q v H
noncomputable def rIxT (K : PySem.W.Frag) : R2 := fun x y H Q => ∃ p xs i v, x = .ref p ∧ y = .int i ∧ SqT K H p xs ∧ atI xs i = some v ∧ Q v H
theorem ix_list : IxR X (rIxL X.K) := by
  intro value slice pins s σ H x y v u Q I rx ry h hs
  obtain ⟨p, xs, i, z, rfl, rfl, hq, he, q⟩ := h
  cases rx
  obtain ⟨t, rfl⟩ := ry
  obtain ⟨its, r, pl, hz⟩ := I.list hq
  obtain ⟨j, h1, h2, h3, h4, h5⟩ := atI_get he
  obtain ⟨w, ew, rw'⟩ := r.get h2
  have hl := r.length
  have hn := line63
  have fin : EP X pins σ Q w s := ⟨z, H, I, rw', q⟩
  by_cases h0 : 0 ≤ i
  · have hj : i.toNat = j := by
      rw [seqIndex_of h0 h5] at h1
      exact Option.some.inj h1
    exact item_listR pl.isList h0 (by lia) (by rw [hj]; simpa using ew) fin hs
  · have hj : (i + (its.toArray.size : Int)).toNat = j := by
      rw [seqIndex_neg (by lia) h4] at h1
      rw [List.size_toArray, ← hl]
      exact Option.some.inj h1
    exact subscriptTail_builtinR (x := w) pl.isList.typeIs slot_list_getitem.lookup
      (wpAny_getItem_list_neg (Q := fun r s' => r = w ∧ EP X pins σ Q r s') pl.isList (by lia) (by rw [List.size_toArray] <;> lia) (by lia) (by rw [hj]; simpa using ew) ⟨rfl, fin⟩) hs
theorem ix_tup : IxR X (rIxT X.K) := by
  intro value slice pins s σ H x y v u Q I rx ry h hs
  obtain ⟨p, xs, i, z, rfl, rfl, hq, he, q⟩ := h
  cases rx
  obtain ⟨t, rfl⟩ := ry
  obtain ⟨its, r, pl, hz⟩ := I.tuple hq
  obtain ⟨j, h1, h2, h3, h4, h5⟩ := atI_get he
  obtain ⟨w, ew, rw'⟩ := r.get h2
  have hl := r.length
  have hn := line63
  have fin : EP X pins σ Q w s := ⟨z, H, I, rw', q⟩
  exact subscriptTail_builtinR (x := w) pl.typeIs slot_tuple_getitem.lookup
    (getItem_tuple (j := j) (Q := fun r s' => r = w ∧ EP X pins σ Q r s') pl (by lia) (by lia) (by rw [List.size_toArray, ← hl]; exact h1) (by simpa using ew) ⟨rfl, fin⟩) hs
theorem mapSeq_set (its : List Value) (n j : Nat) (u : Value) : Obj.mapSeq (·.setIfInBounds j u) { cls := .type "list", data := .seq its.toArray n } = { cls := .type "list", data := .seq (its.set j u).toArray n } := by
  simp [Obj.mapSeq]
theorem Inv.lst {pins : List (Addr × Obj)} {σ : St} {H : Hp} {s : Shared} {p : Addr} {xs : List V} (I : Inv X pins σ H s) (h : H p = some (.lst xs)) :
    ∃ (its : List Value) (n : Nat), Vals xs its ∧ s.heap.get? p = some { cls := .type "list", data := .seq its.toArray n } ∧ xs.length ≤ sizeLine := by
  obtain ⟨z, its, n, r, e⟩ := I.hok p _ h
  exact ⟨its, n, r, e, z⟩
theorem Inv.lstUpd {pins : List (Addr × Obj)} {σ : St} {H : Hp} {s : Shared} {p : Addr} {xs ys : List V} {its its' : List Value} {n n' : Nat} {f : Obj → Obj} (I : Inv X pins σ H s) (h : H p = some (.lst xs))
    (ho : s.heap.get? p = some { cls := .type "list", data := .seq its.toArray n }) (hf : f { cls := .type "list", data := .seq its.toArray n } = { cls := .type "list", data := .seq its'.toArray n' }) (r : Vals ys its') (hz : ys.length ≤ sizeLine) (t : Nat) :
    Inv X pins σ (upd H p (.lst ys)) { s with heap := s.heap.update p f, toks := t } := by
  have e : (s.heap.update p f).get? p = some { cls := .type "list", data := .seq its'.toArray n' } := by
    rw [Heap.get?_update_self f ho (by rw [hf] <;> rfl), hf]
  refine I.write (x := p) (e := p) (by rw [h]; trivial) (.inl rfl) (fun b u hb q => (Heap.get?_update_other _ _ (Ne.symm hb)).trans q) ⟨_, e⟩ ?_
  exact ⟨hz, its', n', r, e⟩
noncomputable def rSetL : V → V → V → Hp → (Hp → Prop) → Prop := fun o i v H Q => ∃ p xs k j, o = .ref p ∧ i = .int k ∧ H p = some (.lst xs) ∧ ixN xs.length k = some j ∧ Q (upd H p (.lst (xs.set j v)))
theorem set_list : PSet X rSetL := by
  intro pins s σ H o i v ov iv u Q I ro ri rv h
  obtain ⟨p, xs, k, j, rfl, rfl, hp, hj, q⟩ := h
  cases ro
  obtain ⟨t, rfl⟩ := ri
  obtain ⟨its, n, r, ho, hz⟩ := I.lst hp
  obtain ⟨h1, h2, h3, h4⟩ := ixN_seq hj
  have hl := r.length
  have hn := line63
  have I' : Inv X pins σ (upd H p (.lst (xs.set j v))) { s with heap := s.heap.update p (Obj.mapSeq (·.setIfInBounds j u)) } :=
    I.lstUpd hp ho (mapSeq_set its n j u) (r.set rv j) (by rw [List.length_set]; exact hz) s.toks
  by_cases h0 : 0 ≤ k
  · have hk : k.toNat = j := by
      rw [seqIndex_of h0 h4] at h1
      exact Option.some.inj h1
    exact PySem.W.ki_setAt ho h0 (by lia) (by rw [List.size_toArray, ← hl]; exact h4) (by rw [hk]; exact ⟨_, I', q⟩)
  · have hk : (k + (its.toArray.size : Int)).toNat = j := by
      rw [seqIndex_neg (by lia) h3] at h1
      rw [List.size_toArray, ← hl]
      exact Option.some.inj h1
    exact PySem.W.ki_setBack ho (by lia) (by rw [List.size_toArray, ← hl]; exact h3) (by lia) (by rw [hk]; exact ⟨_, I', q⟩)
theorem slice_bounds (lo hi : Option Int) (n : Nat) : (sliceBounds lo hi none n).1 = ((HT.sIx n 0 lo : Nat) : Int) ∧ (sliceBounds lo hi none n).2.1 = ((HT.sIx n n hi : Nat) : Int) ∧ (sliceBounds lo hi none n).2.2 = 1 := by
  refine ⟨?_, ?_, rfl⟩
  · cases lo with
    | none => simp [sliceBounds, HT.sIx]
    | some i =>
      simp only [sliceBounds, HT.sIx, Option.getD_none, show (1 : Int) > 0 by decide, if_true]
      by_cases h : i < 0
      · simp only [h, if_true] <;> lia
      · simp only [h, if_false] <;> lia
  · cases hi with
    | none => simp [sliceBounds, HT.sIx]
    | some i =>
      simp only [sliceBounds, HT.sIx, Option.getD_none, show (1 : Int) > 0 by decide, if_true]
      by_cases h : i < 0
      · simp only [h, if_true] <;> lia
      · simp only [h, if_false] <;> lia
theorem slicePick_cut (its : List Value) (lo hi : Option Int) : slicePick its.toArray lo hi none = ((its.drop (HT.sIx its.length 0 lo)).take (HT.sIx its.length its.length hi - HT.sIx its.length 0 lo)).toArray := by
  obtain ⟨h1, h2, h3⟩ := slice_bounds lo hi its.toArray.size
  unfold slicePick
  rw [h1, h2, h3]
  simp only [sliceRange_one, pick_run, List.size_toArray] <;> rfl
noncomputable def rSlL (K : PySem.W.Frag) : V → Option Int → Option Int → Hp → VK → Prop := fun x lo hi H Q => ∃ a xs, x = .ref a ∧ SqL K H a xs ∧ ∀ p, H p = none → Q (.ref p) (upd H p (.lst (cutV xs lo hi)))
theorem sl_list : SlR X (rSlL X.K) := by
  intro pins s σ H x v vl vu lo hi sl Q I rx hs pl pu h
  obtain ⟨a, xs, rfl, hx, q⟩ := h
  cases rx
  obtain ⟨its, r, ht, hz⟩ := I.list hx
  have hlen := r.length
  refine ⟨"list", _, slot_list_getitem.lookup, ht.isList.typeIs, ?_⟩
  refine wpAny_getItem_list_slice ht.isList hs pl pu .none (by simp) ?_ (by rw [List.size_toArray] <;> lia)
  rw [slicePick_cut, ← hlen]
  refine ⟨.ref s.heap.objs.size, _, I.laid (t' := s.toks) (o := .lst (cutV xs lo hi)) (fun b ob q => Heap.get?_push_of_some _ q) (Nat.le_refl _) ?_, rfl, q _ (I.hok.fresh (Nat.le_refl _))⟩
  exact ⟨Nat.le_trans (cutV_length xs lo hi) hz, _, 0, (r.drop (HT.sIx xs.length 0 lo)).take (HT.sIx xs.length xs.length hi - HT.sIx xs.length 0 lo), Heap.get?_push_size _ rfl⟩
theorem call_len_seq : CallR X (.builtin "len") (fun xs H Q => ∃ p ys, xs = [.ref p] ∧ (SqL X.K H p ys ∨ SqT X.K H p ys) ∧ Q (.int ys.length) H) := by
  intro pins s σ H xs us Q I r h
  obtain ⟨p, ys, rfl, hq, q⟩ := h
  obtain ⟨u, rfl, rx⟩ := vals1 r
  cases rx
  have hn := line63
  rcases hq with hq | hq
  · obtain ⟨its, r', pl, hz⟩ := I.list hq
    have hlen := r'.length
    exact Calls.call_len_list pl.isList (by simp only [List.size_toArray] <;> lia) ⟨.int ys.length, H, I.tok _, ⟨s.toks + 1, by rw [List.size_toArray, hlen]⟩, q⟩
  · obtain ⟨its, r', pl, hz⟩ := I.tuple hq
    have hlen := r'.length
    exact len_tuple pl (by simp only [List.size_toArray] <;> lia) ⟨.int ys.length, H, I.tok _, ⟨s.toks + 1, by rw [List.size_toArray, hlen]⟩, q⟩
theorem call_list_of : CallR X (.type "list") (fun xs H Q => ∃ p ys, xs = [.ref p] ∧ (SqL X.K H p ys ∨ SqT X.K H p ys) ∧ ∀ l, H l = none → Q (.ref l) (upd H l (.lst ys))) := by
  intro pins s σ H xs us Q I r h
  obtain ⟨p, ys, rfl, hq, q⟩ := h
  obtain ⟨u, rfl, rx⟩ := vals1 r
  cases rx
  have fin : ∀ (its : List Value), Vals ys its → ys.length ≤ sizeLine → ∀ (h' : Heap) (c' : Nat), (∀ b o', s.heap.get? b = some o' → h'.get? b = some o') →
      h'.get? s.heap.objs.size = some { cls := .type "list", dict := none, data := .seq its.toArray c', slots := #[] } → EP X pins σ Q (.ref s.heap.objs.size) { s with heap := h' } := fun its r' hz h' c' kp e =>
    ⟨.ref s.heap.objs.size, _, I.laid (t' := s.toks) kp (Nat.le_refl _) (show ObjOk X.prog X.w _ h' _ (.lst ys) from ⟨hz, its, c', r', e⟩), rfl, q _ (I.hok.fresh (Nat.le_refl _))⟩
  rcases hq with hq | hq
  · obtain ⟨its, r', pl, hz⟩ := I.list hq
    have hlen := r'.length
    obtain ⟨o, ho, hc, n, hd⟩ := pl.isList
    exact call_list_seq p (.inl rfl) ho hc hd (fun h' c' kp e => fin its r' hz h' c' kp e) (by simp only [List.size_toArray] <;> lia)
  · obtain ⟨its, r', pl, hz⟩ := I.tuple hq
    have hlen := r'.length
    obtain ⟨o, ho, hc, n, hd⟩ := pl
    exact call_list_seq p (.inr rfl) ho hc hd (fun h' c' kp e => fin its r' hz h' c' kp e) (by simp only [List.size_toArray] <;> lia)
noncomputable def tyV (K : PySem.W.Frag) (T : String) (x : V) (H : Hp) : Prop := match x with
  | .str _ => T = "str"
  | .int _ => T = "int"
  | .ref p => (T = "list" ∧ ∃ xs, SqL K H p xs) ∨ (T = "tuple" ∧ ∃ o, K.lookup p = some o ∧ o.cls = .type "tuple" ∧ o.dict = none) ∨
      (T = "dict" ∧ ((∃ kvs, H p = some (.dK kvs)) ∨ ∃ kvs, H p = some (.dT kvs))) ∨ (T = "set" ∧ ∃ S n, H p = some (.set S n))
  | _ => False
theorem tyV_is {pins : List (Addr × Obj)} {σ : St} {H : Hp} {s : Shared} {T : String} {x : V} {v : Value} (I : Inv X pins σ H s) (r : RelV x v) (ty : tyV X.K T x H) :
    s.TypeIs v T ∧ ∀ a, v = .ref a → ∃ ob, s.heap.get? a = some ob ∧ ob.dict = none := by
  cases x with
  | str z =>
    obtain ⟨t, rfl⟩ := r
    cases (show T = "str" from ty)
    exact ⟨typeIs_str s z t, fun _ e => nomatch e⟩
  | int i =>
    obtain ⟨t, rfl⟩ := r
    cases (show T = "int" from ty)
    exact ⟨typeIs_int s i t, fun _ e => nomatch e⟩
  | ref p =>
    cases r
    rcases ty with ⟨rfl, xs, hq⟩ | ⟨rfl, o, hk, hc, hd⟩ | ⟨rfl, hk⟩ | ⟨rfl, S, n, hk⟩
    · obtain ⟨its, _, pl, _⟩ := I.list hq
      refine ⟨pl.isList.typeIs, fun a e => ?_⟩
      cases e
      obtain ⟨o, n, e, c, hd, _⟩ := pl
      exact ⟨o, e, hd⟩
    · refine ⟨⟨o, I.kIn p o hk, hc⟩, fun a e => ?_⟩
      cases e
      exact ⟨o, I.kIn _ o hk, hd⟩
    · have z : ∃ o, s.heap.get? p = some o ∧ o.ExactDict := by
        rcases hk with ⟨kvs, hk⟩ | ⟨kvs, hk⟩
        · obtain ⟨_, _, _, _, o, _, _, e, ex, _⟩ := I.hok p _ hk
          exact ⟨o, e, ex⟩
        · obtain ⟨_, _, _, _, o, _, _, e, ex, _⟩ := I.hok p _ hk
          exact ⟨o, e, ex⟩
      obtain ⟨o, e, ex⟩ := z
      refine ⟨⟨o, e, ex.1⟩, fun a e2 => ?_⟩
      cases e2
      exact ⟨o, e, ex.2.1⟩
    · obtain ⟨o, _, _, _, e, ex, _⟩ := I.hok p _ hk
      refine ⟨⟨o, e, ex.1⟩, fun a e2 => ?_⟩
      cases e2
      exact ⟨o, e, ex.2.1⟩
  | _ => exact False.elim ty
noncomputable def tBM0 (K : PySem.W.Frag) (T : String) (r : V → List V → Hp → VK → Prop) (to : TE) : TE := fun σ H Q => to σ H fun x H1 => tyV K T x H1 ∧ r x [] H1 Q
noncomputable def tBM (K : PySem.W.Frag) (T : String) (r : V → List V → Hp → VK → Prop) (to : TE) (t : TA) : TE := fun σ H Q => to σ H fun x H1 => tyV K T x H1 ∧ t σ H1 fun xs H2 => r x xs H2 Q
variable {o e : Expr} {es : List Expr} {to : TE} {t : TA} {name : Str} {apos cpos : Pos} {T id : String} {r : V → List V → Hp → VK → Prop}
theorem pe_bm0 (pa : PlainAttrs T) (slot : Slot T name id) (hty : typeOf (.builtin id) = pure (.type "method_descriptor")) (hm : MtR X id r) (ho : PE X o to)
    (hbase : attributeBase o name X.env (eval o X.env) = eval o X.env := by rfl) (hline : (apos.endLine == cpos.line) = true := by rfl) : PE X (.Call (.Attribute o name apos) [] [] cpos) (tBM0 X.K T r to) := by
  intro pins s σ H Q I h
  refine wpAny_Call_method0_late hbase hline (thn (ho pins s σ H _ I h) fun v s1 ⟨x, H1, I1, r1, ty, q1⟩ => ?_)
  obtain ⟨h1, h2⟩ := tyV_is I1 r1 ty
  exact ⟨T, id, pa, slot, hty, h1, h2, Calls.callWith_builtin rfl (PySem.evalArgs_none (hm pins s1 σ H1 x [] v [] Q I1 r1 .nil q1))⟩
theorem pe_bm (pa : PlainAttrs T) (slot : Slot T name id) (hty : typeOf (.builtin id) = pure (.type "method_descriptor")) (hm : MtR X id r) (ho : PE X o to) (ha : PA X (e :: es) t)
    (hbase : attributeBase o name X.env (eval o X.env) = eval o X.env := by rfl)
    (hfew : ((backTo cpos (starEach (e :: es) X.env)).all (fun x => !x.1) && (backToKw cpos (keywordEach [] X.env)).all (fun x => x.1.isSome)
      && decide ((e :: es).length + ([] : List Keyword).length + (if ([] : List Keyword).isEmpty then 0 else 1) < 30)) = true := by rfl)
    (hline : (apos.endLine == cpos.line) = true := by rfl) (hs : starEach (e :: es) X.env = (false, eval e X.env) :: starEach es X.env := by rfl) (hplain : (backTo cpos (starEach es X.env)).any (·.1) = false := by rfl) :
    PE X (.Call (.Attribute o name apos) (e :: es) [] cpos) (tBM X.K T r to t) := by
  intro pins s σ H Q I h
  refine wpAny_Call_method_late hbase hfew hline rfl (thn (ho pins s σ H _ I h) fun v s1 ⟨x, H1, I1, r1, ty, q1⟩ => ?_)
  obtain ⟨h1, h2⟩ := tyV_is I1 r1 ty
  refine ⟨T, id, pa, slot, hty, h1, h2, ?_⟩
  have hA := ha cpos pins s1 σ H1 _ I1 q1
  rw [hs] at hA ⊢
  refine Calls.callWith_builtin (by show (false || (backTo cpos (starEach es X.env)).any (·.1)) = false; rw [hplain] <;> rfl) (Calls.evalArgs_plain ?_)
  exact thn hA fun us s2 ⟨vs, H2, I2, r2, q2⟩ => hm pins s2 σ H2 x vs v us Q I2 r1 r2 q2
/- xs.append(e), list.index on a module's tuple .. are MtR facts of 06m -/
end
end L2
namespace L2
open PySem PySem.Spec PyProof.Rows
noncomputable def MtM (X : Cx) (id : String) (r : V → List V → Hp → VK → Prop) : Prop :=
  ∀ (pins : List (Addr × Obj)) (s : Shared) (σ : St) (H : Hp) (x : V) (xs : List V) (v : Value) (us : List Value) (Q : VK), Inv X pins σ H s → RelV x v → Vals xs us → r x xs H Q →
    wpAny (model X.prog X.w) X.A (call (.builtin id) (v :: us)) (EP X pins σ Q) X.xe s
theorem Vals.one : ∀ {x : V} {us : List Value}, Vals [x] us → ∃ u, us = [u] ∧ RelV x u
  | _, _, .cons r .nil => ⟨_, rfl, r⟩
theorem Vals.zero : ∀ {us : List Value}, Vals [] us → us = []
  | _, .nil => rfl
theorem Vals.dropLast {xs : List V} {us : List Value} (h : Vals xs us) : Vals xs.dropLast us.dropLast := by
  induction h with
  | nil => exact .nil
  | cons r t ih =>
    cases t with
    | nil => exact .nil
    | cons q t' => exact .cons r ih
theorem Vals.rep {xs : List V} {us : List Value} (h : Vals xs us) : ∀ k : Nat, Vals (List.replicate k xs).flatten (List.replicate k us).flatten
  | 0 => .nil
  | k + 1 => by
    rw [List.replicate_succ, List.replicate_succ, List.flatten_cons, List.flatten_cons]
    exact Vals.append h (Vals.rep h k)
theorem erase_last {α : Type} (l : List α) : l.eraseIdx (l.length - 1) = l.dropLast := by
  induction l with
  | nil => rfl
  | cons a r ih =>
    cases r with
    | nil => rfl
    | cons b r =>
      have e : (a :: b :: r).length - 1 = ((b :: r).length - 1) + 1 := by
        have h1 : (a :: b :: r).length = r.length + 2 := rfl
        have h2 : (b :: r).length = r.length + 1 := rfl
        lia
      rw [e, List.eraseIdx_cons_succ, ih]
      all_goals rfl
theorem foldl_rep (its : List Value) : ∀ (k : Nat) (acc : List Value),
    List.foldl (fun x1 x2 => x1 ++ x2) acc.toArray (List.replicate k its.toArray) = (acc ++ (List.replicate k its).flatten).toArray
  | 0, acc => by simp
  | k + 1, acc => by
    have e : acc.toArray ++ its.toArray = (acc ++ its).toArray := by simp
    have e2 : (acc ++ its) ++ (List.replicate k its).flatten = acc ++ (List.replicate (k + 1) its).flatten := by
      rw [List.replicate_succ, List.flatten_cons, List.append_assoc]
    rw [← e2, ← foldl_rep its k (acc ++ its), ← e, List.replicate_succ, List.foldl_cons]
section
variable {X : Cx} {pins : List (Addr × Obj)} {σ : St} {H : Hp} {s : Shared} {l b : Addr} {xs ys zs : List V}
theorem Inv.lset {its its' : List Value} {n : Nat} {f : Array Value → Array Value} {t' : Nat} (I : Inv X pins σ H s) (hH : H l = some (.lst xs))
    (e : s.heap.get? l = some { cls := .type "list", data := .seq its.toArray n }) (hf : f its.toArray = its'.toArray) (hv : Vals ys its') (hz : ys.length ≤ sizeLine) :
    Inv X pins σ (upd H l (.lst ys)) { s with heap := s.heap.update l (Obj.mapSeq f), toks := t' } := by
  have q := PySem.IsL.update e f
  rw [hf] at q
  refine I.write (x := l) (e := l) (by rw [hH]; exact trivial) (.inl rfl) (fun b' u hb hu => (Heap.get?_update_other s.heap (Obj.mapSeq f) (Ne.symm hb)).trans hu) ⟨_, q⟩ ?_
  exact ⟨hz, its', _, hv, q⟩
theorem Inv.lnew {its : List Value} {t' : Nat} (I : Inv X pins σ H s) (hv : Vals ys its) (hz : ys.length ≤ sizeLine) :
    Inv X pins σ (upd H s.heap.objs.size (.lst ys)) { s with heap := s.heap.push { cls := .type "list", data := .seq its.toArray }, toks := t' } :=
  I.laid (fun _ _ q => Heap.get?_push_of_some _ q) (Nat.le_refl _) ⟨hz, its, 0, hv, Heap.get?_push_size _ rfl⟩
theorem Inv.fresh (I : Inv X pins σ H s) : H s.heap.objs.size = none := I.hok.fresh (Nat.le_refl _)
theorem Inv.lstM (I : Inv X pins σ H s) (hH : H l = some (.lst xs)) : xs.length ≤ sizeLine ∧ ∃ (its : List Value) (n : Nat), Vals xs its ∧ xs.length = its.length ∧ s.heap.get? l = some { cls := .type "list", data := .seq its.toArray n } := by
  obtain ⟨z, its, n, r, e⟩ := I.hok l _ hH
  exact ⟨z, its, n, r, r.length, e⟩
theorem notLongL {n : Nat} (h : n ≤ sizeLine) : Builtin.List.listTooLong n = false := by
  unfold Builtin.List.listTooLong
  exact decide_eq_false (by lia)
end
section
variable {X : Cx}
noncomputable def rAppend : V → List V → Hp → VK → Prop := fun x vs H Q => ∃ l xs y, x = .ref l ∧ vs = [y] ∧ H l = some (.lst xs) ∧ xs.length < sizeLine ∧ Q .non (upd H l (.lst (xs ++ [y])))
theorem mt_append : MtM X "list.append" rAppend := by
  intro pins s σ H x vs v us Q I rx rv h
  obtain ⟨l, xs, y, rfl, rfl, hH, hz, q⟩ := h
  cases rx
  obtain ⟨u, rfl, ru⟩ := rv.one
  obtain ⟨z, its, n, r, hl, e⟩ := I.lstM hH
  refine call_meets F.slot_list_append ⟨_, e, rfl⟩ F.entry_list_append (F.args_list_append_2 _ _) (PySem.list_append l its.toArray n u (by rw [List.size_toArray]; lia)) ⟨e, ?_⟩
  refine ⟨.non, _, I.lset (its' := its ++ [u]) hH e (by simp) (r.append (.cons ru .nil)) ?_, rfl, q⟩
  rw [List.length_append, List.length_singleton]
  lia
noncomputable def rPop : V → List V → Hp → VK → Prop := fun x vs H Q => ∃ l xs y, x = .ref l ∧ vs = [] ∧ H l = some (.lst xs) ∧ xs[xs.length - 1]? = some y ∧ Q y (upd H l (.lst xs.dropLast))
theorem mt_pop : MtM X "list.pop" rPop := by
  intro pins s σ H x vs v us Q I rx rv h
  obtain ⟨l, xs, y, rfl, rfl, hH, hy, q⟩ := h
  cases rx
  have hus := rv.zero
  subst hus
  obtain ⟨z, its, n, r, hl, e⟩ := I.lstM hH
  obtain ⟨u, hu, ru⟩ := r.get hy
  have hy' : its.toArray[its.toArray.size - 1]? = some u := by
    show its.toArray[its.length - 1]? = some u
    rw [← Array.getElem?_toList, ← hl]
    exact hu
  refine call_meets F.slot_list_pop ⟨_, e, rfl⟩ F.entry_list_pop (F.args_list_pop_1 _) (MeetsSeq.list_pop_last l its.toArray n u hy' (by rw [List.size_toArray]; lia)) ⟨e, ?_⟩
  refine ⟨y, _, I.lset (its' := its.dropLast) hH e ?_ r.dropLast ?_, ru, q⟩
  · show its.toArray.eraseIdxIfInBounds (its.toArray.size - 1) = its.dropLast.toArray
    rw [List.size_toArray, List.eraseIdxIfInBounds_toArray, erase_last]
  · rw [List.length_dropLast]
    lia
noncomputable def rRep : R2 := fun x y H Q => ∃ l k xs, x = .ref l ∧ y = .int k ∧ H l = some (.lst xs) ∧ -(2 ^ 63) ≤ k ∧ k < 2 ^ 63 ∧ xs.length * k.toNat ≤ sizeLine ∧
  ∀ p, H p = none → Q (.ref p) (upd H p (.lst (List.replicate k.toNat xs).flatten))
theorem len_rep {α : Type} (xs : List α) (k : Nat) : (List.replicate k xs).flatten.length = k * xs.length := by
  induction k with
  | zero => simp
  | succ k ih => rw [List.replicate_succ, List.flatten_cons, List.length_append, ih, Nat.succ_mul, Nat.add_comm]
theorem op_rep : OpR X (binaryOp .Mult) rRep := by
  intro pins s σ H x y v u Q I rx ry h
  obtain ⟨l, k, xs, rfl, rfl, hH, h1, h2, hz, q⟩ := h
  cases rx
  obtain ⟨t, rfl⟩ := ry
  obtain ⟨z, its, n, r, hl, e⟩ := I.lstM hH
  have hlen : its.toArray.size * k.toNat ≤ sizeLine := by rw [List.size_toArray, ← hl]; exact hz
  have hcap : ¬ its.toArray.size * k.toNat > (2 ^ 63 - 1) / 8 := by
    have : (sizeLine : Nat) ≤ (2 ^ 63 - 1) / 8 := by decide
    lia
  have hfit : ¬ (!Builtin.List.listFitsIndex k) = true := by
    rw [fitsIndex_both h1 h2]
    exact Bool.false_ne_true
  have hlong : ¬ Builtin.List.listTooLong (its.toArray.size * k.toNat) = true := by
    rw [notLongL hlen]
    exact Bool.false_ne_true
  have hnew : List.foldl (fun x1 x2 => x1 ++ x2) #[] (List.replicate (if its.toArray.isEmpty = true then 0 else k.toNat) its.toArray) = (List.replicate k.toNat its).flatten.toArray := by
    have f0 : ∀ m : Nat, List.foldl (fun x1 x2 => x1 ++ x2) #[] (List.replicate m its.toArray) = (List.replicate m its).flatten.toArray := fun m => by
      have := foldl_rep its m []
      rw [List.nil_append] at this
      exact this
    rw [f0]
    cases its with
    | nil => simp
    | cons a r' => rw [if_neg (by simp)]
  refine wpAny_binaryOp_repeat_ref (T := "list") (U := "int") (by decide) ⟨_, e, rfl⟩ (fun s' => typeIs_int s' k t) noFill_list_mul F.fills_int_mul F.slot_int_rmul repeat_list F.slot_int_index.lookup
    (call_meets F.slot_int_rmul (typeIs_int s k t) F.entry_int_rmul (F.args_int_rmul_2 _ _) (int___rmul___int_list k t l its.toArray n)
      ⟨e, rfl, ⟨_, e, rfl⟩, call_meets F.slot_list_mul ⟨_, e, rfl⟩ F.entry_list_mul (F.args_list_mul_2 _ _) (AutoListH.list___mul___list_int_3 l its.toArray n k t hfit hcap hlong) ⟨e, ?_⟩⟩)
  rw [hnew]
  exact ⟨.ref _, _, I.lnew (t' := s.toks) (r.rep k.toNat) (by rw [len_rep, Nat.mul_comm]; exact hz), rfl, q _ I.fresh⟩
end
section
variable {prog : Program} {w : World} {A : Around} {E : Value → Shared → Prop} {s : Shared}
end
section
variable {X : Cx}
end
end L2
namespace Att
open PySem PySem.W PySem.Calls PyProof.Rows
theorem ints_of_wellAll {P : Params} {h : Heap} : ∀ (ns : List Int) (vs : List Value), WellAll P h vs (ns.map WData.int) → IntsAre vs ns := by
  intro ns
  induction ns with
  | nil =>
    intro vs w
    rw [List.map_nil] at w
    cases w
    exact .nil
  | cons n ns ih =>
    intro vs w
    rw [List.map_cons] at w
    cases w with
    | cons a b =>
      cases a
      exact .cons _ _ (ih _ b)
theorem script_of {l : OpenLaw} {n : Nat} (hn : l.most = some n) {P : Params} {h : Heap} {args : List WData} {vals : List Value}
    (hpre : l.row.toRowW.claim.pre args = true) (hwl : WellAll P h vals args) :
    ∃ a vs ns, vals = [Value.ref a] ∧ args = [WData.list (ns.map WData.int)] ∧ h.get? a = some { cls := .type "list", data := .seq vs.toArray } ∧ IntsAre vs ns ∧ ns.length ≤ n := by
  have hsh : WShape.hasAll [] args [.list .int] = true := (pre_splitW hpre).1
  have hc : l.pre.holds [] { args := args } = true := (pre_splitW hpre).2
  obtain ⟨d, r, rfl, h1, h2⟩ := hasAllW_cons hsh
  obtain rfl := hasAllW_nil h2
  obtain ⟨xs, rfl, h3⟩ := hasW_list h1
  obtain ⟨ns, rfl⟩ := items_int h3
  have hlen : ns.length ≤ n := by
    unfold OpenLaw.pre at hc
    have h4 : (WTm.not (.lt (.lit (.int (n : Int))) (.len (.arg 0)))).holds [] { args := [.list (ns.map .int)] } = true := by
      have h4 := (holds_andW hc).1
      rw [hn] at h4
      exact h4
    have h5 := condW_of h4 (w_not (w_lt w_lit (w_len_list (w_arg rfl))))
    rw [List.length_map] at h5
    refine Nat.le_of_not_lt fun q => ?_
    have q' : (n : Int) < ((ns.length : Nat) : Int) := by lia
    first
      | (rw [decide_eq_true q'] at h5; exact absurd h5 (by decide))
      | (simp at h5; lia)
  cases hwl with
  | cons w1 w2 =>
    cases w2
    cases w1 with
    | list ho hall => exact ⟨_, _, ns, rfl, rfl, ho, ints_of_wellAll ns _ hall, hlen⟩
theorem post_true (l : OpenLaw) (args : List WData) : l.row.toRowW.claim.post args (.bool true) args = true :=
  postW_of (r := l.row.toRowW) (X := (true == true))
    (show WShape.has [] (.bool true) .bool = true by first | rfl | decide | simp [WShape.has, WShape.arms, WShape.armsAll])
    (show (WTm.eq .res (.lit (.bool true))).value [] { args := args, res := some (.bool true), after := args } = some (.bool (true == true)) from w_eq_bool (w_res rfl) w_lit) rfl
theorem attach_call {l : OpenLaw} {n : Nat} {q : Program} {loose : List Str} {XP : (Str → Option Value) → Heap → Prop} {YP : World → Heap → Prop} {d : DefRec}
    (hn : l.most = some n) (hdf : d.params.defaults = [])
    (call : ∀ (w : World) (s₀ s₁ : Shared) (mg mb : Str → Option Value) (fa : Addr) (o : Obj) (pm cd doc : Value) (a : Addr) (vs : List Value) (ns : List Int),
      Ground q loose [] XP w s₀ mg mb s₁.heap → YP w s₁.heap →
      s₁.heap.get? fa = some o → o.data = .func (docDef d.name d.params d.body d.scope pm cd doc) → s₁.heap.CodeRec cd d.name → mg d.name = some (.ref fa) →
      s₁.heap.get? a = some { cls := .type "list", data := .seq vs.toArray } → IntsAre vs ns → ns.length ≤ n → s₁.gens = #[] →
      codeAny (model l.prog w) callerA (.call (.ref fa) ⟨[.ref a], []⟩) (fun r s' => r = .ok (.ret (.bool true)) ∧ OldK s₁.heap s'.heap ∧ s'.os = s₁.os ∧ AllBare s'.gens) s₁) :
    WalkO q loose XP YP l.row.toRowW d [] (fun f vs => PySem.call f vs) := by
  intro w s₀ s₁ mg mb G Y fa o pm cd doc dV kV ho hd hcd hD hmg hg args vals as hpre hlay hrd hwl hlo
  obtain rfl : dV = .none := Dflts.none hD hdf
  obtain rfl : kV = .none := Dflts.noKw hD
  obtain ⟨a, vs, ns, rfl, rfl, hobj, hints, hlen⟩ := script_of hn hpre hwl
  refine enter_call (codeAny_mono (call w s₀ s₁ mg mb fa o pm cd doc a vs ns G Y ho (fd_plain hd) hcd hmg hobj hints hlen hg) fun r s' hq => ?_)
  obtain ⟨rfl, h2, h3, h4⟩ := hq
  exact ⟨.inl ⟨.bool true, .bool true, [], rfl, fun _ => rfl, .bool true, post_true l _, fun _ => ⟨List.Pairwise.nil, fun _ hm => (nomatch hm)⟩⟩, h2, h3, h4⟩
section
variable {prog : Program} {w : World} {A : Around} {E : Value → Shared → Prop} {s : Shared} {K : Frag}
end
end Att
namespace L2
open PySem PySem.Spec PyProof.Rows
theorem vals_ints : ∀ {vs : List Value} {ns : List Int}, IntsAre vs ns → Vals (ns.map V.int) vs
  | _, _, .nil => .nil
  | _, _, .cons n t h => .cons ⟨t, rfl⟩ (vals_ints h)
noncomputable def Only (H : Hp) : Prop := ∀ b, H b = none ∨ ∃ o xs, H b = some (.frz o (.lst xs))
theorem law_call {P : Program} {w : World} {K : PySem.W.Frag} {mg mb : Str → Option Value} {CX : CXT} {k : Nat} {fa a : Addr} {fd : FuncData} {x : Str} {sp : Sp} {s₁ : Shared} {vs : List Value} {ns : List Int}
    (KX : K.In s₁.heap) (hns : s₁.heap.Ns mainGlobals mg) (hb : s₁.heap.Ns builtinsNs mb) (hbb : ∀ x : Str, x ≠ "__name__" → mb x = bootBuiltins x) (hlim : s₁.heap.NoLimit) (hseer : s₁.heap.NoSeer) (hg : s₁.gens = #[])
    (ha : s₁.heap.get? a = some { cls := .type "list", data := .seq vs.toArray }) (hi : IntsAre vs ns) (hl : ns.length ≤ sizeLine) (hr : Room k callerA)
    (F : ∀ base : Heap, K.In base → base.Ns mainGlobals mg → FnOk P w K mg base CX k fa fd [x] sp) (hbind : ∀ (s : Shared) (u : Value), BindsTo s fd ⟨[u], []⟩ [(x, u)])
    (hsp : ∀ H : Hp, Only H → SqL K H a (ns.map V.int) → sp [.ref a] H (fun v _ => v = .bl true) fun _ _ _ => False)
    (hCX : ∀ H e s', CX [] H s₁ (fun _ _ _ => False) e s' → False) :
    codeAny (model P w) callerA (.call (.ref fa) ⟨[.ref a], []⟩) (fun r s' => r = .ok (.ret (.bool true)) ∧ OldK s₁.heap s'.heap ∧ s'.os = s₁.os ∧ AllBare s'.gens) s₁ := by
  have rv := vals_ints hi
  have lenV := hi.length
  have core : ∀ H : Hp, Only H → SqL K H a (ns.map V.int) → HOk P w H s₁.heap → (∀ b, H b ≠ none → b = a) → (H a ≠ none → K.lookup a = none) →
      codeAny (model P w) callerA (.call (.ref fa) ⟨[.ref a], []⟩) (fun r s' => r = .ok (.ret (.bool true)) ∧ OldK s₁.heap s'.heap ∧ s'.os = s₁.os ∧ AllBare s'.gens) s₁ := by
    intro H hO hS hok hA hK
    have base_of : ∀ {b : Addr} {o : Obj}, s₁.heap.get? b = some o → H b = none → (hidT s₁.heap H).get? b = some o := fun e n => hidT_get e n
    have noA : ∀ {b : Addr} {o : Obj} {es : Array DictEntry} {ep : Nat}, s₁.heap.get? b = some o → o.data = .dict es ep → H b = none := fun {b o es ep} e d => by
      cases q : H b with
      | none => rfl
      | some u =>
        have e' : b = a := hA b (by rw [q]; simp)
        subst e'
        rw [ha] at e; cases e
        have d' : Data.seq vs.toArray _ = Data.dict es ep := d
        cases d'
    have nsK : ∀ {b : Addr} {m : Str → Option Value}, s₁.heap.Ns b m → (hidT s₁.heap H).Ns b m := fun {b m} ⟨o, es, ep, e, d, r⟩ => ⟨o, es, ep, base_of e (noA e d), d, r⟩
    have hKb : K.In (hidT s₁.heap H) := fun b o e => base_of (KX b o e) (by
      cases q : H b with
      | none => rfl
      | some u =>
        have e' : b = a := hA b (by rw [q]; simp)
        subst e'
        rw [hK (by rw [q]; simp)] at e; cases e)
    have hM : Mod K mg (hidT s₁.heap H) := ⟨hKb, nsK hns, ⟨mb, nsK hb, hbb⟩, (let ⟨mc, h1, h2⟩ := hlim; ⟨mc, nsK h1, h2⟩), (let ⟨mc, h1, h2⟩ := hseer.statics; ⟨mc, nsK h1, h2⟩), (let ⟨mc, h1, h2⟩ := hseer.mods; ⟨mc, nsK h1, h2⟩), (let ⟨mc, h1, h2⟩ := hseer.imp; ⟨mc, nsK h1, h2⟩),
      (let ⟨g, bm, ob, h1, h2, h3, h4, h5⟩ := hseer.main; ⟨g, bm, ob, nsK h1, h2, base_of h3 (by
        cases q : H bm with
        | none => rfl
        | some u =>
          have e' : bm = a := hA bm (by rw [q]; simp)
          subst e'
          rw [ha] at h3; cases h3; exact absurd (Value.type.inj h4) (by decide)), h4, h5⟩)⟩
    have e0 : Env0 P w K mg (hidT s₁.heap H) callerA [] s₁ H := ⟨rfl, hM, fun b o e => of_hidT e, Nat.le_of_eq (hidT_size _ _), trivial, fun b hb => absurd (show b ∈ ([] : List Addr) from hb) (by simp), hok, .of_eq hg⟩
    refine codeAny_mono ((F _ hKb (nsK hns)).run callerA [] s₁ H ⟨[.ref a], []⟩ [.ref a] [.ref a] _ _ hr e0 (hbind s₁ (.ref a)) (.cons rfl .nil) (hsp H hO hS)) fun r s' h => ?_
    cases r with
    | error e => exact (hCX H e s' h).elim
    | ok fl =>
      cases fl with
      | next => exact False.elim h
      | brk => exact False.elim h
      | cont => exact False.elim h
      | ret u =>
        obtain ⟨v, H', os, bare, un, hok', r', q⟩ := h
        have q' : v = .bl true := q
        subst q'
        obtain rfl : u = Value.bool true := r'
        refine ⟨rfl, OldK.of_keep fun b o e => ?_, os, bare⟩
        cases q : H b with
        | none => exact un.keep b o e q (by intro z; exact absurd (show b ∈ ([] : List Addr) from z) (by simp)) (by simp)
        | some u =>
          rcases hO b with z | ⟨ob, xs, z⟩
          · rw [q] at z; cases z
          · have z2 := un.frzs b ob _ z
            obtain ⟨e1, _⟩ := hok b _ z
            obtain ⟨e2, _⟩ := hok' b _ z2
            rw [e] at e1; cases e1
            exact e2
  cases hk : K.lookup a with
  | some o =>
    have e := KX a o hk
    rw [ha] at e
    cases e
    refine core (fun _ => none) (fun _ => .inl rfl) (.inr ⟨_, vs.toArray, _, hk, rfl, rfl, rfl, by rw [List.size_toArray, lenV]; exact hl, by simpa using rv⟩) (fun b u z => by have z' : (none : Option HO) = some u := z; cases z') (fun b z => absurd rfl z) fun z => absurd rfl z
  | none =>
    refine core (fun b => if b = a then some (.frz { cls := .type "list", data := .seq vs.toArray } (.lst (ns.map V.int))) else none) (fun b => ?_) (.inl (.inr ⟨{ cls := .type "list", data := .seq vs.toArray }, if_pos rfl⟩)) (fun b u z => ?_) (fun b z => ?_) fun _ => hk
    · by_cases hb : b = a
      · exact .inr ⟨_, _, if_pos hb⟩
      · exact .inl (if_neg hb)
    · by_cases hb : b = a
      · have z' := (if_pos hb).symm.trans z
        cases z'
        subst hb
        exact ⟨ha, by rw [List.length_map]; exact hl, vs, _, rv, ha⟩
      · have z' := (if_neg hb).symm.trans z
        cases z'
    · by_cases hb : b = a
      · exact hb
      · exact absurd (if_neg hb) z
end L2
namespace L2
open PySem PySem.Spec PyProof.Rows
noncomputable abbrev KOf {K : PySem.W.Frag} {h : Heap} (_ : K.In h) : PySem.W.Frag := K
theorem walk_of {l : PySem.W.OpenLaw} {n k : Nat} {q : Program} {loose : List Str} {XP : (Str → Option Value) → Heap → Prop} {YP : World → Heap → Prop} {d : DefRec} {K : Params → PySem.W.Frag} {CX : World → CXT} {sp : World → Sp} {x : Str}
    (hn : l.most = some n) (hn2 : n ≤ sizeLine) (hdf : d.params.defaults = []) (hr : Room k callerA)
    (hY : ∀ (w : World) (h : Heap), YP w h → (K w.params).In h)
    (F : ∀ (w : World) (mg : Str → Option Value) (fa : Addr) (h : Heap), (K w.params).In h → h.Ns mainGlobals mg → mg d.name = some (.ref fa) →
      ∃ fd : FuncData, (∀ (s : Shared) (u : Value), BindsTo s fd ⟨[u], []⟩ [(x, u)]) ∧
        ∀ base : Heap, (K w.params).In base → base.Ns mainGlobals mg → FnOk l.prog w (K w.params) mg base (CX w) k fa fd [x] (sp w))
    (hsp : ∀ (w : World) (H : Hp) (a : Addr) (ns : List Int), ns.length ≤ n → Only H → SqL (K w.params) H a (ns.map V.int) → sp w [.ref a] H (fun v _ => v = .bl true) fun _ _ _ => False)
    (hCX : ∀ (w : World) (H : Hp) (s : Shared) (e : Value) (s' : Shared), CX w [] H s (fun _ _ _ => False) e s' → False) (hi : importsNone q = true) :
    PySem.W.WalkO q loose XP YP l.row.toRowW d [] (fun f vs => PySem.call f vs) := by
  refine Att.attach_call hn hdf fun w s₀ s₁ mg mb fa o pm cd doc a vs ns G Y ho hd hcd hmg hobj hints hlen hg => ?_
  have KX := hY w _ Y
  obtain ⟨fd, hb, hF⟩ := F w mg fa _ KX G.T.g hmg
  exact law_call KX G.T.g G.T.b G.T.builtins G.T.nolimit (G.T.seer hi) hg hobj hints (Nat.le_trans hlen hn2) hr hF hb (fun H hO hS => hsp w H a ns hlen hO hS) fun H e s' => hCX w H s₁ e s'
end L2
/- THE LAST THEOREM (shape; LID, My.* are yours):
   My.Adr: a structure of the addresses that your layer names (classes, functions); My.Txt K t: a structure (Prop) of the equations over K;
   My.txt_mk : {K} {implicit addresses ..} (e1 : nsIn K mainGlobals "law" = some (some (.ref f))) (e2 : K.lookup f = some ⟨oc, od, .func (fnOf "law" "law" params body scope dV kV doc pm an cdv ct), sl⟩) (e3 : codeIn K cdv "law" = true) .. : ∃ t, My.Txt K t
set_option maxRecDepth 100000 in
set_option maxHeartbeats 0 in
theorem PySem.Challenge.cw_LID_holds : PySem.Challenge.rw_LID.Holds := by
  w_on; o_law; k_head; (case hw => w_witness2)
  k_fill
  refine L2.walk_of (l := PySem.Challenge.rw_LID) (n := 63) (k := 40) (x := "script") (CX := fun w => ..) (sp := fun _ => My.sp_law) rfl (by decide) rfl ⟨rfl, by decide, by decide⟩ (fun w h Y => PySem.W.kIn_of Y) ?F ?S ?C
  case F =>
    intro w mg fa h KX G hmg
    have T : ∃ t, My.Txt (L2.KOf KX) t := by
      dsimp only [L2.KOf]                          -- K must stand as «<heap const> w.params» for k_is
      refine' My.txt_mk ?e1 ?e2 ?e3 ..
      (case e1 => PySem.W.k_is)                    -- in the order: a name -> its address -> its object -> its parts
      (case e2 => PySem.W.k_is)
      ..
    obtain ⟨t, T⟩ := T
    have e0 := hmg.symm.trans (PySem.W.mg_of KX G T.law)
    cases e0                                       -- fa is the law's own address
    exact ⟨_, fun s u => .of_eq rfl, fun base kb nb => My.law_fn T kb nb⟩     -- if «.of_eq rfl» comes too early: refine' ⟨_, ?b, fun base kb nb => My.law_fn T kb nb⟩; exact fun s u => .of_eq rfl
  case S => exact fun w H a ns hl hO hS => ..
  case C => exact ..
(the tactic k_is has no namespace: write k_is) -/
namespace L2
open PySem PySem.Spec PyProof.Rows
noncomputable def defArgs (s : Stmt) : Arguments := match s with
  | .FunctionDef _ a _ _ _ _ _ _ _ _ => a
  | _ => { posonlyargs := [], args := [], vararg := none, kwonlyargs := [], kw_defaults := [], kwarg := none, defaults := [] }
noncomputable def defBody (s : Stmt) : List Stmt := match s with
  | .FunctionDef _ _ b _ _ _ _ _ _ _ => b
  | _ => []
noncomputable def defScope (s : Stmt) : Scope := match s with
  | .FunctionDef _ _ _ _ _ _ sc _ _ _ => sc
  | _ => { kind := .function, names := [], isGenerator := false, isCoroutine := false }
noncomputable abbrev CX0 : CXT := fun _ _ _ _ _ _ => False
noncomputable abbrev E0 : XK := fun _ _ _ => False
theorem pass0 {X : Cx} : Passes CX0 X E0 := fun _ _ _ _ _ _ _ h => h.elim
structure Fun (K : PySem.W.Frag) (x qual : Str) (st : Stmt) (f : Addr) (fd : FuncData) : Prop where
  ex : ∃ (oc : Value) (od : Option Addr) (kV doc pm : Value) (an : Option Addr) (cdv ct : Value) (osl : Array (Option Value)),
    fd = PySem.W.fnOf x qual (defArgs st) (defBody st) (defScope st) .none kV doc pm an cdv ct ∧ K.lookup f = some ⟨oc, od, .func fd, osl⟩ ∧ PySem.W.codeIn K cdv qual = true
  kp : PySem.W.keepIn K (.ref f) = true
section
variable {P : Program} {w : World} {K : PySem.W.Frag} {mg : Str → Option Value} {base : Heap}
theorem Fun.ok {x qual : Str} {st : Stmt} {f : Addr} {fd : FuncData} {N ps : List Str} {k : Nat} {sp : Sp} (F : Fun K x qual st f fd) (S : FnScope N ps (defScope st)) (len : ∀ vs H Q E, sp vs H Q E → vs.length = ps.length)
    (hbody : ∀ (cdv : Value) (A : Around) (outer : List Env) (s : Shared) (H : Hp) (vs : List V) (Q : VK) (E : XK), Room k (A.deeper (envOfC qual (defScope st) s.heap.objs.size f cdv)) → sp vs H Q E →
      ∃ t, PSs (cxOf CX0 P w K mg base N qual (defScope st) f cdv A outer s H E).nox (defBody st) t ∧ t { nx := fun _ H' => Q .non H', rt := Q } (start N vs) H) : FnOk P w K mg base CX0 (k + 1) f fd ps sp := by
  obtain ⟨oc, od, kV, doc, pm, an, cdv, ct, osl, rfl, lk, hcd⟩ := F.ex
  refine fn_of lk hcd S len fun A outer s H vs Q E hr hsp => ?_
  obtain ⟨t, h, q⟩ := hbody cdv A outer s H vs Q E hr hsp
  exact ⟨t, h.nox, q⟩
theorem Fun.binds {x qual : Str} {st : Stmt} {f : Addr} {fd : FuncData} {ps : List Str} (F : Fun K x qual st f fd)
    (h : ∀ (kV doc pm : Value) (an : Option Addr) (cdv ct : Value) (us : List Value), us.length = ps.length → bindArgs (PySem.W.fnOf x qual (defArgs st) (defBody st) (defScope st) .none kV doc pm an cdv ct) ⟨us, []⟩ = pure (ps.zip us)) : Binds K fd ps [] := by
  obtain ⟨oc, od, kV, doc, pm, an, cdv, ct, osl, rfl, lk, hcd⟩ := F.ex
  exact .all (h kV doc pm an cdv ct)
theorem fun_mk {x qual : Str} {st : Stmt} {f : Addr} {oc : Value} {od an : Option Addr} {osl : Array (Option Value)} {kV doc pm cdv ct : Value} (l : K.lookup f = some ⟨oc, od, .func (PySem.W.fnOf x qual (defArgs st) (defBody st) (defScope st) .none kV doc pm an cdv ct), osl⟩)
    (c : PySem.W.codeIn K cdv qual = true) (k : PySem.W.keepIn K (.ref f) = true) : Fun K x qual st f (PySem.W.fnOf x qual (defArgs st) (defBody st) (defScope st) .none kV doc pm an cdv ct) := ⟨⟨oc, od, kV, doc, pm, an, cdv, ct, osl, rfl, l, c⟩, k⟩
end
theorem small1000 {n : Nat} (h : n ≤ 1000) : n < sizeLine := Nat.lt_of_le_of_lt h (by decide)
section
variable {X : Cx}
theorem pv (i : Nat) {x : Str} {pos : Pos} (hN : X.N[i]? = some x := by rfl) (hv : Vis X.env.scope x := by first | exact Or.inl rfl | exact Or.inr (Or.inl rfl) | exact Or.inr (Or.inr rfl)) (hd : (x == ("__debug__" : Str)) = false := by decide)
    (hcd : (x == ("__classdict__" : Str)) = false := by decide) : PE X (.Name x pos) (tVar i) := pe_var hN hv hd hcd
end
theorem ite2 {c A B : Prop} [Decidable c] (h1 : c → A) (h2 : ¬ c → B) : if c then A else B := by
  by_cases h : c
  · rw [if_pos h]
    exact h1 h
  · rw [if_neg h]
    exact h2 h
noncomputable def Same (H H' : Hp) : Prop := ∀ b o, H b = some o → H' b = some o
theorem Same.refl (H : Hp) : Same H H := fun _ _ h => h
theorem Same.trans {H H1 H2 : Hp} (a : Same H H1) (b : Same H1 H2) : Same H H2 := fun c o h => b c o (a c o h)
theorem Same.free {H H' : Hp} (e : Same H H') {l : Addr} (h : H' l = Option.none) : H l = Option.none := by
  cases q : H l with
  | none => rfl
  | some o =>
    rw [e l o q] at h
    cases h
theorem Same.seq {K : PySem.W.Frag} {H H' : Hp} {a : Addr} {xs : List V} (e : Same H H') (h : SqL K H a xs) : SqL K H' a xs := by
  rcases h with (h | ⟨o, h⟩) | h
  · exact .inl (.inl (e _ _ h))
  · exact .inl (.inr ⟨o, e _ _ h⟩)
  · exact .inr h
end L2
set_option maxHeartbeats 4000000
namespace L2
open PySem PySem.Spec PyProof.Rows
section
variable {X : Cx} {a b c : Expr} {ta tb tc : TE} {pos : Pos}
theorem op_mulL : OpR X (binaryOp .Mult) (rI (fun i j => IntMulOk i j) fun i j => .int (i * j)) :=
  opI fun _ _ _ _ _ _ _ hc q => mul_int q hc
theorem op_fdivL : OpR X (binaryOp .FloorDiv) (rI (fun _ j => j ≠ 0 ∧ j.natAbs.log2 < 9000) fun i j => .int (i.fdiv j)) :=
  opI fun _ _ _ _ _ _ _ hc q => floordiv_int hc.1 q (.inl (PyProof.noPylong_of_log2 hc.2))
noncomputable def rEqI (K : PySem.W.Frag) : R2 := fun x y H Q => ∃ (p q : Addr) (xs ys : List Int), x = .ref p ∧ y = .ref q ∧ SqL K H p (xs.map V.int) ∧ SqL K H q (ys.map V.int) ∧ Q (.bl (decide (xs = ys))) H
theorem int_at {xs : List Int} {its : List Value} (r : Vals (xs.map V.int) its) {j : Nat} (h : j < xs.length) (h' : j < its.length) : ∃ t, its[j] = Value.int xs[j] t := by
  have e : (xs.map V.int)[j]? = some (V.int xs[j]) := by rw [List.getElem?_map, List.getElem?_eq_getElem h] <;> rfl
  obtain ⟨u, hu, t, rfl⟩ := r.get e
  rw [List.getElem?_eq_getElem h'] at hu
  exact ⟨t, Option.some.inj hu⟩
theorem all_at (xs ys : List Int) (hl : xs.length = ys.length) : ((List.range xs.length).all fun j => xs.getD j 0 == ys.getD j 0) = decide (xs = ys) := by
  rw [Bool.eq_iff_iff, List.all_eq_true, decide_eq_true_eq]
  constructor
  · intro h
    refine List.ext_getElem hl fun j h1 h2 => ?_
    have := h j (List.mem_range.mpr h1)
    rw [beq_iff_eq, List.getD_eq_getElem?_getD, List.getD_eq_getElem?_getD, List.getElem?_eq_getElem h1, List.getElem?_eq_getElem h2] at this
    exact this
  · rintro rfl j _
    exact beq_self_eq_true _
theorem op_eqI (hu : X.A.units < cLine) : OpR X (compareOp .Eq) (rEqI X.K) := by
  intro pins s σ H x y v u Q I rx ry h
  obtain ⟨p, q, xs, ys, rfl, rfl, hp, hq, h⟩ := h
  cases rx
  cases ry
  obtain ⟨its, r, pl, hz⟩ := I.list hp
  obtain ⟨its2, r2, pl2, hz2⟩ := I.list hq
  have l1 := r.length
  have l2 := r2.length
  rw [List.length_map] at l1 l2
  by_cases hl : xs.length = ys.length
  · refine SeqAt.eq_listAt (e := fun j => xs.getD j 0 == ys.getD j 0) pl.isList pl2.isList (by simp only [List.size_toArray]; lia) hu (fun j h1 h2 => ?_) ?_
    · simp only [List.size_toArray] at h1 h2
      obtain ⟨t, e⟩ := int_at r (j := j) (by lia) h1
      obtain ⟨t', e'⟩ := int_at r2 (j := j) (by lia) h2
      have z : SeqAt.EqAt X.A.in1 s its[j] its2[j] (xs[j] == ys[j]) := by
        rw [e, e']; exact SeqAt.EqAt.int_int _ _ _ _
      rw [List.getD_eq_getElem?_getD, List.getD_eq_getElem?_getD, List.getElem?_eq_getElem (show j < xs.length by lia), List.getElem?_eq_getElem (show j < ys.length by lia)]
      simpa using z
    · have e : (List.range its.toArray.size).all (fun j => xs.getD j 0 == ys.getD j 0) = decide (xs = ys) := by
        rw [← all_at xs ys hl, l1, List.size_toArray]
      rw [e]
      exact ⟨.bl _, H, I, rfl, h⟩
  · have e : decide (xs = ys) = false := decide_eq_false fun z => hl (by rw [z])
    rw [e] at h
    exact SeqAt.eq_list_lengthsAt pl.isList pl2.isList (by simp only [List.size_toArray, bne_iff_ne, ne_eq]; lia) hu ⟨.bl false, H, I, rfl, h⟩
end
noncomputable def Itr3 (lo st : Int) (n : Nat) : It := ⟨fun i _ => i < n, fun i H x H' => H' = H ∧ x = .int (lo + i * st), fun i _ => n ≤ i⟩
theorem turn_range3 {P : Program} {w : World} {K : PySem.W.Frag} {tg : Expr} (it : Addr) (lo st : Int) (n : Nat) :
    Turn P w K tg (Itr3 lo st n) [it] it (fun i h => IsRangeIter h it (lo + (i : Nat) * st) ((n : Int) - (i : Nat)) st) where
  mem := List.mem_singleton.mpr rfl
  obj := fun i h q b hb => by
    obtain rfl := List.mem_singleton.mp hb
    exact ⟨_, q, fun v z => by cases (show Data.fields _ = Data.cell v from z)⟩
  keep := fun i h h' q k => k it (List.mem_singleton.mpr rfl) _ q
  item := by
    intro X e1 e2 e3 hc i pins s σ H E I hf q hg
    subst e1 e2 e3
    obtain ⟨f0, f1, f2, f3, f4, f5⟩ := hf it (List.mem_singleton.mpr rfl)
    refine (Walks.range (prog := X.prog) (w := X.w) (I.ok.hd hc) it lo st n).item i s _ _ hg q fun v h' tk hv q' kk => ?_
    obtain ⟨t, rfl⟩ := hv
    have I1 : Inv X pins σ H { s with heap := h', toks := tk } := I.turned (fun b o hb e => kk b o (fun z => hb (List.mem_singleton.mp z)) e) f0 f1 f3 f4 f5
    exact ⟨_, rfl, go_of (s := { s with heap := h', toks := tk }) (n := "range_iterator") q' rfl rfl (by decide) ⟨.int (lo + i * st), H, I1, ⟨t, rfl⟩, ⟨rfl, rfl⟩, q', fun b hb => (hf b hb).1⟩⟩
  done := by
    intro X e1 e2 e3 hc i pins s σ H E I hf q hg
    subst e1 e2 e3
    obtain ⟨f0, f1, f2, f3, f4, f5⟩ := hf it (List.mem_singleton.mpr rfl)
    exact wpAny_pyNext_range_end (I.ok.hd hc) q (by have : n ≤ i := hg; lia) fun h' eb => ⟨rfl, I.turned (t' := s.toks) (fun b o hb e => eb b o hb e) f0 f1 f3 f4 f5⟩
  self := fun _ _ _ _ _ q h => wpAny_pyIter_rangeiter q h
noncomputable def iRng3 (ta : TA) : TI := fun σ H R => ta σ H fun vs H1 => ∃ (i j k : Int) (n : Nat), vs = [.int i, .int j, .int k] ∧ k ≠ 0 ∧ k.natAbs < 1073741824 ∧ Builtin.Range.small i j k = true ∧ Builtin.Range.rangeSize i j k = n ∧ R (Itr3 i k n) H1
theorem pi_range3 {X : Cx} {tg a b c : Expr} {ta : TA} {p pos : Pos} (hg : Gl X "range") (hm : X.mg "range" = none) (ha : PA X [a, b, c] ta)
    (hs : starEach [a, b, c] X.env = [(false, eval a X.env), (false, eval b X.env), (false, eval c X.env)] := by rfl)
    (hs2 : starEach [b, c] X.env = [(false, eval b X.env), (false, eval c X.env)] := by rfl) : PI X tg (.Call (.Name "range" p) [a, b, c] [] pos) (iRng3 ta) := by
  intro pins s σ H R I h
  refine Call_ (ld_blt I hg hm boot_range (PyProof.Rows.callWith_type1 (thn (ha pos pins s σ H _ I h) fun us s1 q1 => ?_) (by rw [hs, hs2]) (by rw [hs2]; rfl)))
  obtain ⟨vs, H1, I1, r1, i, j, k, n, rfl, hk, hkb, hsm, hn, q⟩ := q1
  cases r1 with
  | cons ra rr =>
    cases rr with
    | cons rb rr =>
      cases rr with
      | cons rc rr =>
        cases rr
        obtain ⟨t, rfl⟩ := ra
        obtain ⟨u, rfl⟩ := rb
        obtain ⟨v, rfl⟩ := rc
        refine call_range_3 hk ?_ (.inl (PyProof.noPylong_small hkb))
        refine wpAny_pyIter_range (IsRange.new ..) hsm ?_
        have I2 : Inv X pins σ H1 { s1 with heap := s1.heap.push { cls := .type "range", data := .fields #[.int i t, .int j u, .int k v] } } := I1.kept (t' := s1.toks) fun b o e => Heap.get?_push_of_some _ e
        refine ⟨_, [_], _, _, H1, rfl, I2.kept (t' := s1.toks) fun b o e => Heap.get?_push_of_some _ e, turn_range3 _ i k n, ?_, fun b hb => ?_, q⟩
        · have e1 : i + ((0 : Nat) : Int) * k = i := by simp
          have e2 : ((n : Nat) : Int) - ((0 : Nat) : Int) = Builtin.Range.rangeSize i j k := by rw [hn]; simp
          show IsRangeIter _ _ (i + ((0 : Nat) : Int) * k) (((n : Nat) : Int) - ((0 : Nat) : Int)) k
          rw [e1, e2]
          exact Heap.get?_push_size _ rfl
        · obtain rfl := List.mem_singleton.mp hb
          exact I2.fpOk (Nat.le_refl _) (I2.hok.fresh (Nat.le_refl _))
theorem for_range3 {lo st : Int} {n : Nat} {g : TG} {tb : TS} {D : Ends} {σ : St} {H : Hp} (Pv : Nat → St → Hp → Prop) (h0 : Pv 0 σ H)
    (hs : ∀ i σ H, i < n → Pv i σ H → g (.int (lo + i * st)) σ H fun σ2 H2 => tb { D with nx := Pv (i + 1), ct := Pv (i + 1), bk := D.nx } σ2 H2) (hd : ∀ σ H, Pv n σ H → D.nx σ H) :
    ∃ W : Nat → Nat → St → Hp → Prop, (∃ m, W 0 m σ H) ∧ ∀ i m σ H, W i m σ H →
      ((Itr3 lo st n).stop i H ∧ D.nx σ H) ∨ ((Itr3 lo st n).go i H ∧ ∃ N : St → Hp → Prop, (∀ σ' H', N σ' H' → ∃ m', m' < m ∧ W (i + 1) m' σ' H') ∧ ∀ x H', (Itr3 lo st n).yld i H x H' → g x σ H' fun σ2 H2 => tb { D with nx := N, ct := N, bk := D.nx } σ2 H2) := by
  refine ⟨fun i m σ H => m = n - i ∧ i ≤ n ∧ Pv i σ H, ⟨n, rfl, Nat.zero_le _, h0⟩, fun i m σ H q => ?_⟩
  obtain ⟨rfl, hi, p⟩ := q
  by_cases hlt : i < n
  · refine .inr ⟨hlt, Pv (i + 1), fun σ' H' p' => ⟨n - (i + 1), by lia, rfl, hlt, p'⟩, fun x H' y => ?_⟩
    obtain ⟨rfl, rfl⟩ := y
    exact hs i σ _ hlt p
  · obtain rfl : i = n := by lia
    exact .inl ⟨Nat.le_refl _, hd σ H p⟩
structure FnB (P : Program) (w : World) (K : PySem.W.Frag) (mg : Str → Option Value) (base : Heap) (k : Nat) (x : Str) (ps : List Str) (sp : Sp) : Prop where
  ex : ∃ f fd, FnOk P w K mg base CX0 k f fd ps sp ∧ mg x = some (.ref f) ∧ PySem.W.keepIn K (.ref f) = true ∧ Binds K fd ps []
structure DefB (K : PySem.W.Frag) (mg : Str → Option Value) (x : Str) (st : Stmt) (ps : List Str) : Prop where
  ex : ∃ f fd, Fun K x x st f fd ∧ mg x = some (.ref f) ∧ Binds K fd ps []
section
variable {P : Program} {w : World} {K : PySem.W.Frag} {mg : Str → Option Value} {base : Heap} {x : Str} {st : Stmt} {N ps : List Str} {j k : Nat} {sp sp' : Sp}
theorem FnB.mono (F : FnB P w K mg base j x ps sp) (h : j ≤ k) : FnB P w K mg base k x ps sp :=
  let ⟨f, fd, a, b, c, d⟩ := F.ex
  ⟨f, fd, a.mono h, b, c, d⟩
theorem DefB.ok (D : DefB K mg x st ps) (S : FnScope N ps (defScope st)) (len : ∀ vs H Q E, sp vs H Q E → vs.length = ps.length)
    (hbody : ∀ (f : Addr) (cdv : Value) (A : Around) (outer : List Env) (s : Shared) (H : Hp) (vs : List V) (Q : VK) (E : XK), Room k (A.deeper (envOfC x (defScope st) s.heap.objs.size f cdv)) → sp vs H Q E →
      ∃ t, PSs (cxOf CX0 P w K mg base N x (defScope st) f cdv A outer s H E).nox (defBody st) t ∧ t { nx := fun _ H' => Q .non H', rt := Q } (start N vs) H) : FnB P w K mg base (k + 1) x ps sp :=
  let ⟨f, fd, a, b, c⟩ := D.ex
  ⟨f, fd, a.ok S len fun cdv A outer s H vs Q E => hbody f cdv A outer s H vs Q E, b, a.kp, c⟩
end
theorem def_of {K : PySem.W.Frag} {h : Heap} {mg : Str → Option Value} {x : Str} {st : Stmt} {ps : List Str} {f : Addr} {od an : Option Addr} {sl : Array (Option Value)} {oc kV doc pm cd ct : Value} (X : K.In h) (G : h.Ns mainGlobals mg)
    (a : PySem.W.nsIn K mainGlobals x = some (some (.ref f))) (l : K.lookup f = some ⟨oc, od, .func (PySem.W.fnOf x x (defArgs st) (defBody st) (defScope st) .none kV doc pm an cd ct), sl⟩)
    (c : PySem.W.codeIn K cd x = true) (k : PySem.W.keepIn K (.ref f) = true)
    (b : ∀ (kV doc pm : Value) (an : Option Addr) (cdv ct : Value) (us : List Value), us.length = ps.length → bindArgs (PySem.W.fnOf x x (defArgs st) (defBody st) (defScope st) .none kV doc pm an cdv ct) ⟨us, []⟩ = pure (ps.zip us)) : DefB K mg x st ps :=
  have F := fun_mk (st := st) l c k
  ⟨_, _, F, PySem.W.mg_of X G a, F.binds b⟩
theorem pe_fn {X : Cx} {k : Nat} {x : Str} {ps : List Str} {sp : Sp} {p pos : Pos} {e : Expr} {es : List Expr} {t : TA} (F : FnB X.prog X.w X.K X.mg X.base k x ps sp) (hr : Room k X.A) (ha : PA X (e :: es) t)
    (hg : Gl X x := by rfl) (hdb : (x == ("__debug__" : Str)) = false := by decide) (he : starEach (e :: es) X.env = (false, eval e X.env) :: starEach es X.env := by rfl)
    (hpl : (backTo pos (starEach es X.env)).any (·.1) = false := by rfl) : PE X (.Call (.Name x p) (e :: es) [] pos) (tCall sp [] E0 t) :=
  let ⟨_, _, a, b, c, d⟩ := F.ex
  pe_call a hr hg b c d .nil pass0 ha hdb he hpl
section
variable {σ : St} {H : Hp} {Q : VK} {D : Ends} {te ta tb : TE} {tr : TA} {ts us : TS} {tt uu : TT} {QB : Bool → Hp → Prop} {QA : List V → Hp → Prop}
theorem r_seq (h : ts { D with nx := us D } σ H) : tSeq ts us D σ H := h
theorem r_set {i : Nat} (h : te σ H fun x H1 => D.nx (σ.set i (some x)) H1) : tAsg te (gName i) D σ H := h
theorem r_asg {g : TG} (h : te σ H fun x H1 => g x σ H1 D.nx) : tAsg te g D σ H := h
theorem r_ret (h : te σ H D.rt) : tRet te D σ H := h
theorem r_drop (h : te σ H fun _ H1 => D.nx σ H1) : tDrop te D σ H := h
theorem r_next (h : D.nx σ H) : tNext D σ H := h
theorem r_var {i : Nat} {v : V} (e : σ[i]? = some (some v)) (h : Q v H) : tVar i σ H Q := ⟨v, e, h⟩
theorem r_for {wi : TI} {g : TG} (h : wi σ H fun J H1 => ∃ W : Nat → Nat → St → Hp → Prop, (∃ m, W 0 m σ H1) ∧ ∀ i m σ H, W i m σ H →
    (J.stop i H ∧ D.nx σ H) ∨ (J.go i H ∧ ∃ N : St → Hp → Prop, (∀ σ' H', N σ' H' → ∃ m', m' < m ∧ W (i + 1) m' σ' H') ∧ ∀ x H', J.yld i H x H' → g x σ H' fun σ2 H2 => ts { D with nx := N, ct := N, bk := D.nx } σ2 H2)) : tFor wi g ts D σ H := h
theorem r_rng3 {R : It → Hp → Prop} (h : tr σ H fun vs H1 => ∃ (i j k : Int) (n : Nat), vs = [.int i, .int j, .int k] ∧ k ≠ 0 ∧ k.natAbs < 1073741824 ∧ Builtin.Range.small i j k = true ∧ Builtin.Range.rangeSize i j k = n ∧ R (Itr3 i k n) H1) : iRng3 tr σ H R := h
theorem r_gname {i : Nat} {v : V} {R : St → Hp → Prop} (h : R (σ.set i (some v)) H) : gName i v σ H R := h
theorem r_gtup {K : PySem.W.Frag} {n : Nat} {t : TGs} {a : Addr} {xs : List V} {R : St → Hp → Prop} (hs : SqT K H a xs) (hl : xs.length = n) (h : t xs σ H R) : gTup K n t (.ref a) σ H R := ⟨a, xs, rfl, hs, hl, h⟩
theorem r_gcons {t : TG} {u : TGs} {v : V} {r : List V} {R : St → Hp → Prop} (h : t v σ H fun σ' H' => u r σ' H' R) : gCons t u (v :: r) σ H R := ⟨v, r, rfl, h⟩
theorem r_gnil {R : St → Hp → Prop} (h : R σ H) : gNil [] σ H R := ⟨rfl, h⟩
theorem r_c {v : V} (h : Q v H) : tC v σ H Q := h
theorem r_op {r : R2} (h : ta σ H fun x H1 => tb σ H1 fun y H2 => r x y H2 Q) : tOp r ta tb σ H Q := h
theorem r_un {r : V → Hp → VK → Prop} (h : ta σ H fun x H1 => r x H1 Q) : tUn r ta σ H Q := h
theorem r_i0 {g : Int → Int → V} {i j : Int} (h : Q (g i j) H) : rI0 g (.int i) (.int j) H Q := ⟨i, j, rfl, rfl, h⟩
theorem r_i {C : Int → Int → Prop} {g : Int → Int → V} {i j : Int} (c : C i j) (h : Q (g i j) H) : rI C g (.int i) (.int j) H Q := ⟨i, j, rfl, rfl, c, h⟩
theorem r_u {g : Int → V} {i : Int} (h : Q (g i) H) : rU g (.int i) H Q := ⟨i, rfl, h⟩
theorem r_test (h : te σ H fun x H' => ∃ k, x = .bl k ∧ QB k H') : tTest te σ H QB := h
theorem r_tb (h : te σ H fun x H' => ∃ k, x = .bl k ∧ QB k H') : tB te σ H QB := h
theorem r_bl {k : Bool} {R : Bool → Prop} (h : R k) : ∃ k', V.bl k = .bl k' ∧ R k' := ⟨k, rfl, h⟩
theorem r_eqi {i j : Int} (h : Q (.bl (decide (i = j))) H) : rEq (.int i) (.int j) H Q := ⟨rfl, by rw [show decide (V.int i = V.int j) = decide (i = j) by rw [Bool.eq_iff_iff]; simp]; exact h⟩
theorem r_nei {i j : Int} (h : Q (.bl (!decide (i = j))) H) : rNe (.int i) (.int j) H Q := ⟨rfl, by rw [show decide (V.int i = V.int j) = decide (i = j) by rw [Bool.eq_iff_iff]; simp]; exact h⟩
theorem r_ifS (h : tt σ H fun b H1 => if b = true then ts D σ H1 else us D σ H1) : tIfS tt ts us D σ H := h
theorem r_ifE (h : tt σ H fun c H1 => if c = true then ta σ H1 Q else tb σ H1 Q) : tIf tt ta tb σ H Q := h
theorem r_and (h : tt σ H fun c H1 => if c = true then uu σ H1 QB else QB false H1) : tAnd tt uu σ H QB := h
theorem r_or (h : tt σ H fun c H1 => if c = true then QB true H1 else uu σ H1 QB) : tOr tt uu σ H QB := h
theorem r_not (h : tt σ H fun c H1 => QB (!c) H1) : tNot tt σ H QB := h
theorem r_andV (h : ta σ H fun x H1 => ∃ c, x = .bl c ∧ if c = true then tb σ H1 Q else Q (.bl false) H1) : tAndV ta tb σ H Q := h
theorem r_orV (h : ta σ H fun x H1 => ∃ c, x = .bl c ∧ if c = true then Q (.bl true) H1 else tb σ H1 Q) : tOrV ta tb σ H Q := h
theorem r_notV (h : ta σ H fun x H1 => ∃ c, x = .bl c ∧ Q (.bl (!c)) H1) : tNotV ta σ H Q := h
theorem r_nil (h : QA [] H) : tNil σ H QA := h
theorem r_cons (h : te σ H fun x H1 => tr σ H1 fun xs H2 => QA (x :: xs) H2) : tCons te tr σ H QA := h
theorem r_call {sp : Sp} {E : XK} (h : tr σ H fun vs H1 => sp (vs ++ []) H1 Q E) : tCall sp [] E tr σ H Q := h
theorem r_cb {r : List V → Hp → VK → Prop} (h : tr σ H fun vs H1 => r vs H1 Q) : tCB r tr σ H Q := h
theorem r_tup (h : tr σ H fun xs H1 => xs.length ≤ sizeLine ∧ ∀ p, H1 p = none → Q (.ref p) (upd H1 p (.tup xs))) : tTup tr σ H Q := h
theorem r_lst (h : tr σ H fun xs H1 => xs.length ≤ sizeLine ∧ ∀ p, H1 p = none → Q (.ref p) (upd H1 p (.lst xs))) : tLst tr σ H Q := h
theorem r_tru {K : PySem.W.Frag} {i : Int} {R : Bool → Prop} (h : R (i != 0)) : ∃ k, TruV K (.int i) H k ∧ R k := ⟨_, rfl, h⟩
theorem r_ixT {K : PySem.W.Frag} {p : Addr} {xs : List V} {i : Int} {v : V} (hs : SqT K H p xs) (he : atI xs i = some v) (h : Q v H) : rIxT K (.ref p) (.int i) H Q := ⟨p, xs, i, v, rfl, rfl, hs, he, h⟩
theorem r_ixL {K : PySem.W.Frag} {p : Addr} {xs : List V} {i : Int} {v : V} (hs : SqL K H p xs) (he : atI xs i = some v) (h : Q v H) : rIxL K (.ref p) (.int i) H Q := ⟨p, xs, i, v, rfl, rfl, hs, he, h⟩
theorem small4 {n : Nat} (h : n ≤ 1000) : n ≤ sizeLine := Nat.le_of_lt (small1000 h)
theorem Same.new {H : Hp} {p : Addr} (h : H p = none) (o : HO) : Same H (upd H p o) := fun b u q => by rw [upd_ne (ne_of_none q h)]; exact q
end
end L2
namespace L2
open PySem PySem.Spec PyProof.Rows
noncomputable def Ite (K : PySem.W.Frag) (a : Addr) : It :=
  ⟨fun i H => ∃ xs x, SqL K H a xs ∧ xs[i]? = some x, fun i H x H' => ∃ p y, H p = none ∧ x = .ref p ∧ H' = upd H p (.tup [.int (i : Int), y]) ∧ ∀ xs, SqL K H a xs → xs[i]? = some y, fun i H => ∃ xs, SqL K H a xs ∧ xs.length ≤ i⟩
noncomputable def Itv (K : PySem.W.Frag) (a : Addr) (n : Nat) : It :=
  ⟨fun i H => i < n ∧ ∃ xs x, SqL K H a xs ∧ xs[n - 1 - i]? = some x, fun i H x H' => H' = H ∧ ∀ xs, SqL K H a xs → xs[n - 1 - i]? = some x, fun i _ => i = n⟩
theorem two_mem {b e it : Addr} (h : b ∈ [e, it]) : b = e ∨ b = it := by
  rcases List.mem_cons.mp h with z | z
  · exact .inl z
  · exact .inr (List.mem_singleton.mp z)
theorem turn_enum {P : Program} {w : World} {K : PySem.W.Frag} {es : List Expr} {k : Nat} {tp : Pos} (a e it : Addr) (hne : e ≠ it) :
    Turn P w K (.Tuple es k tp) (Ite K a) [e, it] e (fun i h => ∃ old, IsEnum h e it ((i : Nat) : Int) old ∧ h.IsListIter it a i) where
  mem := List.mem_cons_self
  obj := fun i h q b hb => by
    obtain ⟨old, q1, o, q2, c2, d2⟩ := q
    rcases two_mem hb with rfl | rfl
    · exact ⟨_, q1, fun v z => by cases (show Data.fields _ = Data.cell v from z)⟩
    · exact ⟨o, q2, fun v z => by rw [d2] at z; cases z⟩
  keep := fun i h h' q kk => by
    obtain ⟨old, q1, q2⟩ := q
    exact ⟨old, kk e List.mem_cons_self _ q1, q2.at fun o z => kk it (List.mem_cons_of_mem _ (List.mem_singleton.mpr rfl)) o z⟩
  item := by
    intro X e1 e2 e3 hc i pins s σ H E I hf q hg
    subst e1 e2 e3
    obtain ⟨old, q1, q2⟩ := q
    obtain ⟨xs, x, hq, hx⟩ := hg
    obtain ⟨its, rv, pl, hz⟩ := I.list hq
    obtain ⟨u, hu, ru⟩ := rv.get hx
    obtain ⟨f0, f1, f2, f3, f4, f5⟩ := hf e List.mem_cons_self
    obtain ⟨g0, g1, g2, g3, g4, g5⟩ := hf it (List.mem_cons_of_mem _ (List.mem_singleton.mpr rfl))
    refine wpAny_pyNext_enum_item q1 q2 pl.isList (x := u) (by simpa using hu) hne fun h1 eo it1 tu hsz hk => ?_
    refine ⟨_, rfl, wpAny_letOwnedTupleGo_enum eo fun h2 e2' sb => ?_⟩
    have sb' : Heap.SameBut e h1 h2 := sb
    have hfr : H s.heap.objs.size = none := I.fresh
    have hp : e ≠ s.heap.objs.size := Nat.ne_of_lt (Heap.lt_size q1)
    have kp : ∀ b o, b ≠ e → b ≠ it → s.heap.get? b = some o → h2.get? b = some o := fun b o h3 h4 z => sb'.extBut b o h3 (hk b o h3 h4 z)
    have nte : ∀ b o, H b = some o → b ≠ e ∧ b ≠ it := fun b o z => ⟨ne_of_none z f0, ne_of_none z g0⟩
    have tup2 : IsTup h2 s.heap.objs.size [Value.int (i : Int) s.toks, u].toArray := ⟨_, (sb'.2 _ (Ne.symm hp)).trans tu, rfl, _, rfl⟩
    have rt : Vals [V.int (i : Int), x] [Value.int (i : Int) s.toks, u] := .cons ⟨_, rfl⟩ (.cons ru .nil)
    have hok : HOk X.prog X.w (upd H s.heap.objs.size (.tup [.int (i : Int), x])) h2 := fun b o z => by
      by_cases hb : b = s.heap.objs.size
      · subst hb
        rw [upd_same] at z
        cases z
        exact ⟨by show 2 ≤ sizeLine; decide, _, rt, tup2⟩
      · rw [upd_ne hb] at z
        refine (I.hok b o z).stay (fun c v hc' r => ?_) (fun c r => by rw [upd_ne (ne_of_none r hfr)]; exact r) fun c ys r => by rw [upd_ne (ne_of_none r hfr)]; exact r
        rcases hc' with rfl | hc'
        · exact kp _ _ (nte _ _ z).1 (nte _ _ z).2 r
        · exact kp _ _ (nte _ _ hc').1 (nte _ _ hc').2 r
    have ncm : ∀ {b : Addr}, b ∉ [e, it] → b ≠ e ∧ b ≠ it := fun h3 => ⟨fun z => h3 (by rw [z]; exact List.mem_cons_self), fun z => h3 (by rw [z]; exact List.mem_cons_of_mem _ (List.mem_singleton.mpr rfl))⟩
    have un : Un (frs X.stack) [e, it] H (upd H s.heap.objs.size (.tup [.int (i : Int), x])) s.heap h2 :=
      ⟨fun b o z _ _ h4 => kp b o (ncm h4).1 (ncm h4).2 z, fun b o z _ _ h4 => ⟨o.slots, kp b o (ncm h4).1 (ncm h4).2 z⟩,
        fun b o z n _ => by rw [upd_ne (Nat.ne_of_lt (Heap.lt_size z))]; exact n, fun b o z h4 => ⟨o, kp b o (ncm h4).1 (ncm h4).2 z⟩,
        fun b ys z => by rw [upd_ne (ne_of_none z hfr)]; exact z, fun b o u z => by rw [upd_ne (ne_of_none z hfr)]; exact z, fun b ps z => ⟨#[], by rw [upd_ne (ne_of_none z hfr), z]; simp⟩⟩
    have I2 : Inv X pins σ (upd H s.heap.objs.size (.tup [.int (i : Int), x])) { s with heap := h2, toks := s.toks + 1 } :=
      I.call (g' := s.gens) (d' := s.drawn) (t' := s.toks + 1) (ch := [e, it]) un hok I.bare fun b hb => by
        rcases two_mem hb with rfl | rfl
        · exact ⟨f3, f1, f4, f5⟩
        · exact ⟨g3, g1, g4, g5⟩
    have i2 : h2.IsListIter it a (i + 1) := it1.at fun o z => sb'.extBut it o (Ne.symm hne) z
    refine ⟨.ref s.heap.objs.size, _, I2, rfl, ⟨_, x, hfr, rfl, rfl, fun ys hy => by rw [I.list_inj hy hq]; exact hx⟩, ⟨u, e2', i2⟩, fun b hb => ?_⟩
    rcases two_mem hb with rfl | rfl
    · rw [upd_ne hp]; exact f0
    · obtain ⟨o, z, _⟩ := q2
      rw [upd_ne (Nat.ne_of_lt (Heap.lt_size z))]; exact g0
  done := by
    intro X e1 e2 e3 hc i pins s σ H E I hf q hg
    subst e1 e2 e3
    obtain ⟨old, q1, q2⟩ := q
    obtain ⟨xs, hq, hx⟩ := hg
    obtain ⟨its, rv, pl, hz⟩ := I.list hq
    have hl := rv.length
    obtain ⟨g0, g1, g2, g3, g4, g5⟩ := hf it (List.mem_cons_of_mem _ (List.mem_singleton.mpr rfl))
    exact wpAny_pyNext_enum_end (I.ok.hd hc) q1 q2 pl.isList (by simp; lia) fun h' eb => ⟨rfl, I.turned (t' := s.toks) (fun b o hb z => eb b o hb z) g0 g1 g3 g4 g5⟩
  self := fun _ _ _ _ _ q h => let ⟨_, q1, _⟩ := q; wpAny_pyIter_enum q1 h
noncomputable def iEnum (K : PySem.W.Frag) (ta : TA) : TI := fun σ H R => ta σ H fun vs H1 => ∃ a, vs = [.ref a] ∧ (∃ xs, SqL K H1 a xs) ∧ R (Ite K a) H1
theorem pi_enum {X : Cx} {es : List Expr} {k : Nat} {tp : Pos} {a : Expr} {ta : TA} {p pos : Pos} (hg : Gl X "enumerate") (hm : X.mg "enumerate" = none) (ha : PA X [a] ta) (hs : starEach [a] X.env = [(false, eval a X.env)] := by rfl) :
    PI X (.Tuple es k tp) (.Call (.Name "enumerate" p) [a] [] pos) (iEnum X.K ta) := by
  intro pins s σ H R I h
  refine Call_ (ld_blt I hg hm boot_enumerate (PyProof.Rows.callWith_type1 (thn (ha pos pins s σ H _ I h) fun us s1 q1 => ?_) hs rfl))
  obtain ⟨vs, H1, I1, r1, l, rfl, ⟨xs, hq⟩, q⟩ := q1
  obtain ⟨u, rfl, rx⟩ := vals1 r1
  cases rx
  obtain ⟨its, rv, pl, hz⟩ := I1.list hq
  refine call_enumerate_list pl.isList fun h' he hit hsz hk => ?_
  have I2 : Inv X pins σ H1 { s1 with heap := h' } := I1.kept (t' := s1.toks) hk
  refine wpAny_pyIter_enum he ?_
  have old : ∀ b, s1.heap.objs.size ≤ b → FpOk X pins H1 b := fun b hb => I1.fpOk hb (I1.hok.fresh hb)
  refine ⟨_, [_, _], _, _, H1, rfl, I2, turn_enum l _ _ (Nat.succ_ne_self _), ⟨_, he, hit⟩, fun b hb => ?_, q⟩
  rcases two_mem hb with rfl | rfl
  · exact old _ (Nat.le_succ _)
  · exact old _ (Nat.le_refl _)
theorem turn_rev {P : Program} {w : World} {K : PySem.W.Frag} {tg : Expr} (a it : Addr) (n : Nat) : Turn P w K tg (Itv K a n) [it] it (fun i h => i ≤ n ∧ h.IsRevIter it a ((n : Int) - 1 - (i : Nat))) where
  mem := List.mem_singleton.mpr rfl
  obj := fun i h q b hb => by
    obtain rfl := List.mem_singleton.mp hb
    obtain ⟨_, o, e, c, d⟩ := q
    exact ⟨o, e, fun v z => by rw [d] at z; cases z⟩
  keep := fun i h h' q kk => ⟨q.1, q.2.at fun o z => kk it (List.mem_singleton.mpr rfl) o z⟩
  item := by
    intro X e1 e2 e3 hc i pins s σ H E I hf q hg
    subst e1 e2 e3
    obtain ⟨hin, q⟩ := q
    obtain ⟨hi, xs, x, hq, hx⟩ := hg
    obtain ⟨its, rv, pl, hz⟩ := I.list hq
    obtain ⟨u, hu, ru⟩ := rv.get hx
    obtain ⟨f0, f1, f2, f3, f4, f5⟩ := hf it (List.mem_singleton.mpr rfl)
    have ei : (n : Int) - 1 - (i : Nat) = ((n - 1 - i : Nat) : Int) := by lia
    rw [ei] at q
    refine wpAny_pyNext_rev_item q pl.isList (x := u) (by simpa using hu) fun h' q' sb => ?_
    have I1 : Inv X pins σ H { s with heap := h' } := I.turned (t' := s.toks) (fun b o hb z => sb.extBut b o hb z) f0 f1 f3 f4 f5
    obtain ⟨o, eo, co, do'⟩ := id q'
    refine ⟨u, rfl, go_of (s := { s with heap := h' }) eo co do' (by decide) ⟨x, H, I1, ru, ⟨rfl, fun ys hy => by rw [I.list_inj hy hq]; exact hx⟩, ⟨by lia, ?_⟩, fun b hb => (hf b hb).1⟩⟩
    have e2 : (n : Int) - 1 - ((i + 1 : Nat) : Int) = ((n - 1 - i : Nat) : Int) - 1 := by lia
    show h'.IsRevIter it a ((n : Int) - 1 - ((i + 1 : Nat) : Int))
    rw [e2]
    exact q'
  done := by
    intro X e1 e2 e3 hc i pins s σ H E I hf q hg
    subst e1 e2 e3
    obtain ⟨hin, q⟩ := q
    have hg' : i = n := hg
    subst hg'
    obtain ⟨f0, f1, f2, f3, f4, f5⟩ := hf it (List.mem_singleton.mpr rfl)
    have ei : (i : Int) - 1 - (i : Nat) = -1 := by lia
    rw [ei] at q
    exact wpAny_pyNext_rev_end (I.ok.hd hc) q fun h' eb => ⟨rfl, I.turned (t' := s.toks) (fun b o hb z => eb b o hb z) f0 f1 f3 f4 f5⟩
  self := fun _ _ _ _ _ q h => wpAny_pyIter_revIter q.2 h
noncomputable def iRev (K : PySem.W.Frag) (ta : TA) : TI := fun σ H R => ta σ H fun vs H1 => ∃ a xs, vs = [.ref a] ∧ SqL K H1 a xs ∧ R (Itv K a xs.length) H1
theorem pi_rev {X : Cx} {tg a : Expr} {ta : TA} {p pos : Pos} (hg : Gl X "reversed") (hm : X.mg "reversed" = none) (ha : PA X [a] ta) (hs : starEach [a] X.env = [(false, eval a X.env)] := by rfl) :
    PI X tg (.Call (.Name "reversed" p) [a] [] pos) (iRev X.K ta) := by
  intro pins s σ H R I h
  refine Call_ (ld_blt I hg hm boot_reversed (PyProof.Rows.callWith_type1 (thn (ha pos pins s σ H _ I h) fun us s1 q1 => ?_) hs rfl))
  obtain ⟨vs, H1, I1, r1, l, xs, rfl, hq, q⟩ := q1
  obtain ⟨u, rfl, rx⟩ := vals1 r1
  cases rx
  obtain ⟨its, rv, pl, hz⟩ := I1.list hq
  refine call_reversed_list pl.isList ?_
  have e0 : (its.toArray.size : Int) - 1 = (xs.length : Int) - 1 - ((0 : Nat) : Int) := by rw [List.size_toArray, ← rv.length]; simp
  rw [e0]
  have I2 : Inv X pins σ H1 { s1 with heap := s1.heap.push (revObj l ((xs.length : Int) - 1 - ((0 : Nat) : Int))) } := I1.kept (t' := s1.toks) fun b o e => Heap.get?_push_of_some _ e
  have q0 : (s1.heap.push (revObj l ((xs.length : Int) - 1 - ((0 : Nat) : Int)))).IsRevIter s1.heap.objs.size l ((xs.length : Int) - 1 - ((0 : Nat) : Int)) := ⟨_, Heap.get?_push_size _ rfl, rfl, rfl⟩
  refine wpAny_pyIter_revIter q0 ?_
  refine ⟨_, [_], _, _, H1, rfl, I2, turn_rev l _ xs.length, ⟨Nat.zero_le _, q0⟩, fun b hb => ?_, q⟩
  obtain rfl := List.mem_singleton.mp hb
  exact I1.fpOk (Nat.le_refl _) (I1.hok.fresh (Nat.le_refl _))
end L2
namespace L2
open PySem PySem.Spec PyProof.Rows
section
variable {prog : Program} {w : World} {A : Around} {R : Result → Shared → Prop} {s : Shared}
theorem comp_loop {elt tg it0 : Expr} {sc : Scope} {ps : Pos} {it acc : Value} {en : Env} (J : Nat → Shared → Prop)
    (turn : ∀ n s, J n s → wpAny (model prog w) A (pyNext it) (fun r s1 => match r with
      | none => R (.ok .next) s1
      | some v => wpAny (model prog w) A (letOwnedTupleGo tg it v) (fun _ s2 => wpAny (model prog w) A (assign tg en v) (fun _ s3 => wpAny (model prog w) A (eval elt en) (fun x s4 =>
          wpAny (model prog w) A (call (.builtin "list.append") [acc, x]) (fun _ s5 => ∃ m, m < n ∧ J m s5) (fun _ _ => False) s4) (fun _ _ => False) s3) (fun _ _ => False) s2) (fun _ _ => False) s1) (fun _ _ => False) s)
    (n : Nat) (h : J n s) : codeAny (model prog w) A (.compLoop (.ListComp elt [⟨tg, it0, [], 0⟩] sc ps) 0 it acc en) R s := by
  refine codeAny_loop rfl J (fun n s hJ => ?_) n h
  show wpAny (model prog w) A ((compTurn (.ListComp elt [⟨tg, it0, [], 0⟩] sc ps) 0 it acc en).onRaise (fun x => do noteFrame x en; theTreesLotGoes x)) _ _ s
  refine wpAny_noted ?_
  rw [compTurn_list1]
  have no : ∀ {α : Type} {t : Sem α} {Q : α → Shared → Prop} {E : Value → Shared → Prop} {s : Shared}, wpAny (model prog w) A t Q (fun _ _ => False) s → wpAny (model prog w) A t Q E s :=
    fun h => wpAny_mono h (fun _ _ q => q) fun _ _ z => z.elim
  refine wpAny_bind (wpAny_standAt (wpAny_bind (thn (no (turn n s hJ)) fun r s1 h1 => ?_)))
  cases r with
  | none => exact wpAny_pure h1
  | some v =>
    refine wpAny_bind (thn (no h1) fun _ s2 h2 => ?_)
    refine wpAny_bind (thn (no h2) fun _ s3 h3 => ?_)
    refine wpAny_bind (wpAny_bind (thn (no h3) fun x s4 h4 => ?_))
    refine wpAny_bind (thn (no h4) fun _ s5 h5 => ?_)
    exact wpAny_pure (wpAny_pure ⟨rfl, h5⟩)
end
noncomputable def cxComp (X : Cx) (scope : Scope) (cl : List (Str × Addr)) (C : Addr) (s : Shared) (H : Hp) (M : List Str) (ex : List Addr) (pins : List (Addr × Obj)) : Cx :=
  { X with N := M, s₀ := s, H₀ := H, env := compEnvC scope cl C X.env, outer := X.stack, ex := ex, fn := fun _ => false, pn := X.pn ++ pins, xe := fun _ _ => False }
structure CompOk (X : Cx) (scope : Scope) (cl : List (Str × Addr)) (own : List Str) (fr : List Nat) (M : List Str) : Prop where
  clos : closureFor scope X.env = pure cl
  kind : scope.kind = .function
  names : ∀ x ∈ scope.names, x.2 = .local → scope.names.lookup x.1 = some .local
  nocell : ∀ x ∈ scope.names, x.2 ≠ .cell
  cls : ∀ x c, cl.lookup x = some c → X.env.cells.lookup x = some c
  has : ∀ x, ((relabel scope X.env).names.lookup x = some .cell ∨ (relabel scope X.env).names.lookup x = some .free) → ∃ c, cl.lookup x = some c
  len : M.length = own.length + fr.length
  ownl : ∀ (i : Nat) x, own[i]? = some x → M[i]? = some x
  from_ : ∀ (j i : Nat) x, fr[j]? = some i → M[own.length + j]? = some x → X.N[i]? = some x ∧ X.env.scope.names.lookup x = some .cell ∧ (∃ c, cl.lookup x = some c) ∧ ((relabel scope X.env).names.lookup x = some .cell ∨ (relabel scope X.env).names.lookup x = some .free)
noncomputable def stComp (own : List Str) (fr : List Nat) (σ : St) : St := List.replicate own.length none ++ fr.map fun i => (σ[i]?).join
section
variable {X : Cx} {pins : List (Addr × Obj)} {σ : St} {H : Hp} {s : Shared} {scope : Scope} {cl : List (Str × Addr)} {own : List Str} {fr : List Nat} {M : List Str}
theorem Inv.comp (I : Inv X pins σ H s) (K : CompOk X scope cl own fr M) {fp : List Addr} (hf : ∀ b ∈ fp, FpOk X pins H b) (ho : ∀ b ∈ fp, ∃ o, s.heap.get? b = some o ∧ ∀ v, o.data ≠ .cell v) {h' : Heap} {m : Str → Option Value} {tk : Nat}
    (hn : h'.Ns s.heap.objs.size m) (hk : ∀ b u, s.heap.get? b = some u → h'.get? b = some u) :
    Inv (cxComp X scope cl s.heap.objs.size s H M fp pins) [] (stComp own fr σ) H { s with heap := h', toks := tk } := by
  have hC : H s.heap.objs.size = none := I.hok.fresh (Nat.le_refl _)
  have ltC : ∀ {b o}, s.heap.get? b = some o → b ≠ s.heap.objs.size := fun e => Nat.ne_of_lt (Heap.lt_size e)
  have neC : ∀ x c, X.env.cells.lookup x = some c → c ≠ s.heap.objs.size := fun x c e => by
    obtain ⟨v, o, q, _⟩ := I.cell x c e
    exact ltC q
  have nfs : ∀ b, b ≠ X.env.locals → b ∉ X.fs → b ∉ frs X.stack := fun b h1 h2 z => (List.mem_cons.mp (I.stkSub b z)).elim h1 h2
  refine ⟨⟨I.ok.mod, K.kind, I.ok.glob, I.ok.blt, Nat.le_refl _, fun x y c h1 h2 => I.ok.inj x y c (K.cls x c h1) (K.cls y c h2), fun x hx => K.has x hx, (fun x c h _ => Bool.noConfusion h), I.ok.hd, I.ok.frames, .inl rfl, fun b hb => ?_, I.bs, Nat.le_trans I.ok.bsz I.sz, fun b o e hb => ?_, fun b hb => ?_, I.stack, I.stkFree⟩,
    rfl, I.bare, Un.kept hk, ⟨m, hn, fun i x v h1 h2 h3 => ?_⟩, fun x c h => ?_, hC, fun x c h => I.freeC x c (K.cls x c h), fun p hp => ?_, I.hok.kept hk, ?_⟩
  · obtain ⟨o, e, _⟩ := ho b hb
    exact ⟨ltC e, fun x c h z => (hf b hb).2.2.2.2.1 x c (K.cls x c h) z⟩
  · have := (hf b hb)
    rcases this.2.2.2.1 with z | z
    · exact I.ok.noex b o e z
    · exact absurd (Nat.lt_of_lt_of_le (Heap.lt_size e) (Nat.le_trans I.ok.bsz z)) (Nat.lt_irrefl _)
  · exact nfs b (hf b hb).2.1 (hf b hb).2.2.1
  · unfold stComp at h2
    by_cases hi : i < own.length
    · rw [List.getElem?_append_left (by simpa using hi), List.getElem?_replicate, if_pos hi] at h2
      cases h2
    · obtain ⟨j, rfl⟩ : ∃ j, i = own.length + j := ⟨i - own.length, by lia⟩
      rw [List.getElem?_append_right (by simp), List.length_replicate, Nat.add_sub_cancel_left, List.getElem?_map] at h2
      cases e : fr[j]? with
      | none => rw [e] at h2; cases h2
      | some k =>
        rw [e] at h2
        have h2' : (σ[k]?).join = some v := Option.some.inj h2
        obtain ⟨q1, q2, ⟨c, q3⟩, q4⟩ := K.from_ j k x e h1
        have h5 : σ[k]? = some (some v) := by
          cases z : σ[k]? with
          | none => rw [z] at h2'; cases h2'
          | some y =>
            rw [z] at h2'
            exact congrArg some h2'
        obtain ⟨m0, _, hl⟩ := I.loc
        obtain ⟨u, r, l⟩ := hl k x v q1 h5 (.inr (.inl q2))
        refine ⟨u, r, .inr ⟨q4, c, q3, ?_⟩⟩
        rcases l with ⟨k1, _⟩ | ⟨_, c', e1, z⟩
        · have k1' : X.env.scope.names.lookup x = some .local := k1
          rw [q2] at k1'; cases k1'
        · have e2 := K.cls x c q3
          rw [e1] at e2; cases e2
          obtain ⟨o, eo, ed⟩ := z
          exact ⟨o, hk _ _ eo, ed⟩
  · obtain ⟨v, o, eo, ed⟩ := I.cell x c (K.cls x c h)
    exact ⟨v, o, hk _ _ eo, ed⟩
  · have hp' : p ∈ X.pn ++ pins := by
      rcases List.mem_append.mp hp with z | z
      · exact z
      · cases z
    obtain ⟨e, n, ne, nf, d⟩ := I.pin p hp'
    exact ⟨hk _ _ e, n, ltC e, nfs _ ne nf, d⟩
  · unfold stComp
    rw [List.length_append, List.length_replicate, List.length_map]
    exact K.len.symm
theorem Inv.uncomp {h : Heap} {s' : Shared} {H' : Hp} {σ' : St} {C : Addr} {fp : List Addr} (I : Inv X pins σ H s) (hf : ∀ b ∈ fp, FpOk X pins H b) (I' : Inv (cxComp X scope cl C s H M fp pins) [] σ' H' s') : Inv X pins σ H' s' :=
  I.call' I'.os I'.base I'.hok I'.bare fun b hb => ⟨(hf b hb).2.2.2.1, (hf b hb).2.1, (hf b hb).2.2.2.2.1, (hf b hb).2.2.2.2.2⟩
noncomputable def tComp (own : List Str) (fr : List Nat) (wi : TI) (g : TG) (te : TE) : TE := fun σ H Q => wi σ H fun J H1 => ∀ D, H1 D = none → ∃ W : Nat → Nat → St → Hp → Prop, (∃ m, W 0 m (stComp own fr σ) (upd H1 D (.lst []))) ∧ ∀ i m σ2 H2, W i m σ2 H2 →
  (J.stop i H2 ∧ Q (.ref D) H2) ∨ (J.go i H2 ∧ ∀ x H3, J.yld i H2 x H3 → g x σ2 H3 fun σ4 H4 => te σ4 H4 fun y H5 => ∃ ys, H5 D = some (.lst ys) ∧ ys.length < sizeLine ∧ ∃ m', m' < m ∧ W (i + 1) m' σ4 (upd H5 D (.lst (ys ++ [y]))))
theorem comp_block {elt tg iter : Expr} {ps : Pos} {g : TG} {te : TE} {it D : Addr} {fp : List Addr} {tn : Nat → Heap → Prop} {J : It} {H1 : Hp} {s3 : Shared} {W : Nat → Nat → St → Hp → Prop} {Qz : Hp → Prop} {Rz : Result → Shared → Prop} {C : Addr}
    (hc : X.calm = true) (K : CompOk X scope cl own fr M) (I3 : Inv X pins σ H1 s3) (T : Turn X.prog X.w X.K tg J fp it tn) (st : tn 0 s3.heap) (hf : ∀ b ∈ fp, FpOk X pins H1 b)
    (hg : PG (cxComp X scope cl C s3 H1 M fp pins) tg g) (he : PE (cxComp X scope cl C s3 H1 M fp pins) elt te)
    (w0 : ∃ m, W 0 m (stComp own fr σ) H1)
    (turn : ∀ i m σ2 H2, W i m σ2 H2 → (J.stop i H2 ∧ Qz H2) ∨ (J.go i H2 ∧ ∀ x H3, J.yld i H2 x H3 → g x σ2 H3 fun σ4 H4 => te σ4 H4 fun y H5 => ∃ ys, H5 D = some (.lst ys) ∧ ys.length < sizeLine ∧ ∃ m', m' < m ∧ W (i + 1) m' σ4 (upd H5 D (.lst (ys ++ [y])))))
    {h' : Heap} {m0 : Str → Option Value} {tk : Nat} (hC : C = s3.heap.objs.size) (hn : h'.Ns C m0) (hk : ∀ b u, s3.heap.get? b = some u → h'.get? b = some u)
    (fin : ∀ s' H' m', Inv X pins σ H' s' → H' C = none → s'.heap.Ns C m' → Qz H' → Rz (.ok .next) s') :
    codeAny (model X.prog X.w) X.A (.compStart (.ListComp elt [⟨tg, iter, [], 0⟩] scope ps) 0 (.ref it) (.ref D) (compEnvC scope cl C X.env)) Rz { s3 with heap := h', toks := tk } := by
  subst hC
  have I4 := I3.comp K hf (T.obj _ _ st) (tk := tk) hn hk
  have st4 : tn 0 h' := T.keep _ _ _ st fun b _ o e => hk b o e
  have stat : ∀ {H' : Hp}, (∀ b ∈ fp, H' b = none) → ∀ b ∈ fp, FpOk (cxComp X scope cl s3.heap.objs.size s3 H1 M fp pins) [] H' b := fun {H'} hz b hb => by
    obtain ⟨o, e, _⟩ := T.obj _ _ st b hb
    obtain ⟨_, f1, f2, f3, f4, f5⟩ := hf b hb
    refine ⟨hz b hb, Nat.ne_of_lt (Heap.lt_size e), fun z => (List.mem_cons.mp (I3.stkSub b z)).elim f1 f2, .inl hb, fun x c h => f4 x c (K.cls x c h), fun p hp => f5 p ?_⟩
    rcases List.mem_append.mp hp with z | z
    · exact z
    · cases z
  have loop : codeAny (model X.prog X.w) X.A (.compLoop (.ListComp elt [⟨tg, iter, [], 0⟩] scope ps) 0 (.ref it) (.ref D) (compEnvC scope cl s3.heap.objs.size X.env)) Rz { s3 with heap := h', toks := tk } := by
    obtain ⟨m, w0⟩ := w0
    refine comp_loop (fun n s' => ∃ i σ' H', Inv (cxComp X scope cl s3.heap.objs.size s3 H1 M fp pins) [] σ' H' s' ∧ tn i s'.heap ∧ (∀ b ∈ fp, H' b = none) ∧ W i n σ' H') (fun n s5 hJ => ?_) m ⟨0, _, H1, I4, st4, fun b hb => (hf b hb).1, w0⟩
    obtain ⟨i, σ5, H5, I5, st5, fr5, w5⟩ := hJ
    rcases turn i n σ5 H5 w5 with ⟨stop, qz⟩ | ⟨go, step⟩
    · refine thn (T.done (cxComp X scope cl s3.heap.objs.size s3 H1 M fp pins) rfl rfl rfl hc i [] s5 σ5 H5 _ I5 (stat fr5) st5 stop) fun r s6 q6 => ?_
      obtain ⟨hr, I6⟩ := q6
      subst hr
      obtain ⟨m6, n6, _⟩ := I6.loc
      exact fin s6 H5 m6 (I3.uncomp (h := h') hf I6) I6.free n6 qz
    · refine thn (T.item (cxComp X scope cl s3.heap.objs.size s3 H1 M fp pins) rfl rfl rfl hc i [] s5 σ5 H5 _ I5 (stat fr5) st5 go) fun r s6 q6 => ?_
      obtain ⟨u, hr, h6⟩ := q6
      subst hr
      refine thn h6 fun _ s7 q7 => ?_
      obtain ⟨x, H7, I7, r7, y7, st7, fr7⟩ := q7
      have I7' := I7.pinned (stat fr7) (T.obj _ _ st7)
      refine thn (hg _ s7 σ5 H7 x u _ I7' r7 (step x H7 y7)) fun _ s8 q8 => ?_
      obtain ⟨σ8, H8, I8, q8⟩ := q8
      refine thn (he _ s8 σ8 H8 _ I8 q8) fun v s9 q9 => ?_
      obtain ⟨y, H9, I9, r9, ys, hD, hz, m', hm, w9⟩ := q9
      refine thn (mt_append (X := cxComp X scope cl s3.heap.objs.size s3 H1 M fp pins) _ s9 σ8 H9 (.ref D) [y] (.ref D) [v] (fun v' H' => v' = .non ∧ H' = upd H9 D (.lst (ys ++ [y]))) I9 rfl (.cons r9 .nil) ⟨D, ys, y, rfl, rfl, hD, hz, rfl, rfl⟩) fun v' s10 q10 => ?_
      obtain ⟨v10, H10, I10, _, rfl, rfl⟩ := q10
      refine ⟨m', hm, i + 1, σ8, _, I10.unpinned, T.keep _ _ _ st7 fun b hb o e => (I10.pin (b, o) (List.mem_append_right _ (List.mem_append_right _ (mem_pinsAt hb e)))).1, fun b hb => ?_, w9⟩
      obtain ⟨o, e, _⟩ := T.obj _ _ st7 b hb
      exact (I10.pin (b, o) (List.mem_append_right _ (List.mem_append_right _ (mem_pinsAt hb e)))).2.1
  exact codeAny_compStart_list loop (T.self X.A 0 _ _ _ st4 loop)
theorem pe_comp {elt tg iter : Expr} {ps : Pos} {wi : TI} {g : TG} {te : TE} (hc : X.calm = true) (hx : X.xe = fun _ _ => False) (K : CompOk X scope cl own fr M) (hi : PI X tg iter wi)
    (hg : ∀ C s3 H1 fp pins, PG (cxComp X scope cl C s3 H1 M fp pins) tg g) (he : ∀ C s3 H1 fp pins, PE (cxComp X scope cl C s3 H1 M fp pins) elt te)
    (hs : ∀ x, foldedSetIterable iter X.env x = pure x := by intro _; rfl) : PE X (.ListComp elt [⟨tg, iter, [], 0⟩] scope ps) (tComp own fr wi g te) := by
  intro pins s σ H Q I h
  rw [eval_ListComp]
  refine wpAny_comprehension_free (use := none) rfl hs K.clos K.kind K.names ?_
  show wpAny _ _ (eval iter X.env) _ _ _
  refine thn (hi pins s σ H _ I h) fun v s1 h1 => thn h1 fun itv s2 h2 => ?_
  obtain ⟨it, fp, tn, J, H2, e, I2, T, st2, f2, hW⟩ := h2
  subst e
  refine wpAny_newObj_type (hd := by size_fits) ?_
  have I3 : Inv X pins σ (upd H2 s2.heap.objs.size (.lst [])) { s2 with heap := s2.heap.push { cls := .type "list", dict := none, data := .seq ([] : List Value).toArray } } := I2.lnew (t' := s2.toks) .nil (Nat.zero_le _)
  obtain ⟨W, w0, turn⟩ := hW s2.heap.objs.size I2.fresh
  have st3 : tn 0 (s2.heap.push { cls := .type "list", dict := none, data := .seq ([] : List Value).toArray }) := T.keep _ _ _ st2 fun b _ o e => Heap.get?_push_of_some _ e
  have f3 : ∀ b ∈ fp, FpOk X pins (upd H2 s2.heap.objs.size (.lst [])) b := fun b hb => by
    obtain ⟨o, e, _⟩ := T.obj _ _ st2 b hb
    obtain ⟨f0, f'⟩ := f2 b hb
    exact ⟨by rw [upd_ne (Nat.ne_of_lt (Heap.lt_size e))]; exact f0, f'⟩
  refine wpAny_newFunctionEnv K.nocell (fun y hy => nomatch hy) (fun h' hns hsb => ?_) K.kind
  have hk : ∀ b u, (s2.heap.push { cls := .type "list", dict := none, data := .seq ([] : List Value).toArray }).get? b = some u → h'.get? b = some u := fun b u e =>
    hsb.extBut b u (Nat.ne_of_lt (Heap.lt_size e)) (Heap.get?_push_of_some _ e)
  refine comp_block (g := g) (te := te) (W := W) (Qz := fun H' => Q (.ref s2.heap.objs.size) H') hc K I3 T st3 f3 (hg _ _ _ _ _) (he _ _ _ _ _) w0 turn rfl hns hk fun s' H' m' J1 hCn hnC qz => ?_
  refine ⟨m', hnC, fun h2 sb => ⟨.ref s2.heap.objs.size, H', ?_, rfl, qz⟩⟩
  obtain ⟨_, f1, _, f3', f4, f5⟩ := I3.fpOk (H' := H') (Nat.le_refl _) hCn
  exact J1.turned (t' := s'.toks) (fun b o hb e => sb.extBut b o hb e) hCn f1 f3' f4 f5
theorem ps_comp {i : Nat} {y : Str} {py : Pos} {elt tg iter : Expr} {ps spos : Pos} {wi : TI} {g : TG} {te : TE} (hN : X.N.Nodup) (hi0 : X.N[i]? = some y) (hc : X.calm = true) (hx : X.xe = fun _ _ => False) (K : CompOk X scope cl own fr M) (hi : PI X tg iter wi)
    (hg : ∀ C s3 H1 fp pins, PG (cxComp X scope cl C s3 H1 M fp pins) tg g) (he : ∀ C s3 H1 fp pins, PE (cxComp X scope cl C s3 H1 M fp pins) elt te)
    (hy : X.env.scope.names.lookup y = some .local)
    (hsw : swapsWith (.ListComp elt [⟨tg, iter, [], 0⟩] scope ps) (some (.Name y py)) spos.line X.env = pure true := by rfl)
    (hs : ∀ x, foldedSetIterable iter X.env x = pure x := by intro _; rfl) : PS X (.Assign [.Name y py] (.ListComp elt [⟨tg, iter, [], 0⟩] scope ps) spos) (tAsg (tComp own fr wi g te) (gName i)) := by
  intro pins s σ H D I h
  rw [exec_Assign_Name_used _ _ _ _ hsw]
  refine wpAny_bind (wpAny_standAt (wpAny_bind ?_))
  show wpAny _ _ (do let _ ← comprehension (.ListComp elt [⟨tg, iter, [], 0⟩] scope ps) scope X.env _ (newList []) false (eval iter X.env) (some (assign (.Name y py) X.env))) _ _ s
  refine wpAny_bind (thn (Q := fun _ s' => SP X pins D .next s') (wpAny_comprehension_free (use := some (assign (.Name y py) X.env)) rfl hs K.clos K.kind K.names ?_) fun _ s' q => wpAny_pure (wpAny_pure q))
  refine thn (hi pins s σ H _ I h) fun v s1 h1 => thn h1 fun itv s2 h2 => ?_
  obtain ⟨it, fp, tn, J, H2, e, I2, T, st2, f2, hW⟩ := h2
  subst e
  refine wpAny_newObj_type (hd := by size_fits) ?_
  have I3 : Inv X pins σ (upd H2 s2.heap.objs.size (.lst [])) { s2 with heap := s2.heap.push { cls := .type "list", dict := none, data := .seq ([] : List Value).toArray } } := I2.lnew (t' := s2.toks) .nil (Nat.zero_le _)
  obtain ⟨W, w0, turn⟩ := hW s2.heap.objs.size I2.fresh
  have st3 : tn 0 (s2.heap.push { cls := .type "list", dict := none, data := .seq ([] : List Value).toArray }) := T.keep _ _ _ st2 fun b _ o e => Heap.get?_push_of_some _ e
  have f3 : ∀ b ∈ fp, FpOk X pins (upd H2 s2.heap.objs.size (.lst [])) b := fun b hb => by
    obtain ⟨o, e, _⟩ := T.obj _ _ st2 b hb
    obtain ⟨f0, f'⟩ := f2 b hb
    exact ⟨by rw [upd_ne (Nat.ne_of_lt (Heap.lt_size e))]; exact f0, f'⟩
  refine wpAny_newFunctionEnv K.nocell (fun y hy => nomatch hy) (fun h' hns hsb => ?_) K.kind
  have hk : ∀ b u, (s2.heap.push { cls := .type "list", dict := none, data := .seq ([] : List Value).toArray }).get? b = some u → h'.get? b = some u := fun b u e =>
    hsb.extBut b u (Nat.ne_of_lt (Heap.lt_size e)) (Heap.get?_push_of_some _ e)
  refine comp_block (g := g) (te := te) (W := W) (Qz := fun H' => gName i (.ref s2.heap.objs.size) σ H' D.nx) hc K I3 T st3 f3 (hg _ _ _ _ _) (he _ _ _ _ _) w0 turn rfl hns hk fun s' H' m' J1 hCn hnC qz => ?_
  show wpAny _ _ (assign (.Name y py) X.env (.ref s2.heap.objs.size)) _ _ s'
  obtain ⟨_, f1, _, f3', f4, f5⟩ := I3.fpOk (H' := H') (Nat.le_refl _) hCn
  refine wpAny_assign_Name (store_ok2 J1 hN hi0 (.inl hy) (v := .ref s2.heap.objs.size) rfl (fun s4 J2 sb => ?_) (.inr hy))
  obtain ⟨a, sa, hca⟩ := sb
  have hne : (s2.heap.push { cls := .type "list", dict := none, data := .seq ([] : List Value).toArray }).objs.size ≠ a := by
    rcases hca with z | z
    · rw [z]; exact f1
    · exact fun e => f4 y a z e.symm
  refine ⟨m', hnC.sameBut sa hne, fun h2 sb2 => ⟨_, H', ?_, qz⟩⟩
  exact J2.turned (t' := s4.toks) (fun b o hb e => sb2.extBut b o hb e) hCn f1 f3' f4 f5
end
end L2
namespace L2
open PySem PySem.Spec PyProof.Rows
section
variable {X : Cx}
end
end L2
namespace L2
open PySem PySem.Spec PyProof.Rows
noncomputable def ClOk (env : Env) : List (Str × Addr) → Prop
  | [] => True
  | p :: r => env.cells.lookup p.1 = some p.2 ∧ ClOk env r
noncomputable def FrOk (X : Cx) (scope : Scope) (cl : List (Str × Addr)) : List Nat → List Str → Prop
  | [], [] => True
  | i :: r, x :: y => (X.N[i]? = some x ∧ X.env.scope.names.lookup x = some .cell ∧ (cl.lookup x).isSome = true ∧ ((relabel scope X.env).names.lookup x = some .cell ∨ (relabel scope X.env).names.lookup x = some .free)) ∧ FrOk X scope cl r y
  | _, _ => False
theorem ClOk.get {env : Env} : ∀ {cl : List (Str × Addr)}, ClOk env cl → ∀ x c, cl.lookup x = some c → env.cells.lookup x = some c
  | [], _, x, c, h => by simp at h
  | (y, d) :: r, k, x, c, h => by
    rw [List.lookup_cons] at h
    cases e : x == y with
    | true =>
      rw [e] at h
      have e1 : x = y := eq_of_beq e
      have e2 : d = c := Option.some.inj h
      rw [e1, ← e2]; exact k.1
    | false =>
      rw [e] at h
      exact ClOk.get k.2 x c h
theorem FrOk.len {X : Cx} {scope : Scope} {cl : List (Str × Addr)} : ∀ {fr : List Nat} {fs : List Str}, FrOk X scope cl fr fs → fr.length = fs.length
  | [], [], _ => rfl
  | _ :: r, _ :: y, h => congrArg Nat.succ (FrOk.len (fr := r) (fs := y) h.2)
  | [], _ :: _, h => h.elim
  | _ :: _, [], h => h.elim
theorem FrOk.get {X : Cx} {scope : Scope} {cl : List (Str × Addr)} : ∀ {fr : List Nat} {fs : List Str}, FrOk X scope cl fr fs → ∀ (j i : Nat) x, fr[j]? = some i → fs[j]? = some x →
    X.N[i]? = some x ∧ X.env.scope.names.lookup x = some .cell ∧ (∃ c, cl.lookup x = some c) ∧ ((relabel scope X.env).names.lookup x = some .cell ∨ (relabel scope X.env).names.lookup x = some .free)
  | [], [], _, j, i, x, h, _ => by simp at h
  | k :: r, z :: y, H, 0, i, x, h1, h2 => by
    simp at h1 h2
    subst h1 h2
    exact ⟨H.1.1, H.1.2.1, Option.isSome_iff_exists.mp H.1.2.2.1, H.1.2.2.2⟩
  | k :: r, z :: y, H, j + 1, i, x, h1, h2 => FrOk.get (fr := r) (fs := y) H.2 j i x (by simpa using h1) (by simpa using h2)
  | [], _ :: _, h, _, _, _, _, _ => h.elim
  | _ :: _, [], h, _, _, _, _, _ => h.elim
theorem compOk {X : Cx} {scope : Scope} {cl : List (Str × Addr)} {own fs : List Str} {fr : List Nat} (clos : closureFor scope X.env = pure cl) (kind : scope.kind = .function)
    (names : ∀ x ∈ scope.names, x.2 = .local → scope.names.lookup x.1 = some .local) (nocell : ∀ x ∈ scope.names, x.2 ≠ .cell) (c : ClOk X.env cl)
    (h : ((relabel scope X.env).names.all fun p => !(p.2 == .cell || p.2 == .free) || (cl.lookup p.1).isSome) = true) (f : FrOk X scope cl fr fs) : CompOk X scope cl own fr (own ++ fs) where
  clos := clos
  kind := kind
  names := names
  nocell := nocell
  cls := c.get
  has := fun x hx => by
    have hm : ∃ k, (x, k) ∈ (relabel scope X.env).names ∧ (k = .cell ∨ k = .free) := by
      rcases hx with z | z
      · exact ⟨_, PySem.mem_of_lookup z, .inl rfl⟩
      · exact ⟨_, PySem.mem_of_lookup z, .inr rfl⟩
    obtain ⟨k, hk, hkk⟩ := hm
    have := List.all_eq_true.mp h (x, k) hk
    rcases hkk with rfl | rfl
    · exact Option.isSome_iff_exists.mp (by simpa using this)
    · exact Option.isSome_iff_exists.mp (by simpa using this)
  len := by rw [List.length_append, f.len]
  ownl := fun i x hi => by
    rw [List.getElem?_append_left (List.getElem?_eq_some_iff.mp hi).1]; exact hi
  from_ := fun j i x h1 h2 => by
    rw [List.getElem?_append_right (Nat.le_add_right _ _), Nat.add_sub_cancel_left] at h2
    exact f.get j i x h1 h2
noncomputable def cap (fr : List Nat) (σ : St) : St := fr.map fun i => (σ[i]?).join
section
variable {own : List Str} {fr : List Nat} {g : TG} {te : TE} {σ : St} {H1 : Hp} {Q : VK}
theorem comp_go {J : It} (n : Nat) (Pv : List V → Prop) (hz : n ≤ sizeLine) (p0 : Pv [])
    (hs : ∀ (i : Nat) (r : St) (ys : List V) (H2 : Hp), i < n → r.length = own.length → ys.length = i → Pv ys → Same H1 H2 → J.go i H2 ∧ ∀ x H3, J.yld i H2 x H3 → Same H2 H3 ∧ ∀ Z : V → St → Hp → Prop, (∀ y σ4 H5, Same H3 H5 → Pv (ys ++ [y]) → (∃ r', r'.length = own.length ∧ σ4 = r' ++ cap fr σ) → Z y σ4 H5) → g x (r ++ cap fr σ) H3 fun σ4 H4 => te σ4 H4 fun y H5 => Z y σ4 H5)
    (he : ∀ H2, Same H1 H2 → J.stop n H2) (hq : ∀ D H2 ys, H1 D = none → Same H1 H2 → H2 D = some (.lst ys) → ys.length = n → Pv ys → Q (.ref D) H2) :
    ∀ D, H1 D = none → ∃ W : Nat → Nat → St → Hp → Prop, (∃ m, W 0 m (stComp own fr σ) (upd H1 D (.lst []))) ∧ ∀ i m σ2 H2, W i m σ2 H2 →
      (J.stop i H2 ∧ Q (.ref D) H2) ∨ (J.go i H2 ∧ ∀ x H3, J.yld i H2 x H3 → g x σ2 H3 fun σ4 H4 => te σ4 H4 fun y H5 => ∃ ys, H5 D = some (.lst ys) ∧ ys.length < sizeLine ∧ ∃ m', m' < m ∧ W (i + 1) m' σ4 (upd H5 D (.lst (ys ++ [y])))) := by
  intro D hD
  refine ⟨fun i m σ2 H2 => m = n - i ∧ i ≤ n ∧ Same H1 H2 ∧ (∃ r : St, r.length = own.length ∧ σ2 = r ++ cap fr σ) ∧ ∃ ys, ys.length = i ∧ Pv ys ∧ H2 D = some (.lst ys), ⟨n, rfl, Nat.zero_le _, Same.new hD _, ⟨_, List.length_replicate, rfl⟩, [], rfl, p0, upd_same⟩, fun i m σ2 H2 w => ?_⟩
  obtain ⟨rfl, hi, s12, ⟨r, hr, rfl⟩, ys, hl, hp, hy⟩ := w
  by_cases hlt : i < n
  · obtain ⟨go, st⟩ := hs i r ys H2 hlt hr hl hp s12
    refine .inr ⟨go, fun x H3 y => ?_⟩
    obtain ⟨s23, gg⟩ := st x H3 y
    refine gg (fun v σ4 H5 => ∃ ys, H5 D = some (.lst ys) ∧ ys.length < sizeLine ∧ ∃ m', m' < n - i ∧ (m' = n - (i + 1) ∧ i + 1 ≤ n ∧ Same H1 (upd H5 D (.lst (ys ++ [v]))) ∧ (∃ r : St, r.length = own.length ∧ σ4 = r ++ cap fr σ) ∧ ∃ zs, zs.length = i + 1 ∧ Pv zs ∧ upd H5 D (.lst (ys ++ [v])) D = some (.lst zs))) fun v σ4 H5 s35 pv ⟨r', hr', e⟩ => ?_
    refine ⟨ys, s35 _ _ (s23 _ _ hy), by lia, n - (i + 1), by lia, rfl, hlt, fun b o q => ?_, ⟨r', hr', e⟩, ys ++ [v], by rw [List.length_append, hl]; rfl, pv, upd_same⟩
    rw [upd_ne (ne_of_none q hD)]
    exact s35 _ _ (s23 _ _ (s12 _ _ q))
  · obtain rfl : i = n := by lia
    exact .inl ⟨he H2 s12, hq D H2 ys hD s12 hy hl hp⟩
theorem comp_list {K : PySem.W.Frag} {a : Addr} {xs : List V} (hS : SqL K H1 a xs) (Pv : List V → Prop) (hz : xs.length ≤ sizeLine) (p0 : Pv [])
    (hs : ∀ (i : Nat) (x : V) (r : St) (ys : List V) (H2 : Hp), xs[i]? = some x → r.length = own.length → ys.length = i → Pv ys → Same H1 H2 → ∀ Z : V → St → Hp → Prop, (∀ y σ4 H5, Same H2 H5 → Pv (ys ++ [y]) → (∃ r', r'.length = own.length ∧ σ4 = r' ++ cap fr σ) → Z y σ4 H5) → g x (r ++ cap fr σ) H2 fun σ4 H4 => te σ4 H4 fun y H5 => Z y σ4 H5)
    (hq : ∀ D H2 ys, H1 D = none → Same H1 H2 → H2 D = some (.lst ys) → ys.length = xs.length → Pv ys → Q (.ref D) H2) :
    ∀ D, H1 D = none → ∃ W : Nat → Nat → St → Hp → Prop, (∃ m, W 0 m (stComp own fr σ) (upd H1 D (.lst []))) ∧ ∀ i m σ2 H2, W i m σ2 H2 →
      ((Itl K a).stop i H2 ∧ Q (.ref D) H2) ∨ ((Itl K a).go i H2 ∧ ∀ x H3, (Itl K a).yld i H2 x H3 → g x σ2 H3 fun σ4 H4 => te σ4 H4 fun y H5 => ∃ ys, H5 D = some (.lst ys) ∧ ys.length < sizeLine ∧ ∃ m', m' < m ∧ W (i + 1) m' σ4 (upd H5 D (.lst (ys ++ [y])))) :=
  comp_go xs.length Pv hz p0 (fun i r ys H2 hi hr hl hp s12 => ⟨⟨xs, xs[i], s12.seq hS, by simp [hi]⟩, fun x H3 y => by
    obtain ⟨rfl, y⟩ := y
    exact ⟨Same.refl _, hs i x r ys _ (y xs (s12.seq hS)) hr hl hp s12⟩⟩) (fun H2 s12 => ⟨xs, s12.seq hS, Nat.le_refl _⟩) hq
theorem comp_range {lo : Int} {n : Nat} (Pv : List V → Prop) (hz : n ≤ sizeLine) (p0 : Pv [])
    (hs : ∀ (i : Nat) (r : St) (ys : List V) (H2 : Hp), i < n → r.length = own.length → ys.length = i → Pv ys → Same H1 H2 → ∀ Z : V → St → Hp → Prop, (∀ y σ4 H5, Same H2 H5 → Pv (ys ++ [y]) → (∃ r', r'.length = own.length ∧ σ4 = r' ++ cap fr σ) → Z y σ4 H5) → g (.int (lo + i)) (r ++ cap fr σ) H2 fun σ4 H4 => te σ4 H4 fun y H5 => Z y σ4 H5)
    (hq : ∀ D H2 ys, H1 D = none → Same H1 H2 → H2 D = some (.lst ys) → ys.length = n → Pv ys → Q (.ref D) H2) :
    ∀ D, H1 D = none → ∃ W : Nat → Nat → St → Hp → Prop, (∃ m, W 0 m (stComp own fr σ) (upd H1 D (.lst []))) ∧ ∀ i m σ2 H2, W i m σ2 H2 →
      ((Itr lo n).stop i H2 ∧ Q (.ref D) H2) ∨ ((Itr lo n).go i H2 ∧ ∀ x H3, (Itr lo n).yld i H2 x H3 → g x σ2 H3 fun σ4 H4 => te σ4 H4 fun y H5 => ∃ ys, H5 D = some (.lst ys) ∧ ys.length < sizeLine ∧ ∃ m', m' < m ∧ W (i + 1) m' σ4 (upd H5 D (.lst (ys ++ [y])))) :=
  comp_go n Pv hz p0 (fun i r ys H2 hi hr hl hp s12 => ⟨hi, fun x H3 y => by
    obtain ⟨rfl, rfl⟩ := y
    exact ⟨Same.refl _, hs i r ys _ hi hr hl hp s12⟩⟩) (fun H2 s12 => Nat.le_refl _) hq
theorem comp_enum {K : PySem.W.Frag} {a : Addr} {xs : List V} (hS : SqL K H1 a xs) (Pv : List V → Prop) (hz : xs.length ≤ sizeLine) (p0 : Pv [])
    (hs : ∀ (i : Nat) (x : V) (p : Addr) (r : St) (ys : List V) (H2 : Hp), xs[i]? = some x → r.length = own.length → ys.length = i → Pv ys → Same H1 H2 → H2 p = some (.tup [.int (i : Int), x]) →
      ∀ Z : V → St → Hp → Prop, (∀ y σ4 H5, Same H2 H5 → Pv (ys ++ [y]) → (∃ r', r'.length = own.length ∧ σ4 = r' ++ cap fr σ) → Z y σ4 H5) → g (.ref p) (r ++ cap fr σ) H2 fun σ4 H4 => te σ4 H4 fun y H5 => Z y σ4 H5)
    (hq : ∀ D H2 ys, H1 D = none → Same H1 H2 → H2 D = some (.lst ys) → ys.length = xs.length → Pv ys → Q (.ref D) H2) :
    ∀ D, H1 D = none → ∃ W : Nat → Nat → St → Hp → Prop, (∃ m, W 0 m (stComp own fr σ) (upd H1 D (.lst []))) ∧ ∀ i m σ2 H2, W i m σ2 H2 →
      ((Ite K a).stop i H2 ∧ Q (.ref D) H2) ∨ ((Ite K a).go i H2 ∧ ∀ x H3, (Ite K a).yld i H2 x H3 → g x σ2 H3 fun σ4 H4 => te σ4 H4 fun y H5 => ∃ ys, H5 D = some (.lst ys) ∧ ys.length < sizeLine ∧ ∃ m', m' < m ∧ W (i + 1) m' σ4 (upd H5 D (.lst (ys ++ [y])))) :=
  comp_go xs.length Pv hz p0 (fun i r ys H2 hi hr hl hp s12 => ⟨⟨xs, xs[i], s12.seq hS, by simp [hi]⟩, fun x H3 y => by
    obtain ⟨p, z, hn, rfl, rfl, y⟩ := y
    exact ⟨Same.new hn _, hs i z p r ys _ (y xs (s12.seq hS)) hr hl hp (s12.trans (Same.new hn _)) upd_same⟩⟩) (fun H2 s12 => ⟨xs, s12.seq hS, Nat.le_refl _⟩) hq
end
theorem for_enum {K : PySem.W.Frag} {a : Addr} {xs : List V} {g : TG} {tb : TS} {D : Ends} {σ : St} {H : Hp} (Pv : Nat → St → Hp → Prop) (h0 : Pv 0 σ H) (hl : ∀ i σ H, i ≤ xs.length → Pv i σ H → SqL K H a xs)
    (hs : ∀ i x p σ H, xs[i]? = some x → H p = none → Pv i σ H → g (.ref p) σ (upd H p (.tup [.int (i : Int), x])) fun σ2 H2 => tb { D with nx := Pv (i + 1), ct := Pv (i + 1), bk := D.nx } σ2 H2) (hd : ∀ σ H, Pv xs.length σ H → D.nx σ H) :
    ∃ W : Nat → Nat → St → Hp → Prop, (∃ m, W 0 m σ H) ∧ ∀ i m σ H, W i m σ H →
      ((Ite K a).stop i H ∧ D.nx σ H) ∨ ((Ite K a).go i H ∧ ∃ N : St → Hp → Prop, (∀ σ' H', N σ' H' → ∃ m', m' < m ∧ W (i + 1) m' σ' H') ∧ ∀ x H', (Ite K a).yld i H x H' → g x σ H' fun σ2 H2 => tb { D with nx := N, ct := N, bk := D.nx } σ2 H2) := by
  refine ⟨fun i m σ H => m = xs.length - i ∧ i ≤ xs.length ∧ Pv i σ H, ⟨xs.length, rfl, Nat.zero_le _, h0⟩, fun i m σ H w => ?_⟩
  obtain ⟨rfl, hi, p⟩ := w
  have q := hl i σ H hi p
  by_cases hlt : i < xs.length
  · refine .inr ⟨⟨xs, xs[i], q, by simp [hlt]⟩, Pv (i + 1), fun σ' H' p' => ⟨xs.length - (i + 1), by lia, rfl, hlt, p'⟩, fun x H' y => ?_⟩
    obtain ⟨t, z, hn, rfl, rfl, y⟩ := y
    exact hs i z t σ H (y xs q) hn p
  · obtain rfl : i = xs.length := by lia
    exact .inl ⟨⟨xs, q, Nat.le_refl _⟩, hd σ H p⟩
theorem for_rev {K : PySem.W.Frag} {a : Addr} {xs : List V} {g : TG} {tb : TS} {D : Ends} {σ : St} {H : Hp} (Pv : Nat → St → Hp → Prop) (h0 : Pv 0 σ H) (hl : ∀ i σ H, i ≤ xs.length → Pv i σ H → SqL K H a xs)
    (hs : ∀ i x σ H, i < xs.length → xs[xs.length - 1 - i]? = some x → Pv i σ H → g x σ H fun σ2 H2 => tb { D with nx := Pv (i + 1), ct := Pv (i + 1), bk := D.nx } σ2 H2) (hd : ∀ σ H, Pv xs.length σ H → D.nx σ H) :
    ∃ W : Nat → Nat → St → Hp → Prop, (∃ m, W 0 m σ H) ∧ ∀ i m σ H, W i m σ H →
      ((Itv K a xs.length).stop i H ∧ D.nx σ H) ∨ ((Itv K a xs.length).go i H ∧ ∃ N : St → Hp → Prop, (∀ σ' H', N σ' H' → ∃ m', m' < m ∧ W (i + 1) m' σ' H') ∧ ∀ x H', (Itv K a xs.length).yld i H x H' → g x σ H' fun σ2 H2 => tb { D with nx := N, ct := N, bk := D.nx } σ2 H2) := by
  refine ⟨fun i m σ H => m = xs.length - i ∧ i ≤ xs.length ∧ Pv i σ H, ⟨xs.length, rfl, Nat.zero_le _, h0⟩, fun i m σ H w => ?_⟩
  obtain ⟨rfl, hi, p⟩ := w
  have q := hl i σ H hi p
  by_cases hlt : i < xs.length
  · have hx : xs.length - 1 - i < xs.length := by lia
    refine .inr ⟨⟨hlt, xs, xs[xs.length - 1 - i], q, List.getElem?_eq_getElem hx⟩, Pv (i + 1), fun σ' H' p' => ⟨xs.length - (i + 1), by lia, rfl, hlt, p'⟩, fun x H' y => ?_⟩
    obtain ⟨rfl, y⟩ := y
    exact hs i x σ _ hlt (y xs q) p
  · obtain rfl : i = xs.length := by lia
    exact .inl ⟨rfl, hd σ H p⟩
theorem while_go {c : TT} {tb : TS} {D : Ends} {σ : St} {H : Hp} (Pv : Nat → St → Hp → Prop) (h0 : ∃ m, Pv m σ H)
    (hs : ∀ m σ H, Pv m σ H → c σ H fun b H1 => if b = true then ∃ N : St → Hp → Prop, (∀ σ' H', N σ' H' → ∃ m', m' < m ∧ Pv m' σ' H') ∧ tb { D with nx := N, ct := N, bk := D.nx } σ H1 else D.nx σ H1) : tWhile c tb D σ H := ⟨Pv, h0, hs⟩
section
variable {σ : St} {H : Hp} {R : It → Hp → Prop} {tl : TE} {tr : TA} {Q : VK}
theorem r_ilist {K : PySem.W.Frag} (h : tl σ H fun x H1 => ∃ a, x = .ref a ∧ (∃ xs, SqL K H1 a xs) ∧ R (Itl K a) H1) : iList K tl σ H R := h
theorem r_rng1 (h : tr σ H fun vs H1 => ∃ j : Int, vs = [.int j] ∧ -(2 ^ 62) ≤ j ∧ j < 2 ^ 62 ∧ R (Itr 0 j.toNat) H1) : iRng1 tr σ H R := h
theorem r_rng2 (h : tr σ H fun vs H1 => ∃ i j : Int, vs = [.int i, .int j] ∧ (-(2 ^ 62) ≤ i ∧ i < 2 ^ 62 ∧ -(2 ^ 62) ≤ j ∧ j < 2 ^ 62) ∧ R (Itr i (j - i).toNat) H1) : iRng2 tr σ H R := h
theorem r_ienum {K : PySem.W.Frag} (h : tr σ H fun vs H1 => ∃ a, vs = [.ref a] ∧ (∃ xs, SqL K H1 a xs) ∧ R (Ite K a) H1) : iEnum K tr σ H R := h
theorem r_irev {K : PySem.W.Frag} (h : tr σ H fun vs H1 => ∃ a xs, vs = [.ref a] ∧ SqL K H1 a xs ∧ R (Itv K a xs.length) H1) : iRev K tr σ H R := h
theorem r_part {te : TE} {S : Option Int → Hp → Prop} (h : te σ H fun x H1 => ∃ i, x = .int i ∧ S (some i) H1) : tPart te σ H S := h
theorem r_nopart {S : Option Int → Hp → Prop} (h : S none H) : tNoPart σ H S := h
theorem r_slice {r : V → Option Int → Option Int → Hp → VK → Prop} {tlo thi : TO} (h : tl σ H fun x H1 => tlo σ H1 fun l H2 => thi σ H2 fun u H3 => r x l u H3 Q) : tSl r tl tlo thi σ H Q := h
theorem r_sub {to ti : TE} {t : TSet} {v : V} {S : St → Hp → Prop} (h : to σ H fun o H1 => ti σ H1 fun i H2 => t o i v H2 fun H3 => S σ H3) : gSub to ti t v σ H S := h
end
theorem r_truL {K : PySem.W.Frag} {H : Hp} {p : Addr} {xs : List V} {R : Bool → Prop} (hs : SqL K H p xs) (h : R (!xs.isEmpty)) : ∃ k, TruV K (.ref p) H k ∧ R k := ⟨_, .inl ⟨xs, hs, rfl⟩, h⟩
end L2
namespace SF
open Lean.Grind
section
variable {R : Type} [CommRing R]
noncomputable def sumN (f : Nat → R) : Nat → R
  | 0 => 0
  | n + 1 => sumN f n + f n
theorem sumN_congr {f g : Nat → R} : ∀ {n : Nat}, (∀ i, i < n → f i = g i) → sumN f n = sumN g n
  | 0, _ => rfl
  | n + 1, h => by
    show sumN f n + f n = sumN g n + g n
    rw [sumN_congr (fun i hi => h i (Nat.lt_succ_of_lt hi)), h n (Nat.lt_succ_self n)]
theorem sumN_add (f g : Nat → R) : ∀ n, sumN (fun i => f i + g i) n = sumN f n + sumN g n
  | 0 => by show (0 : R) = 0 + 0; grind
  | n + 1 => by
    show sumN (fun i => f i + g i) n + (f n + g n) = sumN f n + f n + (sumN g n + g n)
    rw [sumN_add f g n]; grind
theorem sumN_mul (c : R) (f : Nat → R) : ∀ n, sumN (fun i => c * f i) n = c * sumN f n
  | 0 => by show (0 : R) = c * 0; grind
  | n + 1 => by
    show sumN (fun i => c * f i) n + c * f n = c * (sumN f n + f n)
    rw [sumN_mul c f n]; grind
theorem sumN_mulR (c : R) (f : Nat → R) (n : Nat) : sumN (fun i => f i * c) n = sumN f n * c := by
  rw [sumN_congr (g := fun i => c * f i) (fun i _ => by grind), sumN_mul]; grind
theorem sumN_zero (n : Nat) : sumN (fun _ => (0 : R)) n = 0 := by
  induction n with
  | zero => rfl
  | succ n ih => show sumN (fun _ => (0 : R)) n + 0 = 0; rw [ih]; grind
theorem sumN_zero' {f : Nat → R} {n : Nat} (h : ∀ i, i < n → f i = 0) : sumN f n = 0 := by
  rw [sumN_congr h, sumN_zero]
theorem sumN_head (f : Nat → R) : ∀ n, sumN f (n + 1) = f 0 + sumN (fun i => f (i + 1)) n
  | 0 => by show (0 : R) + f 0 = f 0 + 0; grind
  | n + 1 => by
    show sumN f (n + 1) + f (n + 1) = f 0 + (sumN (fun i => f (i + 1)) n + f (n + 1))
    rw [sumN_head f n]; grind
theorem sumN_split (f : Nat → R) (m : Nat) : ∀ n, sumN f (m + n) = sumN f m + sumN (fun i => f (m + i)) n
  | 0 => by show sumN f m = sumN f m + 0; grind
  | n + 1 => by
    show sumN f (m + n) + f (m + n) = sumN f m + (sumN (fun i => f (m + i)) n + f (m + n))
    rw [sumN_split f m n]; grind
theorem sumN_rev (f : Nat → R) : ∀ n, sumN f (n + 1) = sumN (fun i => f (n - i)) (n + 1)
  | 0 => rfl
  | n + 1 => by
    rw [sumN_head (fun i => f (n + 1 - i)) (n + 1)]
    show sumN f (n + 1) + f (n + 1) = f (n + 1) + sumN (fun i => f (n + 1 - (i + 1))) (n + 1)
    rw [sumN_rev f n, sumN_congr (f := fun i => f (n + 1 - (i + 1))) (g := fun i => f (n - i)) (fun i _ => by rw [Nat.add_sub_add_right])]
    grind
theorem sumN_tri (F : Nat → Nat → R) : ∀ n, sumN (fun i => sumN (fun j => F j (i - j)) (i + 1)) n = sumN (fun j => sumN (fun k => F j k) (n - j)) n
  | 0 => rfl
  | n + 1 => by
    show sumN (fun i => sumN (fun j => F j (i - j)) (i + 1)) n + sumN (fun j => F j (n - j)) (n + 1) = sumN (fun j => sumN (fun k => F j k) (n + 1 - j)) n + sumN (fun k => F n k) (n + 1 - n)
    rw [sumN_tri F n]
    have e1 : sumN (fun j => sumN (fun k => F j k) (n + 1 - j)) n = sumN (fun j => sumN (fun k => F j k) (n - j) + F j (n - j)) n := by
      refine sumN_congr fun j hj => ?_
      have e : n + 1 - j = (n - j) + 1 := by lia
      rw [e]; rfl
    rw [e1, sumN_add]
    have e2 : n + 1 - n = 1 := by lia
    rw [e2]
    show _ + (sumN (fun j => F j (n - j)) n + F n (n - n)) = _ + (0 + F n 0)
    rw [Nat.sub_self]; grind
end
structure PS (R : Type) where
  c : Nat → R
namespace PS
variable {R : Type} [CommRing R]
theorem ext {f g : PS R} (h : ∀ i, f.c i = g.c i) : f = g := by
  cases f; cases g; congr; exact funext h
noncomputable def addP (f g : PS R) : PS R := ⟨fun i => f.c i + g.c i⟩
noncomputable def mulP (f g : PS R) : PS R := ⟨fun n => sumN (fun i => f.c i * g.c (n - i)) (n + 1)⟩
noncomputable def negP (f : PS R) : PS R := ⟨fun i => - f.c i⟩
noncomputable def subP (f g : PS R) : PS R := ⟨fun i => f.c i - g.c i⟩
noncomputable def C (a : R) : PS R := ⟨fun i => if i = 0 then a else 0⟩
noncomputable instance : Add (PS R) := ⟨addP⟩
noncomputable instance : Mul (PS R) := ⟨mulP⟩
noncomputable instance : Neg (PS R) := ⟨negP⟩
noncomputable instance : Sub (PS R) := ⟨subP⟩
theorem add_at (f g : PS R) (i : Nat) : (f + g).c i = f.c i + g.c i := rfl
theorem neg_at (f : PS R) (i : Nat) : (-f).c i = - f.c i := rfl
theorem sub_at (f g : PS R) (i : Nat) : (f - g).c i = f.c i - g.c i := rfl
theorem mul_at (f g : PS R) (n : Nat) : (f * g).c n = sumN (fun i => f.c i * g.c (n - i)) (n + 1) := rfl
theorem C_at (a : R) (i : Nat) : (C a).c i = if i = 0 then a else 0 := rfl
theorem mul_comm (f g : PS R) : f * g = g * f := by
  apply ext; intro n
  rw [mul_at, mul_at, sumN_rev]
  refine sumN_congr fun i hi => ?_
  have e : n - (n - i) = i := by lia
  rw [e]; grind
theorem C_mul (a : R) (f : PS R) (n : Nat) : (C a * f).c n = a * f.c n := by
  rw [mul_at, sumN_head]
  rw [sumN_zero' (fun i _ => by rw [C_at, if_neg (by lia)]; grind)]
  rw [C_at, if_pos rfl, Nat.sub_zero]; grind
theorem mul_assoc (f g h : PS R) : f * g * h = f * (g * h) := by
  apply ext; intro n
  rw [mul_at, mul_at]
  have e1 : sumN (fun i => (f * g).c i * h.c (n - i)) (n + 1) = sumN (fun i => sumN (fun j => (fun j k => f.c j * g.c k * h.c (n - (j + k))) j (i - j)) (i + 1)) (n + 1) := by
    refine sumN_congr fun i hi => ?_
    rw [mul_at, ← sumN_mulR]
    refine sumN_congr fun j hj => ?_
    show f.c j * g.c (i - j) * h.c (n - i) = f.c j * g.c (i - j) * h.c (n - (j + (i - j)))
    have e : j + (i - j) = i := by lia
    rw [e]
  have e2 : sumN (fun i => f.c i * (g * h).c (n - i)) (n + 1) = sumN (fun j => sumN (fun k => (fun j k => f.c j * g.c k * h.c (n - (j + k))) j k) (n + 1 - j)) (n + 1) := by
    refine sumN_congr fun j hj => ?_
    rw [mul_at, ← sumN_mul]
    have e : n + 1 - j = n - j + 1 := by lia
    rw [e]
    refine sumN_congr fun k hk => ?_
    show f.c j * (g.c k * h.c (n - j - k)) = f.c j * g.c k * h.c (n - (j + k))
    have e : n - j - k = n - (j + k) := by lia
    rw [e]; grind
  rw [e1, e2]
  exact sumN_tri (fun j k => f.c j * g.c k * h.c (n - (j + k))) (n + 1)
theorem add_mul (f g h : PS R) : (f + g) * h = f * h + g * h := by
  apply ext; intro n
  rw [mul_at, add_at, mul_at, mul_at, ← sumN_add]
  exact sumN_congr fun i _ => by rw [add_at]; grind
theorem one_mul (f : PS R) : C 1 * f = f := by
  apply ext; intro n; rw [C_mul]; grind
theorem C_add (a b : R) : C (a + b) = C a + C b := by
  apply ext; intro i; rw [add_at, C_at, C_at, C_at]; split <;> grind
theorem C_neg (a : R) : C (-a) = - C a := by
  apply ext; intro i; rw [neg_at, C_at, C_at]; split <;> grind
theorem C_zero_at (i : Nat) : (C (0 : R)).c i = 0 := by rw [C_at]; split <;> rfl
noncomputable instance instNatCast : NatCast (PS R) := ⟨fun n => C (@NatCast.natCast R Semiring.natCast n)⟩
noncomputable instance instIntCast : IntCast (PS R) := ⟨fun n => C (@IntCast.intCast R Ring.intCast n)⟩
noncomputable instance instOfNat (n : Nat) : OfNat (PS R) n := ⟨C (@OfNat.ofNat R n (Semiring.ofNat n))⟩
noncomputable def powP (f : PS R) : Nat → PS R
  | 0 => C 1
  | n + 1 => powP f n * f
noncomputable instance instHPow : HPow (PS R) Nat (PS R) := ⟨powP⟩
noncomputable instance instSMulN : SMul Nat (PS R) := ⟨fun n f => C (@NatCast.natCast R Semiring.natCast n) * f⟩
noncomputable instance instSMulI : SMul Int (PS R) := ⟨fun n f => C (@IntCast.intCast R Ring.intCast n) * f⟩
noncomputable instance instCommRing : CommRing (PS R) where
  natCast := instNatCast
  ofNat := instOfNat
  nsmul := instSMulN
  npow := instHPow
  intCast := instIntCast
  zsmul := instSMulI
  add_zero f := by apply ext; intro i; show f.c i + (C (0 : R)).c i = f.c i; rw [C_zero_at]; grind
  add_comm f g := by apply ext; intro i; show f.c i + g.c i = g.c i + f.c i; grind
  add_assoc f g h := by apply ext; intro i; show f.c i + g.c i + h.c i = f.c i + (g.c i + h.c i); grind
  mul_assoc := mul_assoc
  mul_one f := by rw [mul_comm]; exact one_mul f
  one_mul := one_mul
  right_distrib := add_mul
  left_distrib f g h := by rw [mul_comm f (g + h), add_mul, mul_comm g f, mul_comm h f]
  zero_mul f := by apply ext; intro i; show (C (0 : R) * f : PS R).c i = (C (0 : R)).c i; rw [C_mul, C_zero_at]; grind
  mul_zero f := by apply ext; intro i; show (f * C (0 : R) : PS R).c i = (C (0 : R)).c i; rw [mul_comm, C_mul, C_zero_at]; grind
  pow_zero f := rfl
  pow_succ f n := rfl
  ofNat_succ n := by
    show C (@OfNat.ofNat R (n + 1) (Semiring.ofNat (n + 1))) = C (@OfNat.ofNat R n (Semiring.ofNat n)) + C 1
    rw [← C_add]; exact congrArg C (Semiring.ofNat_succ n)
  ofNat_eq_natCast n := congrArg C (Semiring.ofNat_eq_natCast n)
  nsmul_eq_natCast_mul n f := rfl
  neg_add_cancel f := by apply ext; intro i; show - f.c i + f.c i = (C (0 : R)).c i; rw [C_zero_at]; grind
  sub_eq_add_neg f g := by apply ext; intro i; show f.c i - g.c i = f.c i + - g.c i; grind
  neg_zsmul n f := by
    apply ext; intro i
    show (C (@IntCast.intCast R Ring.intCast (-n)) * f).c i = - ((C (@IntCast.intCast R Ring.intCast n) * f).c i)
    have e : @IntCast.intCast R Ring.intCast (-n) = - @IntCast.intCast R Ring.intCast n := Ring.intCast_neg n
    rw [C_mul, C_mul, e]; grind
  zsmul_natCast_eq_nsmul n f := by
    apply ext; intro i
    show (C (@IntCast.intCast R Ring.intCast (n : Int)) * f).c i = (C (@NatCast.natCast R Semiring.natCast n) * f).c i
    rw [C_mul, C_mul]
    have e : @IntCast.intCast R Ring.intCast (n : Int) = @NatCast.natCast R Semiring.natCast n := Ring.intCast_natCast n
    rw [e]
  intCast_ofNat n := congrArg C (Ring.intCast_ofNat n)
  intCast_neg n := by
    show C (@IntCast.intCast R Ring.intCast (-n)) = - C (@IntCast.intCast R Ring.intCast n)
    rw [← C_neg]; exact congrArg C (Ring.intCast_neg n)
  mul_comm := mul_comm
noncomputable def nat (n : Nat) : R := @NatCast.natCast R Semiring.natCast n
noncomputable def der (f : PS R) : PS R := ⟨fun n => nat (n + 1) * f.c (n + 1)⟩
theorem der_at (f : PS R) (n : Nat) : (der f).c n = nat (n + 1) * f.c (n + 1) := rfl
theorem nat_add (m n : Nat) : (nat (m + n) : R) = nat m + nat n := Semiring.natCast_add m n
theorem der_mul (f g : PS R) : der (f * g) = der f * g + f * der g := by
  apply ext; intro n
  rw [add_at, der_at, mul_at, mul_at, mul_at]
  have e0 : nat (n + 1) * sumN (fun i => f.c i * g.c (n + 1 - i)) (n + 1 + 1) = sumN (fun i => nat i * (f.c i * g.c (n + 1 - i))) (n + 1 + 1) + sumN (fun i => nat (n + 1 - i) * (f.c i * g.c (n + 1 - i))) (n + 1 + 1) := by
    rw [← sumN_mul, ← sumN_add]
    refine sumN_congr fun i hi => ?_
    have e : n + 1 = i + (n + 1 - i) := by lia
    have e2 : (nat (n + 1) : R) = nat i + nat (n + 1 - i) := by rw [← nat_add, ← e]
    rw [e2]; grind
  rw [e0]
  have z : (nat 0 : R) = 0 := Semiring.natCast_zero
  have e1 : sumN (fun i => nat i * (f.c i * g.c (n + 1 - i))) (n + 1 + 1) = sumN (fun i => (der f).c i * g.c (n - i)) (n + 1) := by
    rw [sumN_head, z]
    have : sumN (fun i => nat (i + 1) * (f.c (i + 1) * g.c (n + 1 - (i + 1)))) (n + 1) = sumN (fun i => (der f).c i * g.c (n - i)) (n + 1) := by
      refine sumN_congr fun i _ => ?_
      rw [Nat.add_sub_add_right, der_at]; grind
    rw [this]; grind
  have e2 : sumN (fun i => nat (n + 1 - i) * (f.c i * g.c (n + 1 - i))) (n + 1 + 1) = sumN (fun i => f.c i * (der g).c (n - i)) (n + 1) := by
    show sumN (fun i => nat (n + 1 - i) * (f.c i * g.c (n + 1 - i))) (n + 1) + nat (n + 1 - (n + 1)) * (f.c (n + 1) * g.c (n + 1 - (n + 1))) = _
    rw [Nat.sub_self, z]
    have : sumN (fun i => nat (n + 1 - i) * (f.c i * g.c (n + 1 - i))) (n + 1) = sumN (fun i => f.c i * (der g).c (n - i)) (n + 1) := by
      refine sumN_congr fun i hi => ?_
      have e : n + 1 - i = (n - i) + 1 := by lia
      rw [e, der_at]; grind
    rw [this]; grind
  rw [e1, e2]
end PS
end SF
namespace SF
noncomputable def Bd (n : Nat) (x : Int) : Prop := x.natAbs < 2 ^ n
theorem Bd.mono {m n : Nat} {x : Int} (h : Bd m x) (hmn : m ≤ n) : Bd n x :=
  Nat.lt_of_lt_of_le h (Nat.pow_le_pow_right (by decide) hmn)
theorem Bd.mul {m n : Nat} {x y : Int} (h : Bd m x) (h' : Bd n y) : Bd (m + n) (x * y) := by
  unfold Bd at *
  rw [Int.natAbs_mul, Nat.pow_add]
  exact Nat.mul_lt_mul'' h h'
theorem Bd.neg {n : Nat} {x : Int} (h : Bd n x) : Bd n (-x) := by
  unfold Bd at *
  rw [Int.natAbs_neg]; exact h
theorem Bd.add {n : Nat} {x y : Int} (h : Bd n x) (h' : Bd n y) : Bd (n + 1) (x + y) := by
  unfold Bd at *
  have := Int.natAbs_add_le x y
  rw [Nat.pow_succ]; lia
theorem Bd.sub {n : Nat} {x y : Int} (h : Bd n x) (h' : Bd n y) : Bd (n + 1) (x - y) := by
  rw [Int.sub_eq_add_neg]; exact h.add h'.neg
theorem Bd.of_dvd {n : Nat} {x y : Int} (h : Bd n y) (hd : x ∣ y) (h0 : y ≠ 0) : Bd n x := by
  unfold Bd at *
  have h1 : x.natAbs ∣ y.natAbs := Int.natAbs_dvd_natAbs.mpr hd
  have h2 := Nat.le_of_dvd (Int.natAbs_pos.mpr h0) h1
  lia
theorem Bd.log2 {n : Nat} {x : Int} (h : Bd n x) (hn : n ≤ 9000) : x.natAbs.log2 < 9000 := by
  unfold Bd at h
  rcases Nat.eq_zero_or_pos x.natAbs with h0 | hp
  · rw [h0]; decide
  · exact (Nat.log2_lt (Nat.ne_of_gt hp)).mpr (Nat.lt_of_lt_of_le h (Nat.pow_le_pow_right (by decide) hn))
theorem Bd.of_le {n : Nat} {x y : Int} (h : Bd n y) (h' : x.natAbs ≤ y.natAbs) : Bd n x := Nat.lt_of_le_of_lt h' h
theorem Bd.of_range {n : Nat} {x : Int} (h1 : 0 ≤ x) (h2 : x < 2 ^ n) : Bd n x := by
  unfold Bd
  have e : ((2 : Int) ^ n) = ((2 ^ n : Nat) : Int) := by simp
  rw [e] at h2
  lia
theorem Bd.of_two {n : Nat} {x : Int} (h1 : -(2 ^ n) < x) (h2 : x < 2 ^ n) : Bd n x := by
  unfold Bd
  have e : ((2 : Int) ^ n) = ((2 ^ n : Nat) : Int) := by simp
  rw [e] at h1 h2
  lia
theorem fmod_pos {g l : Int} (hl : 0 < l) : g.fmod l = g % l := Int.fmod_eq_emod_of_nonneg g (by lia)
theorem fdiv_pos {g l : Int} (hl : 0 < l) : g.fdiv l = g / l := Int.fdiv_eq_ediv_of_nonneg g (by lia)
theorem gcd_turn {g l : Int} (hg : 0 ≤ g) (hl : 0 < l) : Int.gcd l (g % l) = Int.gcd g l := by
  obtain ⟨m, rfl⟩ := Int.eq_ofNat_of_zero_le hg
  obtain ⟨n, rfl⟩ := Int.eq_ofNat_of_zero_le (show 0 ≤ l by lia)
  have e : ((m : Int) % (n : Int)) = ((m % n : Nat) : Int) := by simp
  rw [e]
  show Nat.gcd n (m % n) = Nat.gcd m n
  rw [Nat.gcd_comm m n, Nat.gcd_rec n m, Nat.gcd_comm]
theorem gcd_abs {a b : Int} : Int.gcd (if a < 0 then -a else a) (if b < 0 then -b else b) = Int.gcd a b := by
  split <;> split <;> simp [Int.gcd_neg, Int.neg_gcd]
theorem gcd_end {g : Int} (hg : 0 ≤ g) : ((Int.gcd g 0 : Nat) : Int) = g := by
  rw [Int.gcd_zero_right]; lia
noncomputable def rs (a b : Int) : Int := if b < 0 then -((Int.gcd a b : Nat) : Int) else ((Int.gcd a b : Nat) : Int)
noncomputable def rt (a b : Int) : Int := a.fdiv (rs a b)
noncomputable def ru (a b : Int) : Int := b.fdiv (rs a b)
theorem fdiv_mul {x y : Int} (hd : y ∣ x) : x.fdiv y * y = x := Int.fdiv_mul_cancel hd
structure Low (p q a b : Int) : Prop where
  pos : 0 < q
  cross : p * b = a * q
  low : Int.gcd p q = 1
end SF
namespace SF
open Lean.Grind
noncomputable def co (xs : List Int) (i : Nat) : Int := xs.getD i 0
noncomputable def se (xs : List Int) : PS Int := ⟨co xs⟩
theorem se_c (xs : List Int) : (se xs).c = co xs := rfl
theorem co_zero (x : Int) (r : List Int) : co (x :: r) 0 = x := rfl
theorem co_succ (x : Int) (r : List Int) (i : Nat) : co (x :: r) (i + 1) = co r i := rfl
theorem co_lt {xs : List Int} {i : Nat} (h : i < xs.length) : co xs i = xs[i] := by
  show xs.getD i 0 = _; rw [List.getD_eq_getElem?_getD, List.getElem?_eq_getElem h]; rfl
theorem co_ge {xs : List Int} {i : Nat} (h : xs.length ≤ i) : co xs i = 0 := by
  show xs.getD i 0 = _; rw [List.getD_eq_getElem?_getD, List.getElem?_eq_none h]; rfl
theorem co_take (xs : List Int) (n i : Nat) : co (xs.take n) i = if i < n then co xs i else 0 := by
  show (xs.take n).getD i 0 = _
  rw [List.getD_eq_getElem?_getD]
  split
  · rename_i h; rw [List.getElem?_take_of_lt h]; rfl
  · rename_i h; rw [List.getElem?_eq_none (by rw [List.length_take]; lia)]; rfl
theorem co_map (f : Int → Int) (h0 : f 0 = 0) (xs : List Int) (i : Nat) : co (xs.map f) i = f (co xs i) := by
  show (xs.map f).getD i 0 = f (xs.getD i 0)
  rw [List.getD_eq_getElem?_getD, List.getD_eq_getElem?_getD, List.getElem?_map]
  cases xs[i]? with
  | none => exact h0.symm
  | some v => rfl
noncomputable def ofS (f : Nat → Int) (n : Nat) : List Int := (List.range n).map f
theorem ofS_length (f : Nat → Int) (n : Nat) : (ofS f n).length = n := by simp [ofS]
theorem ofS_co (f : Nat → Int) (n i : Nat) : co (ofS f n) i = if i < n then f i else 0 := by
  split
  · rename_i h
    rw [co_lt (by rw [ofS_length]; exact h)]
    simp [ofS]
  · rename_i h; exact co_ge (by rw [ofS_length]; lia)
theorem ofS_co' {f : Nat → Int} {n : Nat} (h : ∀ i, n ≤ i → f i = 0) : co (ofS f n) = f := by
  funext i
  rw [ofS_co]
  split
  · rfl
  · rename_i hi; exact (h i (by lia)).symm
theorem ofS_of (xs : List Int) : ofS (co xs) xs.length = xs := by
  refine List.ext_getElem (ofS_length _ _) fun i h1 h2 => ?_
  simp only [ofS, List.getElem_map, List.getElem_range]
  exact co_lt h2
theorem ofS_set {f : Nat → Int} {n i : Nat} {v : Int} (h : i < n) : (ofS f n).set i v = ofS (fun j => if j = i then v else f j) n := by
  refine List.ext_getElem (by rw [List.length_set, ofS_length, ofS_length]) fun j h1 h2 => ?_
  rw [List.getElem_set]
  simp only [ofS, List.getElem_map, List.getElem_range]
  by_cases e : i = j
  · rw [if_pos e, if_pos e.symm]
  · rw [if_neg e, if_neg (Ne.symm e)]
theorem ofS_congr {f g : Nat → Int} {n : Nat} (h : ∀ i, i < n → f i = g i) : ofS f n = ofS g n := by
  unfold ofS
  exact List.map_congr_left fun i hi => h i (List.mem_range.mp hi)
noncomputable def Tr (xs : List Int) : Prop := ∀ x, xs.getLast? = some x → x ≠ 0
theorem Tr.nil : Tr [] := fun x h => by cases h
theorem Tr.last {xs : List Int} (h : Tr xs) (hn : xs ≠ []) : co xs (xs.length - 1) ≠ 0 := by
  have hl : 0 < xs.length := List.length_pos_iff.mpr hn
  rw [co_lt (by lia)]
  refine h _ ?_
  rw [List.getLast?_eq_getElem?, List.getElem?_eq_getElem (by lia)]
theorem Tr.of_last {xs : List Int} (h : xs ≠ [] → co xs (xs.length - 1) ≠ 0) : Tr xs := by
  intro x hx
  have hn : xs ≠ [] := by rintro rfl; cases hx
  have hl : 0 < xs.length := List.length_pos_iff.mpr hn
  have := h hn
  rw [co_lt (by lia)] at this
  rw [List.getLast?_eq_getElem?, List.getElem?_eq_getElem (by lia)] at hx
  rw [Option.some.inj hx] at this
  exact this
theorem Tr.inj {xs ys : List Int} (hx : Tr xs) (hy : Tr ys) (h : ∀ i, co xs i = co ys i) : xs = ys := by
  have hl : xs.length = ys.length := by
    rcases Nat.lt_trichotomy xs.length ys.length with hlt | he | hlt
    · have hn : ys ≠ [] := by rintro rfl; exact absurd hlt (Nat.not_lt_zero _)
      have := hy.last hn
      rw [← h, co_ge (by lia)] at this
      exact absurd rfl this
    · exact he
    · have hn : xs ≠ [] := by rintro rfl; exact absurd hlt (Nat.not_lt_zero _)
      have := hx.last hn
      rw [h, co_ge (by lia)] at this
      exact absurd rfl this
  refine List.ext_getElem hl fun i h1 h2 => ?_
  have := h i
  rw [co_lt h1, co_lt h2] at this
  exact this
noncomputable def trimL : List Int → List Int
  | [] => []
  | x :: r => match trimL r with
    | [] => if x = 0 then [] else [x]
    | y :: t => x :: y :: t
theorem trimL_co : ∀ (xs : List Int) (i : Nat), co (trimL xs) i = co xs i
  | [], i => rfl
  | x :: r, i => by
    have ih := trimL_co r
    unfold trimL
    cases e : trimL r with
    | nil =>
      rw [e] at ih
      dsimp only
      split
      · rename_i hx
        cases i with
        | zero => exact hx.symm
        | succ i => rw [co_succ, ← ih i]; rfl
      · cases i with
        | zero => rfl
        | succ i => rw [co_succ, co_succ, ← ih i]
    | cons y t =>
      rw [e] at ih
      cases i with
      | zero => rfl
      | succ i => exact ih i
theorem trimL_tr : ∀ xs : List Int, Tr (trimL xs)
  | [] => Tr.nil
  | x :: r => by
    have ih := trimL_tr r
    unfold trimL
    cases e : trimL r with
    | nil =>
      dsimp only
      split
      · exact Tr.nil
      · rename_i hx
        intro z hz
        have : x = z := by simpa using hz
        rw [← this]; exact hx
    | cons y t =>
      rw [e] at ih
      intro z hz
      exact ih z (by simpa using hz)
theorem trimL_id {xs : List Int} (h : Tr xs) : trimL xs = xs := (trimL_tr xs).inj h (trimL_co xs)
theorem trimL_eq {xs ys : List Int} (h : ∀ i, co xs i = co ys i) : trimL xs = trimL ys :=
  (trimL_tr xs).inj (trimL_tr ys) fun i => by rw [trimL_co, trimL_co, h]
theorem trimL_len : ∀ xs : List Int, (trimL xs).length ≤ xs.length
  | [] => Nat.le_refl _
  | x :: r => by
    have ih := trimL_len r
    unfold trimL
    cases e : trimL r with
    | nil =>
      dsimp only
      split <;> simp
    | cons y t =>
      rw [e] at ih
      simp only [List.length_cons] at *
      lia
theorem trimL_take {xs : List Int} {n : Nat} (h : co xs n = 0) : trimL (xs.take (n + 1)) = trimL (xs.take n) := by
  refine trimL_eq fun i => ?_
  rw [co_take, co_take]
  by_cases h1 : i < n
  · rw [if_pos h1, if_pos (by lia)]
  · rw [if_neg h1]
    split
    · have : i = n := by lia
      rw [this]; exact h
    · rfl
theorem take_tr {xs : List Int} {n : Nat} (hn : n ≤ xs.length) (h : n = 0 ∨ co xs (n - 1) ≠ 0) : Tr (xs.take n) := by
  refine Tr.of_last fun hne => ?_
  have hl : (xs.take n).length = n := by rw [List.length_take]; lia
  rw [hl, co_take]
  have : 0 < n := by
    rcases Nat.eq_zero_or_pos n with z | z
    · rw [z] at hne; simp at hne
    · exact z
  rw [if_pos (by lia)]
  rcases h with z | z
  · lia
  · exact z
noncomputable def mulL (xs ys : List Int) : List Int := if xs = [] ∨ ys = [] then [] else ofS (se xs * se ys).c (xs.length + ys.length - 1)
theorem mul_high {xs ys : List Int} {n : Nat} (h : xs.length + ys.length ≤ n + 1) : (se xs * se ys).c n = 0 := by
  rw [PS.mul_at]
  refine sumN_zero' fun i hi => ?_
  by_cases h1 : i < xs.length
  · rw [se_c, se_c, co_ge (xs := ys) (by lia)]; grind
  · rw [se_c, se_c, co_ge (xs := xs) (by lia)]; grind
theorem mulL_co (xs ys : List Int) : co (mulL xs ys) = (se xs * se ys).c := by
  unfold mulL
  split
  · rename_i h
    funext n
    rw [PS.mul_at]
    refine (sumN_zero' fun i _ => ?_).symm
    rcases h with h | h <;> subst h
    · show (0 : Int) * _ = 0; grind
    · show _ * (0 : Int) = 0; grind
  · refine ofS_co' fun i hi => mul_high ?_
    rename_i h
    rw [_root_.not_or] at h
    have h1 := List.length_pos_iff.mpr h.1
    have h2 := List.length_pos_iff.mpr h.2
    lia
theorem mul_lead {xs ys : List Int} (hx : xs ≠ []) (hy : ys ≠ []) : (se xs * se ys).c (xs.length + ys.length - 2) = co xs (xs.length - 1) * co ys (ys.length - 1) := by
  have h1 := List.length_pos_iff.mpr hx
  have h2 := List.length_pos_iff.mpr hy
  rw [PS.mul_at]
  have e : xs.length + ys.length - 2 + 1 = (xs.length - 1) + (1 + (ys.length - 1)) := by lia
  rw [e, sumN_split, sumN_split]
  rw [sumN_zero' (n := xs.length - 1) (fun i hi => by rw [se_c, se_c, co_ge (xs := ys) (by lia)]; grind)]
  rw [sumN_zero' (n := ys.length - 1) (fun i hi => by rw [se_c, se_c, co_ge (xs := xs) (by lia)]; grind)]
  show 0 + ((0 + co xs (xs.length - 1 + 0) * co ys (xs.length + ys.length - 2 - (xs.length - 1 + 0))) + 0) = _
  have e2 : xs.length + ys.length - 2 - (xs.length - 1 + 0) = ys.length - 1 := by lia
  rw [e2, Nat.add_zero]; grind
theorem mulL_tr {xs ys : List Int} (hx : Tr xs) (hy : Tr ys) : Tr (mulL xs ys) := by
  by_cases h : xs = [] ∨ ys = []
  · unfold mulL; rw [if_pos h]; exact Tr.nil
  · refine Tr.of_last fun _ => ?_
    rw [mulL_co]
    have hl : (mulL xs ys).length = xs.length + ys.length - 1 := by unfold mulL; rw [if_neg h, ofS_length]
    rw [hl]
    rw [_root_.not_or] at h
    have h1 := List.length_pos_iff.mpr h.1
    have h2 := List.length_pos_iff.mpr h.2
    have e : xs.length + ys.length - 1 - 1 = xs.length + ys.length - 2 := by lia
    rw [e, mul_lead h.1 h.2]
    exact Int.mul_ne_zero (hx.last h.1) (hy.last h.2)
noncomputable def derL (xs : List Int) : List Int := ofS (PS.der (se xs)).c (xs.length - 1)
theorem derL_co (xs : List Int) : co (derL xs) = (PS.der (se xs)).c := by
  refine ofS_co' fun i hi => ?_
  show PS.nat (i + 1) * co xs (i + 1) = 0
  rw [co_ge (by lia)]; grind
theorem nat_int (n : Nat) : (PS.nat n : Int) = (n : Int) := rfl
theorem derL_tr {xs : List Int} (hx : Tr xs) : Tr (derL xs) := by
  refine Tr.of_last fun h => ?_
  have hl : (derL xs).length = xs.length - 1 := ofS_length _ _
  have hp : 0 < (derL xs).length := List.length_pos_iff.mpr h
  rw [hl] at hp
  rw [derL_co, hl]
  have hne : xs ≠ [] := by rintro rfl; simp at hp
  have e : xs.length - 1 - 1 + 1 = xs.length - 1 := by lia
  show PS.nat (xs.length - 1 - 1 + 1) * co xs (xs.length - 1 - 1 + 1) ≠ 0
  rw [e, nat_int]
  exact Int.mul_ne_zero (by lia) (hx.last hne)
end SF
namespace SF
noncomputable def contN (xs : List Int) : Nat := xs.foldl (fun g x => Int.gcd g x) 0
noncomputable def contF (g : Nat) (xs : List Int) : Nat := xs.foldl (fun g x => Int.gcd g x) g
theorem contF_dvd : ∀ (xs : List Int) (g d : Nat), d ∣ contF g xs ↔ (d ∣ g ∧ ∀ x ∈ xs, (d : Int) ∣ x)
  | [], g, d => by simp [contF]
  | x :: r, g, d => by
    have ih := contF_dvd r (Int.gcd g x) d
    show d ∣ contF (Int.gcd g x) r ↔ _
    rw [ih]
    have h1 : d ∣ Int.gcd g x ↔ (d ∣ g ∧ (d : Int) ∣ x) := by
      constructor
      · intro h
        have hz : (d : Int) ∣ ((Int.gcd g x : Nat) : Int) := Int.ofNat_dvd.mpr h
        exact ⟨Int.ofNat_dvd.mp (Int.dvd_trans hz (Int.gcd_dvd_left ..)), Int.dvd_trans hz (Int.gcd_dvd_right ..)⟩
      · rintro ⟨h1, h2⟩
        exact Int.ofNat_dvd.mp (Int.dvd_coe_gcd (Int.ofNat_dvd.mpr h1) h2)
    rw [h1]
    constructor
    · rintro ⟨⟨a, b⟩, c⟩
      exact ⟨a, fun y hy => by rcases List.mem_cons.mp hy with rfl | hy; exact b; exact c y hy⟩
    · rintro ⟨a, b⟩
      exact ⟨⟨a, b x List.mem_cons_self⟩, fun y hy => b y (List.mem_cons_of_mem _ hy)⟩
theorem contN_dvd (xs : List Int) (d : Nat) : d ∣ contN xs ↔ ∀ x ∈ xs, (d : Int) ∣ x := by
  have := contF_dvd xs 0 d
  rw [show contF 0 xs = contN xs from rfl] at this
  rw [this]
  exact ⟨fun h => h.2, fun h => ⟨Nat.dvd_zero d, h⟩⟩
theorem contN_of {xs : List Int} {x : Int} (h : x ∈ xs) : ((contN xs : Nat) : Int) ∣ x := (contN_dvd xs _).mp (Nat.dvd_refl _) x h
theorem contN_pos {xs : List Int} {x : Int} (h : x ∈ xs) (h0 : x ≠ 0) : 0 < contN xs := by
  rcases Nat.eq_zero_or_pos (contN xs) with z | z
  · have := contN_of h
    rw [z] at this
    exact absurd (Int.zero_dvd.mp this) h0
  · exact z
noncomputable def cont (xs : List Int) : Int := if co xs (xs.length - 1) < 0 then -((contN xs : Nat) : Int) else ((contN xs : Nat) : Int)
theorem cont_abs (xs : List Int) : (cont xs).natAbs = contN xs := by unfold cont; split <;> lia
theorem cont_dvd {xs : List Int} {x : Int} (h : x ∈ xs) : cont xs ∣ x := by
  unfold cont; split
  · exact Int.neg_dvd.mpr (contN_of h)
  · exact contN_of h
theorem last_mem {xs : List Int} (hn : xs ≠ []) : co xs (xs.length - 1) ∈ xs := by
  have hl : 0 < xs.length := List.length_pos_iff.mpr hn
  rw [co_lt (by lia)]
  exact List.getElem_mem _
theorem cont_ne {xs : List Int} (h : Tr xs) (hn : xs ≠ []) : cont xs ≠ 0 := by
  have := contN_pos (last_mem hn) (h.last hn)
  have e := cont_abs xs
  lia
noncomputable def primL (xs : List Int) : List Int := xs.map (·.fdiv (cont xs))
theorem primL_len (xs : List Int) : (primL xs).length = xs.length := List.length_map _
theorem primL_co {xs : List Int} {i : Nat} (h : i < xs.length) : co (primL xs) i * cont xs = co xs i := by
  unfold primL
  rw [co_map (fun y => y.fdiv (cont xs)) (by simp)]
  have hm : co xs i ∈ xs := by rw [co_lt h]; exact List.getElem_mem _
  exact Int.fdiv_mul_cancel (cont_dvd hm)
theorem primL_last {xs : List Int} (h : Tr xs) (hn : xs ≠ []) : 0 < co (primL xs) (xs.length - 1) := by
  have hl : 0 < xs.length := List.length_pos_iff.mpr hn
  have e := primL_co (xs := xs) (i := xs.length - 1) (by lia)
  have h0 := h.last hn
  have hp := contN_pos (last_mem hn) h0
  by_cases hc : co xs (xs.length - 1) < 0
  · have hs : cont xs < 0 := by unfold cont; rw [if_pos hc]; lia
    by_cases hq : 0 < co (primL xs) (xs.length - 1)
    · exact hq
    · have : 0 ≤ co (primL xs) (xs.length - 1) * cont xs := Int.mul_nonneg_of_nonpos_of_nonpos (by lia) (by lia)
      lia
  · have hs : 0 < cont xs := by unfold cont; rw [if_neg hc]; lia
    by_cases hq : 0 < co (primL xs) (xs.length - 1)
    · exact hq
    · have : co (primL xs) (xs.length - 1) * cont xs ≤ 0 := Int.mul_nonpos_of_nonpos_of_nonneg (by lia) (by lia)
      lia
theorem primL_tr {xs : List Int} (h : Tr xs) : Tr (primL xs) := by
  refine Tr.of_last fun hn => ?_
  have hx : xs ≠ [] := by rintro rfl; exact hn rfl
  rw [primL_len]
  have := primL_last h hx
  lia
theorem primL_contN {xs : List Int} (h : Tr xs) (hn : xs ≠ []) : contN (primL xs) = 1 := by
  have h0 := h.last hn
  have hp := contN_pos (last_mem hn) h0
  have hd : contN (primL xs) * contN xs ∣ contN xs := by
    rw [contN_dvd]
    intro x hx
    have hy : x.fdiv (cont xs) ∈ primL xs := List.mem_map.mpr ⟨x, hx, rfl⟩
    have h1 := contN_of hy
    have e := Int.fdiv_mul_cancel (cont_dvd hx)
    obtain ⟨k, hk⟩ := h1
    have ha : (cont xs).natAbs = contN xs := cont_abs xs
    rcases Int.natAbs_eq (cont xs) with hc | hc
    · rw [ha] at hc
      refine ⟨k, ?_⟩
      rw [← e, hk, hc]; push_cast; grind
    · rw [ha] at hc
      refine ⟨-k, ?_⟩
      rw [← e, hk, hc]; push_cast; grind
  have h2 : contN (primL xs) * contN xs ∣ 1 * contN xs := by rw [Nat.one_mul]; exact hd
  have h3 := Nat.dvd_of_mul_dvd_mul_right hp h2
  exact Nat.eq_one_of_dvd_one h3
noncomputable def hv (t u : Int) (xs : List Int) : Int := sumN (fun i => co xs i * (t ^ i * u ^ (xs.length - 1 - i))) xs.length
noncomputable def hstep (t u : Int) (p : Int × Int) (x : Int) : Int × Int := (p.1 * t + x * p.2, p.2 * u)
theorem hv_cons (t u x : Int) (r : List Int) : hv t u (x :: r) = hv t u r * t + x * u ^ r.length := by
  unfold hv
  rw [List.length_cons, sumN_head, ← sumN_mulR]
  have e : sumN (fun i => co (x :: r) (i + 1) * (t ^ (i + 1) * u ^ (r.length + 1 - 1 - (i + 1)))) r.length = sumN (fun i => co r i * (t ^ i * u ^ (r.length - 1 - i)) * t) r.length := by
    refine sumN_congr fun i hi => ?_
    have e1 : r.length + 1 - 1 - (i + 1) = r.length - 1 - i := by lia
    rw [e1, co_succ, Int.pow_succ]; grind
  rw [e]
  rw [co_zero, Nat.add_sub_cancel, Nat.sub_zero, Int.pow_zero]; grind
theorem hv_fold (t u : Int) : ∀ xs : List Int, xs.reverse.foldl (hstep t u) (0, 1) = (hv t u xs, u ^ xs.length)
  | [] => by show ((0 : Int), (1 : Int)) = (0, u ^ 0); rw [Int.pow_zero]
  | x :: r => by
    rw [List.reverse_cons, List.foldl_append, hv_fold t u r, hv_cons]
    show (hv t u r * t + x * u ^ r.length, u ^ r.length * u) = _
    rw [List.length_cons, Int.pow_succ]
end SF
namespace SF
noncomputable def cv (xs ys : List Int) (a j : Nat) : Int := sumN (fun i => if i ≤ j then co xs i * co ys (j - i) else 0) a
theorem cv_succ (xs ys : List Int) (a j : Nat) : cv xs ys (a + 1) j = cv xs ys a j + (if a ≤ j then co xs a * co ys (j - a) else 0) := rfl
theorem cv_full (xs ys : List Int) (j : Nat) : cv xs ys xs.length j = (se xs * se ys).c j := by
  rw [PS.mul_at]
  show sumN (fun i => if i ≤ j then co xs i * co ys (j - i) else 0) xs.length = sumN (fun i => co xs i * co ys (j - i)) (j + 1)
  rcases Nat.le_total xs.length (j + 1) with h | h
  · have e : j + 1 = xs.length + (j + 1 - xs.length) := by lia
    rw [e, sumN_split, sumN_zero' (n := j + 1 - xs.length) (fun i _ => by rw [co_ge (xs := xs) (by lia)]; grind)]
    rw [sumN_congr (g := fun i => co xs i * co ys (j - i)) (fun i hi => by rw [if_pos (by lia)])]
    grind
  · have e : xs.length = (j + 1) + (xs.length - (j + 1)) := by lia
    rw [e, sumN_split, sumN_zero' (n := xs.length - (j + 1)) (fun i _ => by rw [if_neg (by lia)])]
    rw [sumN_congr (g := fun i => co xs i * co ys (j - i)) (fun i hi => by rw [if_pos (by lia)])]
    grind
theorem cv_inner (xs ys : List Int) (a j : Nat) : (cv xs ys a j + if a ≤ j ∧ j < a + ys.length then co xs a * co ys (j - a) else 0) = cv xs ys (a + 1) j := by
  rw [cv_succ]
  by_cases h : a ≤ j
  · rw [if_pos h]
    by_cases h2 : j < a + ys.length
    · rw [if_pos ⟨h, h2⟩]
    · rw [if_neg (fun z => h2 z.2), co_ge (xs := ys) (by lia)]; grind
  · rw [if_neg h, if_neg (fun z => h z.1)]
theorem mulL_ofS {xs ys : List Int} (hx : xs ≠ []) (hy : ys ≠ []) : mulL xs ys = ofS (cv xs ys xs.length) (xs.length + ys.length - 1) := by
  unfold mulL
  rw [if_neg (by intro z; rcases z with z | z; exact hx z; exact hy z)]
  exact ofS_congr fun i _ => (cv_full xs ys i).symm
theorem ofS_zero (n : Nat) : ofS (fun _ => 0) n = List.replicate n 0 := by
  refine List.ext_getElem (by rw [ofS_length, List.length_replicate]) fun i h1 h2 => ?_
  simp [ofS]
theorem derL_list (xs : List Int) : ((ofS (fun i => (i : Int) * co xs i) xs.length).drop 1) = derL xs := by
  unfold derL
  refine List.ext_getElem (by rw [List.length_drop, ofS_length, ofS_length]) fun i h1 h2 => ?_
  rw [List.getElem_drop]
  have e1 : (ofS (fun i => (i : Int) * co xs i) xs.length)[1 + i]'(by rw [ofS_length]; rw [ofS_length] at h2; lia) = ((1 + i : Nat) : Int) * co xs (1 + i) := by simp only [ofS, List.getElem_map, List.getElem_range]
  rw [e1]
  simp only [ofS, List.getElem_map, List.getElem_range]
  rw [PS.der_at, se_c, Nat.add_comm 1 i]
  rfl
noncomputable def hvp (t u : Int) (xs : List Int) (j : Nat) : Int × Int := (xs.reverse.take j).foldl (hstep t u) (0, 1)
theorem hvp_zero (t u : Int) (xs : List Int) : hvp t u xs 0 = (0, 1) := rfl
theorem hvp_succ (t u : Int) (xs : List Int) (j : Nat) (h : j < xs.length) : hvp t u xs (j + 1) = hstep t u (hvp t u xs j) (co xs (xs.length - 1 - j)) := by
  unfold hvp
  have hj : j < xs.reverse.length := by rw [List.length_reverse]; exact h
  rw [List.take_add_one, List.getElem?_eq_getElem hj, Option.toList_some, List.foldl_append]
  have e : xs.reverse[j] = co xs (xs.length - 1 - j) := by
    rw [List.getElem_reverse, co_lt (by lia)]
  rw [e]; rfl
theorem hvp_full (t u : Int) (xs : List Int) : (hvp t u xs xs.length).1 = hv t u xs := by
  unfold hvp
  rw [List.take_of_length_le (by rw [List.length_reverse]; exact Nat.le_refl _), hv_fold]
noncomputable def hpart (t u : Int) (xs : List Int) (k : Nat) : Int := sumN (fun i => co xs i * (t ^ i * u ^ (xs.length - 1 - i))) k
theorem hpart_full (t u : Int) (xs : List Int) : hpart t u xs xs.length = hv t u xs := rfl
noncomputable def hfac (t u x : Int) (k j : Nat) : Int := x * (t ^ (min k j) * u ^ (j - k))
theorem hfac_zero (t u x : Int) (k : Nat) : hfac t u x k 0 = x := by unfold hfac; simp
theorem hfac_succ (t u x : Int) (k j : Nat) : hfac t u x k (j + 1) = hfac t u x k j * (if k ≤ j then u else t) := by
  unfold hfac
  by_cases h : k ≤ j
  · rw [if_pos h, Nat.min_eq_left h, Nat.min_eq_left (by lia)]
    have e : j + 1 - k = j - k + 1 := by lia
    rw [e, Int.pow_succ]; grind
  · rw [if_neg h, Nat.min_eq_right (by lia), Nat.min_eq_right (by lia)]
    have e1 : j + 1 - k = 0 := by lia
    have e2 : j - k = 0 := by lia
    rw [e1, e2, Int.pow_succ]; grind
theorem hfac_full (t u : Int) (xs : List Int) (k : Nat) (h : k < xs.length) : hfac t u (co xs k) k (xs.length - 1) = co xs k * (t ^ k * u ^ (xs.length - 1 - k)) := by
  unfold hfac
  rw [Nat.min_eq_left (by lia)]
end SF
namespace L2
open PySem PySem.Spec PyProof.Rows
section
variable {X : Cx} {K : PySem.W.Frag} {pos : Pos}
theorem pg_tupK {es : List Expr} {k : Nat} {t : TGs} {n : Nat} (hK : X.K = K) (hc : X.calm = true) (h : PGs X es t)
    (hn : (assignEach es X.env).length = n) (hst : (assignEach es X.env).findIdx? (·.1) = none) : PG X (.Tuple es k pos) (gTup K n t) := by subst hK; exact pg_tup hc h hn hst
end
theorem ofS_succ (F : Nat → Int) (n : Nat) : SF.ofS F (n + 1) = SF.ofS F n ++ [F n] := by
  unfold SF.ofS; rw [List.range_succ, List.map_append]; rfl
theorem len1 {α : Type} {r : List α} (h : r.length = 1) : ∃ x, r = [x] := by
  match r, h with
  | [x], _ => exact ⟨x, rfl⟩
theorem len2 {α : Type} {r : List α} (h : r.length = 2) : ∃ x y, r = [x, y] := by
  match r, h with
  | [x, y], _ => exact ⟨x, y, rfl⟩
noncomputable abbrev CompGo (J : It) (own : List Str) (fr : List Nat) (σ : St) (g : TG) (te : TE) (H1 : Hp) (Q : VK) : Prop :=
  ∀ D, H1 D = none → ∃ W : Nat → Nat → St → Hp → Prop, (∃ m, W 0 m (stComp own fr σ) (upd H1 D (.lst []))) ∧ ∀ i m σ2 H2, W i m σ2 H2 →
      (J.stop i H2 ∧ Q (.ref D) H2) ∨ (J.go i H2 ∧ ∀ x H3, J.yld i H2 x H3 → g x σ2 H3 fun σ4 H4 => te σ4 H4 fun y H5 => ∃ ys, H5 D = some (.lst ys) ∧ ys.length < sizeLine ∧ ∃ m', m' < m ∧ W (i + 1) m' σ4 (upd H5 D (.lst (ys ++ [y]))))
section
variable {K : PySem.W.Frag} {own : List Str} {fr : List Nat} {g : TG} {te : TE} {σ : St} {H1 : Hp} {Q : VK}
theorem il_item {xs : List Int} {n : Nat} {x : V} (h : (xs.map V.int)[n]? = some x) : n < xs.length ∧ x = .int (SF.co xs n) := by
  have hn : n < xs.length := by
    have := (List.getElem?_eq_some_iff.mp h).1
    rwa [List.length_map] at this
  rw [List.getElem?_map, List.getElem?_eq_getElem hn] at h
  rw [SF.co_lt hn]
  exact ⟨hn, (Option.some.inj h).symm⟩
theorem comp_listI {a : Addr} {xs : List Int} (hS : SqL K H1 a (xs.map V.int)) (F : Nat → Int) (hz : xs.length ≤ 1000)
    (hs : ∀ (i : Nat) (r : St) (H2 : Hp), i < xs.length → r.length = own.length → Same H1 H2 → ∀ Z : V → St → Hp → Prop, (∀ σ4 H5, Same H2 H5 → (∃ r' : St, r'.length = own.length ∧ σ4 = r' ++ cap fr σ) → Z (.int (F i)) σ4 H5) → g (.int (SF.co xs i)) (r ++ cap fr σ) H2 fun σ4 H4 => te σ4 H4 fun y H5 => Z y σ4 H5)
    (hq : ∀ D H2, H1 D = none → Same H1 H2 → H2 D = some (.lst ((SF.ofS F xs.length).map V.int)) → Q (.ref D) H2) : CompGo (Itl K a) own fr σ g te H1 Q :=
  comp_list hS (fun ys => ys = (SF.ofS F ys.length).map V.int) (small4 (by rw [List.length_map]; exact hz)) rfl
    (fun i x r ys H2 hx hr hl hp s12 Z hZ => by
      obtain ⟨hi, rfl⟩ := il_item hx
      refine hs i r H2 hi hr s12 Z fun σ4 H5 s e => hZ _ σ4 H5 s ?_ e
      subst hl
      rw [List.length_append]
      show ys ++ [V.int (F ys.length)] = (SF.ofS F (ys.length + 1)).map V.int
      rw [ofS_succ, List.map_append, ← hp]; rfl)
    (fun D H2 ys hD s12 h2 hl hp => hq D H2 hD s12 (by rw [h2, hp, hl, List.length_map]))
theorem comp_enumI {a : Addr} {xs : List Int} (hS : SqL K H1 a (xs.map V.int)) (F : Nat → Int) (hz : xs.length ≤ 1000)
    (hs : ∀ (i : Nat) (p : Addr) (r : St) (H2 : Hp), i < xs.length → r.length = own.length → Same H1 H2 → H2 p = some (.tup [.int (i : Int), .int (SF.co xs i)]) →
      ∀ Z : V → St → Hp → Prop, (∀ σ4 H5, Same H2 H5 → (∃ r' : St, r'.length = own.length ∧ σ4 = r' ++ cap fr σ) → Z (.int (F i)) σ4 H5) → g (.ref p) (r ++ cap fr σ) H2 fun σ4 H4 => te σ4 H4 fun y H5 => Z y σ4 H5)
    (hq : ∀ D H2, H1 D = none → Same H1 H2 → H2 D = some (.lst ((SF.ofS F xs.length).map V.int)) → Q (.ref D) H2) : CompGo (Ite K a) own fr σ g te H1 Q :=
  comp_enum hS (fun ys => ys = (SF.ofS F ys.length).map V.int) (small4 (by rw [List.length_map]; exact hz)) rfl
    (fun i x p r ys H2 hx hr hl hp s12 hpp Z hZ => by
      obtain ⟨hi, rfl⟩ := il_item hx
      refine hs i p r H2 hi hr s12 hpp Z fun σ4 H5 s e => hZ _ σ4 H5 s ?_ e
      subst hl
      rw [List.length_append]
      show ys ++ [V.int (F ys.length)] = (SF.ofS F (ys.length + 1)).map V.int
      rw [ofS_succ, List.map_append, ← hp]; rfl)
    (fun D H2 ys hD s12 h2 hl hp => hq D H2 hD s12 (by rw [h2, hp, hl, List.length_map]))
theorem r_comp1 {σ : St} {H H1 : Hp} {Q : VK} {own : List Str} {fr : List Nat} {wi : TI} {g : TG} {te : TE} (J : It) (h : ∀ R : It → Hp → Prop, R J H1 → wi σ H R) (h2 : CompGo J own fr σ g te H1 Q) : tComp own fr wi g te σ H Q := h _ h2
end
end L2
namespace PySem
open Sem (wp)
namespace F
theorem nolen_lri : typeLookup (.type "list_reverseiterator") "__len__" = pure none := by rw [typeLookup_type, builtinLookup_eq_fast]; kernel_rfl
theorem hint_lri : typeLookup (.type "list_reverseiterator") "__length_hint__" = pure (some (.builtin "list_reverseiterator.__length_hint__")) := by rw [typeLookup_type, builtinLookup_eq_fast]; kernel_rfl
end F
section
variable {prog : Program} {w : World} {A : Around} {E : Value → Shared → Prop} {s : Shared}
theorem rev_hint {I : Addr} {Q : Bool → Shared → Prop} (hT : s.TypeIs (.ref I) "list_reverseiterator") (h : Q false s) : wpAny (model prog w) A (Builtin.List.listLengthHint (.ref I)) Q E s := by
  unfold Builtin.List.listLengthHint
  refine wpAny_bind (wpAny_specialOf hT F.nolen_lri ?_)
  show wpAny _ _ (specialOf (Value.ref I) (Str.ofString "__length_hint__") >>= _) _ _ _
  refine wpAny_bind (wpAny_specialOf hT F.hint_lri ?_)
  (generalize hid : ("list_reverseiterator.__length_hint__" : String) = id0; wp_delta; rw [show splitId id0 = some ("list_reverseiterator", "__length_hint__") from by subst hid; decide +kernel]; subst hid)
  refine wpAny_bind (wpAny_isInstance (b := true) hT (by rw [isSubtype_type]; kernel_rfl) ?_)
  exact wpAny_pure h
theorem list_of_rev {I l : Addr} {items : Array Value} {Q : Value → Shared → Prop} (hh : A.handled = none) (hit : s.heap.IsRevIter I l ((items.size : Int) - 1)) (hl : s.heap.IsList l items) (hne : l ≠ I) (hn : items.size ≤ sizeLine)
    (hQ : ∀ h' tk acc' c', (∀ b o, b ≠ I → s.heap.get? b = some o → h'.get? b = some o) → h'.get? s.heap.objs.size = some { cls := .type "list", dict := none, data := .seq acc' c', slots := #[] } →
      ItemsOf (fun i v => items[items.size - 1 - i]? = some v) acc' items.size → Q (.ref s.heap.objs.size) { s with heap := h', toks := tk }) :
    wpAny (model prog w) A (call (.type "list") [.ref I]) Q E s := by
  refine callType_codes (Q₁ := fun obj s₁ => obj = .ref s.heap.objs.size ∧ s₁ = { s with heap := s.heap.push { cls := .type "list", data := .seq #[] } }) PySem.F.called_list (PySem.F.typeCall_list_1 _) PySem.F.entry_list_init
    (code_list_new _ ⟨rfl, rfl⟩) fun obj s₁ h₁ => ?_
  obtain ⟨rfl, rfl⟩ := h₁
  have hS : (s.heap.push { cls := .type "list", data := .seq #[] }).get? s.heap.objs.size = some { cls := .type "list", data := .seq #[] } := Heap.get?_push_size _ rfl
  have hI : I < s.heap.objs.size := let ⟨_, e, _⟩ := hit; Heap.lt_size e
  have hlt : l < s.heap.objs.size := let ⟨_, e, _⟩ := hl; Heap.lt_size e
  refine ⟨⟨_, hS, rfl⟩, PySem.F.args_list_init_2 _ _, ?_⟩
  show wpAny _ _ (do let old ← Builtin.List.listItems (.ref s.heap.objs.size); Builtin.List.listUpdate (.ref s.heap.objs.size) (fun _ => #[]); letGo old.toList.reverse; Builtin.List.listExtendWith (.ref s.heap.objs.size) (.ref I) .none) _ _ _
  generalize hS0 : s.heap.objs.size = S at hS ⊢
  generalize hh1 : s.heap.push { cls := .type "list", data := .seq #[] } = h1 at hS ⊢
  have k1 : ∀ b o, s.heap.get? b = some o → h1.get? b = some o := fun b o e => by rw [← hh1]; exact Heap.get?_push_of_some _ e
  refine wpAny_bind ?_
  unfold Builtin.List.listItems
  refine wpAny_bind (wpAny_seqItems hS rfl (wpAny_pure ?_))
  show wpAny _ _ (updateSeq S (fun _ => #[]) >>= fun _ => letGo (#[] : Array Value).toList.reverse >>= fun _ => Builtin.List.listExtendWith (.ref S) (.ref I) .none) _ _ _
  refine wpAny_bind (wpAny_updateSeq hS rfl ?_)
  have hS₂ := Heap.get?_update_self (Obj.mapSeq (fun _ => (#[] : Array Value))) hS rfl
  have oth : ∀ b o, b ≠ S → h1.get? b = some o → (h1.update S (Obj.mapSeq (fun _ => (#[] : Array Value)))).get? b = some o :=
    fun b o hb e => (Heap.get?_update_other _ _ (Ne.symm hb)).trans e
  refine wpAny_bind (wpAny_letGo ?_)
  have hSI : S ≠ I := fun e => by rw [← e, ← hS0] at hI; exact Nat.lt_irrefl _ hI
  have hSl : S ≠ l := fun e => by rw [← e, ← hS0] at hlt; exact Nat.lt_irrefl _ hlt
  generalize hh2 : h1.update S (Obj.mapSeq (fun _ => (#[] : Array Value))) = h2 at hS₂ oth ⊢
  have hit2 : h2.IsRevIter I l ((items.size : Int) - 1) := hit.at fun o e => oth _ _ hSI.symm (k1 _ _ e)
  have hl2 : h2.IsList l items := hl.at fun o e => oth _ _ hSl.symm (k1 _ _ e)
  have W := Walks.listRev (prog := prog) (w := w) (A := A.in1.in1) hh I l hne items
  have e0 : (items.size : Int) - 1 - ((0 : Nat) : Int) = (items.size : Int) - 1 := by lia
  have st0 : (0 : Nat) ≤ items.size ∧ h2.IsRevIter I l ((items.size : Int) - 1 - ((0 : Nat) : Int)) ∧ h2.IsList l items := by
    rw [e0]; exact ⟨Nat.zero_le _, hit2, hl2⟩
  unfold Builtin.List.listExtendWith
  refine wpAny_bind (wpAny_typeOf (T := "list_reverseiterator") hit2.typeIs ?_)
  have h3 : Builtin.List.listSameRef (.ref S) (.ref I) = false := by simp [Builtin.List.listSameRef, hSI]
  rw [if_neg (by rw [h3]; decide)]
  refine wpAny_bind (wpAny_pyIter_revIter hit2 ?_)
  refine wpAny_bind (wpAny_holding (rev_hint hit2.typeIs ?_))
  rw [if_neg (by decide)]
  refine wpAny_pure ⟨plainId_quiet PySem.F.plain_extend_loop _, ?_⟩
  obtain ⟨c3, hS3⟩ : ∃ c, h2.get? S = some { cls := .type "list", dict := none, data := .seq #[] c, slots := #[] } := ⟨_, hS₂⟩
  refine codeAny_extend_loopS W.toS hn S (by simp only [List.mem_cons, List.not_mem_nil, or_false, not_or]; exact ⟨hSI, hSl⟩) .none items.size 0 { s with heap := h2 } #[] c3 rfl (Nat.zero_le _) st0 hS3 (ItemsOf.nil _) fun s' acc' c' hm hS' hacc => ?_
  rw [Moved.eq_with hm]
  subst hS0
  refine ⟨rfl, hQ s'.heap s'.toks acc' c' (fun b o hb e => hm.heap b o (fun hmem => ?_) (oth b o ?_ (k1 b o e))) hS' hacc⟩
  · rcases List.mem_cons.mp hmem with e' | hmem
    · have := Heap.lt_size e; rw [e'] at this; exact Nat.lt_irrefl _ this
    · exact hb (List.mem_singleton.mp hmem)
  · intro z
    have := Heap.lt_size e; rw [z] at this; exact Nat.lt_irrefl _ this
theorem iter_items {l : Addr} {items : Array Value} {Q : Value → Shared → Prop} (hl : s.heap.IsList l items)
    (h : ∀ s₂ : Shared, s₂ = { s with heap := s.heap.push { cls := .type "list_iterator", data := .fields #[.ref l, .int 0 0] } } →
      (s₂.heap.IsListIter s.heap.objs.size l 0 ∧ s₂.heap.IsList l items) → l ≠ s.heap.objs.size → Q (.ref s.heap.objs.size) s₂) :
    wpAny (model prog w) A (pyIter (.ref l)) Q E s := by
  have hlt : l < s.heap.objs.size := by obtain ⟨_, e, _⟩ := hl; exact Heap.lt_size e
  exact wpAny_pyIter_list hl (h _ rfl ⟨⟨_, Heap.get?_push_size _ rfl, rfl, rfl⟩, hl.push _⟩ (Nat.ne_of_lt hlt))
end
end PySem
namespace L2
open PySem PySem.Spec PyProof.Rows
section
variable {X : Cx}
theorem call_anyI (hc : X.calm = true) : CallR X (.builtin "any") (fun xs H Q => ∃ (p : Addr) (ns : List Int), xs = [.ref p] ∧ SqL X.K H p (ns.map V.int) ∧ Q (.bl (ns.any (· != 0))) H) := by
  intro pins s σ H xs us Q I r h
  obtain ⟨p, ns, rfl, hp, q⟩ := h
  obtain ⟨u, rfl, rx⟩ := vals1 r
  cases rx
  obtain ⟨its, rv, pl, hz⟩ := I.list hp
  have hlen := rv.length
  rw [List.length_map] at hlen
  refine call_any_walk (iter_items pl.isList fun s₂ e st hlI => ?_)
  subst e
  refine ⟨_, _, _, _, _, _, fun i => (ns.getD i 0) != 0, rfl, Walks.list (A := X.A.in1) (I.ok.hd hc) _ p hlI its.toArray, st, ?_, fun h' tk hk => ?_⟩
  · intro i v s' Q' E' hv hQ'
    have hv' : its[i]? = some v := by simpa using hv
    have hi : i < its.length := (List.getElem?_eq_some_iff.mp hv').1
    obtain ⟨t, e⟩ := int_at rv (j := i) (by lia) hi
    rw [List.getElem?_eq_getElem hi, e] at hv'
    cases hv'
    have hQ2 : Q' (ns.getD i 0 != 0) s' := hQ'
    rw [List.getD_eq_getElem?_getD, List.getElem?_eq_getElem (by lia)] at hQ2
    exact truthy_int hQ2
  · have e : (List.range its.toArray.size).any (fun i => (ns.getD i 0) != 0) = ns.any (· != 0) := by
      rw [List.size_toArray, ← hlen, Bool.eq_iff_iff, List.any_eq_true, List.any_eq_true]
      constructor
      · rintro ⟨i, hi, h⟩
        have hi := List.mem_range.mp hi
        rw [List.getD_eq_getElem?_getD, List.getElem?_eq_getElem hi] at h
        exact ⟨_, List.getElem_mem hi, h⟩
      · rintro ⟨x, hx, h⟩
        obtain ⟨i, hi, rfl⟩ := List.getElem_of_mem hx
        refine ⟨i, List.mem_range.mpr hi, ?_⟩
        rw [List.getD_eq_getElem?_getD, List.getElem?_eq_getElem hi]
        exact h
    rw [e]
    exact ⟨.bl _, H, I.kept (old_kept hk), rfl, q⟩
theorem call_maxI (hc : X.calm = true) : CallR X (.builtin "max") (fun xs H Q => ∃ (p : Addr) (ns : List Int), xs = [.ref p] ∧ SqL X.K H p (ns.map V.int) ∧ ns ≠ [] ∧ ∀ m, m ∈ ns → (∀ x ∈ ns, x ≤ m) → Q (.int m) H) := by
  intro pins s σ H xs us Q I r h
  obtain ⟨p, ns, rfl, hp, hne, q⟩ := h
  obtain ⟨u, rfl, rx⟩ := vals1 r
  cases rx
  obtain ⟨its, rv, pl, hz⟩ := I.list hp
  have hi : IntsAre its ns := intsAre_of rv
  obtain ⟨ys, e⟩ := hi.allInts.items
  have hns : ns = ys.toList.map (·.1) := by
    rw [← hi.numsOf, ← nums_intItems, ← e]
  have hsz : 0 < ys.size := by
    have h3 := List.length_pos_iff.mpr hne
    rw [hns, List.length_map, Array.length_toList] at h3; exact h3
  have hl' : s.heap.IsList p (intItems ys) := e ▸ pl.isList
  refine max_intList (I.ok.hd hc) hl' hsz fun v h' tk hv hk => ?_
  obtain ⟨t, rfl⟩ := intItems_at hv
  obtain ⟨h1, h2⟩ := argBest_gt (numAt ys) (ys.size - 1)
  refine ⟨.int _, H, I.kept hk, ⟨t, rfl⟩, q _ ?_ fun a ha => ?_⟩
  · rw [hns, numAt_eq]; exact getD_mem (by rw [List.length_map, Array.length_toList]; lia)
  · rw [hns] at ha
    obtain ⟨j, hj, rfl⟩ := mem_getD ha
    rw [List.length_map, Array.length_toList] at hj
    rw [← numAt_eq]; exact h2 j (by lia)
theorem vals_rev : ∀ {xs : List V} {us : List Value}, Vals xs us → Vals xs.reverse us.reverse
  | _, _, .nil => .nil
  | _, _, .cons a b => by
    rw [List.reverse_cons, List.reverse_cons]
    exact (vals_rev b).append (.cons a .nil)
noncomputable def tRevL (K : PySem.W.Frag) (ta : TA) : TE := fun σ H Q => ta σ H fun vs H1 => ∃ (p : Addr) (ys : List V), vs = [.ref p] ∧ SqL K H1 p ys ∧ ∀ l, H1 l = none → Q (.ref l) (upd H1 l (.lst ys.reverse))
theorem pe_revL {a : Expr} {ta : TA} {p p' pos pos' : Pos} (hc : X.calm = true) (hg : Gl X "reversed") (hm : X.mg "reversed" = none) (hg' : Gl X "list") (hm' : X.mg "list" = none) (ha : PA X [a] ta)
    (hs : starEach [a] X.env = [(false, eval a X.env)] := by rfl) (hs' : starEach [Expr.Call (.Name "reversed" p) [a] [] pos] X.env = [(false, eval (Expr.Call (.Name "reversed" p) [a] [] pos) X.env)] := by rfl) :
    PE X (.Call (.Name "list" p') [.Call (.Name "reversed" p) [a] [] pos] [] pos') (tRevL X.K ta) := by
  intro pins s σ H Q I h
  refine wpAny_Call_Name_kw (ld_blt I hg' hm' boot_list ?_)
  refine PyProof.Rows.callWith_type1 ?_ hs' rfl
  rw [hs']
  show wpAny _ _ (spliced [(false, eval (Expr.Call (.Name "reversed" p) [a] [] pos) X.env)]) _ _ _
  refine Calls.spliced_cons ?_
  refine Call_ (ld_blt I hg hm boot_reversed (PyProof.Rows.callWith_type1 (thn (ha pos pins s σ H _ I h) fun us s1 q1 => ?_) hs rfl))
  obtain ⟨vs, H1, I1, r1, l, ys, rfl, hq, q⟩ := q1
  obtain ⟨u, rfl, rx⟩ := vals1 r1
  cases rx
  obtain ⟨its, rv, pl, hz⟩ := I1.list hq
  have hlen := rv.length
  refine call_reversed_list pl.isList ?_
  refine Calls.spliced_nil ?_
  have hlt : l < s1.heap.objs.size := by obtain ⟨_, e, _⟩ := pl.isList; exact Heap.lt_size e
  have hz2 : its.toArray.size ≤ sizeLine := by rw [List.size_toArray]; lia
  refine list_of_rev (items := its.toArray) (I.ok.hd hc) ⟨_, Heap.get?_push_size _ rfl, rfl, rfl⟩ (pl.isList.push _) (Nat.ne_of_lt hlt) hz2 fun h' tk acc' c' hk hS hacc => ?_
  have hk' : ∀ b o, s1.heap.get? b = some o → h'.get? b = some o := fun b o e => hk b o (Nat.ne_of_lt (Heap.lt_size e)) (Heap.get?_push_of_some _ e)
  have hsz : s1.heap.objs.size ≤ (s1.heap.push (revObj l ((its.toArray.size : Int) - 1))).objs.size := by rw [Heap.size_push]; lia
  have hacc1 : acc'.size = its.toArray.size := hacc.1
  have rr : Vals ys.reverse acc'.toList := by
    have e : acc'.toList = its.reverse := by
      refine List.ext_getElem ?_ fun i h1 h2 => ?_
      · rw [Array.length_toList, hacc1, List.size_toArray, List.length_reverse]
      · have h3 : i < acc'.size := by simpa using h1
        have := hacc.2 i acc'[i] (by simp [h3])
        have h4 : its.toArray.size - 1 - i < its.length := by rw [List.size_toArray]; rw [hacc1, List.size_toArray] at h3; lia
        have h5 : its[its.toArray.size - 1 - i]? = some acc'[i] := by simpa using this
        rw [List.getElem?_eq_getElem h4] at h5
        rw [List.getElem_reverse]
        simp only [Array.getElem_toList]
        rw [← Option.some.inj h5]
        simp
    rw [e]
    exact vals_rev rv
  refine ⟨.ref _, _, I1.laid (t' := tk) hk' hsz (show ObjOk X.prog X.w _ h' _ (.lst ys.reverse) from ⟨by rw [List.length_reverse]; exact hz, acc'.toList, c', rr, by rw [Array.toArray_toList]; exact hS⟩), rfl, q _ (I1.hok.fresh hsz)⟩
end
end L2
namespace L2
open PySem PySem.Spec PyProof.Rows
structure Dv (X : Cx) : Prop where
  tree : X.prog.given.tree = none
  top : ∃ (env : Env) (l : List Env), X.stack = env :: l ∧ env.scope.isGenerator = false ∧ env.scope.isCoroutine = false ∧ env.builtins = builtinsNs ∧ env.globals = mainGlobals
  dp : X.A.depth + 100 < recursionLimit
theorem Room.py {k : Nat} {A : Around} (r : Room (k + 32) A) : A.depth + 100 < recursionLimit := by have := r.dp; lia
theorem op_fdivP {X : Cx} (h : Dv X) : OpR X (binaryOp .FloorDiv) (rI (fun _ j => j ≠ 0) fun i j => .int (i.fdiv j)) := by
  intro pins s σ H x y v u Q I rx ry hh
  obtain ⟨i, j, rfl, rfl, hc, q⟩ := hh
  obtain ⟨t, rfl⟩ := rx
  obtain ⟨t', rfl⟩ := ry
  obtain ⟨env, l, e, h1, h2, h3, h4⟩ := h.top
  refine floordiv_int hc ?_ (.inr (PySem.PylongRoom.of I.nolimit h.dp (PySem.SeerAt.of (I.ok.mod.seer.keeps I.bk) h.tree (by rw [I.ok.frames, e]) h1 h2 h3 h4)))
  exact ⟨.int (i.fdiv j), H, I.tok _, ⟨_, rfl⟩, q⟩
end L2
namespace L2
open PySem PySem.Spec PyProof.Rows
section
variable {X : Cx}
theorem map_int_inj : ∀ {xs ys : List Int}, xs.map V.int = ys.map V.int → xs = ys
  | [], [], _ => rfl
  | [], _ :: _, h => by simp at h
  | _ :: _, [], h => by simp at h
  | x :: xs, y :: ys, h => by
    rw [List.map_cons, List.map_cons] at h
    injection h with h1 h2
    injection h1 with h1
    rw [h1, map_int_inj h2]
theorem eq_lists_at {pins : List (Addr × Obj)} {s : Shared} {σ : St} {H : Hp} {p q : Addr} {xs ys : List Int} {A : Around} (hu : A.units < cLine) (I : Inv X pins σ H s) (hp : SqL X.K H p (xs.map V.int)) (hq : SqL X.K H q (ys.map V.int)) :
    SeqAt.EqAt A s (.ref p) (.ref q) (decide (xs = ys)) := by
  by_cases e : p = q
  · subst e
    have e2 : xs = ys := map_int_inj (I.list_inj hp hq)
    subst e2
    rw [decide_eq_true rfl]
    exact SeqAt.EqAt.same _
  · obtain ⟨its, r, pl, hz⟩ := I.list hp
    obtain ⟨its2, r2, pl2, hz2⟩ := I.list hq
    have l1 := r.length
    have l2 := r2.length
    rw [List.length_map] at l1 l2
    refine SeqAt.EqAt.of_refs e ?_
    by_cases hl : xs.length = ys.length
    · have z := SeqAt.RcAt.lists (A := A) (e := fun j => xs.getD j 0 == ys.getD j 0) pl.isList pl2.isList (by simp only [List.size_toArray]; lia) hu (fun j h1 h2 => by
        simp only [List.size_toArray] at h1 h2
        obtain ⟨t, e1⟩ := int_at r (j := j) (by lia) h1
        obtain ⟨t', e2⟩ := int_at r2 (j := j) (by lia) h2
        have z : SeqAt.EqAt A.in1 s its[j] its2[j] (xs[j] == ys[j]) := by rw [e1, e2]; exact SeqAt.EqAt.int_int _ _ _ _
        rw [List.getD_eq_getElem?_getD, List.getD_eq_getElem?_getD, List.getElem?_eq_getElem (show j < xs.length by lia), List.getElem?_eq_getElem (show j < ys.length by lia)]
        simpa using z)
      have e3 : (List.range its.toArray.size).all (fun j => xs.getD j 0 == ys.getD j 0) = decide (xs = ys) := by
        rw [← all_at xs ys hl, l1, List.size_toArray]
      rw [e3] at z
      exact z
    · have e3 : decide (xs = ys) = false := decide_eq_false fun z => hl (by rw [z])
      rw [e3]
      exact SeqAt.RcAt.lists_lengths (A := A) pl.isList pl2.isList (by simp only [List.size_toArray, bne_iff_ne, ne_eq]; lia) hu
theorem ref_at {as : List Addr} {its : List Value} (r : Vals (as.map V.ref) its) {j : Nat} (h : j < as.length) (h' : j < its.length) : its[j] = Value.ref as[j] := by
  have e : (as.map V.ref)[j]? = some (V.ref as[j]) := by rw [List.getElem?_map, List.getElem?_eq_getElem h] <;> rfl
  obtain ⟨u, hu, hr⟩ := r.get e
  rw [List.getElem?_eq_getElem h'] at hu
  have hr' : u = Value.ref as[j] := hr
  rw [← hr']; exact Option.some.inj hu
noncomputable def rNotInL (K : PySem.W.Frag) : R2 := fun x y H Q => ∃ (p l : Addr) (xs : List Int) (as : List Addr) (ps : List (List Int)), x = .ref p ∧ y = .ref l ∧ SqL K H p (xs.map V.int) ∧ SqL K H l (as.map V.ref) ∧ as.length = ps.length ∧
  (∀ (i : Nat) (a : Addr) (q : List Int), as[i]? = some a → ps[i]? = some q → SqL K H a (q.map V.int)) ∧ Q (.bl (decide (xs ∉ ps))) H
open Classical in
theorem op_notinL (hu : X.A.units + 64 < cLine) : OpR X (compareOp .NotIn) (rNotInL X.K) := by
  intro pins s σ H x y v u Q I rx ry h
  obtain ⟨p, l, xs, as, ps, rfl, rfl, hp, hl, hlen, hall, q⟩ := h
  cases rx
  cases ry
  obtain ⟨its, r, pl, hz⟩ := I.list hl
  have l1 := r.length
  rw [List.length_map] at l1
  refine SeqAt.notIn_listAt (fun y => decide (∃ (i : Nat) (a : Addr), y = Value.ref a ∧ as[i]? = some a ∧ ps[i]? = some xs)) pl.isList (fun y hy => ?_) ?_
  · have hy' : y ∈ its := by simpa using hy
    obtain ⟨i, hi, e⟩ := List.getElem_of_mem hy'
    have hia : i < as.length := by lia
    have e2 := ref_at r hia hi
    rw [← e, e2]
    have hip : i < ps.length := by lia
    have h1 := hall i as[i] ps[i] (List.getElem?_eq_getElem hia) (List.getElem?_eq_getElem hip)
    have z := eq_lists_at (A := X.A.in1) (by show X.A.units + 1 < cLine; lia) I h1 hp
    have e3 : decide (∃ (j : Nat) (a : Addr), Value.ref as[i] = Value.ref a ∧ as[j]? = some a ∧ ps[j]? = some xs) = decide (ps[i] = xs) := by
      rw [decide_eq_decide]
      constructor
      · rintro ⟨j, a, ea, e4, e5⟩
        injection ea with ea
        subst ea
        have h2 := hall j as[i] xs e4 e5
        exact map_int_inj (I.list_inj h1 h2)
      · intro e4
        exact ⟨i, as[i], rfl, List.getElem?_eq_getElem hia, by rw [List.getElem?_eq_getElem hip, e4]⟩
    rw [e3]
    exact z
  · have e3 : (!(its.toArray.any fun y => decide (∃ (i : Nat) (a : Addr), y = Value.ref a ∧ as[i]? = some a ∧ ps[i]? = some xs))) = decide (xs ∉ ps) := by
      rw [Bool.eq_iff_iff, Bool.not_eq_true', decide_eq_true_eq, ← Array.any_toList, List.any_eq_false]
      constructor
      · intro hn hm
        obtain ⟨i, hi, e⟩ := List.getElem_of_mem hm
        have hia : i < as.length := by lia
        have hit : i < its.length := by rw [← l1]; exact hia
        have h2 := hn (its[i]'hit) (List.getElem_mem hit)
        refine h2 (decide_eq_true ?_)
        exact ⟨i, as[i], ref_at r hia hit, List.getElem?_eq_getElem hia, by rw [List.getElem?_eq_getElem hi, e]⟩
      · intro hn y _ hy
        obtain ⟨i, a, _, _, e5⟩ := of_decide_eq_true hy
        exact hn (List.mem_of_getElem? e5)
    rw [e3]
    exact ⟨.bl _, H, I, rfl, q⟩
end
end L2
namespace L2
open PySem PySem.Spec PyProof.Rows
inductive IsInts : List Expr → List Int → Prop
  | nil : IsInts [] []
  | pos {n : Int} {j : Nat} {p : Pos} {es : List Expr} {ns : List Int} (h : IsInts es ns) : IsInts (.Constant (.int n) j p :: es) (n :: ns)
  | neg {n : Int} {j : Nat} {p p' : Pos} {es : List Expr} {ns : List Int} (h : IsInts es ns) : IsInts (.UnaryOp .USub (.Constant (.int n) j p) p' :: es) (-n :: ns)
noncomputable def tInts (ns : List Int) : TA := fun _ H Q => Q (ns.map V.int) H
theorem pa_ints {X : Cx} : ∀ {es : List Expr} {ns : List Int}, IsInts es ns → PA X es (tInts ns)
  | _, _, .nil => fun pos pins s σ H Q I h => pa_nil pos pins s σ H Q I h
  | _, _, .pos h => fun pos pins s σ H Q I q => pa_cons pe_int (pa_ints h) rfl pos pins s σ H Q I q
  | _, _, .neg h => fun pos pins s σ H Q I q => pa_cons (pe_un un_neg pe_int) (pa_ints h) rfl pos pins s σ H Q I ⟨_, rfl, q⟩
end L2
namespace L2
open PySem PySem.Spec PyProof.Rows
section
variable {X : Cx}
noncomputable def rEq2 (K : PySem.W.Frag) : R2 := fun x y H Q => ∃ (p q : Addr) (a b c d : Int), x = .ref p ∧ y = .ref q ∧ SqT K H p [.int a, .int b] ∧ SqT K H q [.int c, .int d] ∧ Q (.bl (a == c && b == d)) H
noncomputable def rNe2 (K : PySem.W.Frag) : R2 := fun x y H Q => ∃ (p q : Addr) (a b c d : Int), x = .ref p ∧ y = .ref q ∧ SqT K H p [.int a, .int b] ∧ SqT K H q [.int c, .int d] ∧ Q (.bl (!(a == c && b == d))) H
theorem op_eq2 (hu : X.A.units < cLine) : OpR X (compareOp .Eq) (rEq2 X.K) := by
  intro pins s σ H x y v u Q I rx ry h
  obtain ⟨p, q, a, b, c, d, rfl, rfl, hp, hq, h⟩ := h
  cases rx
  cases ry
  obtain ⟨its, r, pl, hz⟩ := I.tuple hp
  obtain ⟨its2, r2, pl2, hz2⟩ := I.tuple hq
  obtain ⟨u1, u2, rfl, ⟨t1, rfl⟩, ⟨t2, rfl⟩⟩ := vals2 r
  obtain ⟨w1, w2, rfl, ⟨t3, rfl⟩, ⟨t4, rfl⟩⟩ := vals2 r2
  have z := SeqAt.RcAt.tuples (A := X.A) (s := s) (e := fun j => if j = 0 then a == c else b == d) pl pl2 hu (fun j h1 h2 => by
    match j, h1, h2 with
    | 0, _, _ => exact SeqAt.EqAt.int_int _ _ _ _
    | 1, _, _ => exact SeqAt.EqAt.int_int _ _ _ _
    | j + 2, h1, _ => exact absurd h1 (by simp))
  refine z X.prog X.w X.xe _ ?_
  have e3 : ((List.range (min [Value.int a t1, Value.int b t2].toArray.size [Value.int c t3, Value.int d t4].toArray.size)).all (fun j => if j = 0 then a == c else b == d) && [Value.int a t1, Value.int b t2].toArray.size == [Value.int c t3, Value.int d t4].toArray.size) = (a == c && b == d) := by
    show (((a == c) && ((b == d) && true)) && true) = _
    cases (a == c) <;> cases (b == d) <;> rfl
  rw [e3]
  exact ⟨.bl _, H, I, rfl, h⟩
theorem op_ne2 (hu : X.A.units < cLine) : OpR X (compareOp .NotEq) (rNe2 X.K) := by
  intro pins s σ H x y v u Q I rx ry h
  obtain ⟨p, q, a, b, c, d, rfl, rfl, hp, hq, h⟩ := h
  cases rx
  cases ry
  obtain ⟨its, r, pl, hz⟩ := I.tuple hp
  obtain ⟨its2, r2, pl2, hz2⟩ := I.tuple hq
  obtain ⟨u1, u2, rfl, ⟨t1, rfl⟩, ⟨t2, rfl⟩⟩ := vals2 r
  obtain ⟨w1, w2, rfl, ⟨t3, rfl⟩, ⟨t4, rfl⟩⟩ := vals2 r2
  have z := SeqAt.RcNeAt.tuples (A := X.A) (s := s) (e := fun j => if j = 0 then a == c else b == d) pl pl2 hu (fun j h1 h2 => by
    match j, h1, h2 with
    | 0, _, _ => exact SeqAt.EqAt.int_int _ _ _ _
    | 1, _, _ => exact SeqAt.EqAt.int_int _ _ _ _
    | j + 2, h1, _ => exact absurd h1 (by simp))
  refine z X.prog X.w X.xe _ ?_
  have e3 : (!((List.range (min [Value.int a t1, Value.int b t2].toArray.size [Value.int c t3, Value.int d t4].toArray.size)).all (fun j => if j = 0 then a == c else b == d) && [Value.int a t1, Value.int b t2].toArray.size == [Value.int c t3, Value.int d t4].toArray.size)) = !(a == c && b == d) := by
    show (!(((a == c) && ((b == d) && true)) && true)) = _
    cases (a == c) <;> cases (b == d) <;> rfl
  rw [e3]
  exact ⟨.bl _, H, I, rfl, h⟩
end
theorem if_asg {c : Bool} {i j : Nat} {D : Ends} {σ : St} {H : Hp} {v u : V} (hv : σ[i]? = some (some v)) (hw : σ[j]? = some (some u)) (h : ∀ x : V, (c = true ∧ x = v) ∨ (c = false ∧ x = u) → D.nx (σ.set j (some x)) H) :
    if c = true then tAsg (tVar i) (gName j) D σ H else tNext D σ H := by
  cases c with
  | true =>
    rw [if_pos rfl]
    exact ⟨v, hv, h v (.inl ⟨rfl, rfl⟩)⟩
  | false =>
    rw [if_neg (by decide)]
    have e : σ.set j (some u) = σ := by
      apply List.ext_getElem?
      intro n
      rw [List.getElem?_set]
      split
      · rename_i hn
        subst hn
        split
        · exact hw.symm
        · rename_i hn
          rw [List.getElem?_eq_none (by lia)] at hw
          cases hw
      · rfl
    have := h u (.inr ⟨rfl, rfl⟩)
    rw [e] at this
    exact this
end L2
namespace SF
open Lean.Grind
structure Po where
  s : PS Int
  fin : ∃ n, ∀ i, n ≤ i → s.c i = 0
namespace Po
theorem inj {f g : Po} (h : f.s = g.s) : f = g := by cases f; cases g; cases h; rfl
noncomputable def c (f : Po) (i : Nat) : Int := f.s.c i
theorem ext {f g : Po} (h : ∀ i, f.c i = g.c i) : f = g := inj (PS.ext h)
theorem C_fin (a : Int) : ∃ n, ∀ i, n ≤ i → (PS.C a).c i = 0 := ⟨1, fun i hi => by rw [PS.C_at, if_neg (by lia)]⟩
noncomputable def K (a : Int) : Po := ⟨PS.C a, C_fin a⟩
theorem add_fin (f g : Po) : ∃ n, ∀ i, n ≤ i → (f.s + g.s).c i = 0 := by
  obtain ⟨a, ha⟩ := f.fin
  obtain ⟨b, hb⟩ := g.fin
  exact ⟨max a b, fun i hi => by rw [PS.add_at, ha i (by lia), hb i (by lia)]; rfl⟩
theorem sub_fin (f g : Po) : ∃ n, ∀ i, n ≤ i → (f.s - g.s).c i = 0 := by
  obtain ⟨a, ha⟩ := f.fin
  obtain ⟨b, hb⟩ := g.fin
  exact ⟨max a b, fun i hi => by rw [PS.sub_at, ha i (by lia), hb i (by lia)]; rfl⟩
theorem neg_fin (f : Po) : ∃ n, ∀ i, n ≤ i → (-f.s).c i = 0 := by
  obtain ⟨a, ha⟩ := f.fin
  exact ⟨a, fun i hi => by rw [PS.neg_at, ha i hi]; rfl⟩
theorem mul_fin (f g : Po) : ∃ n, ∀ i, n ≤ i → (f.s * g.s).c i = 0 := by
  obtain ⟨a, ha⟩ := f.fin
  obtain ⟨b, hb⟩ := g.fin
  refine ⟨a + b, fun n hn => ?_⟩
  rw [PS.mul_at]
  refine sumN_zero' fun i hi => ?_
  by_cases h : i < a
  · rw [hb (n - i) (by lia)]; grind
  · rw [ha i (by lia)]; grind
noncomputable instance instAdd : Add Po := ⟨fun f g => ⟨f.s + g.s, add_fin f g⟩⟩
noncomputable instance instMul : Mul Po := ⟨fun f g => ⟨f.s * g.s, mul_fin f g⟩⟩
noncomputable instance instNeg : Neg Po := ⟨fun f => ⟨-f.s, neg_fin f⟩⟩
noncomputable instance instSub : Sub Po := ⟨fun f g => ⟨f.s - g.s, sub_fin f g⟩⟩
noncomputable instance instNatCast : NatCast Po := ⟨fun n => K (n : Int)⟩
noncomputable instance instIntCast : IntCast Po := ⟨fun n => K n⟩
noncomputable instance instOfNat (n : Nat) : OfNat Po n := ⟨K ((n : Nat) : Int)⟩
noncomputable def powQ (f : Po) : Nat → Po
  | 0 => K 1
  | n + 1 => powQ f n * f
noncomputable instance instHPow : HPow Po Nat Po := ⟨powQ⟩
noncomputable instance instSMulN : SMul Nat Po := ⟨fun n f => K (n : Int) * f⟩
noncomputable instance instSMulI : SMul Int Po := ⟨fun n f => K n * f⟩
theorem C_one : (PS.C (1 : Int)) = 1 := rfl
theorem C_nil : (PS.C (0 : Int)) = 0 := rfl
noncomputable instance instCommRing : CommRing Po where
  natCast := instNatCast
  ofNat := instOfNat
  nsmul := instSMulN
  npow := instHPow
  intCast := instIntCast
  zsmul := instSMulI
  add_zero f := inj (by show f.s + PS.C 0 = f.s; rw [C_nil]; grind)
  add_comm f g := inj (by show f.s + g.s = g.s + f.s; grind)
  add_assoc f g h := inj (by show f.s + g.s + h.s = f.s + (g.s + h.s); grind)
  mul_assoc f g h := inj (by show f.s * g.s * h.s = f.s * (g.s * h.s); grind)
  mul_one f := inj (by show f.s * PS.C 1 = f.s; rw [C_one]; grind)
  one_mul f := inj (by show PS.C 1 * f.s = f.s; rw [C_one]; grind)
  right_distrib f g h := inj (by show (f.s + g.s) * h.s = f.s * h.s + g.s * h.s; grind)
  left_distrib f g h := inj (by show f.s * (g.s + h.s) = f.s * g.s + f.s * h.s; grind)
  zero_mul f := inj (by show PS.C 0 * f.s = PS.C 0; rw [C_nil]; grind)
  mul_zero f := inj (by show f.s * PS.C 0 = PS.C 0; rw [C_nil]; grind)
  pow_zero f := rfl
  pow_succ f n := rfl
  ofNat_succ n := inj (by show PS.C (((n + 1 : Nat)) : Int) = PS.C ((n : Nat) : Int) + PS.C ((1 : Nat) : Int); rw [← PS.C_add]; rfl)
  ofNat_eq_natCast n := rfl
  nsmul_eq_natCast_mul n f := rfl
  neg_add_cancel f := inj (by show -f.s + f.s = PS.C 0; rw [C_nil]; grind)
  sub_eq_add_neg f g := inj (by show f.s - g.s = f.s + -g.s; grind)
  neg_zsmul n f := inj (by show PS.C (-n) * f.s = -(PS.C n * f.s); rw [PS.C_neg]; grind)
  zsmul_natCast_eq_nsmul n f := rfl
  intCast_ofNat n := rfl
  intCast_neg n := inj (by show PS.C (-n) = -PS.C n; rw [PS.C_neg])
  mul_comm f g := inj (PS.mul_comm f.s g.s)
theorem K_add (a b : Int) : K (a + b) = K a + K b := inj (PS.C_add a b)
theorem K_neg (a : Int) : K (-a) = - K a := inj (PS.C_neg a)
theorem K_one : K 1 = 1 := rfl
theorem K_zero : K 0 = 0 := rfl
theorem zero_c (i : Nat) : (0 : Po).c i = 0 := PS.C_zero_at i
theorem one_c (i : Nat) : (1 : Po).c i = if i = 0 then 1 else 0 := PS.C_at 1 i
theorem K_c (a : Int) (i : Nat) : (K a).c i = if i = 0 then a else 0 := PS.C_at a i
theorem add_c (f g : Po) (i : Nat) : (f + g).c i = f.c i + g.c i := rfl
theorem sub_c (f g : Po) (i : Nat) : (f - g).c i = f.c i - g.c i := rfl
theorem neg_c (f : Po) (i : Nat) : (-f).c i = - f.c i := rfl
theorem mul_c (f g : Po) (n : Nat) : (f * g).c n = sumN (fun i => f.c i * g.c (n - i)) (n + 1) := rfl
theorem Kmul_c (a : Int) (f : Po) (n : Nat) : (K a * f).c n = a * f.c n := PS.C_mul a f.s n
theorem K_mul (a b : Int) : K (a * b) = K a * K b := ext fun i => by
  rw [Kmul_c, K_c, K_c]; split <;> grind
theorem se_fin (xs : List Int) : ∃ n, ∀ i, n ≤ i → (se xs).c i = 0 := ⟨xs.length, fun i hi => co_ge hi⟩
noncomputable def ofL (xs : List Int) : Po := ⟨se xs, se_fin xs⟩
theorem ofL_c (xs : List Int) (i : Nat) : (ofL xs).c i = co xs i := rfl
theorem lst_ex (f : Po) : ∃ xs : List Int, Tr xs ∧ co xs = f.c := by
  obtain ⟨n, hn⟩ := f.fin
  refine ⟨trimL (ofS f.c n), trimL_tr _, ?_⟩
  funext i
  rw [trimL_co, ofS_co' (f := f.c) hn]
noncomputable def lst (f : Po) : List Int := Classical.choose (lst_ex f)
theorem lst_tr (f : Po) : Tr (lst f) := (Classical.choose_spec (lst_ex f)).1
theorem lst_co (f : Po) : co (lst f) = f.c := (Classical.choose_spec (lst_ex f)).2
noncomputable def len (f : Po) : Nat := (lst f).length
theorem ofL_lst (f : Po) : ofL (lst f) = f := ext fun i => by rw [ofL_c, lst_co]
theorem lst_ofL {xs : List Int} (h : Tr xs) : lst (ofL xs) = xs := (lst_tr _).inj h fun i => by rw [lst_co]; rfl
theorem len_ofL {xs : List Int} (h : Tr xs) : len (ofL xs) = xs.length := by unfold len; rw [lst_ofL h]
theorem ofL_inj {xs ys : List Int} (hx : Tr xs) (hy : Tr ys) (h : ofL xs = ofL ys) : xs = ys := by rw [← lst_ofL hx, h, lst_ofL hy]
theorem ofL_nil : ofL [] = 0 := ext fun i => by rw [ofL_c, zero_c]; rfl
theorem ofL_mul (xs ys : List Int) : ofL (mulL xs ys) = ofL xs * ofL ys := ext fun i => by rw [ofL_c, mulL_co]; rfl
theorem ofL_trim (xs : List Int) : ofL (trimL xs) = ofL xs := ext fun i => by rw [ofL_c, ofL_c, trimL_co]
theorem c_ge {f : Po} {i : Nat} (h : len f ≤ i) : f.c i = 0 := by rw [← lst_co]; exact co_ge h
theorem lead {f : Po} (h : 0 < len f) : f.c (len f - 1) ≠ 0 := by
  rw [← lst_co]; exact (lst_tr f).last (List.length_pos_iff.mp h)
theorem len_le {f : Po} {n : Nat} (h : ∀ i, n ≤ i → f.c i = 0) : len f ≤ n := by
  rcases Nat.lt_or_ge n (len f) with hl | hl
  · exact absurd (h (len f - 1) (by lia)) (lead (by lia))
  · exact hl
theorem len_eq {f : Po} {n : Nat} (h : ∀ i, n ≤ i → f.c i = 0) (h0 : f.c (n - 1) ≠ 0) (hp : 0 < n) : len f = n := by
  have h1 := len_le h
  rcases Nat.lt_or_ge (len f) n with hl | hl
  · exact absurd (c_ge (f := f) (i := n - 1) (by lia)) h0
  · lia
theorem len_zero : len (0 : Po) = 0 := Nat.le_zero.mp (len_le fun i _ => zero_c i)
theorem eq_zero {f : Po} (h : len f = 0) : f = 0 := ext fun i => by rw [zero_c]; exact c_ge (by lia)
theorem len_pos {f : Po} (h : f ≠ 0) : 0 < len f := Nat.pos_of_ne_zero fun z => h (eq_zero z)
theorem ne_of_len {f : Po} (h : 0 < len f) : f ≠ 0 := by rintro rfl; rw [len_zero] at h; lia
theorem len_add (f g : Po) : len (f + g) ≤ max (len f) (len g) := len_le fun i hi => by
  rw [add_c, c_ge (by lia), c_ge (by lia)]; rfl
theorem len_sub (f g : Po) : len (f - g) ≤ max (len f) (len g) := len_le fun i hi => by
  rw [sub_c, c_ge (by lia), c_ge (by lia)]; rfl
theorem len_K {a : Int} (h : a ≠ 0) : len (K a) = 1 := len_eq (fun i hi => by rw [K_c, if_neg (by lia)]) (by rw [K_c, if_pos rfl]; exact h) (by decide)
theorem len_K_le (a : Int) : len (K a) ≤ 1 := len_le fun i hi => by rw [K_c, if_neg (by lia)]
theorem of_len_one {f : Po} (h : len f ≤ 1) : f = K (f.c 0) := ext fun i => by
  rw [K_c]; split
  · rename_i e; rw [e]
  · exact c_ge (by lia)
theorem K_inj {a b : Int} (h : K a = K b) : a = b := by
  have := congrArg (fun f => f.c 0) h
  simpa [K_c] using this
theorem K_ne {a : Int} (h : a ≠ 0) : K a ≠ 0 := fun e => h (K_inj (e.trans K_zero.symm))
theorem len_mul {f g : Po} (hf : f ≠ 0) (hg : g ≠ 0) : len (f * g) + 1 = len f + len g := by
  have h1 := len_pos hf
  have h2 := len_pos hg
  have e : (f * g).c = (se (lst f) * se (lst g)).c := by
    rw [← mulL_co]
    conv => lhs; rw [← ofL_lst f, ← ofL_lst g, ← ofL_mul]
    rfl
  have h3 : len (f * g) = len f + len g - 1 := by
    refine len_eq (fun i hi => ?_) ?_ (by lia)
    · rw [e]; refine mul_high ?_
      show len f + len g ≤ i + 1
      lia
    · rw [e]
      have := mul_lead (xs := lst f) (ys := lst g) (List.length_pos_iff.mp h1) (List.length_pos_iff.mp h2)
      have e2 : len f + len g - 1 - 1 = (lst f).length + (lst g).length - 2 := by show _ = len f + len g - 2; lia
      rw [e2, this]
      exact Int.mul_ne_zero ((lst_tr f).last (List.length_pos_iff.mp h1)) ((lst_tr g).last (List.length_pos_iff.mp h2))
  lia
theorem lead_mul {f g : Po} (hf : f ≠ 0) (hg : g ≠ 0) : (f * g).c (len (f * g) - 1) = f.c (len f - 1) * g.c (len g - 1) := by
  have h1 := len_pos hf
  have h2 := len_pos hg
  have h3 := len_mul hf hg
  have e : (f * g).c = (se (lst f) * se (lst g)).c := by
    rw [← mulL_co]
    conv => lhs; rw [← ofL_lst f, ← ofL_lst g, ← ofL_mul]
    rfl
  have := mul_lead (xs := lst f) (ys := lst g) (List.length_pos_iff.mp h1) (List.length_pos_iff.mp h2)
  have e2 : len (f * g) - 1 = (lst f).length + (lst g).length - 2 := by show _ = len f + len g - 2; lia
  rw [e, e2, this, lst_co, lst_co]; rfl
theorem mul_ne {f g : Po} (hf : f ≠ 0) (hg : g ≠ 0) : f * g ≠ 0 := by
  have h1 := len_pos hf
  have h2 := len_pos hg
  have h3 := len_mul hf hg
  exact ne_of_len (by lia)
theorem mul_eq_zero {f g : Po} (h : f * g = 0) : f = 0 ∨ g = 0 := by
  by_cases hf : f = 0
  · exact .inl hf
  · by_cases hg : g = 0
    · exact .inr hg
    · exact absurd h (mul_ne hf hg)
theorem cancel {f g h : Po} (hf : f ≠ 0) (e : f * g = f * h) : g = h := by
  have : f * (g - h) = 0 := by grind
  rcases mul_eq_zero this with z | z
  · exact absurd z hf
  · grind
theorem len_Kmul {a : Int} (h : a ≠ 0) (f : Po) : len (K a * f) = len f := by
  by_cases hf : f = 0
  · rw [hf]; have : K a * (0 : Po) = 0 := by grind
    rw [this]
  · have := len_mul (K_ne h) hf
    rw [len_K h] at this; lia
theorem left_ne {f g : Po} (h : f * g ≠ 0) : f ≠ 0 := by rintro rfl; exact h (by grind)
theorem right_ne {f g : Po} (h : f * g ≠ 0) : g ≠ 0 := by rintro rfl; exact h (by grind)
noncomputable def X (n : Nat) : Po := ⟨⟨fun i => if i = n then 1 else 0⟩, n + 1, fun i hi => if_neg (by lia)⟩
theorem X_c (n i : Nat) : (X n).c i = if i = n then 1 else 0 := rfl
theorem X_mul_c (n : Nat) (f : Po) (i : Nat) : (X n * f).c i = if i < n then 0 else f.c (i - n) := by
  rw [mul_c]
  split
  · rename_i h
    refine sumN_zero' fun j hj => ?_
    rw [X_c, if_neg (by lia)]; grind
  · rename_i h
    have e : i + 1 = n + (1 + (i - n)) := by lia
    rw [e, sumN_split, sumN_split]
    rw [sumN_zero' (n := n) (fun j hj => by rw [X_c, if_neg (by lia)]; grind)]
    rw [sumN_zero' (n := i - n) (fun j hj => by rw [X_c, if_neg (by lia)]; grind)]
    show 0 + ((0 + (X n).c (n + 0) * f.c (i - (n + 0))) + 0) = _
    rw [X_c, if_pos (Nat.add_zero n), Nat.add_zero]; grind
theorem X_zero : X 0 = 1 := ext fun i => by rw [X_c, one_c]
noncomputable def D (f g : Po) : Prop := ∃ a : Int, a ≠ 0 ∧ ∃ q, K a * g = f * q
theorem D.refl (f : Po) : D f f := ⟨1, by decide, 1, by rw [K_one]; grind⟩
theorem D.mul (f g : Po) : D f (f * g) := ⟨1, by decide, g, by rw [K_one]; grind⟩
theorem D.zero (f : Po) : D f 0 := ⟨1, by decide, 0, by grind⟩
theorem D.trans {f g h : Po} (h1 : D f g) (h2 : D g h) : D f h := by
  obtain ⟨a, ha, q, e⟩ := h1
  obtain ⟨b, hb, r, e2⟩ := h2
  exact ⟨a * b, Int.mul_ne_zero ha hb, q * r, by rw [K_mul]; grind⟩
theorem D.add {f g h : Po} (h1 : D f g) (h2 : D f h) : D f (g + h) := by
  obtain ⟨a, ha, q, e⟩ := h1
  obtain ⟨b, hb, r, e2⟩ := h2
  exact ⟨a * b, Int.mul_ne_zero ha hb, K b * q + K a * r, by rw [K_mul]; grind⟩
theorem D.mulR {f g : Po} (h : D f g) (u : Po) : D f (g * u) := by
  obtain ⟨a, ha, q, e⟩ := h
  exact ⟨a, ha, q * u, by grind⟩
theorem D.mulL {f g : Po} (h : D f g) (u : Po) : D f (u * g) := by
  obtain ⟨a, ha, q, e⟩ := h
  exact ⟨a, ha, q * u, by grind⟩
theorem D.neg {f g : Po} (h : D f g) : D f (-g) := by
  obtain ⟨a, ha, q, e⟩ := h
  exact ⟨a, ha, -q, by grind⟩
theorem D.sub {f g h : Po} (h1 : D f g) (h2 : D f h) : D f (g - h) := by
  have := h1.add h2.neg
  have e : g - h = g + -h := by grind
  rw [e]; exact this
theorem D.unK {f g : Po} {a : Int} (ha : a ≠ 0) (h : D f (K a * g)) : D f g := by
  obtain ⟨b, hb, q, e⟩ := h
  exact ⟨b * a, Int.mul_ne_zero hb ha, q, by rw [K_mul]; grind⟩
theorem D.ofK {f : Po} {a : Int} (ha : a ≠ 0) : D (K a) f := ⟨a, ha, f, rfl⟩
theorem D.Kl {f g : Po} {a : Int} (ha : a ≠ 0) (h : D f g) : D (K a * f) g := by
  obtain ⟨b, hb, q, e⟩ := h
  exact ⟨a * b, Int.mul_ne_zero ha hb, q, by rw [K_mul]; grind⟩
theorem D.ne {f g : Po} (h : D f g) (hg : g ≠ 0) : f ≠ 0 := by
  obtain ⟨a, ha, q, e⟩ := h
  rintro rfl
  exact mul_ne (K_ne ha) hg (by rw [e]; grind)
theorem D.len {f g : Po} (h : D f g) (hg : g ≠ 0) : len f ≤ len g := by
  have hf := h.ne hg
  obtain ⟨a, ha, q, e⟩ := h
  have hq : q ≠ 0 := by
    rintro rfl
    exact mul_ne (K_ne ha) hg (by rw [e]; grind)
  have h1 := len_mul hf hq
  rw [← e, len_Kmul ha] at h1
  have := len_pos hq
  lia
theorem D.symm_len {f g : Po} (h : D f g) (hg : g ≠ 0) (hl : Po.len g ≤ Po.len f) : D g f := by
  have hf := h.ne hg
  obtain ⟨a, ha, q, e⟩ := h
  have hq : q ≠ 0 := by
    rintro rfl
    exact mul_ne (K_ne ha) hg (by rw [e]; grind)
  have h1 := len_mul hf hq
  rw [← e, len_Kmul ha] at h1
  have h2 : Po.len q ≤ 1 := by lia
  have e2 := of_len_one h2
  have hb : q.c 0 ≠ 0 := by
    intro z; rw [z, K_zero] at e2; exact hq e2
  refine ⟨q.c 0, hb, K a, ?_⟩
  rw [← e2]; grind
theorem D.cancel {f g h : Po} (hh : h ≠ 0) (e : D (h * f) (h * g)) : D f g := by
  obtain ⟨a, ha, q, e⟩ := e
  refine ⟨a, ha, q, Po.cancel hh ?_⟩
  grind
theorem D.mulB {f g h : Po} (e : D f g) : D (h * f) (h * g) := by
  obtain ⟨a, ha, q, e⟩ := e
  exact ⟨a, ha, q, by grind⟩
theorem D.const {f g : Po} (hf : f ≠ 0) (hl : Po.len f ≤ 1) : D f g := by
  have e := of_len_one hl
  have hb : f.c 0 ≠ 0 := by
    intro z; rw [z, K_zero] at e; exact hf e
  rw [e]; exact D.ofK hb
theorem pdiv {g : Po} (hg : g ≠ 0) : ∀ (n : Nat) (f : Po), len f ≤ n → ∃ a q r, a ≠ 0 ∧ K a * f = g * q + r ∧ len r < len g
  | 0, f, h => ⟨1, 0, f, by decide, by rw [K_one]; grind, by have := len_pos hg; lia⟩
  | n + 1, f, h => by
    have hgp := len_pos hg
    by_cases hl : len f < len g
    · exact ⟨1, 0, f, by decide, by rw [K_one]; grind, hl⟩
    have hfp : 0 < len f := by lia
    let b := g.c (len g - 1)
    let d := f.c (len f - 1)
    let t := K d * X (len f - len g)
    have hb : b ≠ 0 := lead hgp
    have hx : ∀ i, (t * g).c i = d * (if i < len f - len g then 0 else g.c (i - (len f - len g))) := fun i => by
      have e : t * g = K d * (X (len f - len g) * g) := by show K d * X (len f - len g) * g = _; grind
      rw [e, Kmul_c, X_mul_c]
    have h2 : len (K b * f - t * g) ≤ n := len_le fun i hi => by
      rw [sub_c, Kmul_c, hx]
      rw [if_neg (by lia)]
      by_cases he : i = len f - 1
      · have e2 : i - (len f - len g) = len g - 1 := by lia
        rw [e2, he]
        show b * d - d * b = 0
        grind
      · rw [c_ge (f := f) (by lia), c_ge (f := g) (by lia)]; grind
    obtain ⟨a, q, r, ha, e, hr⟩ := pdiv hg n _ h2
    exact ⟨a * b, q + K a * t, r, Int.mul_ne_zero ha hb, by rw [K_mul]; grind, hr⟩
theorem bezout : ∀ (n : Nat) (f g : Po), len g ≤ n → (f ≠ 0 ∨ g ≠ 0) → ∃ h u v, h ≠ 0 ∧ u * f + v * g = h ∧ D h f ∧ D h g
  | 0, f, g, hn, h0 => by
    have hg : g = 0 := eq_zero (by lia)
    have hf : f ≠ 0 := h0.resolve_right fun z => z hg
    exact ⟨f, 1, 0, hf, by grind, D.refl f, by rw [hg]; exact D.zero f⟩
  | n + 1, f, g, hn, h0 => by
    by_cases hg : g = 0
    · exact bezout 0 f g (by rw [hg, len_zero]; exact Nat.le_refl _) h0
    obtain ⟨a, q, r, ha, e, hr⟩ := pdiv hg _ f (Nat.le_refl _)
    obtain ⟨h, u, v, hh, eb, d1, d2⟩ := bezout n g r (by lia) (.inl hg)
    refine ⟨h, v * K a, u - v * q, hh, by grind, ?_, d1⟩
    refine D.unK ha ?_
    rw [e]
    exact (d1.mulR q).add d2
end Po
end SF
namespace SF
open Lean.Grind
noncomputable def NPr (p : Nat) : Prop := 2 ≤ p ∧ ∀ d, d ∣ p → d = 1 ∨ d = p
theorem NPr.dvd {p : Nat} (h : NPr p) {a b : Int} (hd : (p : Int) ∣ a * b) : (p : Int) ∣ a ∨ (p : Int) ∣ b := by
  by_cases ha : (p : Int) ∣ a
  · exact .inl ha
  refine .inr ?_
  have h1 : p ∣ a.natAbs * b.natAbs := by
    have := Int.natAbs_dvd_natAbs.mpr hd
    rwa [Int.natAbs_mul, Int.natAbs_natCast] at this
  have hg : Nat.gcd p a.natAbs = 1 := by
    rcases h.2 _ (Nat.gcd_dvd_left p a.natAbs) with e | e
    · exact e
    · exact absurd (Int.ofNat_dvd_left.mpr (by rw [← e]; exact Nat.gcd_dvd_right ..)) ha
  exact Int.ofNat_dvd_left.mpr (Nat.Coprime.dvd_of_dvd_mul_left hg h1)
theorem NPr.ex : ∀ (n m : Nat), m ≤ n → 2 ≤ m → ∃ p, NPr p ∧ p ∣ m
  | 0, m, h, h2 => by lia
  | n + 1, m, h, h2 => by
    by_cases hp : ∀ d, d ∣ m → d = 1 ∨ d = m
    · exact ⟨m, ⟨h2, hp⟩, Nat.dvd_refl m⟩
    · obtain ⟨d, hd⟩ := Classical.not_forall.mp hp
      obtain ⟨hd1, hd2⟩ := Classical.not_imp.mp hd
      rw [_root_.not_or] at hd2
      have hle := Nat.le_of_dvd (by lia) hd1
      have h0 : d ≠ 0 := by
        rintro rfl
        have := Nat.eq_zero_of_zero_dvd hd1
        lia
      obtain ⟨p, hp, hdv⟩ := NPr.ex n d (by lia) (by lia)
      exact ⟨p, hp, Nat.dvd_trans hdv hd1⟩
theorem least {P : Nat → Prop} : ∀ (n : Nat), ¬ P n → ∃ i, ¬ P i ∧ ∀ j, j < i → P j := by
  intro n
  induction n using Nat.strongRecOn with
  | _ n ih =>
    intro h
    by_cases hx : ∀ j, j < n → P j
    · exact ⟨n, h, hx⟩
    · obtain ⟨j, hj⟩ := Classical.not_forall.mp hx
      obtain ⟨h1, h2⟩ := Classical.not_imp.mp hj
      exact ih j h1 h2
theorem sumN_dvd {p : Int} {f : Nat → Int} : ∀ {n : Nat}, (∀ i, i < n → p ∣ f i) → p ∣ sumN f n
  | 0, _ => Int.dvd_zero p
  | n + 1, h => Int.dvd_add (sumN_dvd fun i hi => h i (by lia)) (h n (by lia))
namespace Po
noncomputable def Pr (f : Po) : Prop := ∀ p : Nat, (∀ i, (p : Int) ∣ f.c i) → p = 1
theorem Pr.ne {f : Po} (h : Pr f) : f ≠ 0 := by
  rintro rfl
  have := h 2 fun i => by rw [zero_c]; exact Int.dvd_zero _
  lia
theorem gauss_prime {p : Nat} (hp : NPr p) {f q : Po} (h : ∀ i, (p : Int) ∣ (f * q).c i) : (∀ i, (p : Int) ∣ f.c i) ∨ (∀ i, (p : Int) ∣ q.c i) := by
  by_cases h1 : ∀ i, (p : Int) ∣ f.c i
  · exact .inl h1
  by_cases h2 : ∀ i, (p : Int) ∣ q.c i
  · exact .inr h2
  exfalso
  obtain ⟨i0, hi0⟩ := Classical.not_forall.mp h1
  obtain ⟨j0, hj0⟩ := Classical.not_forall.mp h2
  obtain ⟨i, hi, hli⟩ := least (P := fun i => (p : Int) ∣ f.c i) i0 hi0
  obtain ⟨j, hj, hlj⟩ := least (P := fun i => (p : Int) ∣ q.c i) j0 hj0
  have := h (i + j)
  rw [mul_c] at this
  have e : i + j + 1 = i + (1 + j) := by lia
  rw [e, sumN_split, sumN_split] at this
  have d1 : (p : Int) ∣ sumN (fun s => f.c s * q.c (i + j - s)) i := sumN_dvd fun s hs => Int.dvd_mul_of_dvd_left (hli s hs)
  have d2 : (p : Int) ∣ sumN (fun s => f.c (i + (1 + s)) * q.c (i + j - (i + (1 + s)))) j := sumN_dvd fun s hs => Int.dvd_mul_of_dvd_right (hlj _ (by lia))
  have d3 := (Int.dvd_add_right d1).mp this
  have d4 := (Int.dvd_add_left d2).mp d3
  have d5 : (p : Int) ∣ f.c i * q.c j := by
    have e2 : sumN (fun s => f.c (i + s) * q.c (i + j - (i + s))) 1 = f.c i * q.c j := by
      show 0 + f.c (i + 0) * q.c (i + j - (i + 0)) = _
      rw [Nat.add_zero, Nat.add_sub_cancel_left]; grind
    rw [← e2]; exact d4
  rcases hp.dvd d5 with z | z
  · exact hi z
  · exact hj z
theorem over {f : Po} {p : Int} (h : ∀ i, p ∣ f.c i) : ∃ g, f = K p * g := by
  refine ⟨⟨⟨fun i => f.c i / p⟩, ?_⟩, ?_⟩
  · obtain ⟨n, hn⟩ := f.fin
    exact ⟨n, fun i hi => by show f.c i / p = 0; rw [show f.c i = 0 from hn i hi]; simp⟩
  · refine ext fun i => ?_
    rw [Kmul_c]
    exact (Int.mul_ediv_cancel' (h i)).symm
theorem gauss {f : Po} (hf : Pr f) : ∀ (n : Nat) (a : Int) (g q : Po), a.natAbs ≤ n → a ≠ 0 → K a * g = f * q → ∃ q', q = K a * q'
  | 0, a, g, q, hn, h0, e => by lia
  | n + 1, a, g, q, hn, h0, e => by
    by_cases h1 : a.natAbs = 1
    · refine ⟨K a * q, ?_⟩
      have e2 : a * a = 1 := by
        rcases Int.natAbs_eq a with z | z <;> rw [h1] at z <;> rw [z] <;> rfl
      have : K a * (K a * q) = K (a * a) * q := by rw [K_mul]; grind
      rw [this, e2, K_one]; grind
    obtain ⟨p, hp, hd⟩ := NPr.ex _ a.natAbs (Nat.le_refl _) (by lia)
    have hd' : (p : Int) ∣ a := Int.ofNat_dvd_left.mpr hd
    obtain ⟨b, rfl⟩ := hd'
    have hb : b ≠ 0 := by rintro rfl; exact h0 (by simp)
    have hp0 : (p : Int) ≠ 0 := by have := hp.1; lia
    have hall : ∀ i, (p : Int) ∣ (f * q).c i := fun i => by
      rw [← e, Kmul_c, Int.mul_assoc]; exact Int.dvd_mul_right ..
    rcases gauss_prime hp hall with z | z
    · have := hf p z
      have := hp.1
      lia
    obtain ⟨q1, rfl⟩ := over z
    have e1 : K b * g = f * q1 := by
      refine Po.cancel (K_ne hp0) ?_
      rw [K_mul] at e; grind
    have hlt : b.natAbs ≤ n := by
      have h2 := hp.1
      rw [Int.natAbs_mul, Int.natAbs_natCast] at hn
      have h3 : 0 < b.natAbs := by lia
      have h4 : 2 * b.natAbs ≤ p * b.natAbs := Nat.mul_le_mul_right _ h2
      lia
    obtain ⟨q2, rfl⟩ := gauss hf n b g q1 hlt hb e1
    exact ⟨q2, by rw [K_mul]; grind⟩
theorem Pr.div {f g : Po} (hf : Pr f) (h : D f g) : ∃ q, g = f * q := by
  obtain ⟨a, ha, q, e⟩ := h
  obtain ⟨q', rfl⟩ := gauss hf _ a g q (Nat.le_refl _) ha e
  refine ⟨q', Po.cancel (K_ne ha) ?_⟩
  grind
theorem Pr.of_mul {f g : Po} (h : Pr (f * g)) : Pr g := fun p hp => h p fun i => by
  rw [mul_c]; exact sumN_dvd fun s _ => Int.dvd_mul_of_dvd_right (hp _)
theorem Pr.same {f g : Po} (hf : Pr f) (hg : Pr g) (h1 : D f g) (h2 : D g f) (l1 : 0 < f.c (len f - 1)) (l2 : 0 < g.c (len g - 1)) : f = g := by
  obtain ⟨q, e⟩ := hf.div h1
  have hl1 := h1.len hg.ne
  have hl2 := h2.len hf.ne
  have hq : q ≠ 0 := by rintro rfl; exact hg.ne (by rw [e]; grind)
  have hlq := len_mul hf.ne hq
  rw [← e] at hlq
  have hc := of_len_one (f := q) (by lia)
  have hd : ∀ i, q.c 0 ∣ g.c i := fun i => by
    have e2 : g = K (q.c 0) * f := by rw [← hc, e]; grind
    rw [e2, Kmul_c]; exact Int.dvd_mul_right ..
  have h3 : (q.c 0).natAbs = 1 := hg _ fun i => Int.natAbs_dvd.mpr (hd i)
  have hle : len f = len g := by lia
  have e3 : g.c (len g - 1) = q.c 0 * f.c (len f - 1) := by
    have e2 : g = K (q.c 0) * f := by rw [← hc, e]; grind
    have := congrArg (fun z : Po => z.c (len g - 1)) e2
    have e4 : g.c (len g - 1) = (K (q.c 0) * f).c (len g - 1) := this
    rw [e4, Kmul_c, hle]
  have h4 : q.c 0 = 1 := by
    rcases Int.natAbs_eq (q.c 0) with z | z
    · rw [z, h3]; rfl
    · rw [h3] at z
      rw [z] at e3
      lia
  rw [e, hc, h4, K_one]; grind
theorem der_fin (f : Po) : ∃ n, ∀ i, n ≤ i → (PS.der f.s).c i = 0 := by
  obtain ⟨n, hn⟩ := f.fin
  exact ⟨n, fun i hi => by rw [PS.der_at, hn (i + 1) (by lia)]; grind⟩
noncomputable def der (f : Po) : Po := ⟨PS.der f.s, der_fin f⟩
theorem der_c (f : Po) (i : Nat) : (der f).c i = ((i + 1 : Nat) : Int) * f.c (i + 1) := rfl
theorem der_mul (f g : Po) : der (f * g) = der f * g + f * der g := inj (PS.der_mul f.s g.s)
theorem der_Kmul (a : Int) (f : Po) : der (K a * f) = K a * der f := ext fun i => by
  rw [der_c, Kmul_c, Kmul_c, der_c]; grind
theorem len_der (f : Po) : len (der f) = len f - 1 := by
  by_cases h : len f ≤ 1
  · have : len (der f) ≤ 0 := len_le fun i _ => by rw [der_c, c_ge (by lia)]; grind
    lia
  · refine len_eq (fun i hi => by rw [der_c, c_ge (by lia)]; grind) ?_ (by lia)
    rw [der_c]
    have e : len f - 1 - 1 + 1 = len f - 1 := by lia
    rw [e]
    exact Int.mul_ne_zero (by lia) (lead (by lia))
theorem ofL_der (xs : List Int) : ofL (derL xs) = der (ofL xs) := ext fun i => by
  rw [ofL_c, derL_co]; rfl
theorem pow_zero' (f : Po) : f ^ 0 = 1 := rfl
theorem pow_succ' (f : Po) (n : Nat) : f ^ (n + 1) = f ^ n * f := rfl
theorem pow_ne {f : Po} (h : f ≠ 0) : ∀ n : Nat, f ^ n ≠ 0
  | 0 => by rw [pow_zero', ← K_one]; exact K_ne (by decide)
  | n + 1 => by rw [pow_succ']; exact mul_ne (pow_ne h n) h
theorem der_pow (f : Po) : ∀ n : Nat, der (f ^ (n + 1)) = K ((n + 1 : Nat) : Int) * (f ^ n * der f)
  | 0 => by
    have e : f ^ (0 + 1) = f := by rw [pow_succ', pow_zero']; grind
    rw [e, pow_zero']
    show _ = K 1 * _
    rw [K_one]; grind
  | n + 1 => by
    rw [pow_succ', der_mul, der_pow f n]
    have e : K ((n + 1 + 1 : Nat) : Int) = K ((n + 1 : Nat) : Int) + 1 := by
      rw [← K_one, ← K_add]; rfl
    rw [e, pow_succ']; grind
noncomputable def Irr (p : Po) : Prop := 2 ≤ len p ∧ ∀ d, D d p → len d ≤ 1 ∨ len p ≤ len d
theorem Irr.ne {p : Po} (h : Irr p) : p ≠ 0 := ne_of_len (by have := h.1; lia)
theorem Irr.prime {p f g : Po} (hp : Irr p) (h : D p (f * g)) : D p f ∨ D p g := by
  obtain ⟨h, u, v, hh, e, d1, d2⟩ := bezout _ p f (Nat.le_refl _) (.inl hp.ne)
  rcases hp.2 h d1 with z | z
  · refine .inr ?_
    have hc := of_len_one z
    have h0 : h.c 0 ≠ 0 := fun z => hh (by rw [hc, z, K_zero])
    refine D.unK h0 ?_
    rw [← hc, ← e]
    have e2 : (u * p + v * f) * g = p * (u * g) + (f * g) * v := by grind
    rw [e2]
    exact (D.mul p _).add (D.mulR (by assumption) v)
  · exact .inl ((d1.symm_len hp.ne z).trans d2)
theorem Irr.ex : ∀ (n : Nat) (f : Po), len f ≤ n → 2 ≤ len f → ∃ p, Irr p ∧ D p f
  | 0, f, h, h2 => by lia
  | n + 1, f, h, h2 => by
    by_cases hp : ∀ d, D d f → len d ≤ 1 ∨ len f ≤ len d
    · exact ⟨f, ⟨h2, hp⟩, D.refl f⟩
    · obtain ⟨d, hd⟩ := Classical.not_forall.mp hp
      obtain ⟨hd1, hd2⟩ := Classical.not_imp.mp hd
      rw [_root_.not_or] at hd2
      obtain ⟨p, hp, hdv⟩ := Irr.ex n d (by lia) (by lia)
      exact ⟨p, hp, hdv.trans hd1⟩
theorem Irr.der {p : Po} (hp : Irr p) : ¬ D p (der p) := fun h => by
  have h1 := hp.1
  have h2 := len_der p
  have := h.len (ne_of_len (by lia))
  lia
theorem Irr.mult {p : Po} (hp : Irr p) : ∀ (n : Nat) (f : Po), len f ≤ n → f ≠ 0 → ∃ (e : Nat) (u : Po) (a : Int), a ≠ 0 ∧ K a * f = p ^ e * u ∧ ¬ D p u
  | 0, f, h, h0 => absurd (eq_zero (by lia)) h0
  | n + 1, f, h, h0 => by
    by_cases hd : D p f
    · obtain ⟨a, ha, q, e⟩ := hd
      have hq : q ≠ 0 := right_ne (f := p) (by rw [← e]; exact mul_ne (K_ne ha) h0)
      have h1 := len_mul hp.ne hq
      rw [← e, len_Kmul ha] at h1
      have h2 := hp.1
      obtain ⟨k, u, b, hb, e2, hu⟩ := Irr.mult hp n q (by lia) hq
      refine ⟨k + 1, u, b * a, Int.mul_ne_zero hb ha, ?_, hu⟩
      rw [K_mul, pow_succ']; grind
    · exact ⟨0, f, 1, by decide, by rw [K_one, pow_zero'], hd⟩
theorem sq_main {f h p u v : Po} {a : Int} (hf : f ≠ 0) (e1 : u * f + v * der f = h) (d1 : D h f) (d2 : D h (der f)) (ha : a ≠ 0) (e : K a * f = h * p) {π : Po} (hp : Irr π) :
    (D π p ↔ D π f) ∧ ¬ D (π * π) p := by
  have dpf : D p f := ⟨a, ha, h, by grind⟩
  have hh : h ≠ 0 := left_ne (g := p) (by rw [← e]; exact mul_ne (K_ne ha) hf)
  by_cases hd : D π f
  · obtain ⟨k, w, b, hb, ew, hw⟩ := hp.mult _ f (Nat.le_refl _) hf
    have hk : k ≠ 0 := by
      rintro rfl
      refine hw ?_
      have : w = K b * f := by rw [ew, pow_zero']; grind
      rw [this]; exact hd.mulL _
    obtain ⟨k, rfl⟩ := Nat.exists_eq_succ_of_ne_zero hk
    have ed : K b * der f = π ^ k * (K ((k + 1 : Nat) : Int) * (der π * w) + π * der w) := by
      rw [← der_Kmul, ew, der_mul, der_pow, pow_succ']; grind
    have dk : D (π ^ k) h := by
      rw [← e1]
      refine D.add (D.mulL ⟨b, hb, π * w, ?_⟩ u) (D.mulL ⟨b, hb, _, ed⟩ v)
      rw [ew, pow_succ']; grind
    have ndk : ¬ D (π ^ (k + 1)) h := fun z => by
      have z2 := z.trans d2
      have z3 : D (π ^ k * π) (π ^ k * (K ((k + 1 : Nat) : Int) * (der π * w) + π * der w)) := by
        rw [← ed, ← pow_succ']; exact z2.mulL _
      have z4 := D.cancel (pow_ne hp.ne k) z3
      have z5 : D π (K ((k + 1 : Nat) : Int) * (der π * w)) := by
        have := z4.sub (D.mul π (der w))
        have e2 : K ((k + 1 : Nat) : Int) * (der π * w) + π * der w - π * der w = K ((k + 1 : Nat) : Int) * (der π * w) := by grind
        rw [e2] at this; exact this
      rcases hp.prime (D.unK (by lia) z5) with z6 | z6
      · exact hp.der z6
      · exact hw z6
    obtain ⟨b2, hb2, w2, ew2⟩ := dk
    have nw2 : ¬ D π w2 := fun z => ndk (by
      refine D.unK hb2 ?_
      rw [ew2, pow_succ']; exact z.mulB)
    have em : K (b2 * a) * (π * w) = K b * (w2 * p) := by
      refine Po.cancel (pow_ne hp.ne k) ?_
      have e2 : π ^ k * π * w = K b * f := by rw [ew, pow_succ']
      have e3 : π ^ k * w2 = K b2 * h := ew2.symm
      rw [K_mul]
      have e4 : π ^ k * (K b2 * K a * (π * w)) = K b2 * K a * (π ^ k * π * w) := by grind
      have e5 : π ^ k * (K b * (w2 * p)) = K b * p * (π ^ k * w2) := by grind
      rw [e4, e5, e2, e3]
      grind
    have hba : b2 * a ≠ 0 := Int.mul_ne_zero hb2 ha
    constructor
    · refine ⟨fun z => z.trans dpf, fun _ => ?_⟩
      have z1 : D π (w2 * p) := by
        refine D.unK hb ?_
        rw [← em]; exact (D.mul π w).mulL _
      rcases hp.prime z1 with z | z
      · exact absurd z nw2
      · exact z
    · rintro ⟨c, hc, t, et⟩
      refine hw ⟨b2 * a * c, Int.mul_ne_zero hba hc, K b * (w2 * t), Po.cancel hp.ne ?_⟩
      have e6 : π * (K (b2 * a * c) * w) = K c * (K (b2 * a) * (π * w)) := by rw [K_mul]; grind
      rw [e6, em]; grind
  · refine ⟨⟨fun z => z.trans dpf, fun z => absurd z hd⟩, fun z => hd ?_⟩
    have : D π (π * π) := D.mul π π
    exact (this.trans z).trans dpf
theorem sq_dvd : ∀ (n : Nat) (p q : Po), len p ≤ n → p ≠ 0 → (∀ π, Irr π → ¬ D (π * π) p) → (∀ π, Irr π → D π p → D π q) → D p q
  | 0, p, q, h, h0, _, _ => absurd (eq_zero (by lia)) h0
  | n + 1, p, q, h, h0, hs, hd => by
    by_cases hl : len p ≤ 1
    · exact D.const h0 hl
    obtain ⟨π, hp, hdv⟩ := Irr.ex _ p (Nat.le_refl _) (by lia)
    have dq := hd π hp hdv
    obtain ⟨a, ha, p1, e⟩ := hdv
    have h1 : p1 ≠ 0 := right_ne (f := π) (by rw [← e]; exact mul_ne (K_ne ha) h0)
    have hl1 := len_mul hp.ne h1
    rw [← e, len_Kmul ha] at hl1
    have hl2 := hp.1
    have d1p : D p1 p := ⟨a, ha, π, by grind⟩
    have np1 : ¬ D π p1 := fun z => hs π hp (by
      refine D.unK ha ?_
      rw [e]; exact z.mulB)
    have dp1 := sq_dvd n p1 q (by lia) h1 (fun τ ht z => hs τ ht (z.trans d1p)) (fun τ ht z => hd τ ht (z.trans d1p))
    obtain ⟨b, hb, t, et⟩ := dp1
    have z1 : D π (p1 * t) := by rw [← et]; exact dq.mulL _
    rcases hp.prime z1 with z | z
    · exact absurd z np1
    obtain ⟨c, hc, s, es⟩ := z
    refine ⟨c * b * a, Int.mul_ne_zero (Int.mul_ne_zero hc hb) ha, K a * (K a * s), ?_⟩
    have e3 : K (c * b * a) * q = K a * (K c * (K b * q)) := by rw [K_mul, K_mul]; grind
    have e4 : p * (K a * (K a * s)) = K a * ((K a * p) * s) := by grind
    rw [e3, e4, et, e]
    grind
end Po
end SF
namespace SF
open Lean.Grind
theorem sumN_le {f g : Nat → Int} : ∀ {n : Nat}, (∀ i, i < n → f i ≤ g i) → sumN f n ≤ sumN g n
  | 0, _ => Int.le_refl 0
  | n + 1, h => Int.add_le_add (sumN_le fun i hi => h i (by lia)) (h n (by lia))
theorem sumN_nonneg {f : Nat → Int} {n : Nat} (h : ∀ i, i < n → 0 ≤ f i) : 0 ≤ sumN f n := by
  have := sumN_le (f := fun _ => 0) (g := f) h
  rw [sumN_zero] at this; exact this
theorem sumN_ge {f : Nat → Int} {n j : Nat} (h : ∀ i, i < n → 0 ≤ f i) (hj : j < n) : f j ≤ sumN f n := by
  have e : n = j + (1 + (n - 1 - j)) := by lia
  rw [e, sumN_split, sumN_split]
  have h1 : 0 ≤ sumN f j := sumN_nonneg fun i hi => h i (by lia)
  have h2 : 0 ≤ sumN (fun i => f (j + (1 + i))) (n - 1 - j) := sumN_nonneg fun i hi => h _ (by lia)
  have h3 : sumN (fun i => f (j + i)) 1 = f j := by show 0 + f (j + 0) = f j; rw [Nat.add_zero]; grind
  lia
theorem sumN_geo (M : Int) : ∀ n : Nat, sumN (fun i => M * (M + 1) ^ i) n = (M + 1) ^ n - 1
  | 0 => by show (0 : Int) = (M + 1) ^ 0 - 1; rw [Int.pow_zero]; rfl
  | n + 1 => by
    show sumN (fun i => M * (M + 1) ^ i) n + M * (M + 1) ^ n = _
    rw [sumN_geo M n, Int.pow_succ]; grind
noncomputable def ab (x : Int) : Int := (x.natAbs : Int)
theorem ab_nonneg (x : Int) : 0 ≤ ab x := by unfold ab; lia
theorem ab_add (x y : Int) : ab (x + y) ≤ ab x + ab y := by unfold ab; lia
theorem ab_sub (x y : Int) : ab (x - y) ≤ ab x + ab y := by unfold ab; lia
theorem ab_mul (x y : Int) : ab (x * y) = ab x * ab y := by unfold ab; rw [Int.natAbs_mul]; push_cast; rfl
theorem ab_of {x : Int} (h : 0 ≤ x) : ab x = x := by unfold ab; lia
theorem ab_pos {x : Int} (h : x ≠ 0) : 0 < ab x := by unfold ab; lia
theorem ab_sum {f : Nat → Int} : ∀ n : Nat, ab (sumN f n) ≤ sumN (fun i => ab (f i)) n
  | 0 => Int.le_refl 0
  | n + 1 => by
    have h1 := ab_add (sumN f n) (f n)
    have h2 := ab_sum (f := f) n
    show ab (sumN f n + f n) ≤ sumN (fun i => ab (f i)) n + ab (f n)
    lia
namespace Po
noncomputable def evL (p : Int) : List Int → Int
  | [] => 0
  | x :: r => x + p * evL p r
theorem evL_sum (p : Int) : ∀ xs : List Int, evL p xs = sumN (fun i => co xs i * p ^ i) xs.length
  | [] => rfl
  | x :: r => by
    show x + p * evL p r = _
    rw [evL_sum p r, List.length_cons, sumN_head, co_zero, Int.pow_zero, ← sumN_mul]
    have e : sumN (fun i => p * (co r i * p ^ i)) r.length = sumN (fun i => co (x :: r) (i + 1) * p ^ (i + 1)) r.length := sumN_congr fun i _ => by
      rw [co_succ, Int.pow_succ]; grind
    rw [e]; grind
noncomputable def ev (p : Int) (f : Po) : Int := sumN (fun i => f.c i * p ^ i) (len f)
theorem ev_n (p : Int) {f : Po} {n : Nat} (h : len f ≤ n) : ev p f = sumN (fun i => f.c i * p ^ i) n := by
  have e : n = len f + (n - len f) := by lia
  rw [e, sumN_split, sumN_zero' (n := n - len f) (fun i _ => by rw [c_ge (by lia)]; grind)]
  show sumN _ _ = _
  grind
theorem ev_ofL (p : Int) (xs : List Int) : ev p (ofL xs) = evL p xs := by
  rw [evL_sum, ev_n p (f := ofL xs) (n := xs.length) (len_le fun i hi => by rw [ofL_c]; exact co_ge hi)]
  rfl
theorem ev_add (p : Int) (f g : Po) : ev p (f + g) = ev p f + ev p g := by
  have h1 := len_add f g
  rw [ev_n p h1, ev_n p (f := f) (n := max (len f) (len g)) (by lia), ev_n p (f := g) (n := max (len f) (len g)) (by lia), ← sumN_add]
  exact sumN_congr fun i _ => by rw [add_c]; grind
theorem ev_Kmul (p a : Int) (f : Po) : ev p (K a * f) = a * ev p f := by
  have h1 : len (K a * f) ≤ len f := len_le fun i hi => by rw [Kmul_c, c_ge hi]; grind
  rw [ev_n p h1]
  unfold ev
  rw [← sumN_mul]
  exact sumN_congr fun i _ => by rw [Kmul_c]; grind
theorem ev_neg (p : Int) (f : Po) : ev p (-f) = - ev p f := by
  have e : -f = K (-1) * f := by
    rw [K_neg, K_one]; grind
  rw [e, ev_Kmul]; grind
theorem ev_sub (p : Int) (f g : Po) : ev p (f - g) = ev p f - ev p g := by
  have e : f - g = f + -g := by grind
  rw [e, ev_add, ev_neg]; grind
theorem ev_K (p a : Int) : ev p (K a) = a := by
  rw [ev_n p (len_K_le a)]
  show 0 + (K a).c 0 * p ^ 0 = a
  rw [K_c, if_pos rfl, Int.pow_zero]; grind
theorem ofL_cons (x : Int) (r : List Int) : ofL (x :: r) = K x + X 1 * ofL r := ext fun i => by
  rw [add_c, K_c, X_mul_c, ofL_c]
  cases i with
  | zero => rw [co_zero, if_pos rfl, if_pos (by decide)]; grind
  | succ i => rw [co_succ, if_neg (by lia), if_neg (by lia), Nat.add_sub_cancel, ofL_c]; grind
theorem factor_ex (p : Int) : ∀ xs : List Int, ∃ B, ofL xs = (X 1 - K p) * B + K (evL p xs)
  | [] => ⟨0, by rw [ofL_nil]; show _ = _ + K 0; rw [K_zero]; grind⟩
  | x :: r => by
    obtain ⟨B, e⟩ := factor_ex p r
    refine ⟨X 1 * B + K (evL p r), ?_⟩
    rw [ofL_cons, e]
    show _ = _ + K (x + p * evL p r)
    rw [K_add, K_mul]; grind
theorem factor (p : Int) (f : Po) : ∃ B, f = (X 1 - K p) * B + K (ev p f) := by
  obtain ⟨B, e⟩ := factor_ex p (lst f)
  rw [ofL_lst] at e
  refine ⟨B, ?_⟩
  rw [← ev_ofL, ofL_lst] at e
  exact e
theorem xp_c (p : Int) (f : Po) (i : Nat) : ((X 1 - K p) * f).c i = (if i < 1 then 0 else f.c (i - 1)) - p * f.c i := by
  have e : (X 1 - K p) * f = X 1 * f - K p * f := by grind
  rw [e, sub_c, X_mul_c, Kmul_c]
theorem len_xp (p : Int) : len (X 1 - K p) = 2 := by
  refine len_eq (fun i hi => ?_) ?_ (by decide)
  · rw [sub_c, X_c, K_c, if_neg (by lia), if_neg (by lia)]; rfl
  · rw [sub_c, X_c, K_c, if_pos (by decide), if_neg (by decide)]; decide
theorem ev_xp (p : Int) (f : Po) : ev p ((X 1 - K p) * f) = 0 := by
  have h : len ((X 1 - K p) * f) ≤ len f + 1 := len_le fun i hi => by
    rw [xp_c, if_neg (by lia), c_ge (by lia), c_ge (by lia)]; grind
  rw [ev_n p h]
  have e : sumN (fun i => ((X 1 - K p) * f).c i * p ^ i) (len f + 1) = sumN (fun i => (if i < 1 then 0 else f.c (i - 1)) * p ^ i) (len f + 1) - sumN (fun i => p * (f.c i * p ^ i)) (len f + 1) := by
    have : ∀ a b : Int, a = b - (b - a) := fun a b => by lia
    have e2 : sumN (fun i => (if i < 1 then 0 else f.c (i - 1)) * p ^ i) (len f + 1) = sumN (fun i => ((X 1 - K p) * f).c i * p ^ i) (len f + 1) + sumN (fun i => p * (f.c i * p ^ i)) (len f + 1) := by
      rw [← sumN_add]
      exact sumN_congr fun i _ => by rw [xp_c]; grind
    lia
  rw [e, sumN_mul, ← ev_n p (f := f) (n := len f + 1) (by lia), sumN_head]
  have e3 : sumN (fun i => (if i + 1 < 1 then 0 else f.c (i + 1 - 1)) * p ^ (i + 1)) (len f) = p * ev p f := by
    unfold ev
    rw [← sumN_mul]
    exact sumN_congr fun i _ => by
      rw [if_neg (by lia), Nat.add_sub_cancel, Int.pow_succ]; grind
  rw [e3, if_pos (by decide)]; grind
theorem ev_mul (p : Int) (f g : Po) : ev p (f * g) = ev p f * ev p g := by
  obtain ⟨A, ea⟩ := factor p f
  obtain ⟨B, eb⟩ := factor p g
  have e : f * g = (X 1 - K p) * (A * g + K (ev p f) * B) + K (ev p f * ev p g) := by
    rw [K_mul]
    conv => lhs; rw [ea]
    have : K (ev p f) * g = K (ev p f) * ((X 1 - K p) * B + K (ev p g)) := by rw [← eb]
    grind
  rw [e, ev_add, ev_xp, ev_K]; grind
theorem ev_dvd (p : Int) {f g q : Po} (e : g = f * q) : ev p f ∣ ev p g := by rw [e, ev_mul]; exact Int.dvd_mul_right ..
noncomputable def nn (ρ : Int) (N : Nat) (z : Po) : Int := sumN (fun i => ab (z.c i) * ρ ^ i) N
theorem nn_nonneg {ρ : Int} (h : 0 ≤ ρ) (N : Nat) (z : Po) : 0 ≤ nn ρ N z :=
  sumN_nonneg fun i _ => Int.mul_nonneg (ab_nonneg _) (Int.pow_nonneg h)
theorem nn_pos {ρ : Int} (h : 0 < ρ) {N : Nat} {z : Po} (hz : z ≠ 0) (hl : len z ≤ N) : 0 < nn ρ N z := by
  have h1 := len_pos hz
  have h2 := lead h1
  have := sumN_ge (f := fun i => ab (z.c i) * ρ ^ i) (n := N) (j := len z - 1) (fun i _ => Int.mul_nonneg (ab_nonneg _) (Int.pow_nonneg (by lia))) (by lia)
  have h3 : 0 < ab (z.c (len z - 1)) * ρ ^ (len z - 1) := Int.mul_pos (ab_pos h2) (Int.pow_pos h)
  unfold nn
  exact Int.lt_of_lt_of_le h3 this
theorem nn_grow {f z y : Po} {s τ p M : Int} {N : Nat} (hM : ∀ i, ab (f.c i) ≤ M) (hN : len f = N + 2) (hy : len y ≤ N + 1) (hp : 0 ≤ p)
    (e : (X 1 - K p) * y = K τ * f - K s * z) (hz : len z ≤ N + 1) :
    p * nn (M + 1) (N + 1) y ≤ ab s * nn (M + 1) (N + 1) z + (M + 1) * nn (M + 1) (N + 1) y := by
  have hM0 : 0 ≤ M := Int.le_trans (ab_nonneg _) (hM 0)
  have hρ : (0 : Int) ≤ M + 1 := by lia
  have top : τ * f.c (N + 1) = y.c N := by
    have := congrArg (fun w : Po => w.c (N + 1)) e
    have h2 : ((X 1 - K p) * y).c (N + 1) = (K τ * f - K s * z).c (N + 1) := this
    rw [xp_c, if_neg (by lia), Nat.add_sub_cancel, c_ge (f := y) (i := N + 1) hy, sub_c, Kmul_c, Kmul_c, c_ge (f := z) (i := N + 1) hz] at h2
    grind
  have hl := lead (f := f) (by lia)
  have hn1 : len f - 1 = N + 1 := by lia
  rw [hn1] at hl
  have row : ∀ i, i < N + 1 → p * (ab (y.c i) * (M + 1) ^ i) ≤ ab s * (ab (z.c i) * (M + 1) ^ i) + (if i < 1 then 0 else ab (y.c (i - 1))) * (M + 1) ^ i + ab τ * (M * (M + 1) ^ i) := by
    intro i _
    have h2 : ((X 1 - K p) * y).c i = (K τ * f - K s * z).c i := congrArg (fun w : Po => w.c i) e
    rw [xp_c, sub_c, Kmul_c, Kmul_c] at h2
    have e3 : p * y.c i = (s * z.c i + (if i < 1 then 0 else y.c (i - 1))) - τ * f.c i := by lia
    have h4 : ab (p * y.c i) ≤ ab s * ab (z.c i) + (if i < 1 then 0 else ab (y.c (i - 1))) + ab τ * M := by
      rw [e3]
      have a1 := ab_sub (s * z.c i + (if i < 1 then 0 else y.c (i - 1))) (τ * f.c i)
      have a2 := ab_add (s * z.c i) (if i < 1 then 0 else y.c (i - 1))
      have a3 : ab (if i < 1 then 0 else y.c (i - 1)) = if i < 1 then 0 else ab (y.c (i - 1)) := by split <;> rfl
      have a4 : ab (τ * f.c i) ≤ ab τ * M := by rw [ab_mul]; exact Int.mul_le_mul_of_nonneg_left (hM i) (ab_nonneg _)
      rw [a3] at a2
      rw [ab_mul s] at a2
      lia
    rw [ab_mul, ab_of hp] at h4
    have h5 := Int.mul_le_mul_of_nonneg_right h4 (show 0 ≤ (M + 1) ^ i from Int.pow_nonneg hρ)
    have e4 : p * (ab (y.c i) * (M + 1) ^ i) = p * ab (y.c i) * (M + 1) ^ i := by grind
    have e5 : ab s * (ab (z.c i) * (M + 1) ^ i) + (if i < 1 then 0 else ab (y.c (i - 1))) * (M + 1) ^ i + ab τ * (M * (M + 1) ^ i) = (ab s * ab (z.c i) + (if i < 1 then 0 else ab (y.c (i - 1))) + ab τ * M) * (M + 1) ^ i := by grind
    rw [e4, e5]; exact h5
  have h6 := sumN_le (n := N + 1) row
  rw [sumN_mul, sumN_add, sumN_add, sumN_mul, sumN_mul, sumN_geo] at h6
  have e7 : sumN (fun i => (if i < 1 then 0 else ab (y.c (i - 1))) * (M + 1) ^ i) (N + 1) = (M + 1) * sumN (fun i => ab (y.c i) * (M + 1) ^ i) N := by
    rw [sumN_head, ← sumN_mul, if_pos (by decide)]
    have : sumN (fun i => (if i + 1 < 1 then 0 else ab (y.c (i + 1 - 1))) * (M + 1) ^ (i + 1)) N = sumN (fun i => (M + 1) * (ab (y.c i) * (M + 1) ^ i)) N := sumN_congr fun i _ => by
      rw [if_neg (by lia), Nat.add_sub_cancel, Int.pow_succ]; grind
    rw [this]; grind
  rw [e7] at h6
  have e8 : nn (M + 1) (N + 1) y = sumN (fun i => ab (y.c i) * (M + 1) ^ i) N + ab (y.c N) * (M + 1) ^ N := rfl
  have h9 : ab τ * ((M + 1) ^ (N + 1) - 1) ≤ (M + 1) * (ab (y.c N) * (M + 1) ^ N) := by
    rw [← top, ab_mul]
    have g1 : 1 ≤ ab (f.c (N + 1)) := ab_pos hl
    have g2 : 0 ≤ (M + 1) ^ (N + 1) := Int.pow_nonneg hρ
    have g3 : ab τ * (M + 1) ^ (N + 1) * 1 ≤ ab τ * (M + 1) ^ (N + 1) * ab (f.c (N + 1)) := Int.mul_le_mul_of_nonneg_left g1 (Int.mul_nonneg (ab_nonneg _) g2)
    have g4 := ab_nonneg τ
    have e10 : (M + 1) * (ab τ * ab (f.c (N + 1)) * (M + 1) ^ N) = ab τ * (M + 1) ^ (N + 1) * ab (f.c (N + 1)) := by rw [Int.pow_succ]; grind
    rw [e10]
    have e11 : ab τ * ((M + 1) ^ (N + 1) - 1) = ab τ * (M + 1) ^ (N + 1) * 1 - ab τ := by grind
    rw [e11]; lia
  show p * nn (M + 1) (N + 1) y ≤ ab s * nn (M + 1) (N + 1) z + (M + 1) * nn (M + 1) (N + 1) y
  rw [e8]
  show p * (sumN (fun i => ab (y.c i) * (M + 1) ^ i) N + ab (y.c N) * (M + 1) ^ N) ≤ ab s * nn (M + 1) (N + 1) z + (M + 1) * (sumN (fun i => ab (y.c i) * (M + 1) ^ i) N + ab (y.c N) * (M + 1) ^ N)
  have h6' : p * (sumN (fun i => ab (y.c i) * (M + 1) ^ i) N + ab (y.c N) * (M + 1) ^ N) ≤ ab s * nn (M + 1) (N + 1) z + (M + 1) * sumN (fun i => ab (y.c i) * (M + 1) ^ i) N + ab τ * ((M + 1) ^ (N + 1) - 1) := h6
  have e12 : (M + 1) * (sumN (fun i => ab (y.c i) * (M + 1) ^ i) N + ab (y.c N) * (M + 1) ^ N) = (M + 1) * sumN (fun i => ab (y.c i) * (M + 1) ^ i) N + (M + 1) * (ab (y.c N) * (M + 1) ^ N) := by grind
  rw [e12]
  lia
theorem low_step {f k q t : Po} (hf : f ≠ 0) (e : f = k * q) (ht : len t + 1 ≤ len k) (p : Int) :
    ∃ B, len B + 1 ≤ len k ∧ (X 1 - K p) * (q * B) = K (ev p t) * f - K (ev p k) * (q * t) := by
  let F := K (ev p t) * k - K (ev p k) * t
  obtain ⟨B, eB⟩ := factor p F
  have e0 : ev p F = 0 := by
    show ev p (K (ev p t) * k - K (ev p k) * t) = 0
    rw [ev_sub, ev_Kmul, ev_Kmul]; grind
  rw [e0, K_zero] at eB
  have eB2 : F = (X 1 - K p) * B := by rw [eB]; grind
  refine ⟨B, ?_, ?_⟩
  · by_cases hB : B = 0
    · rw [hB, len_zero]; lia
    · have h1 := len_mul (ne_of_len (by rw [len_xp]; decide)) hB (f := X 1 - K p)
      rw [← eB2, len_xp] at h1
      have h2 : len F ≤ len k := by
        have h3 : len F ≤ max (len (K (ev p t) * k)) (len (K (ev p k) * t)) := len_sub _ _
        have h4 : len (K (ev p t) * k) ≤ len k := len_le fun i hi => by rw [Kmul_c, c_ge hi]; grind
        have h5 : len (K (ev p k) * t) ≤ len t := len_le fun i hi => by rw [Kmul_c, c_ge hi]; grind
        lia
      lia
  · have : (X 1 - K p) * (q * B) = q * F := by rw [eB2]; grind
    rw [this, e]
    show q * (K (ev p t) * k - K (ev p k) * t) = _
    grind
theorem low_bound {f k q : Po} (hf : f ≠ 0) (e : f = k * q) (hk : 2 ≤ len k) {M : Int} (hM : ∀ i, ab (f.c i) ≤ M) {p : Int} (hp : M + 1 < p) : p - (M + 1) ≤ ab (ev p k) := by
  have hM0 : 0 ≤ M := Int.le_trans (ab_nonneg _) (hM 0)
  have hρ : (0 : Int) < M + 1 := by lia
  have hk0 : k ≠ 0 := ne_of_len (by lia)
  have hq0 : q ≠ 0 := by rintro rfl; exact hf (by rw [e]; grind)
  have hl := len_mul hk0 hq0
  rw [← e] at hl
  have hqp := len_pos hq0
  obtain ⟨N, hN⟩ : ∃ N, len f = N + 2 := ⟨len f - 2, by lia⟩
  have lenq : ∀ t : Po, len t + 1 ≤ len k → len (q * t) ≤ N + 1 := fun t ht => by
    by_cases h0 : t = 0
    · rw [h0]; have : q * (0 : Po) = 0 := by grind
      rw [this, len_zero]; lia
    · have := len_mul hq0 h0; lia
  have hs : ev p k ≠ 0 := fun z => by
    have l1 : len (1 : Po) = 1 := by rw [← K_one]; exact len_K (by decide)
    obtain ⟨B, hB, eB⟩ := low_step hf e (t := 1) (by lia) p
    have g := nn_grow hM hN (lenq B hB) (by lia) eB (lenq 1 (by lia))
    have ev1 : ev p 1 = 1 := by rw [← K_one, ev_K]
    rw [z] at g
    have h0 : ab 0 = 0 := rfl
    rw [h0, Int.zero_mul, Int.zero_add] at g
    have hB0 : q * B = 0 := by
      by_cases hz : q * B = 0
      · exact hz
      · have := nn_pos hρ hz (lenq B hB)
        have h3 : (M + 1) * nn (M + 1) (N + 1) (q * B) < p * nn (M + 1) (N + 1) (q * B) := Int.mul_lt_mul_of_pos_right hp this
        lia
    rw [hB0, z, ev1, K_one, K_zero] at eB
    exact hf (by grind)
  have hex : ∃ m : Nat, ∃ t : Po, len t + 1 ≤ len k ∧ q * t ≠ 0 ∧ nn (M + 1) (N + 1) (q * t) = (m : Int) := by
    refine ⟨(nn (M + 1) (N + 1) (q * 1)).toNat, 1, ?_, ?_, ?_⟩
    · have l1 : len (1 : Po) = 1 := by rw [← K_one]; exact len_K (by decide)
      lia
    · have : q * 1 = q := by grind
      rw [this]; exact hq0
    · exact (Int.toNat_of_nonneg (nn_nonneg (by lia) _ _)).symm
  obtain ⟨m0, hm0⟩ := hex
  obtain ⟨m, hm, hleast⟩ := least (P := fun m : Nat => ¬ ∃ t : Po, len t + 1 ≤ len k ∧ q * t ≠ 0 ∧ nn (M + 1) (N + 1) (q * t) = (m : Int)) m0 (fun z => z hm0)
  obtain ⟨t, ht, hz, hn⟩ := Classical.not_not.mp hm
  obtain ⟨B, hB, eB⟩ := low_step hf e ht p
  have g := nn_grow hM hN (lenq B hB) (by lia) eB (lenq t ht)
  have hy : q * B ≠ 0 := fun z => by
    rw [z] at eB
    have e2 : K (ev p t) * f = K (ev p k) * (q * t) := by grind
    have h1 : len (K (ev p k) * (q * t)) ≤ N + 1 := by
      rw [len_Kmul hs]; exact lenq t ht
    by_cases h0 : ev p t = 0
    · rw [h0, K_zero] at e2
      exact mul_ne (K_ne hs) hz (by grind)
    · have h2 := len_Kmul h0 f
      rw [e2] at h2
      lia
  have hmin : nn (M + 1) (N + 1) (q * t) ≤ nn (M + 1) (N + 1) (q * B) := by
    have hnb := nn_nonneg (ρ := M + 1) (by lia) (N + 1) (q * B)
    rcases Int.lt_or_le (nn (M + 1) (N + 1) (q * B)) (nn (M + 1) (N + 1) (q * t)) with hlt | hle
    · exfalso
      refine hleast (nn (M + 1) (N + 1) (q * B)).toNat (by lia) ⟨B, hB, hy, ?_⟩
      exact (Int.toNat_of_nonneg hnb).symm
    · exact hle
  have hpos := nn_pos hρ hz (lenq t ht)
  have h7 : (p - (M + 1)) * nn (M + 1) (N + 1) (q * t) ≤ (p - (M + 1)) * nn (M + 1) (N + 1) (q * B) := Int.mul_le_mul_of_nonneg_left hmin (by lia)
  have h8 : (p - (M + 1)) * nn (M + 1) (N + 1) (q * B) = p * nn (M + 1) (N + 1) (q * B) - (M + 1) * nn (M + 1) (N + 1) (q * B) := by grind
  have h9 : (p - (M + 1)) * nn (M + 1) (N + 1) (q * t) ≤ ab (ev p k) * nn (M + 1) (N + 1) (q * t) := by lia
  exact Int.le_of_mul_le_mul_right h9 hpos
end Po
end SF
namespace SF
open Lean.Grind
theorem pigeon : ∀ (b a : Nat) (φ : Nat → Nat), b < a → (∀ x, x < a → φ x < b) → ∃ x y, x < y ∧ y < a ∧ φ x = φ y
  | 0, a, φ, h, hφ => absurd (hφ 0 h) (Nat.not_lt_zero _)
  | b + 1, a, φ, h, hφ => by
    by_cases hx : ∃ x, x < a - 1 ∧ φ x = φ (a - 1)
    · obtain ⟨x, h1, h2⟩ := hx
      exact ⟨x, a - 1, h1, by lia, h2⟩
    have hne : ∀ x, x < a - 1 → φ x ≠ φ (a - 1) := fun x h1 h2 => hx ⟨x, h1, h2⟩
    have hc := hφ (a - 1) (by lia)
    obtain ⟨x, y, h1, h2, h3⟩ := pigeon b (a - 1) (fun x => if φ x = b then φ (a - 1) else φ x) (by lia) (fun x hx => by
      have h1 := hφ x (by lia)
      have h2 := hne x hx
      split
      · lia
      · lia)
    refine ⟨x, y, h1, by lia, ?_⟩
    have n1 := hne x (by lia)
    have n2 := hne y h2
    split at h3 <;> split at h3 <;> lia
noncomputable def dg (B x i : Nat) : Nat := x / B ^ i % B
theorem dg_succ (B x i : Nat) : dg B x (i + 1) = dg B (x / B) i := by
  unfold dg
  rw [Nat.pow_succ', Nat.div_div_eq_div_mul]
theorem dg_lt {B : Nat} (h : 0 < B) (x i : Nat) : dg B x i < B := Nat.mod_lt _ h
theorem dg_inj {B : Nat} (hB : 0 < B) : ∀ (n x y : Nat), x < B ^ n → y < B ^ n → (∀ i, i < n → dg B x i = dg B y i) → x = y
  | 0, x, y, hx, hy, _ => by rw [Nat.pow_zero] at hx hy; lia
  | n + 1, x, y, hx, hy, h => by
    have h0 := h 0 (by lia)
    unfold dg at h0
    rw [Nat.pow_zero, Nat.div_one, Nat.div_one] at h0
    have hd := dg_inj hB n (x / B) (y / B) (Nat.div_lt_of_lt_mul (by rw [← Nat.pow_succ']; exact hx)) (Nat.div_lt_of_lt_mul (by rw [← Nat.pow_succ']; exact hy)) (fun i hi => by
      rw [← dg_succ, ← dg_succ]; exact h (i + 1) (by lia))
    rw [← Nat.div_add_mod x B, ← Nat.div_add_mod y B, hd, h0]
noncomputable def enc (B : Nat) (w : Nat → Nat) : Nat → Nat
  | 0 => 0
  | n + 1 => enc B w n + w n * B ^ n
theorem enc_lt {B : Nat} {w : Nat → Nat} (hw : ∀ i, w i < B) : ∀ n, enc B w n < B ^ n
  | 0 => by show 0 < B ^ 0; rw [Nat.pow_zero]; decide
  | n + 1 => by
    show enc B w n + w n * B ^ n < B ^ (n + 1)
    have h1 := enc_lt hw n
    have h2 : (w n + 1) * B ^ n ≤ B * B ^ n := Nat.mul_le_mul_right _ (hw n)
    rw [Nat.add_mul, Nat.one_mul] at h2
    rw [Nat.pow_succ, Nat.mul_comm (B ^ n)]
    lia
theorem enc_inj {B : Nat} {w v : Nat → Nat} (hw : ∀ i, w i < B) (hv : ∀ i, v i < B) : ∀ n, enc B w n = enc B v n → ∀ i, i < n → w i = v i
  | 0, _, i, hi => by lia
  | n + 1, h, i, hi => by
    have h1 := enc_lt hw n
    have h2 := enc_lt hv n
    have h' : enc B w n + w n * B ^ n = enc B v n + v n * B ^ n := h
    have e1 : (enc B w n + w n * B ^ n) / B ^ n = w n := by
      rw [Nat.add_mul_div_right _ _ (by lia), Nat.div_eq_of_lt h1, Nat.zero_add]
    have e2 : (enc B v n + v n * B ^ n) / B ^ n = v n := by
      rw [Nat.add_mul_div_right _ _ (by lia), Nat.div_eq_of_lt h2, Nat.zero_add]
    have e3 : w n = v n := by rw [← e1, h', e2]
    by_cases he : i = n
    · rw [he]; exact e3
    · exact enc_inj hw hv n (by rw [e3] at h'; lia) i (by lia)
namespace Po
noncomputable def ofF (w : Nat → Int) (n : Nat) : Po := ⟨⟨fun i => if i < n then w i else 0⟩, n, fun i hi => if_neg (by lia)⟩
theorem ofF_c (w : Nat → Int) (n i : Nat) : (ofF w n).c i = if i < n then w i else 0 := rfl
theorem ofF_len (w : Nat → Int) (n : Nat) : len (ofF w n) ≤ n := len_le fun i hi => if_neg (by lia)
theorem mul_bd {u f : Po} {n : Nat} {H M : Int} (hl : len u ≤ n) (hu : ∀ i, ab (u.c i) ≤ H) (hf : ∀ i, ab (f.c i) ≤ M) (j : Nat) : ab ((u * f).c j) ≤ n * (H * M) := by
  have hH : 0 ≤ H := Int.le_trans (ab_nonneg _) (hu 0)
  have hM : 0 ≤ M := Int.le_trans (ab_nonneg _) (hf 0)
  have hHM : 0 ≤ H * M := Int.mul_nonneg hH hM
  rw [mul_c]
  have h1 := ab_sum (f := fun i => u.c i * f.c (j - i)) (j + 1)
  have h2 : sumN (fun i => ab (u.c i * f.c (j - i))) (j + 1) ≤ sumN (fun i => if i < n then H * M else 0) (j + 1) := sumN_le fun i _ => by
    split
    · rw [ab_mul]; exact Int.mul_le_mul (hu i) (hf _) (ab_nonneg _) hH
    · rw [c_ge (f := u) (by lia), Int.zero_mul]; exact Int.le_refl _
  have h3 : ∀ m : Nat, sumN (fun i => if i < n then H * M else 0) m ≤ (min m n : Nat) * (H * M) := by
    intro m
    induction m with
    | zero => show (0 : Int) ≤ _; rw [Nat.zero_min]; show (0:Int) ≤ 0 * _; lia
    | succ m ih =>
      show sumN (fun i => if i < n then H * M else 0) m + (if m < n then H * M else 0) ≤ _
      split
      · have e : min (m + 1) n = min m n + 1 := by lia
        rw [e]
        have e2 : ((min m n + 1 : Nat) : Int) * (H * M) = ((min m n : Nat) : Int) * (H * M) + H * M := by
          rw [Int.natCast_add]; grind
        rw [e2]; lia
      · have e : min (m + 1) n = min m n := by lia
        rw [e]; lia
  have h4 := h3 (j + 1)
  have h5 : ((min (j + 1) n : Nat) : Int) * (H * M) ≤ (n : Int) * (H * M) := Int.mul_le_mul_of_nonneg_right (by lia) hHM
  lia
theorem sieg_core {f g : Po} {M : Nat} (hM1 : ∀ i, ab (f.c i) ≤ M) (hM2 : ∀ i, ab (g.c i) ≤ M) {A n m : Nat} (hmn : n + m = A) (hA0 : 0 < A) (off : Nat) :
    ∃ U V : Po, len U ≤ n ∧ len V ≤ m ∧ (U ≠ 0 ∨ V ≠ 0) ∧ (∀ i, ab (U.c i) ≤ (((2 * A * M + 1) ^ (A - 1) : Nat) : Int)) ∧ (∀ i, ab (V.c i) ≤ (((2 * A * M + 1) ^ (A - 1) : Nat) : Int)) ∧
      (∀ j, j < A - 1 → (U * f + V * g).c (off + j) = 0) ∧ ∀ i, ab ((U * f + V * g).c i) ≤ ((A * ((2 * A * M + 1) ^ (A - 1) * M) : Nat) : Int) := by
  let H : Nat := (2 * A * M + 1) ^ (A - 1)
  have hH : 0 < H := Nat.pow_pos (by lia)
  let uu : Nat → Po := fun x => ofF (fun i => ((dg (H + 1) x i : Nat) : Int)) n
  let vv : Nat → Po := fun x => ofF (fun i => ((dg (H + 1) x (n + i) : Nat) : Int)) m
  let ww : Nat → Po := fun x => uu x * f + vv x * g
  have bu : ∀ x i, ab ((uu x).c i) ≤ (H : Int) := fun x i => by
    show ab ((ofF _ n).c i) ≤ _
    rw [ofF_c]
    split
    · have := dg_lt (B := H + 1) (by lia) x i
      rw [ab_of (by lia)]; lia
    · show (0 : Int) ≤ _; lia
  have bv : ∀ x i, ab ((vv x).c i) ≤ (H : Int) := fun x i => by
    show ab ((ofF _ m).c i) ≤ _
    rw [ofF_c]
    split
    · have := dg_lt (B := H + 1) (by lia) x (n + i)
      rw [ab_of (by lia)]; lia
    · show (0 : Int) ≤ _; lia
  have bw : ∀ U V : Po, len U ≤ n → len V ≤ m → (∀ i, ab (U.c i) ≤ (H : Int)) → (∀ i, ab (V.c i) ≤ (H : Int)) → ∀ j, ab ((U * f + V * g).c j) ≤ ((A * (H * M) : Nat) : Int) := fun U V l1 l2 b1 b2 j => by
    rw [add_c]
    have h1 := mul_bd l1 b1 hM1 j
    have h2 := mul_bd l2 b2 hM2 j
    have h3 := ab_add ((U * f).c j) ((V * g).c j)
    have e : ((A * (H * M) : Nat) : Int) = (n : Int) * ((H : Int) * M) + (m : Int) * ((H : Int) * M) := by
      rw [← hmn]; push_cast; grind
    lia
  let Bz : Nat := A * (H * M)
  let Bk : Nat := 2 * Bz + 1
  let wi : Nat → Nat → Nat := fun x j => ((ww x).c (off + j) + Bz).toNat
  have hwi : ∀ x j, wi x j < Bk := fun x j => by
    have := bw (uu x) (vv x) (ofF_len _ _) (ofF_len _ _) (bu x) (bv x) (off + j)
    have h2 : ab ((ww x).c (off + j)) ≤ ((A * (H * M) : Nat) : Int) := this
    unfold ab at h2
    show ((ww x).c (off + j) + Bz).toNat < 2 * Bz + 1
    have : Bz = A * (H * M) := rfl
    lia
  have hcount : Bk ^ (A - 1) < (H + 1) ^ A := by
    have h1 : Bk ≤ (2 * A * M + 1) * H := by
      show 2 * (A * (H * M)) + 1 ≤ (2 * A * M + 1) * H
      have e : (2 * A * M + 1) * H = 2 * (A * (H * M)) + H := by grind
      lia
    have h2 : Bk ^ (A - 1) ≤ ((2 * A * M + 1) * H) ^ (A - 1) := Nat.pow_le_pow_left h1 _
    rw [Nat.mul_pow] at h2
    have h3 : H * H ^ (A - 1) = H ^ A := by
      rw [← Nat.pow_succ']; congr 1; lia
    have h4 : H ^ A < (H + 1) ^ A := Nat.pow_lt_pow_left (by lia) (by lia)
    have h5 : (2 * A * M + 1) ^ (A - 1) * H ^ (A - 1) = H ^ A := h3
    lia
  obtain ⟨x, y, hxy, hy, hφ⟩ := pigeon _ _ (fun x => enc Bk (wi x) (A - 1)) hcount (fun x _ => enc_lt (hwi x) _)
  have heq := enc_inj (hwi x) (hwi y) _ hφ
  let U := uu x - uu y
  let V := vv x - vv y
  have lU : len U ≤ n := Nat.le_trans (len_sub _ _) (by have := ofF_len (fun i => ((dg (H + 1) x i : Nat) : Int)) n; have := ofF_len (fun i => ((dg (H + 1) y i : Nat) : Int)) n; exact Nat.max_le.mpr ⟨by assumption, by assumption⟩)
  have lV : len V ≤ m := Nat.le_trans (len_sub _ _) (by have := ofF_len (fun i => ((dg (H + 1) x (n + i) : Nat) : Int)) m; have := ofF_len (fun i => ((dg (H + 1) y (n + i) : Nat) : Int)) m; exact Nat.max_le.mpr ⟨by assumption, by assumption⟩)
  have bU : ∀ i, ab (U.c i) ≤ (H : Int) := fun i => by
    show ab ((uu x - uu y).c i) ≤ _
    rw [sub_c]
    show ab ((ofF _ n).c i - (ofF _ n).c i) ≤ _
    rw [ofF_c, ofF_c]
    have h1 := dg_lt (B := H + 1) (by lia) x i
    have h2 := dg_lt (B := H + 1) (by lia) y i
    unfold ab
    split <;> lia
  have bV : ∀ i, ab (V.c i) ≤ (H : Int) := fun i => by
    show ab ((vv x - vv y).c i) ≤ _
    rw [sub_c]
    show ab ((ofF _ m).c i - (ofF _ m).c i) ≤ _
    rw [ofF_c, ofF_c]
    have h1 := dg_lt (B := H + 1) (by lia) x (n + i)
    have h2 := dg_lt (B := H + 1) (by lia) y (n + i)
    unfold ab
    split <;> lia
  have hne : U ≠ 0 ∨ V ≠ 0 := by
    by_cases hU : U = 0
    · refine .inr fun hV => ?_
      have : x = y := dg_inj (by lia) A x y (by lia) hy fun i hi => by
        by_cases hin : i < n
        · have h1 : (uu x - uu y).c i = 0 := by
            have : (uu x - uu y) = 0 := hU
            rw [this, zero_c]
          rw [sub_c] at h1
          have h2 : (uu x).c i = ((dg (H + 1) x i : Nat) : Int) := by show (ofF _ n).c i = _; rw [ofF_c, if_pos hin]
          have h3 : (uu y).c i = ((dg (H + 1) y i : Nat) : Int) := by show (ofF _ n).c i = _; rw [ofF_c, if_pos hin]
          lia
        · have h1 : (vv x - vv y).c (i - n) = 0 := by
            have : (vv x - vv y) = 0 := hV
            rw [this, zero_c]
          rw [sub_c] at h1
          have him : i - n < m := by lia
          have ein : n + (i - n) = i := by lia
          have h2 : (vv x).c (i - n) = ((dg (H + 1) x (n + (i - n)) : Nat) : Int) := by show (ofF _ m).c (i - n) = _; rw [ofF_c, if_pos him]
          have h3 : (vv y).c (i - n) = ((dg (H + 1) y (n + (i - n)) : Nat) : Int) := by show (ofF _ m).c (i - n) = _; rw [ofF_c, if_pos him]
          rw [ein] at h2 h3
          lia
      lia
    · exact .inl hU
  refine ⟨U, V, lU, lV, hne, bU, bV, fun j hj => ?_, bw U V lU lV bU bV⟩
  have h1 := heq j hj
  have b1 := bw (uu x) (vv x) (ofF_len _ _) (ofF_len _ _) (bu x) (bv x) (off + j)
  have b2 := bw (uu y) (vv y) (ofF_len _ _) (ofF_len _ _) (bu y) (bv y) (off + j)
  have h2 : ((ww x).c (off + j) + Bz).toNat = ((ww y).c (off + j) + Bz).toNat := h1
  have b1' : ab ((ww x).c (off + j)) ≤ ((Bz : Nat) : Int) := b1
  have b2' : ab ((ww y).c (off + j)) ≤ ((Bz : Nat) : Int) := b2
  unfold ab at b1' b2'
  have h3 : (ww x).c (off + j) = (ww y).c (off + j) := by lia
  have e : U * f + V * g = ww x - ww y := by
    show (uu x - uu y) * f + (vv x - vv y) * g = uu x * f + vv x * g - (uu y * f + vv y * g)
    grind
  rw [e, sub_c, h3]; lia
theorem mul_high' {W z : Po} {a b i : Nat} (l : len W ≤ a) (e : a + len z ≤ b + 1) (hi : b ≤ i) : (W * z).c i = 0 := by
  by_cases hW : W = 0
  · rw [hW]; have : (0 : Po) * z = 0 := by grind
    rw [this, zero_c]
  · by_cases hz : z = 0
    · rw [hz]; have : W * (0 : Po) = 0 := by grind
      rw [this, zero_c]
    · have := len_mul hW hz
      exact c_ge (by lia)
theorem siegel {f g h f1 g1 u0 v0 : Po} {c0 : Int} {M : Nat} (hh : h ≠ 0) (hf1 : f1 ≠ 0) (hg1 : g1 ≠ 0) (ef : f = h * f1) (eg : g = h * g1)
    (eb : u0 * f1 + v0 * g1 = K c0) (hc0 : c0 ≠ 0) (hM1 : ∀ i, ab (f.c i) ≤ M) (hM2 : ∀ i, ab (g.c i) ≤ M) {A : Nat} (hA : len f1 + len g1 = A + 2) (hA0 : 0 < A) :
    ∃ (U V : Po) (r : Int), r ≠ 0 ∧ U * f1 + V * g1 = K r ∧ ∀ i, ab (r * h.c i) ≤ ((A * ((2 * A * M + 1) ^ (A - 1) * M) : Nat) : Int) := by
  have lf := len_mul hh hf1
  have lg := len_mul hh hg1
  rw [← ef] at lf
  rw [← eg] at lg
  have hp1 := len_pos hf1
  have hp2 := len_pos hg1
  have hph := len_pos hh
  obtain ⟨U, V, lU, lV, hne, bU, bV, hz, hsmall⟩ := sieg_core (f := f) (g := g) hM1 hM2 (n := len g1 - 1) (m := len f1 - 1) (A := A) (by lia) hA0 (len h)
  let R := U * f + V * g
  have eR : R = h * (U * f1 + V * g1) := by
    show U * f + V * g = _
    rw [ef, eg]; grind
  have lR : len R ≤ len h := len_le fun i hi => by
    by_cases hi2 : i < len h + A - 1
    · have := hz (i - len h) (by lia)
      have ei : len h + (i - len h) = i := by lia
      rw [ei] at this; exact this
    · show (U * f + V * g).c i = 0
      rw [add_c, mul_high' (W := U) (z := f) (b := len h + A - 1) lU (by lia) (by lia), mul_high' (W := V) (z := g) (b := len h + A - 1) lV (by lia) (by lia)]; rfl
  have hr1 : len (U * f1 + V * g1) ≤ 1 := by
    by_cases h0 : U * f1 + V * g1 = 0
    · rw [h0, len_zero]; lia
    · have := len_mul hh h0
      rw [← eR] at this
      lia
  have er := of_len_one hr1
  refine ⟨U, V, (U * f1 + V * g1).c 0, ?_, er, ?_⟩
  · intro z
    rw [z, K_zero] at er
    have dv : D f1 V := ⟨c0, hc0, u0 * V - v0 * U, by
      rw [← eb]
      have : V * g1 = - (U * f1) := by grind
      have e2 : (u0 * f1 + v0 * g1) * V = u0 * f1 * V + v0 * (V * g1) := by grind
      rw [e2, this]; grind⟩
    have du : D g1 U := ⟨c0, hc0, v0 * U - u0 * V, by
      rw [← eb]
      have : U * f1 = - (V * g1) := by grind
      have e2 : (u0 * f1 + v0 * g1) * U = u0 * (U * f1) + v0 * g1 * U := by grind
      rw [e2, this]; grind⟩
    rcases hne with hU | hV
    · have := du.len hU
      lia
    · have := dv.len hV
      lia
  · intro i
    have h1 := hsmall i
    have e : U * f + V * g = K ((U * f1 + V * g1).c 0) * h := by
      show R = _
      rw [eR, ← er]; grind
    rw [e, Kmul_c] at h1
    exact h1
end Po
end SF
namespace SF
open Lean.Grind
namespace Po
theorem ofL_prim {xs : List Int} (h : Tr xs) (hn : xs ≠ []) : ofL xs = K (cont xs) * ofL (primL xs) := ext fun i => by
  rw [Kmul_c, ofL_c, ofL_c]
  by_cases hi : i < xs.length
  · have := primL_co hi; grind
  · rw [co_ge (by lia), co_ge (by rw [primL_len]; lia)]; grind
theorem co_mem {xs : List Int} {x : Int} (h : x ∈ xs) : ∃ i, co xs i = x := by
  obtain ⟨i, hi, e⟩ := List.getElem_of_mem h
  exact ⟨i, by rw [co_lt hi, e]⟩
theorem prim_Pr {xs : List Int} (h : Tr xs) (hn : xs ≠ []) : Pr (ofL (primL xs)) := fun p hp => by
  have h1 : p ∣ contN (primL xs) := (contN_dvd _ _).mpr fun x hx => by
    obtain ⟨i, e⟩ := co_mem hx
    rw [← e]; exact hp i
  rw [primL_contN h hn] at h1
  exact Nat.eq_one_of_dvd_one h1
theorem prim_lead {xs : List Int} (h : Tr xs) (hn : xs ≠ []) : 0 < (ofL (primL xs)).c (len (ofL (primL xs)) - 1) := by
  rw [len_ofL (primL_tr h), primL_len]; exact primL_last h hn
theorem lst_ne {f : Po} (h : f ≠ 0) : lst f ≠ [] := List.length_pos_iff.mp (len_pos h)
theorem prim_of {xs : List Int} (h : Tr xs) {b : Int} {f : Po} (hb : b ≠ 0) (e : ofL xs = K b * f) (hf : Pr f) (hl : 0 < f.c (len f - 1)) : ofL (primL xs) = f := by
  have hn : xs ≠ [] := by
    rintro rfl
    rw [ofL_nil] at e
    exact mul_ne (K_ne hb) hf.ne e.symm
  have hc := cont_ne h hn
  have e2 := ofL_prim h hn
  refine (prim_Pr h hn).same hf ?_ ?_ (prim_lead h hn) hl
  · refine D.unK hb ?_
    rw [← e, e2]; exact (D.refl _).mulL _
  · refine D.unK hc ?_
    rw [← e2, e]; exact (D.refl _).mulL _
structure GC (f g d : Po) : Prop where
  pr : Pr d
  pos : 0 < d.c (len d - 1)
  df : D d f
  dg : D d g
  bz : ∃ (u v : Po) (a : Int), a ≠ 0 ∧ u * f + v * g = K a * d
theorem GC.grt {f g d e : Po} (h : GC f g d) (h1 : D e f) (h2 : D e g) : D e d := by
  obtain ⟨u, v, a, ha, eq⟩ := h.bz
  refine D.unK ha ?_
  rw [← eq]
  exact (h1.mulL u).add (h2.mulL v)
theorem GC.uniq {f g d e : Po} (h : GC f g d) (h' : GC f g e) : d = e :=
  h.pr.same h'.pr (h'.grt h.df h.dg) (h.grt h'.df h'.dg) h.pos h'.pos
theorem GC.symm {f g d : Po} (h : GC f g d) : GC g f d := by
  obtain ⟨u, v, a, ha, eq⟩ := h.bz
  exact ⟨h.pr, h.pos, h.dg, h.df, v, u, a, ha, by grind⟩
theorem GC.ex {f g : Po} (h : f ≠ 0 ∨ g ≠ 0) : ∃ d, GC f g d := by
  obtain ⟨d, u, v, hd, e, d1, d2⟩ := bezout _ f g (Nat.le_refl _) h
  have hn := lst_ne hd
  have ht := lst_tr d
  have e2 : d = K (cont (lst d)) * ofL (primL (lst d)) := by
    conv => lhs; rw [← ofL_lst d]
    exact ofL_prim ht hn
  have hc := cont_ne ht hn
  have hd2 : D (ofL (primL (lst d))) d := by
    conv => rhs; rw [e2]
    exact (D.refl _).mulL _
  exact ⟨ofL (primL (lst d)), prim_Pr ht hn, prim_lead ht hn, hd2.trans d1, hd2.trans d2, u, v, _, hc, by rw [e]; exact e2⟩
theorem GC.scale {f g d : Po} {a b : Int} (ha : a ≠ 0) (hb : b ≠ 0) (h : GC f g d) : GC (K a * f) (K b * g) d := by
  obtain ⟨u, v, c, hc, eq⟩ := h.bz
  refine ⟨h.pr, h.pos, h.df.mulL _, h.dg.mulL _, K b * u, K a * v, a * b * c, Int.mul_ne_zero (Int.mul_ne_zero ha hb) hc, ?_⟩
  rw [K_mul, K_mul]; grind
structure Spr (p v : Int) (xs : List Int) : Prop where
  val : evL p xs = v
  bal : ∀ x ∈ xs, -p < 2 * x ∧ 2 * x ≤ p
  tr : Tr xs
theorem bal_inj {p : Int} (hp : 0 < p) : ∀ xs ys : List Int, (∀ x ∈ xs, -p < 2 * x ∧ 2 * x ≤ p) → (∀ x ∈ ys, -p < 2 * x ∧ 2 * x ≤ p) → evL p xs = evL p ys → ∀ i, co xs i = co ys i
  | [], [], _, _, _, i => rfl
  | x :: r, [], hx, hy, e, i => by
    have h1 := hx x List.mem_cons_self
    have e1 : x + p * evL p r = 0 := e
    have hd : x = 0 := by
      have h2 : p ∣ x := ⟨-evL p r, by grind⟩
      obtain ⟨k, rfl⟩ := h2
      have : k = 0 := by
        rcases Int.lt_trichotomy k 0 with hk | hk | hk
        · have : p * k ≤ p * (-1) := Int.mul_le_mul_of_nonneg_left (by lia) (by lia)
          lia
        · exact hk
        · have : p * 1 ≤ p * k := Int.mul_le_mul_of_nonneg_left (by lia) (by lia)
          lia
      rw [this]; simp
    have e2 : evL p r = evL p [] := by
      rw [hd] at e1
      have e3 : p * evL p r = 0 := by lia
      rcases Int.mul_eq_zero.mp e3 with z | z
      · lia
      · rw [z]; rfl
    have ih := bal_inj hp r [] (fun x h => hx x (List.mem_cons_of_mem _ h)) hy e2
    cases i with
    | zero => rw [co_zero, hd]; rfl
    | succ i => rw [co_succ, ih i]; rfl
  | [], y :: s, hx, hy, e, i => by
    have h1 := hy y List.mem_cons_self
    have e1 : 0 = y + p * evL p s := e
    have hd : y = 0 := by
      have h2 : p ∣ y := ⟨-evL p s, by grind⟩
      obtain ⟨k, rfl⟩ := h2
      have : k = 0 := by
        rcases Int.lt_trichotomy k 0 with hk | hk | hk
        · have : p * k ≤ p * (-1) := Int.mul_le_mul_of_nonneg_left (by lia) (by lia)
          lia
        · exact hk
        · have : p * 1 ≤ p * k := Int.mul_le_mul_of_nonneg_left (by lia) (by lia)
          lia
      rw [this]; simp
    have e2 : evL p [] = evL p s := by
      rw [hd] at e1
      have e3 : p * evL p s = 0 := by lia
      rcases Int.mul_eq_zero.mp e3 with z | z
      · lia
      · rw [z]; rfl
    have ih := bal_inj hp [] s hx (fun x h => hy x (List.mem_cons_of_mem _ h)) e2
    cases i with
    | zero => rw [co_zero, hd]; rfl
    | succ i => rw [co_succ, ← ih i]; rfl
  | x :: r, y :: s, hx, hy, e, i => by
    have h1 := hx x List.mem_cons_self
    have h2 := hy y List.mem_cons_self
    have e1 : x + p * evL p r = y + p * evL p s := e
    have hd : x = y := by
      have h3 : x - y = p * (evL p s - evL p r) := by grind
      generalize evL p s - evL p r = k at h3
      have : k = 0 := by
        rcases Int.lt_trichotomy k 0 with hk | hk | hk
        · have : p * k ≤ p * (-1) := Int.mul_le_mul_of_nonneg_left (by lia) (by lia)
          lia
        · exact hk
        · have : p * 1 ≤ p * k := Int.mul_le_mul_of_nonneg_left (by lia) (by lia)
          lia
      rw [this] at h3; lia
    have e2 : evL p r = evL p s := by
      have e3 : p * evL p r = p * evL p s := by lia
      exact Int.eq_of_mul_eq_mul_left (by lia) e3
    have ih := bal_inj hp r s (fun x h => hx x (List.mem_cons_of_mem _ h)) (fun x h => hy x (List.mem_cons_of_mem _ h)) e2
    cases i with
    | zero => rw [co_zero, co_zero, hd]
    | succ i => rw [co_succ, co_succ, ih i]
theorem Spr.uniq {p v : Int} (hp : 0 < p) {xs ys : List Int} (h : Spr p v xs) (h' : Spr p v ys) : xs = ys :=
  h.tr.inj h'.tr (bal_inj hp xs ys h.bal h'.bal (by rw [h.val, h'.val]))
theorem mem_co {xs : List Int} {M : Int} (h : ∀ x ∈ xs, ab x ≤ M) (h0 : 0 ≤ M) (i : Nat) : ab (co xs i) ≤ M := by
  by_cases hi : i < xs.length
  · rw [co_lt hi]; exact h _ (List.getElem_mem _)
  · rw [co_ge (by lia)]; exact h0
theorem gcd_right {f g : Po} {M p : Int} (hf : Pr f) (hg : Pr g) (hM : (∀ i, ab (f.c i) ≤ M) ∨ (∀ i, ab (g.c i) ≤ M)) (hp : 2 * (M + 1) < p) {G : List Int}
    (hs : Spr p ((Int.gcd (ev p f) (ev p g) : Nat) : Int) G) (d1 : D (ofL (primL G)) f) (d2 : D (ofL (primL G)) g) : GC f g (ofL (primL G)) := by
  have hM0 : 0 ≤ M := by
    rcases hM with h | h
    · exact Int.le_trans (ab_nonneg _) (h 0)
    · exact Int.le_trans (ab_nonneg _) (h 0)
  have nz : ∀ w : Po, w ≠ 0 → (∀ i, ab (w.c i) ≤ M) → ev p w ≠ 0 := fun w hw hb => by
    by_cases hl : 2 ≤ len w
    · have := low_bound hw (show w = w * 1 by grind) hl hb (p := p) (by lia)
      intro z
      rw [z] at this
      have h0 : ab 0 = 0 := rfl
      lia
    · have e := of_len_one (f := w) (by lia)
      rw [e, ev_K]
      intro z
      rw [z, K_zero] at e
      exact hw e
  have hγ : Int.gcd (ev p f) (ev p g) ≠ 0 := by
    rcases hM with h | h
    · exact Nat.ne_of_gt (Int.gcd_pos_of_ne_zero_left _ (nz f hf.ne h))
    · exact Nat.ne_of_gt (Int.gcd_pos_of_ne_zero_right _ (nz g hg.ne h))
  have hGn : G ≠ [] := by
    rintro rfl
    have : (0 : Int) = ((Int.gcd (ev p f) (ev p g) : Nat) : Int) := hs.val
    lia
  have eG := ofL_prim hs.tr hGn
  have hc := cont_ne hs.tr hGn
  have pf := prim_Pr hs.tr hGn
  have lf := prim_lead hs.tr hGn
  generalize hfd : ofL (primL G) = fd at *
  have hcb : 2 * ab (cont G) ≤ p := by
    have hm := last_mem hGn
    have h1 := hs.bal _ hm
    have h2 := hs.tr.last hGn
    have h3 : (cont G).natAbs ≤ (co G (G.length - 1)).natAbs := Nat.le_of_dvd (by lia) (Int.natAbs_dvd_natAbs.mpr (cont_dvd hm))
    unfold ab
    lia
  have eγ : ((Int.gcd (ev p f) (ev p g) : Nat) : Int) = cont G * ev p fd := by
    rw [← hs.val, ← ev_ofL, eG, ev_Kmul]
  have hfd0 : ev p fd ≠ 0 := fun z => by
    rw [z, Int.mul_zero] at eγ; lia
  obtain ⟨h, gc⟩ := GC.ex (f := f) (g := g) (.inl hf.ne)
  have dh : D fd h := gc.grt d1 d2
  obtain ⟨k, ek⟩ := pf.div dh
  obtain ⟨f1, e1⟩ := gc.pr.div gc.df
  obtain ⟨g1, e2⟩ := gc.pr.div gc.dg
  have hk0 : k ≠ 0 := by rintro rfl; exact gc.pr.ne (by rw [ek]; grind)
  have hdv : ev p k ∣ cont G := by
    have h1 : ev p h ∣ ((Int.gcd (ev p f) (ev p g) : Nat) : Int) := Int.dvd_coe_gcd (ev_dvd p e1) (ev_dvd p e2)
    rw [eγ, ek, ev_mul, Int.mul_comm (ev p fd)] at h1
    exact Int.dvd_of_mul_dvd_mul_right hfd0 h1
  have hle : ab (ev p k) ≤ ab (cont G) := by
    unfold ab
    have := Nat.le_of_dvd (by lia) (Int.natAbs_dvd_natAbs.mpr hdv)
    lia
  have hlk : len k ≤ 1 := by
    rcases Nat.lt_or_ge 1 (len k) with hl | hl
    · exfalso
      have hlow : p - (M + 1) ≤ ab (ev p k) := by
        rcases hM with hb | hb
        · exact low_bound hf.ne (show f = k * (fd * f1) by rw [e1, ek]; grind) hl hb (by lia)
        · exact low_bound hg.ne (show g = k * (fd * g1) by rw [e2, ek]; grind) hl hb (by lia)
      lia
    · exact hl
  have ekc := of_len_one hlk
  have hb : k.c 0 ≠ 0 := fun z => hk0 (by rw [ekc, z, K_zero])
  obtain ⟨u, v, a, ha, eq⟩ := gc.bz
  refine ⟨pf, lf, d1, d2, u, v, a * k.c 0, Int.mul_ne_zero ha hb, ?_⟩
  rw [eq, ek, K_mul, ← ekc]; grind
noncomputable def NB (A M : Nat) : Nat := (A + 1) * ((2 * A * M + 1) ^ A * M)
theorem NB_mono {A B M N : Nat} (h : A ≤ B) (h' : M ≤ N) : NB A M ≤ NB B N := by
  unfold NB
  refine Nat.mul_le_mul (by lia) (Nat.mul_le_mul ?_ h')
  refine Nat.le_trans (Nat.pow_le_pow_left (n := 2 * A * M + 1) (m := 2 * B * N + 1) ?_ A) (Nat.pow_le_pow_right (by lia) h)
  have := Nat.mul_le_mul (Nat.mul_le_mul_left 2 h) h'
  lia
theorem gcd_small {f g h f1 g1 : Po} {M A : Nat} (hf : Pr f) (hg : Pr g) (hM1 : ∀ i, ab (f.c i) ≤ M) (hM2 : ∀ i, ab (g.c i) ≤ M) (gc : GC f g h) (e1 : f = h * f1) (e2 : g = h * g1) (hA : len f + len g ≤ A + 2) :
    ∃ (U V : Po) (r : Int), r ≠ 0 ∧ U * f1 + V * g1 = K r ∧ ∀ i, ab (r * h.c i) ≤ ((NB A M : Nat) : Int) := by
  have hh := gc.pr.ne
  have hf1 : f1 ≠ 0 := by rintro rfl; exact hf.ne (by rw [e1]; grind)
  have hg1 : g1 ≠ 0 := by rintro rfl; exact hg.ne (by rw [e2]; grind)
  obtain ⟨u0, v0, a, ha, eq⟩ := gc.bz
  have eb : u0 * f1 + v0 * g1 = K a := by
    refine Po.cancel hh ?_
    rw [e1, e2] at eq
    grind
  have lf := len_mul hh hf1
  have lg := len_mul hh hg1
  rw [← e1] at lf
  rw [← e2] at lg
  have hph := len_pos hh
  have hp1 := len_pos hf1
  have hp2 := len_pos hg1
  by_cases hA0 : len f1 + len g1 = 2
  · have ek := of_len_one (f := f1) (by lia)
    have hb : f1.c 0 ≠ 0 := fun z => hf1 (by rw [ek, z, K_zero])
    refine ⟨1, 0, f1.c 0, hb, by rw [← ek]; grind, fun i => ?_⟩
    have e3 : f = K (f1.c 0) * h := by rw [← ek, e1]; grind
    have h4 := hM1 i
    rw [e3, Kmul_c] at h4
    have h5 : NB 0 M ≤ NB A M := NB_mono (by lia) (Nat.le_refl _)
    have h6 : NB 0 M = M := by unfold NB; simp
    lia
  · obtain ⟨U, V, r, hr, er, hb⟩ := siegel hh hf1 hg1 e1 e2 eb ha hM1 hM2 (A := len f1 + len g1 - 2) (by lia) (by lia)
    refine ⟨U, V, r, hr, er, fun i => Int.le_trans (hb i) ?_⟩
    refine Int.ofNat_le.mpr ?_
    generalize hB : len f1 + len g1 - 2 = B
    have h5 : NB B M ≤ NB A M := NB_mono (by lia) (Nat.le_refl _)
    refine Nat.le_trans ?_ h5
    unfold NB
    refine Nat.mul_le_mul (by lia) (Nat.mul_le_mul_right _ ?_)
    exact Nat.pow_le_pow_right (by lia) (by lia)
theorem gcd_found {f g h : Po} {M A : Nat} (hf : Pr f) (hg : Pr g) (hM1 : ∀ i, ab (f.c i) ≤ M) (hM2 : ∀ i, ab (g.c i) ≤ M) (gc : GC f g h) (hA : len f + len g ≤ A + 2) {p : Int}
    (hp : 2 * ((NB A M : Nat) : Int) < p) {G : List Int} (hs : Spr p ((Int.gcd (ev p f) (ev p g) : Nat) : Int) G) (hγ : Int.gcd (ev p f) (ev p g) ≠ 0) : ofL (primL G) = h := by
  obtain ⟨f1, e1⟩ := gc.pr.div gc.df
  obtain ⟨g1, e2⟩ := gc.pr.div gc.dg
  have hh := gc.pr.ne
  have hf1 : f1 ≠ 0 := by rintro rfl; exact hf.ne (by rw [e1]; grind)
  have hg1 : g1 ≠ 0 := by rintro rfl; exact hg.ne (by rw [e2]; grind)
  obtain ⟨U, V, r, hr, er, hb⟩ := gcd_small hf hg hM1 hM2 gc e1 e2 hA
  let c : Nat := Int.gcd (ev p f1) (ev p g1)
  have hcr : (c : Int) ∣ r := by
    have := congrArg (ev p) er
    rw [ev_add, ev_mul, ev_mul, ev_K] at this
    rw [← this]
    exact Int.dvd_add (Int.dvd_mul_of_dvd_right (Int.gcd_dvd_left ..)) (Int.dvd_mul_of_dvd_right (Int.gcd_dvd_right ..))
  have eγ : ((Int.gcd (ev p f) (ev p g) : Nat) : Int) = ab (ev p h) * c := by
    rw [e1, e2, ev_mul, ev_mul, Int.gcd_mul_left]
    push_cast; rfl
  have hc0 : (c : Int) ≠ 0 := fun z => by
    rw [z, Int.mul_zero] at eγ; lia
  have hh0 : ev p h ≠ 0 := fun z => by
    rw [z] at eγ
    have h0 : ab 0 = 0 := rfl
    rw [h0, Int.zero_mul] at eγ; lia
  obtain ⟨s, hs1, hs2⟩ : ∃ s : Int, (s = 1 ∨ s = -1) ∧ ab (ev p h) = s * ev p h := by
    rcases Int.le_total 0 (ev p h) with z | z
    · exact ⟨1, .inl rfl, by rw [ab_of z]; lia⟩
    · exact ⟨-1, .inr rfl, by unfold ab; lia⟩
  have hsc : s * c ≠ 0 := Int.mul_ne_zero (by lia) hc0
  have hs' : Spr p ((Int.gcd (ev p f) (ev p g) : Nat) : Int) (lst (K (s * c) * h)) := by
    refine ⟨?_, ?_, lst_tr _⟩
    · rw [← ev_ofL, ofL_lst, ev_Kmul, eγ, hs2]; grind
    · intro x hx
      obtain ⟨i, ei⟩ := co_mem hx
      rw [lst_co, Kmul_c] at ei
      have h1 := hb i
      have h2 : ab x ≤ ab (r * h.c i) := by
        rw [← ei, ab_mul (s * c), ab_mul r]
        refine Int.mul_le_mul_of_nonneg_right ?_ (ab_nonneg _)
        have h3 : (c : Int).natAbs ≤ r.natAbs := Nat.le_of_dvd (by lia) (Int.natAbs_dvd_natAbs.mpr hcr)
        rw [ab_mul]
        have h4 : ab s = 1 := by rcases hs1 with z | z <;> rw [z] <;> rfl
        rw [h4, Int.one_mul]
        unfold ab; lia
      unfold ab at h1 h2
      lia
  have hp0 : 0 < p := by lia
  rw [hs.uniq hp0 hs']
  exact prim_of (lst_tr _) hsc (ofL_lst _) gc.pr gc.pos
end Po
end SF
namespace SF
open Lean.Grind
namespace Po
theorem ofL_ne {xs : List Int} (h : Tr xs) (hn : xs ≠ []) : ofL xs ≠ 0 := ne_of_len (by rw [len_ofL h]; exact List.length_pos_iff.mpr hn)
theorem prim_self {xs : List Int} (h : Tr xs) (hp : Pr (ofL xs)) (hl : 0 < (ofL xs).c (len (ofL xs) - 1)) : primL xs = xs :=
  ofL_inj (primL_tr h) h (prim_of h (b := 1) (by decide) (by rw [K_one]; grind) hp hl)
open Classical in
noncomputable def gcdL (xs ys : List Int) : List Int := if h : ofL xs ≠ 0 ∨ ofL ys ≠ 0 then lst (choose (GC.ex h)) else []
theorem gcdL_tr (xs ys : List Int) : Tr (gcdL xs ys) := by
  unfold gcdL; split
  · exact lst_tr _
  · exact Tr.nil
theorem gcdL_gc {xs ys : List Int} (h : ofL xs ≠ 0 ∨ ofL ys ≠ 0) : GC (ofL xs) (ofL ys) (ofL (gcdL xs ys)) := by
  unfold gcdL
  rw [dif_pos h, ofL_lst]
  exact Classical.choose_spec (GC.ex h)
theorem gcdL_of {xs ys ds : List Int} (hd : Tr ds) (h : GC (ofL xs) (ofL ys) (ofL ds)) : ds = gcdL xs ys := by
  have h0 : ofL xs ≠ 0 ∨ ofL ys ≠ 0 := by
    by_cases hx : ofL xs = 0
    · refine .inr fun hy => ?_
      obtain ⟨u, v, a, ha, e⟩ := h.bz
      rw [hx, hy] at e
      exact mul_ne (K_ne ha) h.pr.ne (by grind)
    · exact .inl hx
  exact ofL_inj hd (gcdL_tr _ _) (h.uniq (gcdL_gc h0))
theorem gcdL_comm (xs ys : List Int) : gcdL xs ys = gcdL ys xs := by
  by_cases h : ofL xs ≠ 0 ∨ ofL ys ≠ 0
  · exact gcdL_of (gcdL_tr _ _) (gcdL_gc h).symm
  · unfold gcdL
    rw [dif_neg h, dif_neg fun z => h z.symm]
theorem gcdL_nil {xs : List Int} (h : Tr xs) : gcdL xs [] = primL xs := by
  by_cases hn : xs = []
  · subst hn
    unfold gcdL
    rw [dif_neg (by rw [ofL_nil]; intro z; rcases z with z | z <;> exact z rfl)]
    rfl
  · refine (gcdL_of (primL_tr h) ?_).symm
    have e := ofL_prim h hn
    refine ⟨prim_Pr h hn, prim_lead h hn, ?_, ?_, 1, 0, cont xs, cont_ne h hn, ?_⟩
    · rw [e]; exact (D.refl _).mulL _
    · rw [ofL_nil]; exact D.zero _
    · rw [← e]; grind
theorem gcdL_scale {xs ys : List Int} (hx : Tr xs) (hy : Tr ys) (hxn : xs ≠ []) (hyn : ys ≠ []) : gcdL (primL xs) (primL ys) = gcdL xs ys := by
  refine gcdL_of (gcdL_tr _ _) ?_
  rw [ofL_prim hx hxn, ofL_prim hy hyn]
  exact (gcdL_gc (.inl (prim_Pr hx hxn).ne)).scale (cont_ne hx hxn) (cont_ne hy hyn)
theorem gcdL_ne {xs ys : List Int} (h : ofL xs ≠ 0 ∨ ofL ys ≠ 0) : gcdL xs ys ≠ [] := fun z => (gcdL_gc h).pr.ne (by rw [z, ofL_nil])
theorem gcdL_prim {xs ys : List Int} (h : ofL xs ≠ 0 ∨ ofL ys ≠ 0) : primL (gcdL xs ys) = gcdL xs ys := prim_self (gcdL_tr _ _) (gcdL_gc h).pr (gcdL_gc h).pos
open Classical in
noncomputable def quoL (xs ys : List Int) : List Int := if h : ∃ q, ofL (primL xs) = ofL (primL ys) * q then lst (choose h) else []
theorem quoL_tr (xs ys : List Int) : Tr (quoL xs ys) := by
  unfold quoL; split
  · exact lst_tr _
  · exact Tr.nil
theorem quoL_eq {xs ys : List Int} (hx : Tr xs) (hy : Tr ys) (hxn : xs ≠ []) (hyn : ys ≠ []) (h : D (ofL ys) (ofL xs)) : ofL (primL xs) = ofL (primL ys) * ofL (quoL xs ys) := by
  have h2 : ∃ q, ofL (primL xs) = ofL (primL ys) * q := by
    refine (prim_Pr hy hyn).div ?_
    refine D.unK (cont_ne hx hxn) ?_
    rw [← ofL_prim hx hxn]
    refine D.trans ?_ h
    rw [ofL_prim hy hyn]; exact (D.refl _).mulL _
  unfold quoL
  rw [dif_pos h2, ofL_lst]
  exact Classical.choose_spec h2
theorem quoL_of {xs ys qs : List Int} (hy : Tr ys) (hyn : ys ≠ []) (hq : Tr qs) (e : ofL (primL xs) = ofL (primL ys) * ofL qs) : qs = quoL xs ys := by
  have h2 : ∃ q, ofL (primL xs) = ofL (primL ys) * q := ⟨_, e⟩
  refine ofL_inj hq (quoL_tr _ _) ?_
  unfold quoL
  rw [dif_pos h2, ofL_lst]
  have e2 := Classical.choose_spec h2
  exact cancel (prim_Pr hy hyn).ne (e.symm.trans e2)
theorem quoL_pr {xs ys : List Int} (hx : Tr xs) (hy : Tr ys) (hxn : xs ≠ []) (hyn : ys ≠ []) (h : D (ofL ys) (ofL xs)) : Pr (ofL (quoL xs ys)) ∧ 0 < (ofL (quoL xs ys)).c (len (ofL (quoL xs ys)) - 1) := by
  have e := quoL_eq hx hy hxn hyn h
  have p := prim_Pr hx hxn
  have l := prim_lead hx hxn
  have ly := prim_lead hy hyn
  rw [e] at p l
  have hq := p.of_mul
  refine ⟨hq, ?_⟩
  rw [lead_mul (prim_Pr hy hyn).ne hq.ne] at l
  rcases Int.lt_or_le 0 ((ofL (quoL xs ys)).c (len (ofL (quoL xs ys)) - 1)) with z | z
  · exact z
  · have := Int.mul_nonpos_of_nonneg_of_nonpos (Int.le_of_lt ly) z
    lia
noncomputable def sfL (xs : List Int) : List Int := quoL xs (gcdL xs (derL xs))
structure SFr (p f : Po) : Prop where
  pr : Pr p
  pos : 0 < p.c (len p - 1)
  irr : ∀ π, Irr π → (D π p ↔ D π f)
  sq : ∀ π, Irr π → ¬ D (π * π) p
theorem SFr.uniq {p q f g : Po} (h : SFr p f) (h' : SFr q g) (e : ∀ π, Irr π → (D π f ↔ D π g)) : p = q := by
  refine h.pr.same h'.pr ?_ ?_ h.pos h'.pos
  · exact sq_dvd _ p q (Nat.le_refl _) h.pr.ne h.sq fun π hp z => (h'.irr π hp).mpr ((e π hp).mp ((h.irr π hp).mp z))
  · exact sq_dvd _ q p (Nat.le_refl _) h'.pr.ne h'.sq fun π hp z => (h.irr π hp).mpr ((e π hp).mpr ((h'.irr π hp).mp z))
theorem sf_D {xs : List Int} (hx : Tr xs) (hxn : xs ≠ []) : D (ofL (gcdL xs (derL xs))) (ofL xs) := (gcdL_gc (.inl (ofL_ne hx hxn))).df
theorem sfL_tr (xs : List Int) : Tr (sfL xs) := quoL_tr _ _
theorem sf_ok {xs : List Int} (hx : Tr xs) (hxn : xs ≠ []) : SFr (ofL (sfL xs)) (ofL xs) := by
  have h0 : ofL xs ≠ 0 ∨ ofL (derL xs) ≠ 0 := .inl (ofL_ne hx hxn)
  have gc := gcdL_gc h0
  have hd := sf_D hx hxn
  have hg := gcdL_tr xs (derL xs)
  have hgn := gcdL_ne h0
  have hq := quoL_pr hx hg hxn hgn hd
  have e := quoL_eq hx hg hxn hgn hd
  rw [gcdL_prim h0] at e
  have e2 : ofL xs = ofL (gcdL xs (derL xs)) * (K (cont xs) * ofL (sfL xs)) := by
    rw [ofL_prim hx hxn, e]
    show K (cont xs) * (ofL (gcdL xs (derL xs)) * ofL (sfL xs)) = _
    grind
  obtain ⟨u, v, a, ha, eb⟩ := gc.bz
  rw [ofL_der] at eb
  have hc := cont_ne hx hxn
  have key : ∀ π, Irr π → (D π (ofL (sfL xs)) ↔ D π (ofL xs)) ∧ ¬ D (π * π) (ofL (sfL xs)) := fun π hp => by
    have d1 : D (K a * ofL (gcdL xs (derL xs))) (ofL xs) := gc.df.Kl ha
    have d2 : D (K a * ofL (gcdL xs (derL xs))) (der (ofL xs)) := by rw [← ofL_der]; exact gc.dg.Kl ha
    have e3 : K a * ofL xs = K a * ofL (gcdL xs (derL xs)) * (K (cont xs) * ofL (sfL xs)) := by
      conv => lhs; rw [e2]
      grind
    have := sq_main (ofL_ne hx hxn) eb d1 d2 ha e3 hp
    refine ⟨⟨fun z => this.1.mp (z.mulL _), fun z => ?_⟩, fun z => this.2 (z.mulL _)⟩
    exact D.unK hc (this.1.mpr z)
  exact ⟨hq.1, hq.2, fun π hp => (key π hp).1, fun π hp => (key π hp).2⟩
theorem sf_gcd {xs : List Int} (hx : Tr xs) (h : SFr (ofL xs) (ofL xs)) : gcdL xs (derL xs) = [1] := by
  have hn : ofL xs ≠ 0 := h.pr.ne
  have gc := gcdL_gc (xs := xs) (ys := derL xs) (.inl hn)
  have hl : len (ofL (gcdL xs (derL xs))) ≤ 1 := by
    rcases Nat.lt_or_ge 1 (len (ofL (gcdL xs (derL xs)))) with hl | hl
    · exfalso
      obtain ⟨π, hp, hd⟩ := Irr.ex _ _ (Nat.le_refl _) hl
      have d1 := hd.trans gc.df
      have d2 := hd.trans gc.dg
      rw [ofL_der] at d2
      obtain ⟨a, ha, u, e⟩ := d1
      have e2 := congrArg der e
      rw [der_Kmul, der_mul] at e2
      have d3 : D π (der π * u) := by
        have h3 : D π (K a * der (ofL xs) - π * der u) := (d2.mulL _).sub (D.mul π _)
        have e3 : K a * der (ofL xs) - π * der u = der π * u := by grind
        rw [e3] at h3; exact h3
      rcases hp.prime d3 with z | z
      · exact hp.der z
      · refine h.sq π hp (D.unK ha ?_)
        rw [e]; exact z.mulB
    · exact hl
  have e := of_len_one hl
  have t1 : Tr [1] := fun x hx => by
    have : 1 = x := by simpa using hx
    lia
  refine ofL_inj (gcdL_tr _ _) t1 ?_
  have hp := gc.pr
  have hpos := gc.pos
  rw [e] at hp hpos ⊢
  generalize (ofL (gcdL xs (derL xs))).c 0 = b at *
  have hb0 : b ≠ 0 := by rintro rfl; exact hp.ne K_zero
  have hb : b.natAbs = 1 := hp _ fun i => by
    rw [K_c]; split
    · exact Int.natAbs_dvd.mpr (Int.dvd_refl b)
    · exact Int.dvd_zero _
  rw [len_K hb0, K_c, if_pos rfl] at hpos
  have : b = 1 := by lia
  rw [this]
  exact ext fun i => by
    rw [K_c, ofL_c]
    cases i with
    | zero => rfl
    | succ i => rfl
theorem gcdL_bd {xs ys : List Int} (hx : Tr xs) (hy : Tr ys) (hxn : xs ≠ []) (hyn : ys ≠ []) {A M : Nat} (hA : xs.length + ys.length ≤ A + 2) (h1 : ∀ i, ab (co (primL xs) i) ≤ M) (h2 : ∀ i, ab (co (primL ys) i) ≤ M) (i : Nat) :
    ab (co (gcdL xs ys) i) ≤ ((NB A M : Nat) : Int) := by
  rw [← gcdL_scale hx hy hxn hyn]
  have gc := gcdL_gc (xs := primL xs) (ys := primL ys) (.inl (prim_Pr hx hxn).ne)
  obtain ⟨f1, e1⟩ := gc.pr.div gc.df
  obtain ⟨g1, e2⟩ := gc.pr.div gc.dg
  have hh := gc.pr.ne
  have pf := prim_Pr hx hxn
  have pg := prim_Pr hy hyn
  have hf1 : f1 ≠ 0 := by rintro rfl; exact pf.ne (by rw [e1]; grind)
  have hg1 : g1 ≠ 0 := by rintro rfl; exact pg.ne (by rw [e2]; grind)
  have hl1 : len (ofL (primL xs)) = xs.length := by rw [len_ofL (primL_tr hx), primL_len]
  have hl2 : len (ofL (primL ys)) = ys.length := by rw [len_ofL (primL_tr hy), primL_len]
  obtain ⟨U, V, r, hr, er, hb⟩ := gcd_small pf pg h1 h2 gc e1 e2 (A := A) (by lia)
  refine Int.le_trans ?_ (hb i)
  rw [ab_mul]
  have g1 : 1 ≤ ab r := ab_pos hr
  have g2 := ab_nonneg (co (gcdL (primL xs) (primL ys)) i)
  have g3 : 1 * ab (co (gcdL (primL xs) (primL ys)) i) ≤ ab r * ab (co (gcdL (primL xs) (primL ys)) i) := Int.mul_le_mul_of_nonneg_right g1 g2
  have g4 : ab (co (gcdL (primL xs) (primL ys)) i) ≤ ab r * ab (co (gcdL (primL xs) (primL ys)) i) := by lia
  exact g4
end Po
end SF
namespace SF
open Lean.Grind
namespace Po
theorem X_add (a b : Nat) : X (a + b) = X a * X b := ext fun i => by
  rw [X_mul_c, X_c, X_c]
  by_cases h : i < a
  · rw [if_pos h, if_neg (by lia)]
  · rw [if_neg h]
    by_cases h2 : i = a + b
    · rw [if_pos h2, if_pos (by lia)]
    · rw [if_neg h2, if_neg (by lia)]
noncomputable def stepL (rs ds : List Int) (t : Int) (k : Nat) : List Int := ofS (fun j => co rs j - if k ≤ j then t * co ds (j - k) else 0) rs.length
theorem stepL_len (rs ds : List Int) (t : Int) (k : Nat) : (stepL rs ds t k).length = rs.length := ofS_length _ _
theorem stepL_co {rs ds : List Int} {t : Int} {k : Nat} (h : k + ds.length ≤ rs.length) (j : Nat) : co (stepL rs ds t k) j = co rs j - if k ≤ j then t * co ds (j - k) else 0 := by
  unfold stepL
  rw [ofS_co]
  split
  · rfl
  · rw [co_ge (xs := rs) (by lia)]
    split
    · rw [co_ge (xs := ds) (by lia)]; grind
    · rfl
theorem stepL_ofL {rs ds : List Int} {t : Int} {k : Nat} (h : k + ds.length ≤ rs.length) : ofL (stepL rs ds t k) = ofL rs - K t * X k * ofL ds := ext fun j => by
  have e : K t * X k * ofL ds = K t * (X k * ofL ds) := by grind
  rw [e, sub_c, Kmul_c, X_mul_c, ofL_c, ofL_c, ofL_c, stepL_co h]
  by_cases hj : k ≤ j
  · rw [if_pos hj, if_neg (by lia)]
  · rw [if_neg hj, if_pos (by lia)]; grind
theorem ofL_init {rs : List Int} (h : co rs (rs.length - 1) = 0) : ofL rs.dropLast = ofL rs := ext fun j => by
  rw [ofL_c, ofL_c, List.dropLast_eq_take, co_take]
  split
  · rfl
  · by_cases hj : j = rs.length - 1
    · rw [hj, h]
    · rw [co_ge (by lia)]
theorem fdiv_le (x y : Int) : (x.fdiv y).natAbs ≤ x.natAbs := by
  rcases Int.lt_trichotomy y 0 with h | h | h
  · have e : x.fdiv y = (-x).fdiv (-y) := by rw [Int.neg_fdiv_neg]
    rw [e, fdiv_pos (by lia : 0 < -y)]
    generalize hz : -y = z
    have hz0 : 0 < z := by lia
    rcases Int.le_total 0 (-x) with hx | hx
    · have h1 := Int.ediv_nonneg hx (by lia : 0 ≤ z)
      have h2 := Int.ediv_le_self z hx
      lia
    · have h1 : (-x) / z ≤ 0 := by
        have := Int.ediv_le_ediv hz0 hx
        rw [Int.zero_ediv] at this; exact this
      have h2 : -x ≤ (-x) / z := by
        rw [Int.le_ediv_iff_mul_le hz0]
        have : (-x) * z ≤ (-x) * 1 := Int.mul_le_mul_of_nonpos_left hx (by lia)
        lia
      lia
  · rw [h, Int.fdiv_zero]; simp
  · rw [fdiv_pos h]
    rcases Int.le_total 0 x with hx | hx
    · have h1 := Int.ediv_nonneg hx (by lia : 0 ≤ y)
      have h2 := Int.ediv_le_self y hx
      lia
    · have h1 : x / y ≤ 0 := by
        have := Int.ediv_le_ediv h hx
        rw [Int.zero_ediv] at this; exact this
      have h2 : x ≤ x / y := by
        rw [Int.le_ediv_iff_mul_le h]
        have : x * y ≤ x * 1 := Int.mul_le_mul_of_nonpos_left hx (by lia)
        lia
      lia
theorem top_falls {rs ds : List Int} (hd : Tr ds) (hdn : ds ≠ []) (hl : ds.length ≤ rs.length) {s : Po} (e : ofL rs = ofL ds * s) :
    co rs (rs.length - 1) - (co rs (rs.length - 1)).fdiv (co ds (ds.length - 1)) * co ds (ds.length - 1) = 0 := by
  have hz : co rs (rs.length - 1) = 0 → co rs (rs.length - 1) - (co rs (rs.length - 1)).fdiv (co ds (ds.length - 1)) * co ds (ds.length - 1) = 0 := fun z => by
    rw [z, Int.zero_fdiv]; grind
  by_cases hs : s = 0
  · refine hz ?_
    have : (ofL rs).c (rs.length - 1) = 0 := by
      rw [e, hs]
      have e2 : ofL ds * (0 : Po) = 0 := by grind
      rw [e2, zero_c]
    exact this
  · have hdo := ofL_ne hd hdn
    have h1 := len_mul hdo hs
    rw [← e] at h1
    rw [len_ofL hd] at h1
    have h2 : len (ofL rs) ≤ rs.length := len_le fun i hi => by rw [ofL_c]; exact co_ge hi
    by_cases h3 : len (ofL rs) = rs.length
    · have h4 := lead_mul hdo hs
      rw [← e, h3, len_ofL hd, ofL_c, ofL_c] at h4
      have hl0 := hd.last hdn
      rw [h4, Int.mul_comm (co ds (ds.length - 1)), Int.mul_fdiv_cancel _ hl0]; lia
    · have hpos : 0 < rs.length := by have := List.length_pos_iff.mpr hdn; lia
      exact hz (c_ge (f := ofL rs) (i := rs.length - 1) (by lia))
theorem rest_none {rs ds : List Int} (hd : Tr ds) (hl : rs.length < ds.length) {s : Po} (e : ofL rs = ofL ds * s) : ofL rs = 0 := by
  have hdn : ds ≠ [] := by rintro rfl; exact absurd hl (Nat.not_lt_zero _)
  by_cases hs : s = 0
  · rw [e, hs]; grind
  · have h1 := len_mul (ofL_ne hd hdn) hs
    rw [← e, len_ofL hd] at h1
    have h2 : len (ofL rs) ≤ rs.length := len_le fun i hi => by rw [ofL_c]; exact co_ge hi
    have h3 := len_pos hs
    lia
theorem any_zero {rs : List Int} : rs.any (· != 0) = false ↔ ofL rs = 0 := by
  constructor
  · intro h
    refine ext fun i => ?_
    rw [ofL_c, zero_c]
    by_cases hi : i < rs.length
    · rw [co_lt hi]
      have := List.any_eq_false.mp h _ (List.getElem_mem hi)
      simpa using this
    · exact co_ge (by lia)
  · intro h
    refine List.any_eq_false.mpr fun x hx => ?_
    obtain ⟨i, e⟩ := co_mem hx
    have : (ofL rs).c i = 0 := by rw [h, zero_c]
    rw [ofL_c, e] at this
    simp [this]
theorem quo_tr {xs ds qs : List Int} (hx : Tr xs) (hxn : xs ≠ []) (hd : Tr ds) (e : ofL xs = ofL ds * ofL qs) (hl : qs.length + ds.length = xs.length + 1) : Tr qs := by
  have h0 := ofL_ne hx hxn
  rw [e] at h0
  have h1 := len_mul (left_ne h0) (right_ne h0)
  rw [← e, len_ofL hx, len_ofL hd] at h1
  refine Tr.of_last fun hq => ?_
  have hp := List.length_pos_iff.mpr hq
  have h2 := lead (f := ofL qs) (by lia)
  have e2 : len (ofL qs) - 1 = qs.length - 1 := by lia
  rw [e2] at h2
  exact h2
theorem evL_app (p : Int) : ∀ xs ys : List Int, evL p (xs ++ ys) = evL p xs + p ^ xs.length * evL p ys
  | [], ys => by show evL p ys = 0 + p ^ 0 * evL p ys; rw [Int.pow_zero]; lia
  | x :: r, ys => by
    show x + p * evL p (r ++ ys) = x + p * evL p r + p ^ (r.length + 1) * evL p ys
    rw [evL_app p r ys, Int.pow_succ]; grind
noncomputable def digit (p v : Int) : Int := if 2 * (v % p) > p then v % p - p else v % p
noncomputable def digR (p v : Int) : Int := (v - digit p v) / p
theorem dig_eq {p v : Int} (hp : 0 < p) : digit p v + p * digR p v = v := by
  have hd : p ∣ v - digit p v := by
    unfold digit
    have h1 := Int.emod_add_mul_ediv v p
    split
    · exact ⟨v / p + 1, by grind⟩
    · exact ⟨v / p, by grind⟩
  unfold digR
  rw [Int.mul_ediv_cancel' hd]; lia
theorem dig_bal {p v : Int} (hp : 0 < p) : -p < 2 * digit p v ∧ 2 * digit p v ≤ p := by
  have h1 := Int.emod_nonneg v (Int.ne_of_gt hp)
  have h2 := Int.emod_lt_of_pos v hp
  unfold digit
  split <;> lia
theorem digR_nonneg {p v : Int} (hp : 0 < p) (hv : 0 ≤ v) : 0 ≤ digR p v := by
  have e := dig_eq (v := v) hp
  have b := dig_bal (v := v) hp
  rcases Int.lt_or_le (digR p v) 0 with h | h
  · have : p * digR p v ≤ p * (-1) := Int.mul_le_mul_of_nonneg_left (by lia) (by lia)
    lia
  · exact h
theorem digR_le {p v w : Int} (hp : 0 < p) (h : v ≤ p * w) : digR p v ≤ w := by
  have e := dig_eq (v := v) hp
  have b := dig_bal (v := v) hp
  rcases Int.lt_or_le w (digR p v) with h2 | h2
  · have : p * (w + 1) ≤ p * digR p v := Int.mul_le_mul_of_nonneg_left (by lia) (by lia)
    have e2 : p * (w + 1) = p * w + p := by grind
    lia
  · exact h2
theorem digR_one {p : Int} (hp : 2 ≤ p) : digR p 1 = 0 ∧ digit p 1 = 1 := by
  have e : (1 : Int) % p = 1 := Int.emod_eq_of_lt (by decide) (by lia)
  have e2 : digit p 1 = 1 := by unfold digit; rw [e, if_neg (by lia)]
  refine ⟨?_, e2⟩
  unfold digR; rw [e2]; simp
theorem digR_lt {p v : Int} (hp : 3 ≤ p) (hv : 0 < v) : digR p v < v := by
  have e := dig_eq (p := p) (v := v) (by lia)
  have b := dig_bal (p := p) (v := v) (by lia)
  rcases Int.lt_or_le (digR p v) v with h | h
  · exact h
  · have h1 : p * v ≤ p * digR p v := Int.mul_le_mul_of_nonneg_left h (by lia)
    have h2 : 3 * v ≤ p * v := Int.mul_le_mul_of_nonneg_right hp (by lia)
    have h3 : p * 1 ≤ p * v := Int.mul_le_mul_of_nonneg_left (by lia) (by lia)
    lia
theorem digit_zero {p v : Int} (hp : 0 < p) (hv : v ≠ 0) (h : digR p v = 0) : digit p v ≠ 0 := fun z => by
  have e := dig_eq (v := v) hp
  rw [z, h] at e
  lia
theorem ev_lt {p : Int} (hp : 0 < p) {xs : List Int} (h : ∀ x ∈ xs, ab x < p) : ab (evL p xs) < p ^ xs.length := by
  rw [evL_sum]
  have h1 := ab_sum (f := fun i => co xs i * p ^ i) xs.length
  have h2 : sumN (fun i => ab (co xs i * p ^ i)) xs.length ≤ sumN (fun i => (p - 1) * (p - 1 + 1) ^ i) xs.length := sumN_le fun i hi => by
    rw [ab_mul, ab_of (Int.pow_nonneg (by lia))]
    have e : p - 1 + 1 = p := by lia
    rw [e]
    refine Int.mul_le_mul_of_nonneg_right ?_ (Int.pow_nonneg (by lia))
    have := h (co xs i) (by rw [co_lt hi]; exact List.getElem_mem hi)
    lia
  rw [sumN_geo] at h2
  have e : p - 1 + 1 = p := by lia
  rw [e] at h2
  lia
theorem evL_drop (p : Int) (xs : List Int) {j : Nat} (h : j < xs.length) : evL p (xs.drop (xs.length - (j + 1))) = evL p (xs.drop (xs.length - j)) * p + co xs (xs.length - 1 - j) := by
  have e : xs.length - (j + 1) = xs.length - 1 - j := by lia
  have e2 : xs.length - j = xs.length - 1 - j + 1 := by lia
  rw [e, e2, List.drop_eq_getElem_cons (i := xs.length - 1 - j) (by lia)]
  show xs[xs.length - 1 - j] + p * _ = _
  rw [co_lt (by lia)]; grind
theorem evL_full (p : Int) (xs : List Int) : evL p (xs.drop (xs.length - xs.length)) = evL p xs := by rw [Nat.sub_self, List.drop_zero]
theorem evL_none (p : Int) (xs : List Int) : evL p (xs.drop (xs.length - 0)) = 0 := by rw [Nat.sub_zero, List.drop_length]; rfl
end Po
end SF
namespace SF
open Lean.Grind
namespace Po
theorem ev_ne {p M : Int} {w : Po} (hw : w ≠ 0) (hb : ∀ i, ab (w.c i) ≤ M) (hp : 2 * (M + 1) < p) : ev p w ≠ 0 := by
  have hM0 : 0 ≤ M := Int.le_trans (ab_nonneg _) (hb 0)
  by_cases hl : 2 ≤ len w
  · have := low_bound hw (show w = w * 1 by grind) hl hb (p := p) (by lia)
    intro z
    rw [z] at this
    have h0 : ab 0 = 0 := rfl
    lia
  · have e := of_len_one (f := w) (by lia)
    rw [e, ev_K]
    intro z
    rw [z, K_zero] at e
    exact hw e
theorem gamma_of {a b : Int} {B : Int} (h : (a ≠ 0 ∧ ab a ≤ B) ∨ (b ≠ 0 ∧ ab b ≤ B)) : Int.gcd a b ≠ 0 ∧ ((Int.gcd a b : Nat) : Int) ≤ B := by
  rcases h with ⟨h, hb⟩ | ⟨h, hb⟩
  · refine ⟨Nat.ne_of_gt (Int.gcd_pos_of_ne_zero_left _ h), Int.le_trans ?_ hb⟩
    unfold ab
    have := Nat.le_of_dvd (by lia) (Int.natAbs_dvd_natAbs.mpr (Int.gcd_dvd_left (a := a) (b := b)))
    lia
  · refine ⟨Nat.ne_of_gt (Int.gcd_pos_of_ne_zero_right _ h), Int.le_trans ?_ hb⟩
    unfold ab
    have := Nat.le_of_dvd (by lia) (Int.natAbs_dvd_natAbs.mpr (Int.gcd_dvd_right (a := a) (b := b)))
    lia
theorem gcd_gamma {xs ys : List Int} {M p : Int} (hx : ofL xs ≠ 0) (hy : ofL ys ≠ 0) (hM : (∀ x ∈ xs, ab x ≤ M) ∨ (∀ y ∈ ys, ab y ≤ M)) (h0 : 0 ≤ M) (hp : 2 * (M + 1) < p) (n : Nat) (h1 : xs.length ≤ n) (h2 : ys.length ≤ n) :
    Int.gcd (evL p xs) (evL p ys) ≠ 0 ∧ ((Int.gcd (evL p xs) (evL p ys) : Nat) : Int) ≤ p ^ n := by
  have key : ∀ zs : List Int, ofL zs ≠ 0 → (∀ x ∈ zs, ab x ≤ M) → zs.length ≤ n → evL p zs ≠ 0 ∧ ab (evL p zs) ≤ p ^ n := fun zs hz hb hl => by
    constructor
    · rw [← ev_ofL]; exact ev_ne hz (fun i => mem_co hb h0 i) hp
    · have h3 := ev_lt (p := p) (by lia) (xs := zs) (fun x hx => by have := hb x hx; lia)
      have h4 : p ^ zs.length ≤ p ^ n := by
        obtain ⟨k, rfl⟩ := Int.eq_ofNat_of_zero_le (show 0 ≤ p by lia)
        have e1 : ((k : Int) ^ zs.length) = ((k ^ zs.length : Nat) : Int) := by simp
        have e2 : ((k : Int) ^ n) = ((k ^ n : Nat) : Int) := by simp
        rw [e1, e2]
        exact Int.ofNat_le.mpr (Nat.pow_le_pow_right (by lia) hl)
      lia
  refine gamma_of ?_
  rcases hM with h | h
  · exact .inl (key xs hx h h1)
  · exact .inr (key ys hy h h2)
theorem NB_bits (b : Nat) : 2 * NB 60 (2 ^ b) < 2 ^ (61 * b + 427) := by
  unfold NB
  have h0 : 0 < 2 ^ b := Nat.two_pow_pos b
  have h1 : 2 * 60 * 2 ^ b + 1 ≤ 2 ^ (b + 7) := by rw [Nat.pow_add]; lia
  have h2 : (2 * 60 * 2 ^ b + 1) ^ 60 ≤ (2 ^ (b + 7)) ^ 60 := Nat.pow_le_pow_left h1 60
  rw [← Nat.pow_mul] at h2
  have h3 : (2 * 60 * 2 ^ b + 1) ^ 60 * 2 ^ b ≤ 2 ^ ((b + 7) * 60) * 2 ^ b := Nat.mul_le_mul_right _ h2
  rw [← Nat.pow_add] at h3
  have e : 61 * b + 427 = ((b + 7) * 60 + b) + 7 := by lia
  rw [e, Nat.pow_add 2 ((b + 7) * 60 + b) 7]
  generalize (2 * 60 * 2 ^ b + 1) ^ 60 * 2 ^ b = z at *
  have h4 : 0 < 2 ^ ((b + 7) * 60 + b) := Nat.two_pow_pos _
  lia
end Po
end SF
namespace SF
open Lean.Grind
namespace RR
noncomputable def ra (x : Rat) : Rat := if x < 0 then -x else x
theorem ra_nonneg (x : Rat) : 0 ≤ ra x := by unfold ra; split <;> grind
theorem ra_add (x y : Rat) : ra (x + y) ≤ ra x + ra y := by unfold ra; split <;> split <;> split <;> grind
theorem ra_neg (x : Rat) : ra (-x) = ra x := by unfold ra; split <;> split <;> grind
theorem ra_lt {x e : Rat} : ra x < e ↔ (-e < x ∧ x < e) := by unfold ra; split <;> grind
theorem ra_le {x e : Rat} : ra x ≤ e ↔ (-e ≤ x ∧ x ≤ e) := by unfold ra; split <;> grind
theorem mul_le {a b c d : Rat} (h1 : a ≤ b) (h2 : c ≤ d) (h3 : 0 ≤ b) (h4 : 0 ≤ c) : a * c ≤ b * d := by
  have e1 : a * c ≤ b * c := Rat.mul_le_mul_of_nonneg_right h1 h4
  have e2 : b * c ≤ b * d := Rat.mul_le_mul_of_nonneg_left h2 h3
  grind
theorem ra_mul (x y : Rat) : ra (x * y) = ra x * ra y := by
  unfold ra
  by_cases hx : x < 0 <;> by_cases hy : y < 0
  · have : ¬ x * y < 0 := by
      have := Rat.mul_pos (a := -x) (b := -y) (by grind) (by grind)
      grind
    rw [if_neg this, if_pos hx, if_pos hy]; grind
  · rw [if_pos hx, if_neg hy]
    by_cases h0 : y = 0
    · rw [h0, if_neg (by grind)]; grind
    · have := Rat.mul_pos (a := -x) (b := y) (by grind) (by grind)
      rw [if_pos (by grind)]; grind
  · rw [if_neg hx, if_pos hy]
    by_cases h0 : x = 0
    · rw [h0, if_neg (by grind)]; grind
    · have := Rat.mul_pos (a := x) (b := -y) (by grind) (by grind)
      rw [if_pos (by grind)]; grind
  · rw [if_neg hx, if_neg hy]
    have : ¬ x * y < 0 := by
      have := Rat.mul_nonneg (a := x) (b := y) (by grind) (by grind)
      grind
    rw [if_neg this]
theorem dpos {a b : Rat} (ha : 0 < a) (hb : 0 < b) : 0 < a / b := by rw [Rat.div_def]; exact Rat.mul_pos ha (Rat.inv_pos.mpr hb)
structure CS where
  s : Nat → Rat
  c : ∀ e : Rat, 0 < e → ∃ N, ∀ m n, N ≤ m → N ≤ n → ra (s m - s n) < e
theorem CS.bd (a : CS) : ∃ B : Rat, 0 < B ∧ ∀ n, ra (a.s n) ≤ B := by
  obtain ⟨N, hN⟩ := a.c 1 (by decide)
  have hex : ∀ k : Nat, ∃ B : Rat, 0 < B ∧ ∀ n, n < k → ra (a.s n) ≤ B := by
    intro k
    induction k with
    | zero => exact ⟨1, by decide, fun n hn => by lia⟩
    | succ k ih =>
      obtain ⟨B, hB, hb⟩ := ih
      refine ⟨B + ra (a.s k), by have := ra_nonneg (a.s k); grind, fun n hn => ?_⟩
      by_cases h : n < k
      · have := hb n h; have := ra_nonneg (a.s k); grind
      · have e : n = k := by lia
        rw [e]; grind
  obtain ⟨B, hB, hb⟩ := hex (N + 1)
  refine ⟨B + 1, by grind, fun n => ?_⟩
  by_cases h : n < N + 1
  · have := hb n h; grind
  · have h1 := hN n N (by lia) (Nat.le_refl _)
    have h2 := hb N (by lia)
    have h3 := ra_add (a.s n - a.s N) (a.s N)
    have e : a.s n - a.s N + a.s N = a.s n := by grind
    rw [e] at h3; grind
theorem half {e : Rat} (h : 0 < e) : 0 < e / 2 ∧ e / 2 + e / 2 = e := by
  constructor <;> grind
noncomputable def addS (a b : CS) : CS := ⟨fun n => a.s n + b.s n, fun e he => by
  obtain ⟨h1, h2⟩ := half he
  obtain ⟨N, hN⟩ := a.c _ h1
  obtain ⟨M, hM⟩ := b.c _ h1
  refine ⟨max N M, fun m n hm hn => ?_⟩
  have g1 := hN m n (by lia) (by lia)
  have g2 := hM m n (by lia) (by lia)
  have g3 := ra_add (a.s m - a.s n) (b.s m - b.s n)
  have e : a.s m + b.s m - (a.s n + b.s n) = a.s m - a.s n + (b.s m - b.s n) := by grind
  rw [e]; grind⟩
noncomputable def negS (a : CS) : CS := ⟨fun n => - a.s n, fun e he => by
  obtain ⟨N, hN⟩ := a.c _ he
  refine ⟨N, fun m n hm hn => ?_⟩
  have g1 := hN m n hm hn
  have e2 : - a.s m - - a.s n = - (a.s m - a.s n) := by grind
  rw [e2, ra_neg]; exact g1⟩
theorem mul_diff {a b a' b' B : Rat} {e : Rat} (hB : 0 < B) (h1 : ra a ≤ B) (h2 : ra b' ≤ B) (h3 : ra (b - b') < e / (2 * B)) (h4 : ra (a - a') < e / (2 * B)) : ra (a * b - a' * b') < e := by
  have e1 : a * b - a' * b' = a * (b - b') + (a - a') * b' := by grind
  have g := ra_add (a * (b - b')) ((a - a') * b')
  rw [ra_mul, ra_mul] at g
  have z1 := ra_nonneg a
  have z2 := ra_nonneg b'
  have z3 := ra_nonneg (b - b')
  have z4 := ra_nonneg (a - a')
  have g1 : ra a * ra (b - b') ≤ B * ra (b - b') := Rat.mul_le_mul_of_nonneg_right h1 z3
  have g2 : ra (a - a') * ra b' ≤ ra (a - a') * B := Rat.mul_le_mul_of_nonneg_left h2 z4
  have g3 : B * ra (b - b') < B * (e / (2 * B)) := (Rat.mul_lt_mul_left hB).mpr h3
  have g4 : B * ra (a - a') < B * (e / (2 * B)) := (Rat.mul_lt_mul_left hB).mpr h4
  have e2 : B * (e / (2 * B)) = e / 2 := by grind
  rw [e1]; grind
noncomputable def mulS (a b : CS) : CS := ⟨fun n => a.s n * b.s n, fun e he => by
  obtain ⟨A, hA, ha⟩ := a.bd
  obtain ⟨B, hB, hb⟩ := b.bd
  have hAB : 0 < A + B := by grind
  have hpos : 0 < e / (2 * (A + B)) := dpos he (Rat.mul_pos (by decide) hAB)
  obtain ⟨N, hN⟩ := a.c _ hpos
  obtain ⟨M, hM⟩ := b.c _ hpos
  refine ⟨max N M, fun m n hm hn => ?_⟩
  exact mul_diff hAB (by have := ha m; grind) (by have := hb n; grind) (hM m n (by lia) (by lia)) (hN m n (by lia) (by lia))⟩
noncomputable def conS (q : Rat) : CS := ⟨fun _ => q, fun e he => ⟨0, fun _ _ _ _ => by
  have : q - q = 0 := by grind
  rw [this]; unfold ra; rw [if_neg (by decide)]; exact he⟩⟩
noncomputable def eqv (a b : CS) : Prop := ∀ e : Rat, 0 < e → ∃ N, ∀ n, N ≤ n → ra (a.s n - b.s n) < e
theorem eqv_refl (a : CS) : eqv a a := fun e he => ⟨0, fun n _ => by
  have : a.s n - a.s n = 0 := by grind
  rw [this]; unfold ra; rw [if_neg (by decide)]; exact he⟩
theorem eqv_symm {a b : CS} (h : eqv a b) : eqv b a := fun e he => by
  obtain ⟨N, hN⟩ := h e he
  refine ⟨N, fun n hn => ?_⟩
  have := hN n hn
  have e2 : b.s n - a.s n = - (a.s n - b.s n) := by grind
  rw [e2, ra_neg]; exact this
theorem eqv_trans {a b c : CS} (h : eqv a b) (h' : eqv b c) : eqv a c := fun e he => by
  obtain ⟨h1, h2⟩ := half he
  obtain ⟨N, hN⟩ := h _ h1
  obtain ⟨M, hM⟩ := h' _ h1
  refine ⟨max N M, fun n hn => ?_⟩
  have g1 := hN n (by lia)
  have g2 := hM n (by lia)
  have g3 := ra_add (a.s n - b.s n) (b.s n - c.s n)
  have e3 : a.s n - b.s n + (b.s n - c.s n) = a.s n - c.s n := by grind
  rw [e3] at g3; grind
noncomputable instance sd : Setoid CS := ⟨eqv, eqv_refl, eqv_symm, eqv_trans⟩
end RR
noncomputable def Re : Type := Quotient RR.sd
namespace Re
open RR
noncomputable def mk (a : CS) : Re := Quotient.mk sd a
theorem add_ok {a b a' b' : CS} (h : eqv a a') (h' : eqv b b') : eqv (addS a b) (addS a' b') := fun e he => by
  obtain ⟨h1, h2⟩ := half he
  obtain ⟨N, hN⟩ := h _ h1
  obtain ⟨M, hM⟩ := h' _ h1
  refine ⟨max N M, fun n hn => ?_⟩
  have g1 := hN n (by lia)
  have g2 := hM n (by lia)
  have g3 := ra_add (a.s n - a'.s n) (b.s n - b'.s n)
  show ra (a.s n + b.s n - (a'.s n + b'.s n)) < e
  have e3 : a.s n + b.s n - (a'.s n + b'.s n) = a.s n - a'.s n + (b.s n - b'.s n) := by grind
  rw [e3]; grind
theorem neg_ok {a a' : CS} (h : eqv a a') : eqv (negS a) (negS a') := fun e he => by
  obtain ⟨N, hN⟩ := h _ he
  refine ⟨N, fun n hn => ?_⟩
  have g1 := hN n hn
  show ra (- a.s n - - a'.s n) < e
  have e3 : - a.s n - - a'.s n = - (a.s n - a'.s n) := by grind
  rw [e3, ra_neg]; exact g1
theorem mul_ok {a b a' b' : CS} (h : eqv a a') (h' : eqv b b') : eqv (mulS a b) (mulS a' b') := fun e he => by
  obtain ⟨A, hA, ha⟩ := a.bd
  obtain ⟨B, hB, hb⟩ := b'.bd
  have hAB : 0 < A + B := by grind
  have hpos : 0 < e / (2 * (A + B)) := dpos he (Rat.mul_pos (by decide) hAB)
  obtain ⟨N, hN⟩ := h _ hpos
  obtain ⟨M, hM⟩ := h' _ hpos
  refine ⟨max N M, fun n hn => ?_⟩
  exact mul_diff hAB (by have := ha n; grind) (by have := hb n; grind) (hM n (by lia)) (hN n (by lia))
noncomputable def add (x y : Re) : Re := Quotient.liftOn₂ x y (fun a b => mk (addS a b)) fun _ _ _ _ h h' => Quotient.sound (add_ok h h')
noncomputable def mul (x y : Re) : Re := Quotient.liftOn₂ x y (fun a b => mk (mulS a b)) fun _ _ _ _ h h' => Quotient.sound (mul_ok h h')
noncomputable def neg (x : Re) : Re := Quotient.liftOn x (fun a => mk (negS a)) fun _ _ h => Quotient.sound (neg_ok h)
noncomputable def q (r : Rat) : Re := mk (conS r)
noncomputable instance instAdd : Add Re := ⟨add⟩
noncomputable instance instMul : Mul Re := ⟨mul⟩
noncomputable instance instNeg : Neg Re := ⟨neg⟩
noncomputable instance instSub : Sub Re := ⟨fun x y => x + -y⟩
noncomputable instance instNatCast : NatCast Re := ⟨fun n => q (n : Rat)⟩
noncomputable instance instIntCast : IntCast Re := ⟨fun n => q (n : Rat)⟩
noncomputable instance instOfNat (n : Nat) : OfNat Re n := ⟨q ((n : Nat) : Rat)⟩
noncomputable def pow (x : Re) : Nat → Re
  | 0 => q 1
  | n + 1 => pow x n * x
noncomputable instance instHPow : HPow Re Nat Re := ⟨pow⟩
noncomputable instance instSMulN : SMul Nat Re := ⟨fun n x => q (n : Rat) * x⟩
noncomputable instance instSMulI : SMul Int Re := ⟨fun n x => q (n : Rat) * x⟩
theorem mk_eq {a b : CS} (h : ∀ n, a.s n = b.s n) : mk a = mk b := by
  have : a = b := by
    cases a; cases b
    have : _ = _ := funext h
    cases this; rfl
  rw [this]
theorem ex (x : Re) : ∃ a, x = mk a := by
  obtain ⟨a, h⟩ := Quotient.exists_rep x
  exact ⟨a, h.symm⟩
theorem q_add (a b : Rat) : q (a + b) = q a + q b := mk_eq fun _ => rfl
theorem q_mul (a b : Rat) : q (a * b) = q a * q b := mk_eq fun _ => rfl
theorem q_neg (a : Rat) : q (-a) = - q a := mk_eq fun _ => rfl
noncomputable instance instCommRing : CommRing Re where
  natCast := instNatCast
  ofNat := instOfNat
  nsmul := instSMulN
  npow := instHPow
  intCast := instIntCast
  zsmul := instSMulI
  add_zero x := by obtain ⟨a, rfl⟩ := ex x; exact mk_eq fun n => by show a.s n + ((0 : Nat) : Rat) = a.s n; grind
  add_comm x y := by obtain ⟨a, rfl⟩ := ex x; obtain ⟨b, rfl⟩ := ex y; exact mk_eq fun n => by show a.s n + b.s n = b.s n + a.s n; grind
  add_assoc x y z := by obtain ⟨a, rfl⟩ := ex x; obtain ⟨b, rfl⟩ := ex y; obtain ⟨c, rfl⟩ := ex z; exact mk_eq fun n => by show a.s n + b.s n + c.s n = a.s n + (b.s n + c.s n); grind
  mul_assoc x y z := by obtain ⟨a, rfl⟩ := ex x; obtain ⟨b, rfl⟩ := ex y; obtain ⟨c, rfl⟩ := ex z; exact mk_eq fun n => by show a.s n * b.s n * c.s n = a.s n * (b.s n * c.s n); grind
  mul_one x := by obtain ⟨a, rfl⟩ := ex x; exact mk_eq fun n => by show a.s n * ((1 : Nat) : Rat) = a.s n; grind
  one_mul x := by obtain ⟨a, rfl⟩ := ex x; exact mk_eq fun n => by show ((1 : Nat) : Rat) * a.s n = a.s n; grind
  right_distrib x y z := by obtain ⟨a, rfl⟩ := ex x; obtain ⟨b, rfl⟩ := ex y; obtain ⟨c, rfl⟩ := ex z; exact mk_eq fun n => by show (a.s n + b.s n) * c.s n = a.s n * c.s n + b.s n * c.s n; grind
  left_distrib x y z := by obtain ⟨a, rfl⟩ := ex x; obtain ⟨b, rfl⟩ := ex y; obtain ⟨c, rfl⟩ := ex z; exact mk_eq fun n => by show a.s n * (b.s n + c.s n) = a.s n * b.s n + a.s n * c.s n; grind
  zero_mul x := by obtain ⟨a, rfl⟩ := ex x; exact mk_eq fun n => by show ((0 : Nat) : Rat) * a.s n = ((0 : Nat) : Rat); grind
  mul_zero x := by obtain ⟨a, rfl⟩ := ex x; exact mk_eq fun n => by show a.s n * ((0 : Nat) : Rat) = ((0 : Nat) : Rat); grind
  pow_zero x := rfl
  pow_succ x n := rfl
  ofNat_succ n := mk_eq fun _ => by show ((n + 1 : Nat) : Rat) = ((n : Nat) : Rat) + ((1 : Nat) : Rat); grind
  ofNat_eq_natCast n := rfl
  nsmul_eq_natCast_mul n x := rfl
  neg_add_cancel x := by obtain ⟨a, rfl⟩ := ex x; exact mk_eq fun n => by show - a.s n + a.s n = ((0 : Nat) : Rat); grind
  sub_eq_add_neg x y := rfl
  neg_zsmul n x := by
    obtain ⟨a, rfl⟩ := ex x
    refine mk_eq fun k => ?_
    show ((-n : Int) : Rat) * a.s k = - (((n : Int) : Rat) * a.s k)
    have : ((-n : Int) : Rat) = -((n : Int) : Rat) := by simp
    rw [this]; grind
  zsmul_natCast_eq_nsmul n x := by obtain ⟨a, rfl⟩ := ex x; exact mk_eq fun k => rfl
  intCast_ofNat n := mk_eq fun _ => by show (((OfNat.ofNat n : Int)) : Rat) = ((n : Nat) : Rat); rfl
  intCast_neg n := mk_eq fun _ => by show ((-n : Int) : Rat) = -((n : Int) : Rat); simp
  mul_comm x y := by obtain ⟨a, rfl⟩ := ex x; obtain ⟨b, rfl⟩ := ex y; exact mk_eq fun n => by show a.s n * b.s n = b.s n * a.s n; grind
end Re
end SF
namespace SF
open Lean.Grind
namespace Re
open RR
noncomputable def ltS (a b : CS) : Prop := ∃ e : Rat, 0 < e ∧ ∃ N, ∀ n, N ≤ n → a.s n + e ≤ b.s n
theorem lt_ok {a b a' b' : CS} (h : eqv a a') (h' : eqv b b') (l : ltS a b) : ltS a' b' := by
  obtain ⟨e, he, N, hN⟩ := l
  have h4 : 0 < e / 4 := by grind
  obtain ⟨M, hM⟩ := h _ h4
  obtain ⟨L, hL⟩ := h' _ h4
  refine ⟨e / 2, by grind, max N (max M L), fun n hn => ?_⟩
  have g1 := hN n (by lia)
  have g2 := ra_lt.mp (hM n (by lia))
  have g3 := ra_lt.mp (hL n (by lia))
  grind
noncomputable def lt (x y : Re) : Prop := Quotient.liftOn₂ x y ltS fun _ _ _ _ h h' => propext ⟨lt_ok h h', lt_ok (eqv_symm h) (eqv_symm h')⟩
noncomputable instance instLT : LT Re := ⟨lt⟩
noncomputable instance instLE : LE Re := ⟨fun x y => ¬ y < x⟩
theorem le_iff {x y : Re} : x ≤ y ↔ ¬ y < x := Iff.rfl
theorem lt_irrefl (x : Re) : ¬ x < x := by
  obtain ⟨a, rfl⟩ := ex x
  rintro ⟨e, he, N, hN⟩
  have := hN N (Nat.le_refl _)
  grind
theorem lt_trans {x y z : Re} (h : x < y) (h' : y < z) : x < z := by
  obtain ⟨a, rfl⟩ := ex x
  obtain ⟨b, rfl⟩ := ex y
  obtain ⟨c, rfl⟩ := ex z
  obtain ⟨e, he, N, hN⟩ := h
  obtain ⟨e', he', M, hM⟩ := h'
  refine ⟨e, he, max N M, fun n hn => ?_⟩
  have g1 := hN n (by lia)
  have g2 := hM n (by lia)
  grind
theorem tri (x y : Re) : x < y ∨ x = y ∨ y < x := by
  obtain ⟨a, rfl⟩ := ex x
  obtain ⟨b, rfl⟩ := ex y
  by_cases h : eqv a b
  · exact .inr (.inl (Quotient.sound h))
  · have h1 : ∃ e : Rat, 0 < e ∧ ∀ N, ∃ n, N ≤ n ∧ e ≤ ra (a.s n - b.s n) := by
      obtain ⟨e, he⟩ := Classical.not_forall.mp h
      obtain ⟨he1, he2⟩ := Classical.not_imp.mp he
      refine ⟨e, he1, fun N => ?_⟩
      have h3 := fun hN => he2 ⟨N, hN⟩
      obtain ⟨n, hn⟩ := Classical.not_forall.mp h3
      obtain ⟨hn1, hn2⟩ := Classical.not_imp.mp hn
      exact ⟨n, hn1, by grind⟩
    obtain ⟨e, he, hall⟩ := h1
    have h4 : 0 < e / 4 := by grind
    obtain ⟨N, hN⟩ := a.c _ h4
    obtain ⟨M, hM⟩ := b.c _ h4
    obtain ⟨n, hn, hb⟩ := hall (max N M)
    by_cases hs : a.s n - b.s n < 0
    · left
      refine ⟨e / 2, by grind, max N M, fun m hm => ?_⟩
      have g1 := ra_lt.mp (hN m n (by lia) (by lia))
      have g2 := ra_lt.mp (hM m n (by lia) (by lia))
      unfold ra at hb
      rw [if_pos hs] at hb
      grind
    · right; right
      refine ⟨e / 2, by grind, max N M, fun m hm => ?_⟩
      have g1 := ra_lt.mp (hN m n (by lia) (by lia))
      have g2 := ra_lt.mp (hM m n (by lia) (by lia))
      unfold ra at hb
      rw [if_neg hs] at hb
      grind
noncomputable instance instLinear : Std.IsLinearOrder Re where
  le_refl a := lt_irrefl a
  le_trans a b c h h' := fun hc => by
    rcases tri a b with z | z | z
    · exact h' (lt_trans hc z)
    · rw [← z] at h'; exact h' hc
    · exact h z
  le_antisymm a b h h' := by
    rcases tri a b with z | z | z
    · exact absurd z h'
    · exact z
    · exact absurd z h
  le_total a b := by
    rcases tri a b with z | z | z
    · exact .inl fun y => lt_irrefl a (lt_trans z y)
    · exact .inl (by rw [z]; exact lt_irrefl b)
    · exact .inr fun y => lt_irrefl a (lt_trans y z)
noncomputable instance instLawful : Std.LawfulOrderLT Re where
  lt_iff a b := by
    constructor
    · intro h
      exact ⟨fun y => lt_irrefl a (lt_trans h y), fun y => y h⟩
    · rintro ⟨_, h⟩
      exact Classical.not_not.mp h
theorem add_lt {x y : Re} (h : x < y) (z : Re) : x + z < y + z := by
  obtain ⟨a, rfl⟩ := ex x
  obtain ⟨b, rfl⟩ := ex y
  obtain ⟨c, rfl⟩ := ex z
  obtain ⟨e, he, N, hN⟩ := h
  refine ⟨e, he, N, fun n hn => ?_⟩
  have g1 := hN n hn
  show a.s n + c.s n + e ≤ b.s n + c.s n
  grind
theorem add_lt_iff {x y : Re} (z : Re) : x < y ↔ x + z < y + z := by
  constructor
  · exact fun h => add_lt h z
  · intro h
    have := add_lt h (-z)
    have e1 : x + z + -z = x := by grind
    have e2 : y + z + -z = y := by grind
    rw [e1, e2] at this; exact this
theorem mul_pos {x y : Re} (h : 0 < x) (h' : 0 < y) : 0 < x * y := by
  obtain ⟨a, rfl⟩ := ex x
  obtain ⟨b, rfl⟩ := ex y
  obtain ⟨e, he, N, hN⟩ := h
  obtain ⟨e', he', M, hM⟩ := h'
  refine ⟨e * e', Rat.mul_pos he he', max N M, fun n hn => ?_⟩
  have g1 : ((0 : Nat) : Rat) + e ≤ a.s n := hN n (by lia)
  have g2 : ((0 : Nat) : Rat) + e' ≤ b.s n := hM n (by lia)
  show ((0 : Nat) : Rat) + e * e' ≤ a.s n * b.s n
  have g3 := mul_le (a := e) (b := a.s n) (c := e') (d := b.s n) (by grind) (by grind) (by grind) (by grind)
  grind
theorem q_lt {r t : Rat} : q r < q t ↔ r < t := by
  constructor
  · rintro ⟨e, he, N, hN⟩
    have : r + e ≤ t := hN N (Nat.le_refl _)
    grind
  · intro h
    refine ⟨t - r, by grind, 0, fun n _ => ?_⟩
    show r + (t - r) ≤ t
    grind
theorem q_zero : q 0 = 0 := rfl
theorem q_one : q 1 = 1 := rfl
theorem q_le {r t : Rat} : q r ≤ q t ↔ r ≤ t := by
  rw [le_iff, q_lt]; grind
theorem q_inj {r t : Rat} (h : q r = q t) : r = t := by
  have h1 : ¬ r < t := fun z => by have := q_lt.mpr z; rw [h] at this; exact lt_irrefl _ this
  have h2 : ¬ t < r := fun z => by have := q_lt.mpr z; rw [h] at this; exact lt_irrefl _ this
  grind
noncomputable instance instOrderedAdd : OrderedAdd Re where
  add_le_left_iff {a b} c := by
    rw [le_iff, le_iff, ← add_lt_iff c]
theorem sub_pos {x y : Re} (h : x < y) : 0 < y - x := by
  have := add_lt h (-x)
  have e1 : x + -x = 0 := by grind
  have e2 : y + -x = y - x := by grind
  rw [e1, e2] at this; exact this
theorem of_sub_pos {x y : Re} (h : 0 < y - x) : x < y := by
  have := add_lt h x
  have e1 : 0 + x = x := by grind
  have e2 : y - x + x = y := by grind
  rw [e1, e2] at this; exact this
noncomputable instance instOrderedRing : OrderedRing Re where
  zero_lt_one := by
    show q ((0 : Nat) : Rat) < q ((1 : Nat) : Rat)
    rw [q_lt]; decide
  mul_lt_mul_of_pos_left {a b c} h hc := by
    have := mul_pos hc (sub_pos h)
    have e : c * (b - a) = c * b - c * a := by grind
    rw [e] at this; exact of_sub_pos this
  mul_lt_mul_of_pos_right {a b c} h hc := by
    have := mul_pos hc (sub_pos h)
    have e : c * (b - a) = b * c - a * c := by grind
    rw [e] at this; exact of_sub_pos this
example (x y : Re) (h : x < y) : x + 1 ≤ y + 2 := by grind
theorem small {x : Re} (h : 0 < x) : ∃ r : Rat, 0 < r ∧ q r < x := by
  obtain ⟨a, rfl⟩ := ex x
  obtain ⟨e, he, N, hN⟩ := h
  refine ⟨e / 2, by grind, e / 2, by grind, N, fun n hn => ?_⟩
  have g1 : ((0 : Nat) : Rat) + e ≤ a.s n := hN n hn
  show e / 2 + e / 2 ≤ a.s n
  grind
theorem great (x : Re) : ∃ r : Rat, 0 < r ∧ x < q r := by
  obtain ⟨a, rfl⟩ := ex x
  obtain ⟨B, hB, hb⟩ := a.bd
  refine ⟨B + 1, by grind, 1, by decide, 0, fun n _ => ?_⟩
  have := (ra_le.mp (hb n)).2
  show a.s n + 1 ≤ B + 1
  grind
open Classical in
noncomputable def ab (x : Re) : Re := if x < 0 then -x else x
theorem ab_nonneg (x : Re) : 0 ≤ ab x := by unfold ab; split <;> grind
theorem ab_le_iff {x e : Re} : ab x ≤ e ↔ (-e ≤ x ∧ x ≤ e) := by unfold ab; split <;> grind
theorem ab_lt_iff {x e : Re} : ab x < e ↔ (-e < x ∧ x < e) := by unfold ab; split <;> grind
theorem ab_add (x y : Re) : ab (x + y) ≤ ab x + ab y := by unfold ab; split <;> split <;> split <;> grind
theorem ab_neg (x : Re) : ab (-x) = ab x := by unfold ab; split <;> split <;> grind
theorem mul_nonneg {x y : Re} (h : 0 ≤ x) (h' : 0 ≤ y) : 0 ≤ x * y := by
  by_cases hx : x = 0
  · rw [hx]; grind
  · by_cases hy : y = 0
    · rw [hy]; grind
    · have := mul_pos (x := x) (y := y) (by grind) (by grind)
      grind
theorem ab_mul (x y : Re) : ab (x * y) = ab x * ab y := by
  by_cases hx : x < 0 <;> by_cases hy : y < 0
  · have := mul_pos (x := -x) (y := -y) (by grind) (by grind)
    unfold ab; rw [if_neg (by grind), if_pos hx, if_pos hy]; grind
  · have := mul_nonneg (x := -x) (y := y) (by grind) (by grind)
    unfold ab
    rw [if_pos hx, if_neg hy]
    split <;> grind
  · have := mul_nonneg (x := x) (y := -y) (by grind) (by grind)
    unfold ab
    rw [if_neg hx, if_pos hy]
    split <;> grind
  · have := mul_nonneg (x := x) (y := y) (by grind) (by grind)
    unfold ab; rw [if_neg (by grind), if_neg hx, if_neg hy]
theorem mul_le_mul {a b c d : Re} (h1 : a ≤ b) (h2 : c ≤ d) (h3 : 0 ≤ b) (h4 : 0 ≤ c) : a * c ≤ b * d := by
  have e1 := mul_nonneg (x := b - a) (y := c) (by grind) h4
  have e2 := mul_nonneg (x := b) (y := d - c) h3 (by grind)
  grind
theorem mul_ne {x y : Re} (hx : x ≠ 0) (hy : y ≠ 0) : x * y ≠ 0 := by
  intro h
  have e : ab (x * y) = 0 := by rw [h]; unfold ab; rw [if_neg (by grind)]
  rw [ab_mul] at e
  have p1 : 0 < ab x := by unfold ab; split <;> grind
  have p2 : 0 < ab y := by unfold ab; split <;> grind
  have := mul_pos p1 p2
  rw [e] at this
  exact lt_irrefl _ this
theorem pow2_pos (n : Nat) : (0 : Rat) < (1 / 2) ^ n := Rat.pow_pos (by grind)
theorem pow2_small (e : Rat) (he : 0 < e) : ∃ N : Nat, ∀ n, N ≤ n → (1 / 2 : Rat) ^ n < e := by
  have key : ∀ n : Nat, (1 / 2 : Rat) ^ n * ((n : Rat) + 1) ≤ 1 := by
    intro n
    induction n with
    | zero => rw [Rat.pow_zero]; grind
    | succ n ih =>
      rw [Rat.pow_succ]
      have h0 := pow2_pos n
      have e1 : ((n + 1 : Nat) : Rat) = (n : Rat) + 1 := by grind
      rw [e1]
      have hn : (0 : Rat) ≤ (n : Rat) := by
        have : ((0 : Nat) : Rat) ≤ (n : Rat) := by exact_mod_cast Nat.zero_le n
        exact this
      have e2 : (1 / 2 : Rat) ^ n * (1 / 2) * ((n : Rat) + 1 + 1) = (1 / 2 : Rat) ^ n * ((n : Rat) + 1) - (1 / 2 : Rat) ^ n * ((n : Rat) * (1 / 2)) := by grind
      have h1 := Rat.mul_nonneg (a := (1 / 2 : Rat) ^ n) (b := (n : Rat) * (1 / 2)) (Rat.le_of_lt h0) (Rat.mul_nonneg hn (by grind))
      rw [e2]; grind
  obtain ⟨N, hN⟩ : ∃ N : Nat, 1 / e < (N : Rat) := by
    refine ⟨(1 / e).ceil.toNat + 1, ?_⟩
    have h1 := Rat.le_ceil (x := 1 / e)
    have h2 : (1 / e).ceil ≤ (((1 / e).ceil.toNat + 1 : Nat) : Int) - 1 := by lia
    have h3 : (((1 / e).ceil : Int) : Rat) ≤ (((((1 / e).ceil.toNat + 1 : Nat) : Int) - 1 : Int) : Rat) := Rat.intCast_le_intCast.mpr h2
    have h4 : (((((1 / e).ceil.toNat + 1 : Nat) : Int) - 1 : Int) : Rat) = (((1 / e).ceil.toNat + 1 : Nat) : Rat) - 1 := by push_cast; grind
    grind
  refine ⟨N, fun n hn => ?_⟩
  have h1 := key n
  have h0 := pow2_pos n
  have hnN : (N : Rat) ≤ (n : Rat) := by exact_mod_cast hn
  have h5 : 1 < e * ((n : Rat) + 1) := by
    have : 1 / e < (n : Rat) + 1 := by grind
    have h6 := (Rat.mul_lt_mul_left he).mpr this
    have e3 : e * (1 / e) = 1 := by grind
    rw [e3] at h6; exact h6
  rcases Classical.em ((1 / 2 : Rat) ^ n < e) with z | z
  · exact z
  · have hp : (0 : Rat) ≤ (n : Rat) + 1 := by
      have : (0 : Rat) ≤ (N : Rat) := by exact_mod_cast Nat.zero_le N
      grind
    have := Rat.mul_le_mul_of_nonneg_right (show e ≤ (1 / 2 : Rat) ^ n by grind) hp
    grind
end Re
end SF
namespace SF
open Lean.Grind
namespace Re
open RR
theorem mk_le {a : CS} {r : Rat} {N : Nat} (h : ∀ m, N ≤ m → a.s m ≤ r) : mk a ≤ q r := by
  rintro ⟨e, he, M, hM⟩
  have g1 : r + e ≤ a.s (max N M) := hM _ (by lia)
  have g2 := h (max N M) (by lia)
  grind
theorem le_mk {a : CS} {r : Rat} {N : Nat} (h : ∀ m, N ≤ m → r ≤ a.s m) : q r ≤ mk a := by
  rintro ⟨e, he, M, hM⟩
  have g1 : a.s (max N M) + e ≤ r := hM _ (by lia)
  have g2 := h (max N M) (by lia)
  grind
open Classical in
noncomputable def hstep (φ : Rat → Int) (p : Rat × Rat) : Rat × Rat := if φ p.1 = φ ((p.1 + p.2) / 2) then ((p.1 + p.2) / 2, p.2) else (p.1, (p.1 + p.2) / 2)
noncomputable def hseq (φ : Rat → Int) (p : Rat × Rat) : Nat → Rat × Rat
  | 0 => p
  | n + 1 => hstep φ (hseq φ p n)
theorem hseq_ok {φ : Rat → Int} {a b : Rat} (hab : a ≤ b) (hne : φ a ≠ φ b) : ∀ n : Nat,
    φ (hseq φ (a, b) n).1 ≠ φ (hseq φ (a, b) n).2 ∧ (hseq φ (a, b) n).1 ≤ (hseq φ (a, b) n).2 ∧ (hseq φ (a, b) n).2 - (hseq φ (a, b) n).1 = (b - a) * (1 / 2) ^ n
  | 0 => ⟨hne, hab, by show b - a = (b - a) * (1 / 2) ^ 0; rw [Rat.pow_zero]; grind⟩
  | n + 1 => by
    obtain ⟨h1, h2, h3⟩ := hseq_ok hab hne n
    have e : hseq φ (a, b) (n + 1) = hstep φ (hseq φ (a, b) n) := rfl
    rw [e]
    generalize hseq φ (a, b) n = p at h1 h2 h3
    unfold hstep
    rw [Rat.pow_succ]
    split
    · rename_i h
      refine ⟨?_, ?_, ?_⟩
      · show φ ((p.1 + p.2) / 2) ≠ φ p.2
        rw [← h]; exact h1
      · show (p.1 + p.2) / 2 ≤ p.2; grind
      · show p.2 - (p.1 + p.2) / 2 = _
        have e2 : (b - a) * ((1 / 2) ^ n * (1 / 2)) = ((b - a) * (1 / 2) ^ n) * (1 / 2) := by grind
        rw [e2, ← h3]; grind
    · rename_i h
      refine ⟨h, ?_, ?_⟩
      · show p.1 ≤ (p.1 + p.2) / 2; grind
      · show (p.1 + p.2) / 2 - p.1 = _
        have e2 : (b - a) * ((1 / 2) ^ n * (1 / 2)) = ((b - a) * (1 / 2) ^ n) * (1 / 2) := by grind
        rw [e2, ← h3]; grind
theorem hseq_step (φ : Rat → Int) (p : Rat × Rat) (n : Nat) (h : (hseq φ p n).1 ≤ (hseq φ p n).2) : (hseq φ p n).1 ≤ (hseq φ p (n + 1)).1 ∧ (hseq φ p (n + 1)).2 ≤ (hseq φ p n).2 := by
  show _ ≤ (hstep φ (hseq φ p n)).1 ∧ (hstep φ (hseq φ p n)).2 ≤ _
  unfold hstep
  split
  · constructor
    · show (hseq φ p n).1 ≤ ((hseq φ p n).1 + (hseq φ p n).2) / 2; grind
    · exact Rat.le_refl
  · constructor
    · exact Rat.le_refl
    · show ((hseq φ p n).1 + (hseq φ p n).2) / 2 ≤ (hseq φ p n).2; grind
theorem hseq_mono {φ : Rat → Int} {a b : Rat} (hab : a ≤ b) (hne : φ a ≠ φ b) (n : Nat) : ∀ k : Nat, (hseq φ (a, b) n).1 ≤ (hseq φ (a, b) (n + k)).1 ∧ (hseq φ (a, b) (n + k)).2 ≤ (hseq φ (a, b) n).2
  | 0 => ⟨Rat.le_refl, Rat.le_refl⟩
  | k + 1 => by
    have ih := hseq_mono hab hne n k
    have h := hseq_step φ (a, b) (n + k) (hseq_ok hab hne (n + k)).2.1
    exact ⟨Rat.le_trans ih.1 h.1, Rat.le_trans h.2 ih.2⟩
theorem hseq_in {φ : Rat → Int} {a b : Rat} (hab : a ≤ b) (hne : φ a ≠ φ b) {n m : Nat} (h : n ≤ m) : (hseq φ (a, b) n).1 ≤ (hseq φ (a, b) m).1 ∧ (hseq φ (a, b) m).1 ≤ (hseq φ (a, b) n).2 := by
  have e : m = n + (m - n) := by lia
  have h1 := hseq_mono hab hne n (m - n)
  rw [← e] at h1
  have h2 := (hseq_ok hab hne m).2.1
  exact ⟨h1.1, Rat.le_trans h2 h1.2⟩
theorem hseq_cauchy {φ : Rat → Int} {a b : Rat} (hab : a ≤ b) (hne : φ a ≠ φ b) (e : Rat) (he : 0 < e) : ∃ N : Nat, (b - a) * (1 / 2) ^ N < e := by
  by_cases h0 : b - a = 0
  · exact ⟨0, by rw [h0]; grind⟩
  · have hp : 0 < b - a := by grind
    obtain ⟨N, hN⟩ := pow2_small (e / (b - a)) (dpos he hp)
    refine ⟨N, ?_⟩
    have := (Rat.mul_lt_mul_left hp).mpr (hN N (Nat.le_refl _))
    have e2 : (b - a) * (e / (b - a)) = e := by grind
    rw [e2] at this; exact this
theorem same_all {φ : Rat → Int} (loc : ∀ x : Re, ∃ d : Rat, 0 < d ∧ ∀ s t : Rat, ab (q s - x) < q d → ab (q t - x) < q d → φ s = φ t) {a b : Rat} (hab : a ≤ b) : φ a = φ b := by
  by_cases hne : φ a = φ b
  · exact hne
  exfalso
  let c : CS := ⟨fun n => (hseq φ (a, b) n).1, fun e he => by
    obtain ⟨N, hN⟩ := hseq_cauchy hab hne e he
    refine ⟨N, fun m n hm hn => ra_lt.mpr ?_⟩
    have g1 := hseq_in hab hne hm
    have g2 := hseq_in hab hne hn
    have g3 := (hseq_ok hab hne N).2.2
    constructor <;> grind⟩
  obtain ⟨d, hd, hloc⟩ := loc (mk c)
  obtain ⟨N, hN⟩ := hseq_cauchy hab hne d hd
  have g3 := (hseq_ok hab hne N).2.2
  have l1 : q (hseq φ (a, b) N).1 ≤ mk c := le_mk (N := N) fun m hm => (hseq_in hab hne hm).1
  have l2 : mk c ≤ q (hseq φ (a, b) N).2 := mk_le (N := N) fun m hm => (hseq_in hab hne hm).2
  have l3 : q (hseq φ (a, b) N).2 - q (hseq φ (a, b) N).1 < q d := by
    have : q (hseq φ (a, b) N).2 - q (hseq φ (a, b) N).1 = q ((hseq φ (a, b) N).2 - (hseq φ (a, b) N).1) := by
      have e : (hseq φ (a, b) N).2 - (hseq φ (a, b) N).1 = (hseq φ (a, b) N).2 + -(hseq φ (a, b) N).1 := by grind
      rw [e, q_add, q_neg]; grind
    rw [this, q_lt, g3]; exact hN
  refine (hseq_ok hab hne N).1 (hloc _ _ (ab_lt_iff.mpr ?_) (ab_lt_iff.mpr ?_))
  · constructor <;> grind
  · constructor <;> grind
end Re
namespace Po
open Re
noncomputable def at' (x : Re) (f : Po) : Re := sumN (fun i => ((f.c i : Int) : Re) * x ^ i) (len f)
theorem at_n (x : Re) {f : Po} {n : Nat} (h : len f ≤ n) : at' x f = sumN (fun i => ((f.c i : Int) : Re) * x ^ i) n := by
  have e : n = len f + (n - len f) := by lia
  have z : ((0 : Int) : Re) = 0 := Ring.intCast_zero
  rw [e, sumN_split, sumN_zero' (n := n - len f) (fun i _ => by rw [c_ge (by lia), z]; grind)]
  show sumN _ _ = _
  grind
theorem at_add (x : Re) (f g : Po) : at' x (f + g) = at' x f + at' x g := by
  have h1 := len_add f g
  rw [at_n x h1, at_n x (f := f) (n := max (len f) (len g)) (by lia), at_n x (f := g) (n := max (len f) (len g)) (by lia), ← sumN_add]
  exact sumN_congr fun i _ => by rw [add_c, Ring.intCast_add]; grind
theorem at_Kmul (x : Re) (a : Int) (f : Po) : at' x (K a * f) = (a : Re) * at' x f := by
  have h1 : len (K a * f) ≤ len f := len_le fun i hi => by rw [Kmul_c, c_ge hi]; grind
  rw [at_n x h1]
  unfold at'
  rw [← sumN_mul]
  exact sumN_congr fun i _ => by rw [Kmul_c, Ring.intCast_mul]; grind
theorem cast_sum (f : Nat → Int) : ∀ n : Nat, ((sumN f n : Int) : Re) = sumN (fun i => ((f i : Int) : Re)) n
  | 0 => Ring.intCast_zero
  | n + 1 => by
    show ((sumN f n + f n : Int) : Re) = _
    rw [Ring.intCast_add, cast_sum f n]; rfl
theorem pow_add' (x : Re) (m : Nat) : ∀ n : Nat, x ^ (m + n) = x ^ m * x ^ n
  | 0 => by
    have : x ^ 0 = 1 := Semiring.pow_zero x
    rw [Nat.add_zero, this]; grind
  | n + 1 => by
    have e1 : x ^ (m + (n + 1)) = x ^ (m + n) * x := Semiring.pow_succ x (m + n)
    have e2 : x ^ (n + 1) = x ^ n * x := Semiring.pow_succ x n
    rw [e1, pow_add' x m n, e2]; grind
theorem at_mul (x : Re) (f g : Po) : at' x (f * g) = at' x f * at' x g := by
  have hl : len (f * g) ≤ len f + len g := by
    by_cases hf : f = 0
    · rw [hf]; have : (0 : Po) * g = 0 := by grind
      rw [this, len_zero]; lia
    · by_cases hg : g = 0
      · rw [hg]; have : f * (0 : Po) = 0 := by grind
        rw [this, len_zero]; lia
      · have := len_mul hf hg; lia
  rw [at_n x hl]
  have z : ((0 : Int) : Re) = 0 := Ring.intCast_zero
  let F : Nat → Nat → Re := fun j k => (((f.c j : Int) : Re) * x ^ j) * (((g.c k : Int) : Re) * x ^ k)
  have e1 : sumN (fun i => (((f * g).c i : Int) : Re) * x ^ i) (len f + len g) = sumN (fun i => sumN (fun j => F j (i - j)) (i + 1)) (len f + len g) := sumN_congr fun i _ => by
    rw [mul_c, cast_sum, ← sumN_mulR]
    refine sumN_congr fun j hj => ?_
    show _ = (((f.c j : Int) : Re) * x ^ j) * (((g.c (i - j) : Int) : Re) * x ^ (i - j))
    rw [Ring.intCast_mul]
    have e : i = j + (i - j) := by lia
    have e2 : x ^ i = x ^ j * x ^ (i - j) := by rw [← pow_add', ← e]
    rw [e2]; grind
  rw [e1, sumN_tri F]
  have e3 : sumN (fun j => sumN (fun k => F j k) (len f + len g - j)) (len f + len g) = sumN (fun j => (((f.c j : Int) : Re) * x ^ j) * at' x g) (len f + len g) := sumN_congr fun j hj => by
    show sumN (fun k => (((f.c j : Int) : Re) * x ^ j) * (((g.c k : Int) : Re) * x ^ k)) _ = _
    rw [sumN_mul]
    by_cases h : j < len f
    · rw [← at_n x (f := g) (n := len f + len g - j) (by lia)]
    · rw [c_ge (f := f) (by lia), z]; grind
  rw [e3, sumN_mulR, ← at_n x (f := f) (n := len f + len g) (by lia)]
theorem at_K (x : Re) (a : Int) : at' x (K a) = (a : Re) := by
  rw [at_n x (len_K_le a)]
  show 0 + (((K a).c 0 : Int) : Re) * x ^ 0 = _
  have : x ^ 0 = 1 := Semiring.pow_zero x
  rw [K_c, if_pos rfl, this]; grind
theorem at_zero (x : Re) : at' x 0 = 0 := by rw [← K_zero, at_K]; exact Ring.intCast_zero
theorem at_X (x : Re) : at' x (X 1) = x := by
  have h : len (X 1) ≤ 2 := len_le fun i hi => by rw [X_c, if_neg (by lia)]
  rw [at_n x h]
  show 0 + (((X 1).c 0 : Int) : Re) * x ^ 0 + (((X 1).c 1 : Int) : Re) * x ^ 1 = _
  have e0 : x ^ 0 = 1 := Semiring.pow_zero x
  have e1 : x ^ 1 = x ^ 0 * x := Semiring.pow_succ x 0
  have z : ((0 : Int) : Re) = 0 := Ring.intCast_zero
  have o : ((1 : Int) : Re) = 1 := Ring.intCast_one
  rw [X_c, X_c, if_neg (by decide), if_pos rfl, e1, e0, z, o]; grind
theorem cons_der (a : Int) (r : List Int) : der (ofL (a :: r)) = ofL r + X 1 * der (ofL r) := ext fun i => by
  rw [der_c, add_c, ofL_c, ofL_c, co_succ, X_mul_c]
  cases i with
  | zero => rw [if_pos (by decide)]; grind
  | succ i =>
    rw [if_neg (by lia), Nat.add_sub_cancel, der_c, ofL_c]
    have : ((i + 1 + 1 : Nat) : Int) = ((i + 1 : Nat) : Int) + 1 := by lia
    rw [this]; grind
theorem at_cons (x : Re) (a : Int) (r : List Int) : at' x (ofL (a :: r)) = (a : Re) + x * at' x (ofL r) := by
  rw [ofL_cons, at_add, at_K, at_mul, at_X]
theorem taylor (x : Re) : ∀ xs : List Int, ∃ B : Re, 0 ≤ B ∧ ∀ t : Re, Re.ab (t - x) ≤ 1 → Re.ab (at' t (ofL xs) - at' x (ofL xs) - (t - x) * at' x (der (ofL xs))) ≤ B * (Re.ab (t - x) * Re.ab (t - x))
  | [] => ⟨0, by grind, fun t _ => by
    have e : der (ofL []) = 0 := by
      refine ext fun i => ?_
      rw [der_c, ofL_c, zero_c]; show _ * 0 = 0; grind
    rw [e, ofL_nil, at_zero, at_zero]
    have : (0 : Re) - 0 - (t - x) * 0 = 0 := by grind
    rw [this]; unfold Re.ab; rw [if_neg (by grind)]; grind⟩
  | a :: r => by
    obtain ⟨B, hB, hb⟩ := taylor x r
    refine ⟨Re.ab (at' x (der (ofL r))) + (Re.ab x + 1) * B, ?_, fun t ht => ?_⟩
    · have h1 := Re.ab_nonneg (at' x (der (ofL r)))
      have h2 := Re.mul_nonneg (x := Re.ab x + 1) (y := B) (by have := Re.ab_nonneg x; grind) hB
      grind
    · have h := hb t ht
      generalize hρ : at' t (ofL r) - at' x (ofL r) - (t - x) * at' x (der (ofL r)) = ρ at h
      rw [at_cons, at_cons, cons_der, at_add, at_mul, at_X]
      have e : (a : Re) + t * at' t (ofL r) - ((a : Re) + x * at' x (ofL r)) - (t - x) * (at' x (ofL r) + x * at' x (der (ofL r))) = (t - x) * (t - x) * at' x (der (ofL r)) + t * ρ := by rw [← hρ]; grind
      rw [e]
      have g1 := Re.ab_add ((t - x) * (t - x) * at' x (der (ofL r))) (t * ρ)
      rw [Re.ab_mul, Re.ab_mul, Re.ab_mul] at g1
      have g2 : Re.ab t ≤ Re.ab x + 1 := by
        have := Re.ab_add (t - x) x
        have e2 : t - x + x = t := by grind
        rw [e2] at this; grind
      have g3 := Re.mul_le_mul (a := Re.ab t) (b := Re.ab x + 1) (c := Re.ab ρ) (d := B * (Re.ab (t - x) * Re.ab (t - x))) g2 h (by have := Re.ab_nonneg x; grind) (Re.ab_nonneg _)
      grind
end Po
end SF
namespace SF
open Lean.Grind
open Classical in
noncomputable def sgR (x : Re) : Int := if x < 0 then -1 else if 0 < x then 1 else 0
namespace Re
theorem sgR_neg {x : Re} (h : x < 0) : sgR x = -1 := by unfold sgR; rw [if_pos h]
theorem sgR_pos {x : Re} (h : 0 < x) : sgR x = 1 := by unfold sgR; rw [if_neg (by grind), if_pos h]
theorem sgR_zero : sgR 0 = 0 := by unfold sgR; rw [if_neg (by grind), if_neg (by grind)]
theorem sgR_cases (x : Re) : (x < 0 ∧ sgR x = -1) ∨ (x = 0 ∧ sgR x = 0) ∨ (0 < x ∧ sgR x = 1) := by
  rcases tri x 0 with h | h | h
  · exact .inl ⟨h, sgR_neg h⟩
  · exact .inr (.inl ⟨h, by rw [h, sgR_zero]⟩)
  · exact .inr (.inr ⟨h, sgR_pos h⟩)
theorem sgR_ne {x : Re} (h : x ≠ 0) : sgR x = -1 ∨ sgR x = 1 := by
  rcases sgR_cases x with z | z | z
  · exact .inl z.2
  · exact absurd z.1 h
  · exact .inr z.2
theorem sgR_eq_zero {x : Re} (h : sgR x = 0) : x = 0 := by
  rcases sgR_cases x with z | z | z
  · rw [h] at z; lia
  · exact z.1
  · rw [h] at z; lia
theorem sgR_ng (x : Re) : sgR (-x) = - sgR x := by
  rcases sgR_cases x with z | z | z
  · rw [z.2, sgR_pos (by grind)]; rfl
  · have : -x = 0 := by grind
    rw [z.2, this, sgR_zero]; rfl
  · rw [z.2, sgR_neg (by grind)]
theorem sgR_mul (x y : Re) : sgR (x * y) = sgR x * sgR y := by
  rcases sgR_cases x with z | z | z <;> rcases sgR_cases y with w | w | w
  · have := mul_pos (x := -x) (y := -y) (by grind) (by grind)
    rw [z.2, w.2, sgR_pos (by grind)]; rfl
  · have : x * y = 0 := by rw [w.1]; grind
    rw [this, sgR_zero, w.2]; lia
  · have := mul_pos (x := -x) (y := y) (by grind) (by grind)
    rw [z.2, w.2, sgR_neg (by grind)]; rfl
  · have : x * y = 0 := by rw [z.1]; grind
    rw [this, sgR_zero, z.2]; lia
  · have : x * y = 0 := by rw [z.1]; grind
    rw [this, sgR_zero, z.2]; lia
  · have : x * y = 0 := by rw [z.1]; grind
    rw [this, sgR_zero, z.2]; lia
  · have := mul_pos (x := x) (y := -y) (by grind) (by grind)
    rw [z.2, w.2, sgR_neg (by grind)]; rfl
  · have : x * y = 0 := by rw [w.1]; grind
    rw [this, sgR_zero, w.2]; lia
  · have := mul_pos (x := x) (y := y) (by grind) (by grind)
    rw [z.2, w.2, sgR_pos (by grind)]; rfl
theorem tiny (C e : Re) (he : 0 < e) : ∃ d : Rat, 0 < d ∧ d ≤ 1 ∧ ∀ z : Re, 0 ≤ z → z < q d → z * C < e := by
  obtain ⟨g, hg, hC⟩ := great (ab C)
  obtain ⟨r, hr, hre⟩ := small he
  have h1 : 0 < r / g := RR.dpos hr hg
  refine ⟨if r / g < 1 then r / g else 1, by split <;> grind, by split <;> grind, fun z hz hzd => ?_⟩
  have h2 : z < q (r / g) := by
    split at hzd
    · exact hzd
    · have : q 1 ≤ q (r / g) := q_le.mpr (by grind)
      grind
  have h3 : z * C ≤ z * q g := by
    have h4 : C ≤ q g := by
      have := (ab_le_iff (x := C) (e := ab C)).mp (by grind)
      grind
    have := mul_nonneg (x := z) (y := q g - C) hz (by grind)
    grind
  have hgp : 0 < q g := by
    have := q_lt.mpr hg
    rw [q_zero] at this; exact this
  have h5 : z * q g < q (r / g) * q g := by
    have := mul_pos (x := q (r / g) - z) (y := q g) (by grind) hgp
    grind
  have h6 : q (r / g) * q g = q r := by
    rw [← q_mul]; congr 1; grind
  rw [h6] at h5
  grind
end Re
namespace Po
open Re
theorem near_ne {x : Re} {f : Po} (h : at' x f ≠ 0) : ∃ d : Rat, 0 < d ∧ ∀ t : Re, Re.ab (t - x) < q d → sgR (at' t f) = sgR (at' x f) := by
  obtain ⟨B, hB, hb⟩ := taylor x (lst f)
  rw [ofL_lst] at hb
  have hpos : 0 < Re.ab (at' x f) := by unfold Re.ab; split <;> grind
  obtain ⟨d, hd, hd1, hz⟩ := tiny (Re.ab (at' x (der f)) + B) _ hpos
  refine ⟨d, hd, fun t ht => ?_⟩
  have g0 := Re.ab_nonneg (t - x)
  have g1 := hz (Re.ab (t - x)) g0 ht
  have hq1 : q d ≤ 1 := by
    have := q_le.mpr hd1
    rw [q_one] at this; exact this
  have g2 := hb t (by grind)
  have g3 : Re.ab (at' t f - at' x f) < Re.ab (at' x f) := by
    have e : at' t f - at' x f = (at' t f - at' x f - (t - x) * at' x (der f)) + (t - x) * at' x (der f) := by grind
    have g4 := Re.ab_add (at' t f - at' x f - (t - x) * at' x (der f)) ((t - x) * at' x (der f))
    rw [← e, Re.ab_mul] at g4
    have g5 := Re.mul_nonneg (x := B) (y := Re.ab (t - x) * (1 - Re.ab (t - x))) hB (Re.mul_nonneg g0 (by grind))
    grind
  have g6 := ab_lt_iff.mp g3
  rcases sgR_cases (at' x f) with z | z | z
  · have e : Re.ab (at' x f) = - at' x f := by unfold Re.ab; rw [if_pos z.1]
    rw [z.2]; exact sgR_neg (by grind)
  · exact absurd z.1 h
  · have e : Re.ab (at' x f) = at' x f := by unfold Re.ab; rw [if_neg (by grind)]
    rw [z.2]; exact sgR_pos (by grind)
theorem near_root {x : Re} {f : Po} (h0 : at' x f = 0) (h : at' x (der f) ≠ 0) : ∃ d : Rat, 0 < d ∧ ∀ t : Re, Re.ab (t - x) < q d → sgR (at' t f) = sgR (t - x) * sgR (at' x (der f)) := by
  obtain ⟨B, hB, hb⟩ := taylor x (lst f)
  rw [ofL_lst] at hb
  have hpos : 0 < Re.ab (at' x (der f)) := by unfold Re.ab; split <;> grind
  obtain ⟨d, hd, hd1, hz⟩ := tiny B _ hpos
  refine ⟨d, hd, fun t ht => ?_⟩
  have g0 := Re.ab_nonneg (t - x)
  have g1 := hz (Re.ab (t - x)) g0 ht
  have hq1 : q d ≤ 1 := by
    have := q_le.mpr hd1
    rw [q_one] at this; exact this
  have g2 := hb t (by grind)
  rw [h0] at g2
  by_cases htx : t - x = 0
  · have : t = x := by grind
    rw [htx, this, h0, sgR_zero]; lia
  · have hp : 0 < Re.ab (t - x) := by unfold Re.ab; split <;> grind
    have g3 : B * (Re.ab (t - x) * Re.ab (t - x)) < Re.ab ((t - x) * at' x (der f)) := by
      rw [Re.ab_mul]
      have := Re.mul_pos (x := Re.ab (t - x)) (y := Re.ab (at' x (der f)) - Re.ab (t - x) * B) hp (by grind)
      grind
    rw [← sgR_mul]
    generalize (t - x) * at' x (der f) = y at g2 g3
    have g4 := ab_le_iff.mp g2
    rcases sgR_cases y with z | z | z
    · have e : Re.ab y = - y := by unfold Re.ab; rw [if_pos z.1]
      rw [z.2]; exact sgR_neg (by grind)
    · rw [z.1] at g3
      have e : Re.ab (0 : Re) = 0 := by unfold Re.ab; rw [if_neg (by grind)]
      rw [e] at g3
      have := Re.mul_nonneg hB (Re.mul_nonneg g0 g0)
      grind
    · have e : Re.ab y = y := by unfold Re.ab; rw [if_neg (by grind)]
      rw [z.2]; exact sgR_pos (by grind)
end Po
noncomputable def cg (b : Int) : List Int → Nat
  | [] => 0
  | s :: r => (if s * b < 0 then 1 else 0) + cg (if s ≠ 0 then s else b) r
namespace Po
open Re
noncomputable def sgs (t : Re) (ps : List Po) : List Int := ps.map fun p => sgR (at' t p)
noncomputable def Chn (x : Re) : List Po → Prop
  | [] => True
  | [a] => at' x a ≠ 0
  | a :: b :: [] => at' x b ≠ 0
  | a :: b :: c :: r => (at' x b = 0 → sgR (at' x a) * sgR (at' x c) < 0) ∧ Chn x (b :: c :: r)
theorem min_d {d e : Rat} (hd : 0 < d) (he : 0 < e) : ∃ m : Rat, 0 < m ∧ q m ≤ q d ∧ q m ≤ q e := by
  by_cases h : d < e
  · exact ⟨d, hd, q_le.mpr (by grind), q_le.mpr (by grind)⟩
  · exact ⟨e, he, q_le.mpr (by grind), q_le.mpr (by grind)⟩
theorem chn_same {x : Re} : ∀ (n : Nat) (a : Po) (r : List Po), r.length ≤ n → at' x a ≠ 0 → Chn x (a :: r) → ∃ d : Rat, 0 < d ∧ ∀ t : Re, Re.ab (t - x) < q d → sgR (at' t a) = sgR (at' x a) ∧ cg (sgR (at' t a)) (sgs t r) = cg (sgR (at' x a)) (sgs x r)
  | n, a, [], _, ha, _ => by
    obtain ⟨d, hd, h⟩ := near_ne ha
    exact ⟨d, hd, fun t ht => ⟨h t ht, rfl⟩⟩
  | n, a, [b], _, ha, hc => by
    obtain ⟨d, hd, h⟩ := near_ne ha
    obtain ⟨e, he, h'⟩ := near_ne (show at' x b ≠ 0 from hc)
    obtain ⟨m, hm, h1, h2⟩ := min_d hd he
    refine ⟨m, hm, fun t ht => ?_⟩
    have g1 := h t (by grind)
    have g2 := h' t (by grind)
    refine ⟨g1, ?_⟩
    unfold sgs
    rw [List.map_cons, List.map_cons, g1, g2]; rfl
  | 0, a, b :: c :: r, hl, _, _ => by simp at hl
  | n + 1, a, b :: c :: r, hl, ha, hc => by
    obtain ⟨d, hd, h⟩ := near_ne ha
    obtain ⟨hc1, hc2⟩ := hc
    by_cases hb : at' x b = 0
    · have hop := hc1 hb
      have hcn : at' x c ≠ 0 := fun z => by rw [z, sgR_zero] at hop; lia
      have hc3 : Chn x (c :: r) := by
        cases r with
        | nil => exact hcn
        | cons e r => exact hc2.2
      obtain ⟨e, he, h'⟩ := chn_same n c r (by simp at hl; lia) hcn hc3
      obtain ⟨m, hm, h1, h2⟩ := min_d hd he
      refine ⟨m, hm, fun t ht => ?_⟩
      have g1 := h t (by grind)
      obtain ⟨g2, g3⟩ := h' t (by grind)
      refine ⟨g1, ?_⟩
      show cg (sgR (at' t a)) (sgR (at' t b) :: sgR (at' t c) :: sgs t r) = cg (sgR (at' x a)) (sgR (at' x b) :: sgR (at' x c) :: sgs x r)
      rw [g1, g2, hb, sgR_zero]
      rw [g2] at g3
      rcases sgR_ne ha with sa | sa <;> rcases sgR_ne hcn with sc | sc
      · rw [sa, sc] at hop; lia
      · rw [sc] at g3
        rw [sa, sc]
        rcases sgR_cases (at' t b) with z | z | z <;> rw [z.2] <;> simp [cg, g3]
      · rw [sc] at g3
        rw [sa, sc]
        rcases sgR_cases (at' t b) with z | z | z <;> rw [z.2] <;> simp [cg, g3]
      · rw [sa, sc] at hop; lia
    · obtain ⟨e, he, h'⟩ := chn_same n b (c :: r) (by simp at hl ⊢; lia) hb hc2
      obtain ⟨m, hm, h1, h2⟩ := min_d hd he
      refine ⟨m, hm, fun t ht => ?_⟩
      have g1 := h t (by grind)
      obtain ⟨g2, g3⟩ := h' t (by grind)
      refine ⟨g1, ?_⟩
      show cg (sgR (at' t a)) (sgR (at' t b) :: sgs t (c :: r)) = cg (sgR (at' x a)) (sgR (at' x b) :: sgs x (c :: r))
      rw [g1]
      have nz : sgR (at' x b) ≠ 0 := fun z => hb (sgR_eq_zero z)
      show (if sgR (at' t b) * sgR (at' x a) < 0 then 1 else 0) + cg (if sgR (at' t b) ≠ 0 then sgR (at' t b) else sgR (at' x a)) (sgs t (c :: r)) = (if sgR (at' x b) * sgR (at' x a) < 0 then 1 else 0) + cg (if sgR (at' x b) ≠ 0 then sgR (at' x b) else sgR (at' x a)) (sgs x (c :: r))
      rw [if_pos (c := sgR (at' x b) ≠ 0) nz, if_pos (c := sgR (at' t b) ≠ 0) (by rw [g2]; exact nz), g3, g2]
end Po
end SF
namespace SF
open Lean.Grind
namespace Po
structure Lin (l : Po → Po) : Prop where
  add : ∀ x y, l (x + y) = l x + l y
  smul : ∀ (a : Int) x, l (K a * x) = K a * l x
noncomputable def Ex (l : Po → Po) (F : List Po → Po) : List Po → List Po → Po
  | _, [] => 0
  | pre, r :: rs => l r * F (pre ++ rs) - Ex l F (pre ++ [r]) rs
noncomputable def Det : List (Po → Po) → List Po → Po
  | [], _ => 1
  | l :: cs, rows => Ex l (Det cs) [] rows
structure RowLin (n : Nat) (F : List Po → Po) : Prop where
  add : ∀ A x y B, A.length + B.length + 1 = n → F (A ++ (x + y) :: B) = F (A ++ x :: B) + F (A ++ y :: B)
  smul : ∀ A (a : Int) x B, A.length + B.length + 1 = n → F (A ++ (K a * x) :: B) = K a * F (A ++ x :: B)
  alt : ∀ A x y B, A.length + B.length + 2 = n → F (A ++ x :: y :: B) = - F (A ++ y :: x :: B)
theorem Ex_pre_add {n : Nat} {l : Po → Po} {F : List Po → Po} (hF : RowLin n F) : ∀ (rs P Q : List Po) (x y : Po), P.length + Q.length + rs.length = n → Ex l F (P ++ (x + y) :: Q) rs = Ex l F (P ++ x :: Q) rs + Ex l F (P ++ y :: Q) rs
  | [], P, Q, x, y, _ => by show (0 : Po) = 0 + 0; grind
  | r :: rs, P, Q, x, y, h => by
    rw [List.length_cons] at h
    have ih := Ex_pre_add (l := l) hF rs P (Q ++ [r]) x y (by rw [List.length_append, List.length_singleton]; lia)
    have h2 := hF.add P x y (Q ++ rs) (by rw [List.length_append]; lia)
    show l r * F ((P ++ (x + y) :: Q) ++ rs) - Ex l F ((P ++ (x + y) :: Q) ++ [r]) rs = (l r * F ((P ++ x :: Q) ++ rs) - Ex l F ((P ++ x :: Q) ++ [r]) rs) + (l r * F ((P ++ y :: Q) ++ rs) - Ex l F ((P ++ y :: Q) ++ [r]) rs)
    simp only [List.append_assoc, List.cons_append] at *
    rw [h2, ih]; grind
theorem Ex_pre_smul {n : Nat} {l : Po → Po} {F : List Po → Po} (hF : RowLin n F) (a : Int) : ∀ (rs P Q : List Po) (x : Po), P.length + Q.length + rs.length = n → Ex l F (P ++ (K a * x) :: Q) rs = K a * Ex l F (P ++ x :: Q) rs
  | [], P, Q, x, _ => by show (0 : Po) = K a * 0; grind
  | r :: rs, P, Q, x, h => by
    rw [List.length_cons] at h
    have ih := Ex_pre_smul (l := l) hF a rs P (Q ++ [r]) x (by rw [List.length_append, List.length_singleton]; lia)
    have h2 := hF.smul P a x (Q ++ rs) (by rw [List.length_append]; lia)
    show l r * F ((P ++ (K a * x) :: Q) ++ rs) - Ex l F ((P ++ (K a * x) :: Q) ++ [r]) rs = K a * (l r * F ((P ++ x :: Q) ++ rs) - Ex l F ((P ++ x :: Q) ++ [r]) rs)
    simp only [List.append_assoc, List.cons_append] at *
    rw [h2, ih]; grind
theorem Ex_pre_alt {n : Nat} {l : Po → Po} {F : List Po → Po} (hF : RowLin n F) : ∀ (rs P Q : List Po) (x y : Po), P.length + Q.length + rs.length + 1 = n → Ex l F (P ++ x :: y :: Q) rs = - Ex l F (P ++ y :: x :: Q) rs
  | [], P, Q, x, y, _ => by show (0 : Po) = -0; grind
  | r :: rs, P, Q, x, y, h => by
    rw [List.length_cons] at h
    have ih := Ex_pre_alt (l := l) hF rs P (Q ++ [r]) x y (by rw [List.length_append, List.length_singleton]; lia)
    have h2 := hF.alt P x y (Q ++ rs) (by rw [List.length_append]; lia)
    show l r * F ((P ++ x :: y :: Q) ++ rs) - Ex l F ((P ++ x :: y :: Q) ++ [r]) rs = -(l r * F ((P ++ y :: x :: Q) ++ rs) - Ex l F ((P ++ y :: x :: Q) ++ [r]) rs)
    simp only [List.append_assoc, List.cons_append] at *
    rw [h2, ih]; grind
theorem Ex_add {n : Nat} {l : Po → Po} {F : List Po → Po} (hl : Lin l) (hF : RowLin n F) : ∀ (A pre B : List Po) (x y : Po), pre.length + A.length + B.length = n → Ex l F pre (A ++ (x + y) :: B) = Ex l F pre (A ++ x :: B) + Ex l F pre (A ++ y :: B)
  | [], pre, B, x, y, h => by
    have h := Ex_pre_add (l := l) hF B pre [] x y (by rw [List.length_nil] at *; lia)
    show l (x + y) * F (pre ++ B) - Ex l F (pre ++ [x + y]) B = (l x * F (pre ++ B) - Ex l F (pre ++ [x]) B) + (l y * F (pre ++ B) - Ex l F (pre ++ [y]) B)
    rw [hl.add, h]; grind
  | z :: A, pre, B, x, y, h => by
    rw [List.length_cons] at h
    have ih := Ex_add hl hF A (pre ++ [z]) B x y (by rw [List.length_append, List.length_singleton]; lia)
    have h := hF.add (pre ++ A) x y B (by rw [List.length_append]; lia)
    show l z * F (pre ++ (A ++ (x + y) :: B)) - Ex l F (pre ++ [z]) (A ++ (x + y) :: B) = (l z * F (pre ++ (A ++ x :: B)) - Ex l F (pre ++ [z]) (A ++ x :: B)) + (l z * F (pre ++ (A ++ y :: B)) - Ex l F (pre ++ [z]) (A ++ y :: B))
    rw [List.append_assoc, List.append_assoc, List.append_assoc] at h
    rw [ih, h]; grind
theorem Ex_smul {n : Nat} {l : Po → Po} {F : List Po → Po} (hl : Lin l) (hF : RowLin n F) (a : Int) : ∀ (A pre B : List Po) (x : Po), pre.length + A.length + B.length = n → Ex l F pre (A ++ (K a * x) :: B) = K a * Ex l F pre (A ++ x :: B)
  | [], pre, B, x, h => by
    have h := Ex_pre_smul (l := l) hF a B pre [] x (by rw [List.length_nil] at *; lia)
    show l (K a * x) * F (pre ++ B) - Ex l F (pre ++ [K a * x]) B = K a * (l x * F (pre ++ B) - Ex l F (pre ++ [x]) B)
    rw [hl.smul, h]; grind
  | z :: A, pre, B, x, h => by
    rw [List.length_cons] at h
    have ih := Ex_smul hl hF a A (pre ++ [z]) B x (by rw [List.length_append, List.length_singleton]; lia)
    have h := hF.smul (pre ++ A) a x B (by rw [List.length_append]; lia)
    show l z * F (pre ++ (A ++ (K a * x) :: B)) - Ex l F (pre ++ [z]) (A ++ (K a * x) :: B) = K a * (l z * F (pre ++ (A ++ x :: B)) - Ex l F (pre ++ [z]) (A ++ x :: B))
    rw [List.append_assoc, List.append_assoc] at h
    rw [ih, h]; grind
theorem Ex_alt {n : Nat} {l : Po → Po} {F : List Po → Po} (hF : RowLin n F) : ∀ (A pre B : List Po) (x y : Po), pre.length + A.length + B.length + 1 = n → Ex l F pre (A ++ x :: y :: B) = - Ex l F pre (A ++ y :: x :: B)
  | [], pre, B, x, y, h => by
    have h := Ex_pre_alt (l := l) hF B pre [] x y (by rw [List.length_nil] at *; lia)
    show l x * F (pre ++ y :: B) - (l y * F ((pre ++ [x]) ++ B) - Ex l F ((pre ++ [x]) ++ [y]) B) = -(l y * F (pre ++ x :: B) - (l x * F ((pre ++ [y]) ++ B) - Ex l F ((pre ++ [y]) ++ [x]) B))
    have e1 : (pre ++ [x]) ++ B = pre ++ x :: B := by simp
    have e2 : (pre ++ [y]) ++ B = pre ++ y :: B := by simp
    have e3 : (pre ++ [x]) ++ [y] = pre ++ [x, y] := by simp
    have e4 : (pre ++ [y]) ++ [x] = pre ++ [y, x] := by simp
    rw [e1, e2, e3, e4, h]; grind
  | z :: A, pre, B, x, y, h => by
    rw [List.length_cons] at h
    have ih := Ex_alt (l := l) hF A (pre ++ [z]) B x y (by rw [List.length_append, List.length_singleton]; lia)
    have h := hF.alt (pre ++ A) x y B (by rw [List.length_append]; lia)
    show l z * F (pre ++ (A ++ x :: y :: B)) - Ex l F (pre ++ [z]) (A ++ x :: y :: B) = -(l z * F (pre ++ (A ++ y :: x :: B)) - Ex l F (pre ++ [z]) (A ++ y :: x :: B))
    rw [List.append_assoc, List.append_assoc] at h
    rw [ih, h]; grind
noncomputable def AllLin (cs : List (Po → Po)) : Prop := ∀ l ∈ cs, Lin l
theorem Det_lin : ∀ cs : List (Po → Po), AllLin cs → RowLin cs.length (Det cs)
  | [], _ => ⟨fun A x y B h => by rw [List.length_nil] at h; lia, fun A a x B h => by rw [List.length_nil] at h; lia, fun A x y B h => by rw [List.length_nil] at h; lia⟩
  | l :: cs, hc => by
    have ih := Det_lin cs fun m hm => hc m (List.mem_cons_of_mem _ hm)
    have hl := hc l List.mem_cons_self
    rw [List.length_cons]
    refine ⟨fun A x y B h => Ex_add hl ih A [] B x y ?_, fun A a x B h => Ex_smul hl ih a A [] B x ?_, fun A x y B h => Ex_alt ih A [] B x y ?_⟩ <;> (rw [List.length_nil]; lia)
section
variable {n : Nat} {F : List Po → Po} (hF : RowLin n F)
include hF
theorem two_zero {x : Po} (h : x = -x) : x = 0 := by
  have : K 2 * x = 0 := by
    have e : K 2 = 1 + 1 := by rw [← K_one, ← K_add]; rfl
    rw [e]; grind
  rcases mul_eq_zero this with z | z
  · exact absurd z (K_ne (by decide))
  · exact z
theorem row_twice (A : List Po) (x : Po) (B : List Po) (h : A.length + B.length + 2 = n) : F (A ++ x :: x :: B) = 0 := two_zero hF (hF.alt A x x B h)
theorem row_dup : ∀ (B1 A B2 : List Po) (x : Po), A.length + B1.length + B2.length + 2 = n → F (A ++ x :: (B1 ++ x :: B2)) = 0
  | [], A, B2, x, h => row_twice hF A x B2 (by rw [List.length_nil] at h; lia)
  | z :: B1, A, B2, x, h => by
    rw [List.length_cons] at h
    have h1 := hF.alt A x z (B1 ++ x :: B2) (by rw [List.length_append, List.length_cons]; lia)
    have h2 := row_dup B1 (A ++ [z]) B2 x (by rw [List.length_append, List.length_singleton]; lia)
    have e : A ++ x :: (z :: B1 ++ x :: B2) = A ++ x :: z :: (B1 ++ x :: B2) := rfl
    rw [e, h1]
    have e2 : (A ++ [z]) ++ x :: (B1 ++ x :: B2) = A ++ z :: x :: (B1 ++ x :: B2) := by simp
    rw [e2] at h2
    rw [h2]; grind
omit hF in
inductive Span (B : List Po) : Po → Prop
  | zero : Span B 0
  | step (y b : Po) (a : Int) : Span B y → b ∈ B → Span B (y + K a * b)
theorem row_zero (A B : List Po) (h : A.length + B.length + 1 = n) : F (A ++ 0 :: B) = 0 := by
  have := hF.smul A 0 0 B h
  rw [K_zero] at this
  have e : (0 : Po) * 0 = 0 := by grind
  rw [e] at this
  rw [this]; grind
theorem row_span {B : List Po} {y : Po} (hy : Span B y) : ∀ (A : List Po), A.length + B.length + 1 = n → F (A ++ y :: B) = 0 := by
  induction hy with
  | zero => exact fun A h => row_zero hF A B h
  | step y b a _ hb ih =>
    intro A h
    rw [hF.add A y (K a * b) B h, ih A h, hF.smul A a b B h]
    obtain ⟨B1, B2, e⟩ := List.append_of_mem hb
    have h2 : A.length + B1.length + B2.length + 2 = n := by
      have := congrArg List.length e
      rw [List.length_append, List.length_cons] at this; lia
    have h3 := row_dup hF B1 A B2 b h2
    rw [← e] at h3
    rw [h3]; grind
omit hF in
theorem Span.mono {B B' : List Po} {y : Po} (h : Span B y) (hs : ∀ b ∈ B, b ∈ B') : Span B' y := by
  induction h with
  | zero => exact .zero
  | step y b a _ hb ih => exact .step y b a ih (hs b hb)
omit hF in
theorem Span.add {B : List Po} {x y : Po} (h : Span B x) (h' : Span B y) : Span B (x + y) := by
  induction h' with
  | zero => have : x + 0 = x := by grind
            rw [this]; exact h
  | step y b a _ hb ih =>
    have : x + (y + K a * b) = (x + y) + K a * b := by grind
    rw [this]; exact .step _ _ _ ih hb
omit hF in
theorem Span.of {B : List Po} {b : Po} (a : Int) (hb : b ∈ B) : Span B (K a * b) := by
  have : K a * b = 0 + K a * b := by grind
  rw [this]; exact .step _ _ _ .zero hb
theorem row_change {G : List Po} : ∀ (us vs A : List Po), us.length = vs.length → (∀ i (h : i < us.length) (h' : i < vs.length), ∃ w, Span G w ∧ us[i] = vs[i] + w) → A.length + us.length + G.length = n → F (A ++ (us ++ G)) = F (A ++ (vs ++ G))
  | [], [], A, _, _, _ => rfl
  | [], v :: vs, A, hl, _, _ => by simp at hl
  | u :: us, [], A, hl, _, _ => by simp at hl
  | u :: us, v :: vs, A, hl, hw, h => by
    have hl' : us.length = vs.length := by simpa using hl
    obtain ⟨w, hs, e⟩ := hw 0 (by simp) (by simp)
    have e' : u = v + w := e
    rw [List.length_cons] at h
    have ih := row_change us vs (A ++ [v]) hl' (fun i h1 h2 => by
      obtain ⟨w, hs, e⟩ := hw (i + 1) (by simp; lia) (by simp; lia)
      exact ⟨w, hs, e⟩) (by rw [List.length_append, List.length_singleton]; lia)
    show F (A ++ u :: (us ++ G)) = F (A ++ v :: (vs ++ G))
    rw [e', hF.add A v w (us ++ G) (by rw [List.length_append]; lia)]
    rw [row_span hF (hs.mono fun b hb => List.mem_append_right _ hb) A (by rw [List.length_append]; lia)]
    have e2 : A ++ v :: (us ++ G) = (A ++ [v]) ++ (us ++ G) := by simp
    have e3 : A ++ v :: (vs ++ G) = (A ++ [v]) ++ (vs ++ G) := by simp
    rw [e2, e3, ih]; grind
theorem rows_smul (a : Int) : ∀ (us A B : List Po), A.length + us.length + B.length = n → F (A ++ (us.map (fun u => K a * u) ++ B)) = K (a ^ us.length) * F (A ++ (us ++ B))
  | [], A, B, _ => by
    show F (A ++ B) = K (a ^ 0) * F (A ++ B)
    rw [Int.pow_zero, K_one]; grind
  | u :: us, A, B, h => by
    rw [List.length_cons] at h
    have ih := rows_smul a us (A ++ [u]) B (by rw [List.length_append, List.length_singleton]; lia)
    show F (A ++ (K a * u) :: (us.map (fun u => K a * u) ++ B)) = K (a ^ (us.length + 1)) * F (A ++ u :: (us ++ B))
    rw [hF.smul A a u _ (by rw [List.length_append, List.length_map]; lia)]
    have e2 : A ++ u :: (us.map (fun u => K a * u) ++ B) = (A ++ [u]) ++ (us.map (fun u => K a * u) ++ B) := by simp
    have e3 : A ++ u :: (us ++ B) = (A ++ [u]) ++ (us ++ B) := by simp
    rw [e2, e3, ih, Int.pow_succ, K_mul]; grind
theorem row_past (x : Po) : ∀ (B A C : List Po), A.length + B.length + C.length + 1 = n → ∃ s : Int, (s = 1 ∨ s = -1) ∧ F (A ++ x :: (B ++ C)) = K s * F (A ++ (B ++ x :: C))
  | [], A, C, _ => ⟨1, .inl rfl, by rw [K_one]; show F (A ++ x :: C) = 1 * F (A ++ x :: C); grind⟩
  | b :: B, A, C, h => by
    rw [List.length_cons] at h
    obtain ⟨s, hs, e⟩ := row_past x B (A ++ [b]) C (by rw [List.length_append, List.length_singleton]; lia)
    refine ⟨-s, by lia, ?_⟩
    show F (A ++ x :: b :: (B ++ C)) = K (-s) * F (A ++ (b :: (B ++ x :: C)))
    rw [hF.alt A x b (B ++ C) (by rw [List.length_append]; lia)]
    have e2 : A ++ b :: x :: (B ++ C) = (A ++ [b]) ++ x :: (B ++ C) := by simp
    have e3 : A ++ b :: (B ++ x :: C) = (A ++ [b]) ++ (B ++ x :: C) := by simp
    rw [e2, e3, e, K_neg]; grind
theorem blocks : ∀ (U A B : List Po), A.length + U.length + B.length = n → ∃ s : Int, (s = 1 ∨ s = -1) ∧ F (A ++ (U ++ B)) = K s * F (A ++ (B ++ U))
  | [], A, B, _ => ⟨1, .inl rfl, by rw [K_one]; show F (A ++ B) = 1 * F (A ++ (B ++ [])); rw [List.append_nil]; grind⟩
  | u :: U, A, B, h => by
    rw [List.length_cons] at h
    obtain ⟨s, hs, e⟩ := blocks U (A ++ [u]) B (by rw [List.length_append, List.length_singleton]; lia)
    obtain ⟨s', hs', e'⟩ := row_past hF u B A U (by lia)
    refine ⟨s * s', by rcases hs with z | z <;> rcases hs' with w | w <;> rw [z, w] <;> lia, ?_⟩
    have e1 : A ++ (u :: U ++ B) = (A ++ [u]) ++ (U ++ B) := by simp
    have e2 : (A ++ [u]) ++ (B ++ U) = A ++ u :: (B ++ U) := by simp
    rw [e1, e, e2, e', K_mul]
    have e3 : A ++ (B ++ u :: U) = A ++ (B ++ (u :: U)) := rfl
    grind
end
theorem Ex_none {l : Po → Po} {F : List Po → Po} : ∀ (rs pre : List Po), (∀ r ∈ rs, l r = 0) → Ex l F pre rs = 0
  | [], _, _ => rfl
  | r :: rs, pre, h => by
    show l r * F (pre ++ rs) - Ex l F (pre ++ [r]) rs = 0
    rw [h r List.mem_cons_self, Ex_none rs _ fun x hx => h x (List.mem_cons_of_mem _ hx)]; grind
theorem Det_top (l : Po → Po) (cs : List (Po → Po)) (r : Po) (rs : List Po) (h : ∀ x ∈ rs, l x = 0) : Det (l :: cs) (r :: rs) = l r * Det cs rs := by
  show l r * Det cs ([] ++ rs) - Ex l (Det cs) ([] ++ [r]) rs = _
  rw [Ex_none rs _ h]
  show l r * Det cs rs - 0 = _
  grind
end Po
end SF
namespace SF
open Lean.Grind
namespace Po
noncomputable def cf (d : Nat) (P : Po) : Po := K (P.c d)
theorem cf_lin (d : Nat) : Lin (cf d) := ⟨fun x y => by unfold cf; rw [add_c, K_add], fun a x => by unfold cf; rw [Kmul_c, K_mul]⟩
theorem id_lin : Lin (fun P => P) := ⟨fun _ _ => rfl, fun _ _ => rfl⟩
noncomputable def cols : Nat → Nat → List (Po → Po)
  | _, 0 => []
  | _, 1 => [fun P => P]
  | D, N + 2 => cf D :: cols (D - 1) (N + 1)
theorem cols_len : ∀ (N D : Nat), (cols D N).length = N
  | 0, _ => rfl
  | 1, _ => rfl
  | N + 2, D => by
    show (cols (D - 1) (N + 1)).length + 1 = _
    rw [cols_len (N + 1)]
theorem cols_lin : ∀ (N D : Nat), AllLin (cols D N)
  | 0, _ => fun l h => nomatch h
  | 1, _ => fun l h => by
    rw [List.mem_singleton.mp h]; exact id_lin
  | N + 2, D => fun l h => by
    rcases List.mem_cons.mp h with z | z
    · rw [z]; exact cf_lin D
    · exact cols_lin (N + 1) (D - 1) l z
theorem det_lin (D N : Nat) : RowLin N (Det (cols D N)) := by
  have := Det_lin (cols D N) (cols_lin N D)
  rw [cols_len] at this; exact this
noncomputable def fr (f : Po) : Nat → List Po
  | 0 => []
  | a + 1 => (X a * f) :: fr f a
theorem fr_len (f : Po) : ∀ a, (fr f a).length = a
  | 0 => rfl
  | a + 1 => by show (fr f a).length + 1 = _; rw [fr_len f a]
theorem fr_get (f : Po) : ∀ (a i : Nat) (h : i < (fr f a).length), (fr f a)[i] = X (a - 1 - i) * f
  | 0, i, h => by rw [fr_len] at h; lia
  | a + 1, 0, h => by
    show X a * f = _
    congr 2
  | a + 1, i + 1, h => by
    have h' : i < (fr f a).length := by rw [fr_len] at h ⊢; lia
    show (fr f a)[i] = _
    rw [fr_get f a i h']
    congr 2
    lia
theorem fr_mem (f : Po) : ∀ (a i : Nat), i < a → X i * f ∈ fr f a
  | 0, i, h => by lia
  | a + 1, i, h => by
    by_cases e : i = a
    · rw [e]; exact List.mem_cons_self
    · exact List.mem_cons_of_mem _ (fr_mem f a i (by lia))
theorem of_fr_mem {f P : Po} : ∀ {a : Nat}, P ∈ fr f a → ∃ i, i < a ∧ P = X i * f
  | 0, h => nomatch h
  | a + 1, h => by
    rcases List.mem_cons.mp h with z | z
    · exact ⟨a, by lia, z⟩
    · obtain ⟨i, hi, e⟩ := of_fr_mem z
      exact ⟨i, by lia, e⟩
noncomputable def prt (q : Po) (e : Nat) : Po := sumN (fun i => K (q.c i) * X i) e
theorem prt_c (q : Po) (j : Nat) : ∀ e : Nat, (prt q e).c j = if j < e then q.c j else 0
  | 0 => by
    show (0 : Po).c j = _
    rw [zero_c, if_neg (by lia)]
  | e + 1 => by
    show (prt q e + K (q.c e) * X e).c j = _
    rw [add_c, prt_c q j e, Kmul_c, X_c]
    by_cases h1 : j < e
    · rw [if_pos h1, if_pos (show j < e + 1 by lia), if_neg (show ¬ j = e by lia)]; grind
    · rw [if_neg h1]
      by_cases h2 : j = e
      · rw [if_pos h2, if_pos (show j < e + 1 by lia), h2]; grind
      · rw [if_neg h2, if_neg (show ¬ j < e + 1 by lia)]; grind
theorem prt_all {q : Po} {e : Nat} (h : len q ≤ e) : prt q e = q := ext fun j => by
  rw [prt_c]
  split
  · rfl
  · exact (c_ge (by lia)).symm
theorem span_mul (q g : Po) (k b : Nat) : ∀ e : Nat, k + e ≤ b → Span (fr g b) (X k * (prt q e * g))
  | 0, _ => by
    have : X k * (prt q 0 * g) = 0 := by show X k * (0 * g) = 0; grind
    rw [this]; exact .zero
  | e + 1, h => by
    have ih := span_mul q g k b e (by lia)
    have e1 : X k * (prt q (e + 1) * g) = X k * (prt q e * g) + K (q.c e) * (X (k + e) * g) := by
      show X k * ((prt q e + K (q.c e) * X e) * g) = _
      rw [X_add]; grind
    rw [e1]
    exact ih.add (Span.of _ (fr_mem g b (k + e) (by lia)))
theorem F1 {f g h q : Po} {α β : Int} {a b e D : Nat} (eq : K α * f = q * g + K β * h) (hq : len q ≤ e) (hab : a + e ≤ b + 1) :
    ∃ s : Int, (s = 1 ∨ s = -1) ∧ K (α ^ a) * Det (cols D (a + b)) (fr f a ++ fr g b) = K (s * β ^ a) * Det (cols D (a + b)) (fr g b ++ fr h a) := by
  have hF := det_lin D (a + b)
  have e1 := rows_smul hF α (fr f a) [] (fr g b) (by rw [List.length_nil, fr_len, fr_len]; lia)
  have e2 := rows_smul hF β (fr h a) [] (fr g b) (by rw [List.length_nil, fr_len, fr_len]; lia)
  have e3 := row_change hF (G := fr g b) ((fr f a).map fun u => K α * u) ((fr h a).map fun u => K β * u) [] (by rw [List.length_map, List.length_map, fr_len, fr_len]) (fun i h1 h2 => by
    have hi : i < a := by rw [List.length_map, fr_len] at h1; exact h1
    refine ⟨X (a - 1 - i) * (q * g), ?_, ?_⟩
    · have := span_mul q g (a - 1 - i) b e (by lia)
      rw [prt_all hq] at this; exact this
    · rw [List.getElem_map, List.getElem_map, fr_get, fr_get]
      have e4 : K α * (X (a - 1 - i) * f) = X (a - 1 - i) * (K α * f) := by grind
      rw [e4, eq]; grind) (by rw [List.length_nil, List.length_map, fr_len, fr_len]; lia)
  obtain ⟨s, hs, e5⟩ := blocks hF (fr h a) [] (fr g b) (by rw [List.length_nil, fr_len, fr_len]; lia)
  rw [fr_len] at e1 e2
  refine ⟨s, hs, ?_⟩
  simp only [List.nil_append] at *
  rw [← e1, e3, e2, e5, K_mul]; grind
theorem X_top {f : Po} {i m D : Nat} (h : ∀ j, m < j → f.c j = 0) (hd : i + m < D) : (X i * f).c D = 0 := by
  rw [X_mul_c, if_neg (by lia)]; exact h _ (by lia)
theorem F2 {g h : Po} {m k a b : Nat} (hg : ∀ j, m < j → g.c j = 0) (hh : ∀ j, k < j → h.c j = 0) (ha : 0 < a) (hk : a - 1 + k < b + m) : ∀ e : Nat,
    Det (cols (b + e + m - 1) (b + e + a)) (fr g (b + e) ++ fr h a) = K (g.c m ^ e) * Det (cols (b + m - 1) (b + a)) (fr g b ++ fr h a)
  | 0 => by
    rw [Int.pow_zero, K_one]
    show Det (cols (b + m - 1) (b + a)) (fr g b ++ fr h a) = _
    grind
  | e + 1 => by
    have ih := F2 hg hh ha hk e
    obtain ⟨a', rfl⟩ : ∃ a', a = a' + 1 := ⟨a - 1, by lia⟩
    have e1 : cols (b + (e + 1) + m - 1) (b + (e + 1) + (a' + 1)) = cf (b + e + m) :: cols (b + e + m - 1) (b + e + (a' + 1)) := by
      have e2 : b + (e + 1) + (a' + 1) = (b + e + a') + 2 := by lia
      have e3 : b + (e + 1) + m - 1 = b + e + m := by lia
      rw [e2, e3]; rfl
    rw [e1]
    show Det (cf (b + e + m) :: cols (b + e + m - 1) (b + e + (a' + 1))) (X (b + e) * g :: (fr g (b + e) ++ fr h (a' + 1))) = _
    rw [Det_top _ _ _ _ (fun x hx => ?_), ih]
    · have e4 : cf (b + e + m) (X (b + e) * g) = K (g.c m) := by
        unfold cf
        rw [X_mul_c, if_neg (by lia)]
        congr 2; lia
      rw [e4, Int.pow_succ, K_mul]; grind
    · unfold cf
      rcases List.mem_append.mp hx with z | z
      · obtain ⟨i, hi, rfl⟩ := of_fr_mem z
        rw [X_top hg (by lia), K_zero]
      · obtain ⟨i, hi, rfl⟩ := of_fr_mem z
        rw [X_top hh (by lia), K_zero]
theorem F3 {h : Po} {k : Nat} (hh : ∀ j, k < j → h.c j = 0) : ∀ a : Nat, Det (cols (a + k) (a + 1)) (fr h (a + 1)) = K (h.c k ^ a) * h
  | 0 => by
    show X 0 * h * 1 - 0 = K (h.c k ^ 0) * h
    rw [Int.pow_zero, K_one, X_zero]; grind
  | a + 1 => by
    have ih := F3 hh a
    have e1 : cols (a + 1 + k) (a + 1 + 1) = cf (a + 1 + k) :: cols (a + k) (a + 1) := by
      have e2 : a + 1 + k - 1 = a + k := by lia
      show cf (a + 1 + k) :: cols (a + 1 + k - 1) (a + 1) = _
      rw [e2]
    rw [e1]
    show Det (cf (a + 1 + k) :: cols (a + k) (a + 1)) (X (a + 1) * h :: fr h (a + 1)) = _
    rw [Det_top _ _ _ _ (fun x hx => ?_), ih]
    · have e4 : cf (a + 1 + k) (X (a + 1) * h) = K (h.c k) := by
        unfold cf
        rw [X_mul_c, if_neg (by lia)]
        congr 2; lia
      rw [e4, Int.pow_succ, K_mul]; grind
    · unfold cf
      obtain ⟨i, hi, rfl⟩ := of_fr_mem hx
      rw [X_top hh (by lia), K_zero]
noncomputable def Sb (n m j : Nat) (f g : Po) : Po := Det (cols (n + m - j - 1) (m - j + (n - j))) (fr f (m - j) ++ fr g (n - j))
section
variable {f g h q : Po} {α β : Int} {n m k j : Nat}
theorem T1 (eq : K α * f = q * g + K β * h) (hq : len q ≤ n - m + 1) (hg : ∀ j, m < j → g.c j = 0) (hh : ∀ j, k < j → h.c j = 0) (hnm : m < n) (hkm : k < m) (hj : j ≤ k) :
    ∃ s : Int, (s = 1 ∨ s = -1) ∧ K (α ^ (m - j)) * Sb n m j f g = K (s * β ^ (m - j) * g.c m ^ (n - k)) * Det (cols (m + k - j - 1) (k - j + (m - j))) (fr g (k - j) ++ fr h (m - j)) := by
  obtain ⟨s, hs, e1⟩ := F1 (D := n + m - j - 1) (a := m - j) (b := n - j) eq hq (by lia)
  have e2 := F2 (a := m - j) (b := k - j) hg hh (by lia) (by lia) (n - k)
  have d1 : k - j + (n - k) = n - j := by lia
  have d2 : n - j + m - 1 = n + m - j - 1 := by lia
  have d3 : k - j + m - 1 = m + k - j - 1 := by lia
  have d4 : n - j + (m - j) = m - j + (n - j) := by lia
  rw [d1, d2, d3, d4] at e2
  refine ⟨s, hs, ?_⟩
  unfold Sb
  rw [e1, e2, K_mul (s * β ^ (m - j))]; grind
theorem T2 (eq : K α * f = q * g + K β * h) (hq : len q ≤ n - m + 1) (hg : ∀ j, m < j → g.c j = 0) (hh : ∀ j, k < j → h.c j = 0) (hnm : m < n) (hkm : k < m) :
    ∃ s : Int, (s = 1 ∨ s = -1) ∧ K (α ^ (m - k)) * Sb n m k f g = K (s * β ^ (m - k) * g.c m ^ (n - k) * h.c k ^ (m - k - 1)) * h := by
  obtain ⟨s, hs, e1⟩ := T1 (j := k) eq hq hg hh hnm hkm (Nat.le_refl _)
  refine ⟨s, hs, ?_⟩
  rw [e1]
  have e2 := F3 hh (m - k - 1)
  have d1 : m - k - 1 + 1 = m - k := by lia
  have d2 : m - k - 1 + k = m - 1 := by lia
  rw [d1, d2] at e2
  have d3 : m + k - k - 1 = m - 1 := by lia
  have d4 : k - k + (m - k) = m - k := by lia
  have d5 : k - k = 0 := by lia
  rw [d3, d4, d5]
  show K _ * Det (cols (m - 1) (m - k)) ([] ++ fr h (m - k)) = _
  rw [List.nil_append, e2, K_mul (s * β ^ (m - k) * g.c m ^ (n - k))]; grind
theorem T3 {r : Po} (eq : K α * f = q * g + r) (hq : len q ≤ n - m + 1) (hg : ∀ j, m < j → g.c j = 0) (hr : ∀ j, m ≤ j → r.c j = 0) (hnm : m < n) (hm : 0 < m) :
    ∃ s : Int, (s = 1 ∨ s = -1) ∧ K α * Sb n m (m - 1) f g = K (s * g.c m ^ (n - m + 1)) * r := by
  have eq' : K α * f = q * g + K 1 * r := by rw [eq, K_one]; grind
  obtain ⟨s, hs, e1⟩ := F1 (D := n) (a := 1) (b := n - m + 1) eq' hq (by lia)
  have e2 := F2 (a := 1) (b := 0) (k := m - 1) hg (fun j hj => hr j (by lia)) (by lia) (by lia) (n - m + 1)
  refine ⟨s, hs, ?_⟩
  unfold Sb
  have d1 : m - (m - 1) = 1 := by lia
  have d2 : n - (m - 1) = n - m + 1 := by lia
  have d3 : n + m - (m - 1) - 1 = n := by lia
  have d4 : 0 + (n - m + 1) + m - 1 = n := by lia
  have d5 : 0 + (n - m + 1) = n - m + 1 := by lia
  have d6 : n - m + 1 + 1 = 1 + (n - m + 1) := by lia
  rw [d4, d5, d6] at e2
  have p1 : α ^ 1 = α := by rw [Int.pow_succ, Int.pow_zero]; lia
  have p2 : (1 : Int) ^ 1 = 1 := rfl
  rw [p1, p2] at e1
  rw [d1, d2, d3, e1, e2]
  have e3 : Det (cols (0 + m - 1) (0 + 1)) (fr g 0 ++ fr r 1) = r := by
    show X 0 * r * 1 - 0 = r
    rw [X_zero]; grind
  rw [e3, Int.mul_one, K_mul]; grind
end
end Po
end SF
namespace SF
open Lean.Grind
namespace Po
noncomputable def Sn (s : Int) : Prop := s = 1 ∨ s = -1
theorem Sn.mul {s t : Int} (h : Sn s) (h' : Sn t) : Sn (s * t) := by rcases h with z | z <;> rcases h' with w | w <;> rw [z, w] <;> unfold Sn <;> lia
theorem Sn.sq {s : Int} (h : Sn s) : s * s = 1 := by rcases h with z | z <;> rw [z] <;> rfl
theorem Sn.pow {s : Int} (h : Sn s) : ∀ e : Nat, Sn (s ^ e)
  | 0 => .inl (Int.pow_zero s)
  | e + 1 => by rw [Int.pow_succ]; exact (h.pow e).mul h
theorem ab_sn (x : Int) : ∃ s, Sn s ∧ x = s * ab x := by
  rcases Int.le_total 0 x with h | h
  · exact ⟨1, .inl rfl, by rw [ab_of h]; lia⟩
  · exact ⟨-1, .inr rfl, by unfold ab; lia⟩
theorem mul_pow' (a b : Int) : ∀ e : Nat, (a * b) ^ e = a ^ e * b ^ e
  | 0 => by rw [Int.pow_zero, Int.pow_zero, Int.pow_zero]; rfl
  | e + 1 => by rw [Int.pow_succ, Int.pow_succ, Int.pow_succ, mul_pow' a b e]; grind
theorem pow_add'' (a : Int) (m : Nat) : ∀ n : Nat, a ^ (m + n) = a ^ m * a ^ n
  | 0 => by rw [Int.pow_zero, Nat.add_zero]; lia
  | n + 1 => by
    have e : m + (n + 1) = (m + n) + 1 := by lia
    rw [e, Int.pow_succ, pow_add'' a m n, Int.pow_succ]; grind
theorem pow_mul' (a : Int) (m : Nat) : ∀ n : Nat, a ^ (m * n) = (a ^ m) ^ n
  | 0 => by rw [Nat.mul_zero, Int.pow_zero, Int.pow_zero]
  | n + 1 => by rw [Nat.mul_succ, pow_add'', pow_mul' a m n, Int.pow_succ]
theorem pow_pos' {a : Int} (h : 0 < a) (n : Nat) : 0 < a ^ n := Int.pow_pos h
theorem sn_pow (x : Int) (e : Nat) : ∃ s, Sn s ∧ x ^ e = s * ab x ^ e := by
  obtain ⟨s, hs, ex⟩ := ab_sn x
  refine ⟨s ^ e, hs.pow e, ?_⟩
  conv => lhs; rw [ex]
  rw [mul_pow']
theorem Kcancel {c a b : Int} {P Q : Po} (hc : c ≠ 0) (h : K (c * a) * P = K (c * b) * Q) : K a * P = K b * Q := by
  refine cancel (K_ne hc) ?_
  rw [K_mul, K_mul] at h
  grind
theorem Ksn {s : Int} (hs : Sn s) {a b : Int} {P Q : Po} (h : K (s * a) * P = K b * Q) : K a * P = K (s * b) * Q := by
  have e : K a * P = K s * (K (s * a) * P) := by
    have e2 : K s * (K (s * a) * P) = K (s * (s * a)) * P := by rw [K_mul s (s * a)]; grind
    rw [e2, ← Int.mul_assoc, hs.sq, Int.one_mul]
  rw [e, h, K_mul s b]; grind
structure Stg (F G f g : Po) (n0 n1 n m : Nat) (g0 h0 : Int) : Prop where
  lf : len f = n + 1
  lg : len g = m + 1
  nm : m < n
  g0p : 0 < g0
  h0p : 0 < h0
  C : ∀ j, j < m → ∃ s, Sn s ∧ Sb n m j f g = K (s * (g0 ^ (m - j) * h0 ^ (n - j - 1))) * Sb n0 n1 j F G
  Hh : ∃ s, Sn s ∧ K (h0 ^ (n - m - 1)) * Sb n0 n1 m F G = K (s * ab (g.c m) ^ (n - m - 1)) * g
theorem Stg.start {F G : Po} {n : Nat} (lf : len F = n + 2) (lg : len G = n + 1) : Stg F G F G (n + 1) n (n + 1) n 1 1 := by
  refine ⟨lf, lg, by lia, by decide, by decide, fun j _ => ⟨1, .inl rfl, ?_⟩, 1, .inl rfl, ?_⟩
  · rw [Int.one_pow, Int.one_pow]
    show _ = K 1 * _
    rw [K_one]; grind
  · have e : n + 1 - n - 1 = 0 := by lia
    rw [e, Int.pow_zero, Int.pow_zero]
    unfold Sb
    have e1 : n - n = 0 := by lia
    have e2 : n + 1 - n = 1 := by lia
    rw [e1, e2]
    show K 1 * (X 0 * G * 1 - 0) = K (1 * 1) * G
    rw [X_zero, Int.one_mul]; grind
section
variable {F G f g q r : Po} {n0 n1 n m : Nat} {g0 h0 : Int}
theorem Stg.lead (S : Stg F G f g n0 n1 n m g0 h0) : 0 < ab (g.c m) := by
  have := Po.lead (f := g) (by rw [S.lg]; lia)
  rw [S.lg] at this
  exact ab_pos this
theorem Stg.hi (S : Stg F G f g n0 n1 n m g0 h0) : ∀ j, m < j → g.c j = 0 := fun j hj => c_ge (by rw [S.lg]; lia)
theorem Stg.rem (S : Stg F G f g n0 n1 n m g0 h0) (hm : 0 < m) (eq : K (ab (g.c m) ^ (n - m + 1)) * f = q * g + r) (hq : len q ≤ n - m + 1) (hr : len r ≤ m) : ∃ h, r = K (g0 * h0 ^ (n - m)) * h := by
  have hl := S.lead
  obtain ⟨s, hs, e1⟩ := T3 eq hq S.hi (fun j hj => c_ge (by lia)) S.nm hm
  obtain ⟨t, ht, e2⟩ := sn_pow (g.c m) (n - m + 1)
  obtain ⟨u, hu, e3⟩ := S.C (m - 1) (by lia)
  have hp : ab (g.c m) ^ (n - m + 1) ≠ 0 := Int.ne_of_gt (pow_pos' hl _)
  have e4 : K 1 * Sb n m (m - 1) f g = K (s * t) * r := by
    refine Kcancel hp ?_
    rw [Int.mul_one, e1, e2]
    congr 2
    grind
  rw [K_one] at e4
  have e5 : K (s * t) * r = K (u * (g0 * h0 ^ (n - m))) * Sb n0 n1 (m - 1) F G := by
    have d1 : m - (m - 1) = 1 := by lia
    have d2 : n - (m - 1) - 1 = n - m := by lia
    rw [d1, d2] at e3
    have p1 : g0 ^ 1 = g0 := by rw [Int.pow_succ, Int.pow_zero]; lia
    rw [p1] at e3
    rw [← e4, ← e3]; grind
  refine ⟨K (s * t * u) * Sb n0 n1 (m - 1) F G, ?_⟩
  have e6 : K (s * t * 1) * r = K (u * (g0 * h0 ^ (n - m))) * Sb n0 n1 (m - 1) F G := by rw [Int.mul_one]; exact e5
  have e7 := Ksn (Sn.mul hs ht) e6
  rw [K_one] at e7
  have e8 : r = 1 * r := by grind
  rw [e8, e7]
  have e9 : K (g0 * h0 ^ (n - m)) * (K (s * t * u) * Sb n0 n1 (m - 1) F G) = K (g0 * h0 ^ (n - m) * (s * t * u)) * Sb n0 n1 (m - 1) F G := by rw [K_mul (g0 * h0 ^ (n - m)) (s * t * u)]; grind
  rw [e9]
  congr 2
  grind
theorem Stg.scale (S : Stg F G f g n0 n1 n m g0 h0) : h0 ^ (n - m - 1) ∣ ab (g.c m) ^ (n - m) := by
  obtain ⟨s, hs, e⟩ := S.Hh
  have e1 : (K (h0 ^ (n - m - 1)) * Sb n0 n1 m F G).c m = (K (s * ab (g.c m) ^ (n - m - 1)) * g).c m := by rw [e]
  rw [Kmul_c, Kmul_c] at e1
  obtain ⟨t, ht, e2⟩ := ab_sn (g.c m)
  have hnm := S.nm
  have d : n - m = (n - m - 1) + 1 := by lia
  refine ⟨(Sb n0 n1 m F G).c m * (s * t), ?_⟩
  have e3 : ab (g.c m) ^ (n - m) = ab (g.c m) ^ (n - m - 1) * ab (g.c m) := by
    conv => lhs; rw [d]
    rw [Int.pow_succ]
  rw [e3]
  have h1 := hs.sq
  have h2 := ht.sq
  generalize ab (g.c m) ^ (n - m - 1) = L at *
  generalize ab (g.c m) = l at *
  generalize g.c m = y at *
  generalize h0 ^ (n - m - 1) = A at *
  generalize (Sb n0 n1 m F G).c m = B at *
  have e5 : A * (B * (s * t)) = (A * B) * (s * t) := by grind
  rw [e5, e1, e2]
  have e6 : s * L * (t * l) * (s * t) = (s * s) * (t * t) * (L * l) := by grind
  rw [e6, h1, h2]; lia
theorem expo {l h0 h1 : Int} {n m k j δ : Nat} (hd : n = m + δ) (hδ : 0 < δ) (hk : k < m) (hj : j ≤ k) (h : h1 * h0 ^ (δ - 1) = l ^ δ) :
    l ^ ((δ + 1) * (m - j)) * h0 ^ (n - j - 1) = h0 ^ (δ * (m - j)) * l ^ (n - k) * (l ^ (k - j) * h1 ^ (m - j - 1)) := by
  obtain ⟨u, hu⟩ : ∃ u, m - j = u + 1 := ⟨m - j - 1, by lia⟩
  have d1 : n - j - 1 = u + δ := by lia
  have d2 : m - j - 1 = u := by lia
  have d3 : (δ + 1) * (u + 1) = δ * u + ((n - k) + (k - j)) := by
    have : (n - k) + (k - j) = u + 1 + δ := by lia
    rw [this, Nat.add_mul, Nat.mul_add]; lia
  rw [hu, d1, show u + 1 - 1 = u by lia, d3, pow_add'', pow_add'', pow_mul', ← h, mul_pow', ← pow_mul']
  have d4 : δ * (u + 1) = (δ - 1) * u + (u + δ) := by
    obtain ⟨e, rfl⟩ : ∃ e, δ = e + 1 := ⟨δ - 1, by lia⟩
    rw [Nat.add_sub_cancel, Nat.mul_add, Nat.add_mul]; lia
  rw [d4, pow_add'' h0]
  grind
theorem Stg.next {h : Po} {k : Nat} {h1 : Int} (S : Stg F G f g n0 n1 n m g0 h0) (eq : K (ab (g.c m) ^ (n - m + 1)) * f = q * g + K (-(g0 * h0 ^ (n - m))) * h) (hq : len q ≤ n - m + 1) (lh : len h = k + 1) (hk : k < m)
    (hh1 : h1 * h0 ^ (n - m - 1) = ab (g.c m) ^ (n - m)) : Stg F G g h n0 n1 m k (ab (g.c m)) h1 := by
  have hl := S.lead
  have hnm := S.nm
  have hhi : ∀ j, k < j → h.c j = 0 := fun j hj => c_ge (by rw [lh]; lia)
  have hd : n = m + (n - m) := by lia
  have h1p : 0 < h1 := by
    have p1 := pow_pos' S.h0p (n - m - 1)
    have p2 := pow_pos' hl (n - m)
    rw [← hh1] at p2
    rcases Int.lt_or_le 0 h1 with z | z
    · exact z
    · have := Int.mul_nonpos_of_nonpos_of_nonneg z (Int.le_of_lt p1)
      lia
  have sgn : ∀ (e : Nat), ∃ t, Sn t ∧ (-(g0 * h0 ^ (n - m))) ^ e = t * (g0 ^ e * h0 ^ ((n - m) * e)) := fun e => by
    obtain ⟨t, ht, e1⟩ := sn_pow (-(g0 * h0 ^ (n - m))) e
    refine ⟨t, ht, ?_⟩
    have hpos : 0 < g0 * h0 ^ (n - m) := Int.mul_pos S.g0p (pow_pos' S.h0p _)
    have e2 : ab (-(g0 * h0 ^ (n - m))) = g0 * h0 ^ (n - m) := by unfold ab; lia
    rw [e1, e2, mul_pow', pow_mul']
  refine ⟨S.lg, lh, hk, hl, h1p, fun j hj => ?_, ?_⟩
  · obtain ⟨s, hs, e1⟩ := T1 (j := j) eq hq S.hi hhi hnm hk (by lia)
    obtain ⟨t, ht, e2⟩ := sgn (m - j)
    obtain ⟨u, hu, e3⟩ := sn_pow (g.c m) (n - k)
    obtain ⟨v, hv, e4⟩ := S.C j (by lia)
    have ex := expo hd (by lia) hk (by lia : j ≤ k) hh1
    have e1' : K ((ab (g.c m) ^ (n - m + 1)) ^ (m - j)) * Sb n m j f g = K (s * (-(g0 * h0 ^ (n - m))) ^ (m - j) * g.c m ^ (n - k)) * Sb m k j g h := e1
    rw [← pow_mul', e2, e3, e4] at e1'
    have e5 : K (ab (g.c m) ^ ((n - m + 1) * (m - j))) * (K (v * (g0 ^ (m - j) * h0 ^ (n - j - 1))) * Sb n0 n1 j F G) = K (v * (g0 ^ (m - j) * (ab (g.c m) ^ ((n - m + 1) * (m - j)) * h0 ^ (n - j - 1)))) * Sb n0 n1 j F G := by
      have : v * (g0 ^ (m - j) * (ab (g.c m) ^ ((n - m + 1) * (m - j)) * h0 ^ (n - j - 1))) = ab (g.c m) ^ ((n - m + 1) * (m - j)) * (v * (g0 ^ (m - j) * h0 ^ (n - j - 1))) := by grind
      rw [this, K_mul (ab (g.c m) ^ ((n - m + 1) * (m - j)))]; grind
    rw [e5, ex] at e1'
    let c := g0 ^ (m - j) * h0 ^ ((n - m) * (m - j)) * ab (g.c m) ^ (n - k)
    have hc : c ≠ 0 := Int.ne_of_gt (Int.mul_pos (Int.mul_pos (pow_pos' S.g0p _) (pow_pos' S.h0p _)) (pow_pos' hl _))
    have e6 : K (c * (v * (ab (g.c m) ^ (k - j) * h1 ^ (m - j - 1)))) * Sb n0 n1 j F G = K (c * (s * t * u)) * Sb m k j g h := by
      have a1 : c * (v * (ab (g.c m) ^ (k - j) * h1 ^ (m - j - 1))) = v * (g0 ^ (m - j) * (h0 ^ ((n - m) * (m - j)) * ab (g.c m) ^ (n - k) * (ab (g.c m) ^ (k - j) * h1 ^ (m - j - 1)))) := by
        show g0 ^ (m - j) * h0 ^ ((n - m) * (m - j)) * ab (g.c m) ^ (n - k) * _ = _
        grind
      have a2 : c * (s * t * u) = s * (t * (g0 ^ (m - j) * h0 ^ ((n - m) * (m - j)))) * (u * ab (g.c m) ^ (n - k)) := by
        show g0 ^ (m - j) * h0 ^ ((n - m) * (m - j)) * ab (g.c m) ^ (n - k) * _ = _
        grind
      rw [a1, a2]; exact e1'
    have e7 := Kcancel hc e6
    have hw := Sn.mul (Sn.mul hs ht) hu
    have e8 : K (s * t * u * 1) * Sb m k j g h = K (v * (ab (g.c m) ^ (k - j) * h1 ^ (m - j - 1))) * Sb n0 n1 j F G := by rw [Int.mul_one]; exact e7.symm
    have e9 := Ksn hw e8
    rw [K_one] at e9
    refine ⟨s * t * u * v, hw.mul hv, ?_⟩
    have e10 : Sb m k j g h = 1 * Sb m k j g h := by grind
    rw [e10, e9]
    congr 2
    grind
  · obtain ⟨s, hs, e1⟩ := T2 eq hq S.hi hhi hnm hk
    obtain ⟨t, ht, e2⟩ := sgn (m - k)
    obtain ⟨u, hu, e3⟩ := sn_pow (g.c m) (n - k)
    obtain ⟨v, hv, e4⟩ := S.C k hk
    obtain ⟨w, hw, e0⟩ := sn_pow (h.c k) (m - k - 1)
    have ex := expo hd (by lia) hk (Nat.le_refl k) hh1
    rw [← pow_mul', e2, e3, e0, e4] at e1
    have e5 : K (ab (g.c m) ^ ((n - m + 1) * (m - k))) * (K (v * (g0 ^ (m - k) * h0 ^ (n - k - 1))) * Sb n0 n1 k F G) = K (v * (g0 ^ (m - k) * (ab (g.c m) ^ ((n - m + 1) * (m - k)) * h0 ^ (n - k - 1)))) * Sb n0 n1 k F G := by
      have : v * (g0 ^ (m - k) * (ab (g.c m) ^ ((n - m + 1) * (m - k)) * h0 ^ (n - k - 1))) = ab (g.c m) ^ ((n - m + 1) * (m - k)) * (v * (g0 ^ (m - k) * h0 ^ (n - k - 1))) := by grind
      rw [this, K_mul (ab (g.c m) ^ ((n - m + 1) * (m - k)))]; grind
    rw [e5, ex, show k - k = 0 by lia, Int.pow_zero, Int.one_mul] at e1
    let c := g0 ^ (m - k) * h0 ^ ((n - m) * (m - k)) * ab (g.c m) ^ (n - k)
    have hc : c ≠ 0 := Int.ne_of_gt (Int.mul_pos (Int.mul_pos (pow_pos' S.g0p _) (pow_pos' S.h0p _)) (pow_pos' hl _))
    have e6 : K (c * (v * h1 ^ (m - k - 1))) * Sb n0 n1 k F G = K (c * (s * t * u * w * ab (h.c k) ^ (m - k - 1))) * h := by
      have a1 : c * (v * h1 ^ (m - k - 1)) = v * (g0 ^ (m - k) * (h0 ^ ((n - m) * (m - k)) * ab (g.c m) ^ (n - k) * h1 ^ (m - k - 1))) := by
        show g0 ^ (m - k) * h0 ^ ((n - m) * (m - k)) * ab (g.c m) ^ (n - k) * _ = _
        grind
      have a2 : c * (s * t * u * w * ab (h.c k) ^ (m - k - 1)) = s * (t * (g0 ^ (m - k) * h0 ^ ((n - m) * (m - k)))) * (u * ab (g.c m) ^ (n - k)) * (w * ab (h.c k) ^ (m - k - 1)) := by
        show g0 ^ (m - k) * h0 ^ ((n - m) * (m - k)) * ab (g.c m) ^ (n - k) * _ = _
        grind
      rw [a1, a2]; exact e1
    have e7 := Ksn hv (Kcancel hc e6)
    refine ⟨v * (s * t * u * w), hv.mul (Sn.mul (Sn.mul (Sn.mul hs ht) hu) hw), ?_⟩
    rw [e7]
    congr 2
    grind
end
end Po
end SF
namespace SF
open Lean.Grind
namespace Po
open Re
noncomputable def Trip (x : Re) : List Po → Prop
  | [] => True
  | [_] => True
  | [_, _] => True
  | a :: b :: c :: r => (at' x b = 0 → sgR (at' x a) * sgR (at' x c) < 0) ∧ Trip x (b :: c :: r)
theorem Trip.snoc {x : Re} {u v w : Po} (h : at' x v = 0 → sgR (at' x u) * sgR (at' x w) < 0) : ∀ hs : List Po, Trip x (hs ++ [u, v]) → Trip x (hs ++ [u, v, w])
  | [], _ => ⟨h, trivial⟩
  | [a], t => ⟨t.1, h, trivial⟩
  | a :: b :: hs, t => by
    cases hs with
    | nil => exact ⟨t.1, Trip.snoc h [b] t.2⟩
    | cons c hs => exact ⟨t.1, Trip.snoc h (b :: c :: hs) t.2⟩
theorem Trip.chn {x : Re} {w : Po} (hw : at' x w ≠ 0) : ∀ hs : List Po, Trip x (hs ++ [w]) → Chn x (hs ++ [w])
  | [], _ => hw
  | [a], _ => hw
  | [a, b], t => ⟨t.1, hw⟩
  | a :: b :: c :: hs, t => ⟨t.1, Trip.chn hw (b :: c :: hs) t.2⟩
theorem next_sign {x : Re} {f g h q : Po} {α β : Int} (hα : 0 < α) (hβ : 0 < β) (eq : K α * f = q * g + K (-β) * h) (hnz : ¬ (at' x f = 0 ∧ at' x g = 0)) :
    (at' x g = 0 → sgR (at' x f) * sgR (at' x h) < 0) ∧ ¬ (at' x g = 0 ∧ at' x h = 0) := by
  have e := congrArg (at' x) eq
  rw [at_Kmul, at_add, at_mul, at_Kmul] at e
  have hα' : (0 : Re) < (α : Re) := by
    show Re.q ((0 : Nat) : Rat) < Re.q (α : Rat)
    rw [q_lt]; exact Rat.intCast_lt_intCast.mpr hα
  have hβ' : (0 : Re) < (β : Re) := by
    show Re.q ((0 : Nat) : Rat) < Re.q (β : Rat)
    rw [q_lt]; exact Rat.intCast_lt_intCast.mpr hβ
  have eβ : ((-β : Int) : Re) = -(β : Re) := Ring.intCast_neg β
  rw [eβ] at e
  generalize (α : Re) = a at e hα'
  generalize (β : Re) = b at e hβ'
  have key : at' x g = 0 → a * at' x f = -(b * at' x h) := fun z => by rw [z] at e; grind
  constructor
  · intro z
    have e2 := key z
    have hf : at' x f ≠ 0 := fun y => hnz ⟨y, z⟩
    have s1 : sgR (a * at' x f) = sgR (at' x f) := by rw [sgR_mul, sgR_pos hα']; lia
    have s2 : sgR (b * at' x h) = sgR (at' x h) := by rw [sgR_mul, sgR_pos hβ']; lia
    rw [e2, sgR_ng, s2] at s1
    rw [← s1]
    have h0 : sgR (at' x h) ≠ 0 := fun y => hf (sgR_eq_zero (by rw [← s1, y]; rfl))
    generalize sgR (at' x h) = s at h0
    have : 0 < s * s := by
      rcases Int.lt_or_lt_of_ne h0 with w | w
      · exact Int.mul_pos_of_neg_of_neg w w
      · exact Int.mul_pos w w
    have e3 : -s * s = -(s * s) := by grind
    rw [e3]; lia
  · rintro ⟨z, w⟩
    have e2 := key z
    rw [w] at e2
    have e3 : a * at' x f = 0 := by rw [e2]; grind
    by_cases hf : at' x f = 0
    · exact hnz ⟨hf, z⟩
    · exact Re.mul_ne (fun y => by rw [y] at hα'; exact lt_irrefl _ hα') hf e3
theorem no_common {x : Re} {f g u v : Po} {a : Int} (ha : a ≠ 0) (e : u * f + v * g = K a) : ¬ (at' x f = 0 ∧ at' x g = 0) := by
  rintro ⟨z, w⟩
  have e2 := congrArg (at' x) e
  rw [at_add, at_mul, at_mul, at_K, z, w] at e2
  have e3 : (a : Re) = 0 := by rw [← e2]; grind
  have e4 : q (a : Rat) = q 0 := e3
  have := q_inj e4
  have : (a : Rat) = ((0 : Int) : Rat) := this
  exact ha (Rat.intCast_inj.mp this)
theorem rem_step {rs ys : List Int} (hyn : ys ≠ []) (hl : ys.length ≤ rs.length) {σ l : Int} (hσ : σ * co ys (ys.length - 1) = l) :
    ofL (ofS (fun j => co rs j * l - if rs.length - ys.length ≤ j ∧ j < rs.length - ys.length + (ys.length - 1) then co rs (rs.length - 1) * σ * co ys (j - (rs.length - ys.length)) else 0) (rs.length - 1)) =
      K l * ofL rs - K (co rs (rs.length - 1) * σ) * X (rs.length - ys.length) * ofL ys := ext fun j => by
  have hp := List.length_pos_iff.mpr hyn
  have e : K (co rs (rs.length - 1) * σ) * X (rs.length - ys.length) * ofL ys = K (co rs (rs.length - 1) * σ) * (X (rs.length - ys.length) * ofL ys) := by grind
  rw [e, sub_c, Kmul_c, Kmul_c, X_mul_c, ofL_c, ofL_c, ofL_c, ofS_co]
  by_cases h1 : j < rs.length - 1
  · rw [if_pos h1]
    by_cases h2 : rs.length - ys.length ≤ j
    · rw [if_pos ⟨h2, by lia⟩, if_neg (by lia)]; grind
    · rw [if_neg (fun z => h2 z.1), if_pos (by lia)]; grind
  · rw [if_neg h1, if_neg (by lia)]
    by_cases h3 : j = rs.length - 1
    · have e2 : j - (rs.length - ys.length) = ys.length - 1 := by lia
      rw [e2, h3, Int.mul_assoc, hσ]; grind
    · rw [co_ge (xs := rs) (by lia), co_ge (xs := ys) (by lia)]; grind
theorem sg_ab (y : Int) : (if y < 0 then -1 else if 0 < y then 1 else 0) * y = ab y := by
  unfold ab
  split
  · lia
  · split <;> lia
structure Rem (xs ys rs : List Int) : Prop where
  tr : Tr rs
  lt : rs.length < ys.length
  eq : ∃ q, K (ab (co ys (ys.length - 1)) ^ (xs.length - ys.length + 1)) * ofL xs = q * ofL ys + ofL rs ∧ len q ≤ xs.length - ys.length + 1
theorem len_KX (a : Int) (k : Nat) : len (K a * X k) ≤ k + 1 := len_le fun i hi => by
  rw [Kmul_c, X_c, if_neg (by lia)]; grind
theorem trim_lt {rs : List Int} {n : Nat} (h : rs.length < n) : (trimL rs).length < n := Nat.lt_of_le_of_lt (trimL_len rs) h
theorem neg_fdiv {rs : List Int} {β : Int} {h : Po} (hβ : 0 < β) (e : ofL rs = K β * h) : ofL (ofS (fun i => (-(co rs i)).fdiv β) rs.length) = -h := ext fun i => by
  rw [ofL_c, ofS_co, neg_c]
  have e1 : co rs i = β * h.c i := by
    have : (ofL rs).c i = (K β * h).c i := by rw [e]
    rw [ofL_c, Kmul_c] at this; exact this
  split
  · rw [e1]
    have : -(β * h.c i) = (-(h.c i)) * β := by grind
    rw [this, Int.mul_fdiv_cancel _ (Int.ne_of_gt hβ)]
  · rw [co_ge (by lia)] at e1
    rcases Int.mul_eq_zero.mp e1.symm with z | z
    · lia
    · lia
end Po
end SF
namespace SF
open Lean.Grind
theorem rat_num (s : Rat) : s * (s.den : Rat) = (s.num : Rat) := by
  have h := Rat.num_divInt_den s
  rw [Rat.divInt_eq_div] at h
  have hd : ((s.den : Int) : Rat) ≠ 0 := by
    intro z
    have z2 : ((s.den : Int) : Rat) = ((0 : Int) : Rat) := z
    have := Rat.intCast_inj.mp z2
    have := s.den_nz
    lia
  have e : (s.den : Rat) = ((s.den : Int) : Rat) := rfl
  rw [e]
  conv => lhs; rw [← h]
  grind
theorem den_one {s : Rat} (h : s.den ∣ s.num.natAbs * s.num.natAbs ∨ s.den ∣ s.num.natAbs * s.num.natAbs * s.num.natAbs) : s = (s.num : Rat) := by
  have hc : Nat.Coprime s.den s.num.natAbs := s.reduced.symm
  have h1 : s.den ∣ 1 := by
    rcases h with h | h
    · have := hc.dvd_of_dvd_mul_left h
      have h2 := hc.dvd_of_dvd_mul_left (k := s.den) (n := 1) (m := s.num.natAbs)
      exact h2 (by rw [Nat.mul_one]; exact this)
    · have h3 := hc.dvd_of_dvd_mul_right h
      have h4 := hc.dvd_of_dvd_mul_right h3
      have h2 := hc.dvd_of_dvd_mul_left (k := s.den) (n := 1) (m := s.num.natAbs)
      exact h2 (by rw [Nat.mul_one]; exact h4)
  have h2 : s.den = 1 := Nat.eq_one_of_dvd_one h1
  have := rat_num s
  rw [h2] at this
  have e : ((1 : Nat) : Rat) = 1 := rfl
  rw [e] at this
  rw [← this]; grind
theorem rat_sq {s : Rat} {n : Int} (h : s * s = (n : Rat)) : ∃ k : Int, k * k = n := by
  have e := rat_num s
  have e1 : ((s.num * s.num : Int) : Rat) = ((n * (s.den * s.den) : Int) : Rat) := by
    rw [Rat.intCast_mul, Rat.intCast_mul, Rat.intCast_mul, ← e, ← h]
    have e0 : (((s.den : Nat) : Int) : Rat) = (s.den : Rat) := rfl
    rw [e0]; grind
  have e2 := Rat.intCast_inj.mp e1
  have hd : s.den ∣ s.num.natAbs * s.num.natAbs := by
    have : (s.den : Int) ∣ s.num * s.num := ⟨n * s.den, by rw [e2]; grind⟩
    have := Int.ofNat_dvd_left.mp this
    rwa [Int.natAbs_mul] at this
  have e3 := den_one (s := s) (.inl hd)
  refine ⟨s.num, ?_⟩
  rw [e3, ← Rat.intCast_mul] at h
  exact Rat.intCast_inj.mp h
theorem rat_cube {s : Rat} {n : Int} (h : s * s * s = (n : Rat)) : ∃ k : Int, k * k * k = n := by
  have e := rat_num s
  have e1 : ((s.num * s.num * s.num : Int) : Rat) = ((n * (s.den * s.den * s.den) : Int) : Rat) := by
    rw [Rat.intCast_mul, Rat.intCast_mul, Rat.intCast_mul, Rat.intCast_mul, Rat.intCast_mul, ← e, ← h]
    have e0 : (((s.den : Nat) : Int) : Rat) = (s.den : Rat) := rfl
    rw [e0]; grind
  have e2 := Rat.intCast_inj.mp e1
  have hd : s.den ∣ s.num.natAbs * s.num.natAbs * s.num.natAbs := by
    have : (s.den : Int) ∣ s.num * s.num * s.num := ⟨n * (s.den * s.den), by rw [e2]; grind⟩
    have := Int.ofNat_dvd_left.mp this
    rwa [Int.natAbs_mul, Int.natAbs_mul] at this
  have e3 := den_one (s := s) (.inr hd)
  refine ⟨s.num, ?_⟩
  rw [e3, ← Rat.intCast_mul, ← Rat.intCast_mul] at h
  exact Rat.intCast_inj.mp h
noncomputable def NSq (n : Int) : Prop := n = 2 ∨ n = 3 ∨ n = 5 ∨ n = 6 ∨ n = 7 ∨ n = 8 ∨ n = 10 ∨ n = 12 ∨ n = 50 ∨ n = 99
noncomputable def NCu (n : Int) : Prop := n = 2 ∨ n = 3 ∨ n = 4 ∨ n = 5 ∨ n = 6 ∨ n = 7 ∨ n = 9 ∨ n = 10 ∨ n = -2 ∨ n = -5
theorem nosq {m c : Nat} (hc : c < 121) (h : ∀ m, m ≤ 10 → m * m ≠ c) : m * m ≠ c := fun e => by
  rcases Nat.lt_or_ge 10 m with z | z
  · have := Nat.mul_le_mul (show 11 ≤ m from z) (show 11 ≤ m from z)
    lia
  · exact h m z e
theorem nocu {m c : Nat} (hc : c < 27) (h : ∀ m, m ≤ 2 → m * m * m ≠ c) : m * m * m ≠ c := fun e => by
  rcases Nat.lt_or_ge 2 m with z | z
  · have := Nat.mul_le_mul (Nat.mul_le_mul (show 3 ≤ m from z) (show 3 ≤ m from z)) (show 3 ≤ m from z)
    lia
  · exact h m z e
theorem nsq_no {n : Int} (h : NSq n) (k : Int) : k * k ≠ n := fun e => by
  have e2 : k.natAbs * k.natAbs = n.natAbs := by rw [← Int.natAbs_mul, e]
  rcases h with rfl | rfl | rfl | rfl | rfl | rfl | rfl | rfl | rfl | rfl <;> exact nosq (by decide) (by decide) e2
theorem ncu_no {n : Int} (h : NCu n) (k : Int) : k * k * k ≠ n := fun e => by
  have e2 : k.natAbs * k.natAbs * k.natAbs = n.natAbs := by rw [← Int.natAbs_mul, ← Int.natAbs_mul, e]
  rcases h with rfl | rfl | rfl | rfl | rfl | rfl | rfl | rfl | rfl | rfl <;> exact nocu (by decide) (by decide) e2
namespace Po
open Re
theorem cast_q (a : Int) : ((a : Int) : Re) = q (a : Rat) := rfl
theorem at2 (x : Re) (a b : Int) : at' x (ofL [a, b]) = (a : Re) + x * (b : Re) := by
  rw [at_cons, at_cons, ofL_nil, at_zero]; grind
theorem at3 (x : Re) (a b c : Int) : at' x (ofL [a, b, c]) = (a : Re) + x * ((b : Re) + x * (c : Re)) := by
  rw [at_cons, at2]
theorem at4 (x : Re) (a b c d : Int) : at' x (ofL [a, b, c, d]) = (a : Re) + x * ((b : Re) + x * ((c : Re) + x * (d : Re))) := by
  rw [at_cons, at3]
theorem irr2 {f : Po} (h : len f = 2) : Irr f := by
  refine ⟨by lia, fun d hd => ?_⟩
  have h0 : f ≠ 0 := ne_of_len (by lia)
  have h1 := hd.len h0
  have h2 := len_pos (hd.ne h0)
  lia
theorem lin_root {e f : Po} (he : len e = 2) (hd : D e f) : ∃ r : Rat, at' (q r) f = 0 := by
  obtain ⟨a, ha, p, eq⟩ := hd
  have hl : e.c 1 ≠ 0 := by
    have := lead (f := e) (by lia)
    rw [he] at this; exact this
  have hl' : ((e.c 1 : Int) : Rat) ≠ 0 := fun z => hl (Rat.intCast_inj.mp (show ((e.c 1 : Int) : Rat) = ((0 : Int) : Rat) from z))
  refine ⟨-((e.c 0 : Int) : Rat) / ((e.c 1 : Int) : Rat), ?_⟩
  generalize hr : -((e.c 0 : Int) : Rat) / ((e.c 1 : Int) : Rat) = r
  have e0 : at' (q r) e = 0 := by
    have e1 : e = ofL [e.c 0, e.c 1] := ext fun i => by
      rw [ofL_c]
      match i with
      | 0 => rfl
      | 1 => rfl
      | i + 2 => rw [c_ge (by lia)]; rfl
    rw [e1, at2, cast_q, cast_q, ← q_mul, ← q_add]
    have e2 : ((ofL [e.c 0, e.c 1]).c 0 : Int) = e.c 0 := rfl
    have : ((e.c 0 : Int) : Rat) + r * ((e.c 1 : Int) : Rat) = 0 := by rw [← hr]; grind
    show q (((e.c 0 : Int) : Rat) + r * ((e.c 1 : Int) : Rat)) = 0
    rw [this]; rfl
  have e3 := congrArg (at' (q r)) eq
  rw [at_Kmul, at_mul, e0] at e3
  have e4 : (a : Re) * at' (q r) f = 0 := by rw [e3]; grind
  by_cases hz : at' (q r) f = 0
  · exact hz
  · exfalso
    refine Re.mul_ne (fun z => ha ?_) hz e4
    have z2 : q (a : Rat) = q ((0 : Int) : Rat) := z
    exact Rat.intCast_inj.mp (q_inj z2)
theorem irr34 {f : Po} (h : len f = 3 ∨ len f = 4) (hn : ∀ r : Rat, at' (q r) f ≠ 0) : Irr f := by
  have h0 : f ≠ 0 := ne_of_len (by lia)
  refine ⟨by lia, fun d hd => ?_⟩
  have h1 := hd.len h0
  have h2 := len_pos (hd.ne h0)
  by_cases h3 : len d ≤ 1
  · exact .inl h3
  by_cases h4 : len f ≤ len d
  · exact .inr h4
  exfalso
  by_cases h5 : len d = 2
  · obtain ⟨r, hr⟩ := lin_root h5 hd
    exact hn r hr
  · obtain ⟨a, ha, p, eq⟩ := hd
    have hp : p ≠ 0 := right_ne (f := d) (by rw [← eq]; exact mul_ne (K_ne ha) h0)
    have h6 := len_mul (ne_of_len h2) hp
    rw [← eq, len_Kmul ha] at h6
    obtain ⟨r, hr⟩ := lin_root (e := p) (f := f) (by lia) ⟨a, ha, d, by rw [eq]; grind⟩
    exact hn r hr
noncomputable def prodP : List Po → Po
  | [] => 1
  | g :: r => g * prodP r
theorem prodP_dvd {p : Po} (hp : Irr p) : ∀ gs : List Po, D p (prodP gs) → ∃ g ∈ gs, D p g
  | [], h => by
    have l1 : len (1 : Po) = 1 := by rw [← K_one]; exact len_K (by decide)
    have := h.len (ne_of_len (by show 0 < len (1 : Po); lia))
    have h2 := hp.1
    have h3 : len (prodP []) = 1 := l1
    lia
  | g :: r, h => by
    rcases hp.prime h with z | z
    · exact ⟨g, List.mem_cons_self, z⟩
    · obtain ⟨x, hx, hd⟩ := prodP_dvd hp r z
      exact ⟨x, List.mem_cons_of_mem _ hx, hd⟩
structure Fk (g : Po) : Prop where
  irr : Irr g
  pr : Pr g
  pos : 0 < g.c (len g - 1)
theorem Fk.same {g h : Po} (hg : Fk g) (hh : Fk h) (d : D g h) : g = h := by
  rcases hh.irr.2 g d with z | z
  · have := hg.irr.1; lia
  · exact hg.pr.same hh.pr d (d.symm_len hh.irr.ne z) hg.pos hh.pos
theorem sq_prod : ∀ gs : List Po, (∀ g ∈ gs, Fk g) → gs.Nodup → ∀ p, Irr p → ¬ D (p * p) (prodP gs)
  | [], _, _, p, hp, h => by
    have l1 : len (1 : Po) = 1 := by rw [← K_one]; exact len_K (by decide)
    have h1 := h.len (show prodP [] ≠ 0 from ne_of_len (by show 0 < len (1 : Po); lia))
    have h2 := hp.1
    have h3 := len_mul hp.ne hp.ne
    have h4 : len (prodP []) = 1 := l1
    lia
  | g :: r, hF, hN, p, hp, h => by
    have hg := hF g List.mem_cons_self
    obtain ⟨hgr, hN'⟩ := List.nodup_cons.mp hN
    obtain ⟨a, ha, t, e⟩ := h
    have e' : K a * (g * prodP r) = p * p * t := e
    by_cases hd : D p g
    · have hgp : D g p := by
        rcases hg.irr.2 p hd with z | z
        · have := hp.1; lia
        · exact hd.symm_len hg.irr.ne z
      obtain ⟨b, hb, s, es⟩ := hgp
      have dgr : D g (prodP r) := by
        refine ⟨b * b * a, Int.mul_ne_zero (Int.mul_ne_zero hb hb) ha, s * s * t, Po.cancel hg.irr.ne ?_⟩
        have e1 : g * (K (b * b * a) * prodP r) = K b * K b * (K a * (g * prodP r)) := by rw [K_mul, K_mul]; grind
        have e2 : g * (g * (s * s * t)) = (g * s) * (g * s) * t := by grind
        rw [e1, e2, e', ← es]; grind
      obtain ⟨x, hx, hdx⟩ := prodP_dvd hg.irr r dgr
      have := hg.same (hF x (List.mem_cons_of_mem _ hx)) hdx
      exact hgr (by rw [this]; exact hx)
    · have h1 : D p (g * prodP r) := ⟨a, ha, p * t, by rw [e']; grind⟩
      have h2 := (hp.prime h1).resolve_left hd
      obtain ⟨c, hc, u, eu⟩ := h2
      have h3 : D p (g * u) := by
        refine ⟨a, ha, K c * t, Po.cancel hp.ne ?_⟩
        have e1 : p * (K a * (g * u)) = K a * (g * (p * u)) := by grind
        rw [e1, ← eu]
        have e2 : K a * (g * (K c * prodP r)) = K c * (K a * (g * prodP r)) := by grind
        rw [e2, e']; grind
      have h4 := (hp.prime h3).resolve_left hd
      obtain ⟨d, hdd, v, ev⟩ := h4
      refine sq_prod r (fun x hx => hF x (List.mem_cons_of_mem _ hx)) hN' p hp ⟨d * c, Int.mul_ne_zero hdd hc, v, ?_⟩
      rw [K_mul]
      have e1 : K d * K c * prodP r = K d * (K c * prodP r) := by grind
      rw [e1, eu]
      have e2 : K d * (p * u) = p * (K d * u) := by grind
      rw [e2, ev]; grind
theorem Pr.mul {f g : Po} (hf : Pr f) (hg : Pr g) : Pr (f * g) := fun p hp => by
  rcases Nat.lt_or_ge 1 p with h1 | h1
  · exfalso
    obtain ⟨r, hr, hd⟩ := NPr.ex _ p (Nat.le_refl _) h1
    have hall : ∀ i, (r : Int) ∣ (f * g).c i := fun i => Int.dvd_trans (Int.ofNat_dvd.mpr hd) (hp i)
    have h2 := hr.1
    rcases gauss_prime hr hall with z | z
    · have := hf r z; lia
    · have := hg r z; lia
  · have h0 : p ≠ 0 := by
      rintro rfl
      have hz : f * g = 0 := ext fun i => by
        rw [zero_c]
        exact Int.zero_dvd.mp (hp i)
      exact mul_ne hf.ne hg.ne hz
    lia
theorem Pr.one : Pr 1 := fun p hp => by
  have := hp 0
  rw [one_c, if_pos rfl] at this
  exact Nat.eq_one_of_dvd_one (Int.ofNat_dvd.mp this)
theorem prodP_ok : ∀ gs : List Po, (∀ g ∈ gs, Fk g) → Pr (prodP gs) ∧ 0 < (prodP gs).c (len (prodP gs) - 1)
  | [], _ => by
    have l1 : len (1 : Po) = 1 := by rw [← K_one]; exact len_K (by decide)
    refine ⟨Pr.one, ?_⟩
    show 0 < (1 : Po).c (len (1 : Po) - 1)
    rw [l1, one_c, if_pos rfl]; decide
  | g :: r, h => by
    obtain ⟨h1, h2⟩ := prodP_ok r fun x hx => h x (List.mem_cons_of_mem _ hx)
    have hg := h g List.mem_cons_self
    refine ⟨hg.pr.mul h1, ?_⟩
    show 0 < (g * prodP r).c (len (g * prodP r) - 1)
    rw [lead_mul hg.pr.ne h1.ne]
    exact Int.mul_pos hg.pos h2
theorem prodP_sf {gs : List Po} (h : ∀ g ∈ gs, Fk g) (hN : gs.Nodup) : SFr (prodP gs) (prodP gs) :=
  ⟨(prodP_ok gs h).1, (prodP_ok gs h).2, fun _ _ => Iff.rfl, sq_prod gs h hN⟩
theorem sf_of_prod {xs : List Int} (tx : Tr xs) (hxn : xs ≠ []) {gs : List Po} (h : ∀ g ∈ gs, Fk g) (hN : gs.Nodup) (e : ∀ p, Irr p → (D p (ofL xs) ↔ D p (prodP gs))) : ofL (sfL xs) = prodP gs :=
  (sf_ok tx hxn).uniq (prodP_sf h hN) e
theorem sg_cast (z : Int) : (if z < 0 then -1 else if 0 < z then 1 else 0 : Int) = sgR ((z : Int) : Re) := by
  rcases Int.lt_trichotomy z 0 with h | h | h
  · rw [if_pos h, sgR_neg]
    show q (z : Rat) < q ((0 : Nat) : Rat)
    rw [q_lt]; exact Rat.intCast_lt_intCast.mpr h
  · rw [if_neg (by lia), if_neg (by lia), h]
    have : ((0 : Int) : Re) = 0 := Ring.intCast_zero
    rw [this, sgR_zero]
  · rw [if_neg (by lia), if_pos h, sgR_pos]
    show q ((0 : Nat) : Rat) < q (z : Rat)
    rw [q_lt]; exact Rat.intCast_lt_intCast.mpr h
theorem cast_pow (a : Int) : ∀ n : Nat, ((a ^ n : Int) : Re) = ((a : Int) : Re) ^ n
  | 0 => by
    rw [Int.pow_zero]
    have e : ((a : Int) : Re) ^ 0 = 1 := Semiring.pow_zero _
    rw [e]; exact Ring.intCast_one
  | n + 1 => by
    have e : ((a : Int) : Re) ^ (n + 1) = ((a : Int) : Re) ^ n * ((a : Int) : Re) := Semiring.pow_succ _ _
    rw [Int.pow_succ, Ring.intCast_mul, cast_pow a n, e]
theorem mul_powR (a b : Re) : ∀ n : Nat, (a * b) ^ n = a ^ n * b ^ n
  | 0 => by
    have e1 : (a * b) ^ 0 = 1 := Semiring.pow_zero _
    have e2 : a ^ 0 = 1 := Semiring.pow_zero _
    have e3 : b ^ 0 = 1 := Semiring.pow_zero _
    rw [e1, e2, e3]; grind
  | n + 1 => by
    have e1 : (a * b) ^ (n + 1) = (a * b) ^ n * (a * b) := Semiring.pow_succ _ _
    have e2 : a ^ (n + 1) = a ^ n * a := Semiring.pow_succ _ _
    have e3 : b ^ (n + 1) = b ^ n * b := Semiring.pow_succ _ _
    rw [e1, e2, e3, mul_powR a b n]; grind
theorem hv_sgn {t u : Int} (hu : 0 < u) (xs : List Int) : (if hv t u xs < 0 then -1 else if 0 < hv t u xs then 1 else 0 : Int) = sgR (at' (q ((t : Rat) / (u : Rat))) (ofL xs)) := by
  rw [sg_cast]
  have hu0 : (u : Rat) ≠ 0 := fun z => by
    have := Rat.intCast_inj.mp (show (u : Rat) = ((0 : Int) : Rat) from z)
    lia
  have hup : (0 : Re) < (u : Re) := by
    show q ((0 : Nat) : Rat) < q (u : Rat)
    rw [q_lt]; exact Rat.intCast_lt_intCast.mpr hu
  generalize hx : q ((t : Rat) / (u : Rat)) = x
  have hxu : x * (u : Re) = (t : Re) := by
    rw [← hx, cast_q, cast_q, ← q_mul]
    congr 1; grind
  have hpw : ∀ n : Nat, 0 < ((u : Int) : Re) ^ n := fun n => by
    induction n with
    | zero =>
      have e : ((u : Int) : Re) ^ 0 = 1 := Semiring.pow_zero _
      rw [e]; grind
    | succ n ih =>
      have e : ((u : Int) : Re) ^ (n + 1) = ((u : Int) : Re) ^ n * ((u : Int) : Re) := Semiring.pow_succ _ _
      rw [e]; exact Re.mul_pos ih hup
  have key : ((hv t u xs : Int) : Re) = ((u : Int) : Re) ^ (xs.length - 1) * at' x (ofL xs) := by
    rw [at_n x (f := ofL xs) (n := xs.length) (len_le fun i hi => by rw [ofL_c]; exact co_ge hi)]
    unfold hv
    rw [cast_sum, ← sumN_mul]
    refine sumN_congr fun i hi => ?_
    rw [Ring.intCast_mul, Ring.intCast_mul, cast_pow, cast_pow, ← hxu, mul_powR, ofL_c]
    have e : xs.length - 1 = i + (xs.length - 1 - i) := by lia
    have e2 : ((u : Int) : Re) ^ (xs.length - 1) = ((u : Int) : Re) ^ i * ((u : Int) : Re) ^ (xs.length - 1 - i) := by rw [← pow_add', ← e]
    rw [e2]; grind
  rw [key, sgR_mul, sgR_pos (hpw _)]; lia
end Po
end SF
namespace SF
open Lean.Grind
namespace Po
open Re
inductive Fac : List Int → Prop
  | lin (t u : Int) (hu : 0 < u) (hc : Int.gcd t u = 1) : Fac [0 - t, u]
  | quad (a n : Int) (hn : NSq n) : Fac [a * a - n, 0 - 2 * a, 1]
  | noq (a m : Int) (hm : 0 < m) : Fac [a * a + m, 0 - 2 * a, 1]
  | cub (n : Int) (hn : NCu n) : Fac [0 - n, 0, 0, 1]
theorem tr_last {xs : List Int} {l : Int} (h : l ≠ 0) : Tr (xs ++ [l]) := by
  intro x hx
  rw [List.getLast?_append] at hx
  have : l = x := by simpa using hx
  rw [← this]; exact h
theorem Fac.tr {g : List Int} (h : Fac g) : Tr g ∧ g ≠ [] ∧ 2 ≤ g.length ∧ g.length ≤ 4 := by
  cases h with
  | lin t u hu hc => exact ⟨tr_last (xs := [0 - t]) (Int.ne_of_gt hu), by simp, by simp, by simp⟩
  | quad a n hn => exact ⟨tr_last (xs := [a * a - n, 0 - 2 * a]) (by decide), by simp, by simp, by simp⟩
  | noq a m hm => exact ⟨tr_last (xs := [a * a + m, 0 - 2 * a]) (by decide), by simp, by simp, by simp⟩
  | cub n hn => exact ⟨tr_last (xs := [0 - n, 0, 0]) (by decide), by simp, by simp, by simp⟩
theorem cast_neg' (a : Int) : ((-a : Int) : Re) = -((a : Int) : Re) := Ring.intCast_neg a
theorem c0 : ((0 : Int) : Re) = 0 := Ring.intCast_zero
theorem c1 : ((1 : Int) : Re) = 1 := Ring.intCast_one
theorem c2 : ((2 : Int) : Re) = 2 := by
  have e : (2 : Int) = 1 + 1 := rfl
  rw [e, Ring.intCast_add, c1]; grind
theorem c_sub (a b : Int) : ((a - b : Int) : Re) = (a : Re) - (b : Re) := by
  rw [Int.sub_eq_add_neg, Ring.intCast_add, cast_neg']; grind
theorem at_quad (x : Re) (a n : Int) : at' x (ofL [a * a - n, 0 - 2 * a, 1]) = (x - (a : Re)) * (x - (a : Re)) - (n : Re) := by
  rw [at3, c_sub, c_sub, Ring.intCast_mul, Ring.intCast_mul, c0, c1, c2]; grind
theorem at_noq (x : Re) (a m : Int) : at' x (ofL [a * a + m, 0 - 2 * a, 1]) = (x - (a : Re)) * (x - (a : Re)) + (m : Re) := by
  rw [at3, Ring.intCast_add, c_sub, Ring.intCast_mul, Ring.intCast_mul, c0, c1, c2]; grind
theorem at_cub (x : Re) (n : Int) : at' x (ofL [0 - n, 0, 0, 1]) = x * x * x - (n : Re) := by
  rw [at4, c_sub, c0, c1]; grind
theorem pos_cast {n : Int} (h : 0 < n) : (0 : Re) < (n : Re) := by
  show q ((0 : Nat) : Rat) < q (n : Rat)
  rw [q_lt]; exact Rat.intCast_lt_intCast.mpr h
theorem sq_nonneg (x : Re) : 0 ≤ x * x := by
  rcases tri x 0 with h | h | h
  · have := Re.mul_pos (x := -x) (y := -x) (by grind) (by grind); grind
  · rw [h]; grind
  · have := Re.mul_pos h h; grind
theorem lead3 (a b : Int) : (ofL [a, b, 1]).c (len (ofL [a, b, 1]) - 1) = 1 := by
  have t : Tr [a, b, 1] := tr_last (xs := [a, b]) (by decide)
  rw [len_ofL t]; rfl
theorem pr_of_one {f : Po} {i : Nat} (h : f.c i = 1) : Pr f := fun p hp => by
  have := hp i
  rw [h] at this
  exact Nat.eq_one_of_dvd_one (Int.ofNat_dvd.mp this)
theorem Fac.fk {g : List Int} (h : Fac g) : Fk (ofL g) := by
  have ht := h.tr.1
  cases h with
  | lin t u hu hc =>
    have hl : len (ofL [0 - t, u]) = 2 := len_ofL ht
    refine ⟨irr2 hl, fun p hp => ?_, by rw [hl]; exact hu⟩
    have h1 : (p : Int) ∣ u := hp 1
    have h0 : (p : Int) ∣ 0 - t := hp 0
    have h2 : (p : Int) ∣ t := by
      have e : t = -(0 - t) := by lia
      rw [e]; exact Int.dvd_neg.mpr h0
    have := Int.dvd_coe_gcd h2 h1
    rw [hc] at this
    exact Nat.eq_one_of_dvd_one (Int.ofNat_dvd.mp this)
  | quad a n hn =>
    refine ⟨irr34 (.inl (len_ofL ht)) fun r z => ?_, pr_of_one (i := 2) rfl, by rw [lead3]; decide⟩
    rw [at_quad, cast_q, cast_q] at z
    have e : q ((r - (a : Rat)) * (r - (a : Rat))) = q (n : Rat) := by
      rw [q_mul]
      have e2 : r - (a : Rat) = r + -(a : Rat) := by grind
      rw [e2, q_add, q_neg]; grind
    obtain ⟨k, hk⟩ := rat_sq (q_inj e)
    exact nsq_no hn k hk
  | noq a m hm =>
    refine ⟨irr34 (.inl (len_ofL ht)) fun r z => ?_, pr_of_one (i := 2) rfl, by rw [lead3]; decide⟩
    rw [at_noq] at z
    have h1 := sq_nonneg (q r - (a : Re))
    have h2 := pos_cast hm
    grind
  | cub n hn =>
    have hl : len (ofL [0 - n, 0, 0, 1]) = 4 := len_ofL ht
    refine ⟨irr34 (.inr hl) fun r z => ?_, pr_of_one (i := 3) rfl, by rw [hl]; show (0 : Int) < 1; decide⟩
    rw [at_cub, cast_q] at z
    have e : q (r * r * r) = q (n : Rat) := by rw [q_mul, q_mul]; grind
    obtain ⟨k, hk⟩ := rat_cube (q_inj e)
    exact ncu_no hn k hk
end Po
end SF
namespace SF
open Lean.Grind
namespace Po
open Re
open Classical in
theorem mono_all {φ : Rat → Int} (loc : ∀ x : Re, ∃ d : Rat, 0 < d ∧ ∀ s t : Rat, s ≤ t → Re.ab (q s - x) < q d → Re.ab (q t - x) < q d → φ t ≤ φ s) {a b : Rat} (hab : a ≤ b) : φ b ≤ φ a := by
  let ψ : Rat → Int := fun t => if ∀ u, a ≤ u → u ≤ t → φ u ≤ φ a then 0 else 1
  have h : ψ a = ψ b := by
    refine same_all (φ := ψ) (fun x => ?_) hab
    obtain ⟨d, hd, h⟩ := loc x
    have key : ∀ s t : Rat, s ≤ t → Re.ab (q s - x) < q d → Re.ab (q t - x) < q d → ψ s = ψ t := fun s t hst hs ht => by
      show (if _ then (0 : Int) else 1) = if _ then 0 else 1
      have mid : ∀ u, s ≤ u → u ≤ t → Re.ab (q u - x) < q d := fun u h1 h2 => by
        have e1 := q_le.mpr h1
        have e2 := q_le.mpr h2
        rw [ab_lt_iff] at hs ht ⊢
        constructor <;> grind
      by_cases c : ∀ u, a ≤ u → u ≤ s → φ u ≤ φ a
      · rw [if_pos c, if_pos]
        intro u h1 h2
        by_cases hu : u ≤ s
        · exact c u h1 hu
        · by_cases has : a ≤ s
          · have g1 := c s has (by grind)
            have g2 := h s u (by grind) hs (mid u (by grind) h2)
            lia
          · exact h a u h1 (mid a (by grind) (by grind)) (mid u (by grind) h2)
      · rw [if_neg c, if_neg fun z => c fun u h1 h2 => z u h1 (by grind)]
    refine ⟨d, hd, fun s t hs ht => ?_⟩
    by_cases hst : s ≤ t
    · exact key s t hst hs ht
    · exact (key t s (by grind) ht hs).symm
  have h0 : ψ a = 0 := if_pos fun u h1 h2 => by
    have : u = a := by grind
    rw [this]; lia
  rw [h0] at h
  have h2 : ∀ u, a ≤ u → u ≤ b → φ u ≤ φ a := by
    by_cases c : ∀ u, a ≤ u → u ≤ b → φ u ≤ φ a
    · exact c
    · have : ψ b = 1 := if_neg c
      lia
  exact h2 b hab (by grind)
open Classical in
theorem chn_loc {p0 : Po} {r : List Po} (hc : ∀ x : Re, Chn x (p0 :: der p0 :: r)) (hz : ∀ x : Re, at' x p0 = 0 → at' x (der p0) ≠ 0) (x : Re) :
    ∃ d : Rat, 0 < d ∧ ∃ n0 : Int, ∀ t : Rat, Re.ab (q t - x) < q d → (cg 0 (sgs (q t) (p0 :: der p0 :: r)) : Int) = n0 + (if at' x p0 = 0 ∧ q t < x then 1 else 0) := by
  have c0 : ∀ (s : Int) (l : List Int), s ≠ 0 → cg 0 (s :: l) = cg s l := fun s l hs => by
    show (if s * 0 < 0 then 1 else 0) + cg (if s ≠ 0 then s else 0) l = _
    rw [if_neg (by lia), if_pos hs]; lia
  by_cases h0 : at' x p0 = 0
  · have h1 := hz x h0
    have hc2 : Chn x (der p0 :: r) := by
      have := hc x
      cases r with
      | nil => exact this
      | cons e r => exact this.2
    obtain ⟨e, he, hr⟩ := near_root h0 h1
    obtain ⟨f, hf, hs⟩ := chn_same r.length (der p0) r (Nat.le_refl _) h1 hc2
    obtain ⟨m', hm', m3, m4⟩ := min_d he hf
    refine ⟨m', hm', (cg (sgR (at' x (der p0))) (sgs x r) : Int), fun t ht => ?_⟩
    have k1 := hr (q t) (by grind)
    obtain ⟨k2, k3⟩ := hs (q t) (by grind)
    have nz : sgR (at' x (der p0)) ≠ 0 := fun z => h1 (sgR_eq_zero z)
    show ((cg 0 (sgR (at' (q t) p0) :: sgR (at' (q t) (der p0)) :: sgs (q t) r) : Nat) : Int) = _
    rw [k1, k2]
    rw [k2] at k3
    generalize sgR (at' x (der p0)) = s1 at nz k3 ⊢
    have sq : 0 < s1 * s1 := by
      rcases Int.lt_or_lt_of_ne nz with w | w
      · exact Int.mul_pos_of_neg_of_neg w w
      · exact Int.mul_pos w w
    rcases sgR_cases (q t - x) with z | z | z
    · rw [z.2, if_pos ⟨h0, by grind⟩, c0 _ _ (by lia)]
      show (((if s1 * (-1 * s1) < 0 then 1 else 0) + cg (if s1 ≠ 0 then s1 else -1 * s1) (sgs (q t) r) : Nat) : Int) = _
      rw [if_pos (show s1 * (-1 * s1) < 0 by grind), if_pos nz, k3]; lia
    · rw [z.2, if_neg (by rintro ⟨_, w⟩; grind)]
      show (((if 0 * s1 * 0 < 0 then 1 else 0) + ((if s1 * (if 0 * s1 ≠ 0 then 0 * s1 else 0) < 0 then 1 else 0) + cg (if s1 ≠ 0 then s1 else (if 0 * s1 ≠ 0 then 0 * s1 else 0)) (sgs (q t) r)) : Nat) : Int) = _
      have e0 : 0 * s1 = 0 := by lia
      rw [e0, if_neg (by lia), if_neg (c := (0 : Int) ≠ 0) (by lia), if_neg (by lia), if_pos nz, k3]; lia
    · rw [z.2, if_neg (by rintro ⟨_, w⟩; grind), c0 _ _ (by lia)]
      show (((if s1 * (1 * s1) < 0 then 1 else 0) + cg (if s1 ≠ 0 then s1 else 1 * s1) (sgs (q t) r) : Nat) : Int) = _
      rw [if_neg (show ¬ s1 * (1 * s1) < 0 by grind), if_pos nz, k3]; lia
  · obtain ⟨e, he, hs⟩ := chn_same (r.length + 1) p0 (der p0 :: r) (Nat.le_refl _) h0 (hc x)
    refine ⟨e, he, (cg (sgR (at' x p0)) (sgs x (der p0 :: r)) : Int), fun t ht => ?_⟩
    obtain ⟨k2, k3⟩ := hs (q t) (by grind)
    have nz : sgR (at' x p0) ≠ 0 := fun z => h0 (sgR_eq_zero z)
    show ((cg 0 (sgR (at' (q t) p0) :: sgs (q t) (der p0 :: r)) : Nat) : Int) = _
    rw [c0 _ _ (by rw [k2]; exact nz), k3, if_neg (fun z => h0 z.1)]; lia
theorem chn_mono {p0 : Po} {r : List Po} (hc : ∀ x : Re, Chn x (p0 :: der p0 :: r)) (hz : ∀ x : Re, at' x p0 = 0 → at' x (der p0) ≠ 0) {a b : Rat} (hab : a ≤ b) :
    cg 0 (sgs (q b) (p0 :: der p0 :: r)) ≤ cg 0 (sgs (q a) (p0 :: der p0 :: r)) := by
  have := mono_all (φ := fun t => (cg 0 (sgs (q t) (p0 :: der p0 :: r)) : Int)) (fun x => by
    obtain ⟨d, hd, n0, h⟩ := chn_loc hc hz x
    refine ⟨d, hd, fun s t hst hs ht => ?_⟩
    have g := q_le.mpr hst
    show (cg 0 (sgs (q t) (p0 :: der p0 :: r)) : Int) ≤ (cg 0 (sgs (q s) (p0 :: der p0 :: r)) : Int)
    rw [h s hs, h t ht]
    by_cases c : at' x p0 = 0 ∧ q t < x
    · rw [if_pos c, if_pos ⟨c.1, by grind⟩]; lia
    · rw [if_neg c]; split <;> lia) hab
  have h2 : (cg 0 (sgs (q b) (p0 :: der p0 :: r)) : Int) ≤ (cg 0 (sgs (q a) (p0 :: der p0 :: r)) : Int) := this
  lia
open Classical in
theorem chn_one {p0 : Po} {r : List Po} (hc : ∀ x : Re, Chn x (p0 :: der p0 :: r)) (hz : ∀ x : Re, at' x p0 = 0 → at' x (der p0) ≠ 0) {a b : Rat} (hab : a ≤ b)
    (h1 : ∀ x y : Re, q a ≤ x → x ≤ q b → q a ≤ y → y ≤ q b → at' x p0 = 0 → at' y p0 = 0 → x = y) :
    cg 0 (sgs (q a) (p0 :: der p0 :: r)) ≤ cg 0 (sgs (q b) (p0 :: der p0 :: r)) + 1 := by
  have hz0 : ∃ z : Re, ∀ x : Re, q a ≤ x → x ≤ q b → at' x p0 = 0 → x = z := by
    by_cases c : ∃ z : Re, q a ≤ z ∧ z ≤ q b ∧ at' z p0 = 0
    · obtain ⟨z, z1, z2, z3⟩ := c
      exact ⟨z, fun x x1 x2 x3 => h1 x z x1 x2 z1 z2 x3 z3⟩
    · exact ⟨0, fun x x1 x2 x3 => absurd ⟨x, x1, x2, x3⟩ c⟩
  obtain ⟨z, hzz⟩ := hz0
  let cl : Rat → Rat := fun t => if t < a then a else if b < t then b else t
  have cl1 : ∀ t, a ≤ cl t ∧ cl t ≤ b := fun t => by
    show a ≤ (if t < a then a else if b < t then b else t) ∧ (if t < a then a else if b < t then b else t) ≤ b
    split
    · exact ⟨by grind, hab⟩
    · split <;> constructor <;> grind
  have cla : cl a = a := by show (if a < a then a else if b < a then b else a) = a; rw [if_neg (by grind), if_neg (by grind)]
  have clb : cl b = b := by show (if b < a then a else if b < b then b else b) = b; rw [if_neg (by grind), if_neg (by grind)]
  let δ : Int := if at' z p0 = 0 then 1 else 0
  let φ : Rat → Int := fun t => (cg 0 (sgs (q (cl t)) (p0 :: der p0 :: r)) : Int) + (if z ≤ q (cl t) then δ else 0)
  have h : φ a = φ b := by
    refine same_all (φ := φ) (fun x => ?_) hab
    by_cases xa : x < q a
    · obtain ⟨d, hd, hd2⟩ := small (sub_pos xa)
      refine ⟨d, hd, fun s t hs ht => ?_⟩
      have key : ∀ s : Rat, Re.ab (q s - x) < q d → cl s = a := fun s hs => by
        rw [ab_lt_iff] at hs
        have : q s < q a := by grind
        exact if_pos (q_lt.mp this)
      show (cg 0 (sgs (q (cl s)) (p0 :: der p0 :: r)) : Int) + (if z ≤ q (cl s) then δ else 0) = (cg 0 (sgs (q (cl t)) (p0 :: der p0 :: r)) : Int) + (if z ≤ q (cl t) then δ else 0)
      rw [key s hs, key t ht]
    · by_cases xb : q b < x
      · obtain ⟨d, hd, hd2⟩ := small (sub_pos xb)
        refine ⟨d, hd, fun s t hs ht => ?_⟩
        have key : ∀ s : Rat, Re.ab (q s - x) < q d → cl s = b := fun s hs => by
          rw [ab_lt_iff] at hs
          have g1 : q b < q s := by grind
          have g2 := q_lt.mp g1
          show (if s < a then a else if b < s then b else s) = b
          rw [if_neg (by grind), if_pos g2]
        show (cg 0 (sgs (q (cl s)) (p0 :: der p0 :: r)) : Int) + (if z ≤ q (cl s) then δ else 0) = (cg 0 (sgs (q (cl t)) (p0 :: der p0 :: r)) : Int) + (if z ≤ q (cl t) then δ else 0)
        rw [key s hs, key t ht]
      · have xa' : q a ≤ x := by grind
        have xb' : x ≤ q b := by grind
        obtain ⟨d, hd, n0, hn⟩ := chn_loc hc hz x
        have near : ∀ (e : Rat) (s : Rat), Re.ab (q s - x) < q e → Re.ab (q (cl s) - x) < q e := fun e s hs => by
          rw [ab_lt_iff] at hs ⊢
          show -q e < q (if s < a then a else if b < s then b else s) - x ∧ q (if s < a then a else if b < s then b else s) - x < q e
          split
          · rename_i g
            have := q_lt.mpr g
            constructor <;> grind
          · split
            · rename_i g
              have := q_lt.mpr g
              constructor <;> grind
            · exact hs
        by_cases xz : x = z
        · subst xz
          refine ⟨d, hd, fun s t hs ht => ?_⟩
          have key : ∀ s : Rat, Re.ab (q s - x) < q d → φ s = n0 + δ := fun s hs => by
            show (cg 0 (sgs (q (cl s)) (p0 :: der p0 :: r)) : Int) + (if x ≤ q (cl s) then δ else 0) = n0 + δ
            rw [hn _ (near d s hs)]
            by_cases c : q (cl s) < x
            · rw [if_neg (c := x ≤ q (cl s)) (by grind)]
              show n0 + (if at' x p0 = 0 ∧ q (cl s) < x then 1 else 0) + 0 = n0 + (if at' x p0 = 0 then 1 else 0)
              by_cases c2 : at' x p0 = 0
              · rw [if_pos ⟨c2, c⟩, if_pos c2]; lia
              · rw [if_neg (fun z => c2 z.1), if_neg c2]; lia
            · rw [if_pos (c := x ≤ q (cl s)) (by grind), if_neg (fun z => c z.2)]; lia
          rw [key s hs, key t ht]
        · have nr : ¬ at' x p0 = 0 := fun g => xz (hzz x xa' xb' g)
          obtain ⟨e, he, hside⟩ : ∃ e : Rat, 0 < e ∧ ∀ s : Rat, Re.ab (q s - x) < q e → (z ≤ q s ↔ z ≤ x) := by
            rcases tri x z with g | g | g
            · obtain ⟨e, he, h2⟩ := small (sub_pos g)
              refine ⟨e, he, fun s hs => ?_⟩
              rw [ab_lt_iff] at hs
              constructor <;> intro w <;> grind
            · exact absurd g xz
            · obtain ⟨e, he, h2⟩ := small (sub_pos g)
              refine ⟨e, he, fun s hs => ?_⟩
              rw [ab_lt_iff] at hs
              constructor <;> intro w <;> grind
          obtain ⟨m, hm, m1, m2⟩ := min_d hd he
          refine ⟨m, hm, fun s t hs ht => ?_⟩
          have key : ∀ s : Rat, Re.ab (q s - x) < q m → φ s = n0 + (if z ≤ x then δ else 0) := fun s hs => by
            have g := near m s hs
            show (cg 0 (sgs (q (cl s)) (p0 :: der p0 :: r)) : Int) + (if z ≤ q (cl s) then δ else 0) = _
            rw [hn _ (by grind), if_neg (fun w => nr w.1)]
            have g2 := hside (cl s) (by grind)
            by_cases c : z ≤ x
            · rw [if_pos c, if_pos (g2.mpr c)]; lia
            · rw [if_neg c, if_neg (fun w => c (g2.mp w))]; lia
          rw [key s hs, key t ht]
  have h2 : (cg 0 (sgs (q (cl a)) (p0 :: der p0 :: r)) : Int) + (if z ≤ q (cl a) then δ else 0) = (cg 0 (sgs (q (cl b)) (p0 :: der p0 :: r)) : Int) + (if z ≤ q (cl b) then δ else 0) := h
  rw [cla, clb] at h2
  have d1 : 0 ≤ δ ∧ δ ≤ 1 := by
    show 0 ≤ (if at' z p0 = 0 then (1 : Int) else 0) ∧ (if at' z p0 = 0 then (1 : Int) else 0) ≤ 1
    split <;> lia
  split at h2 <;> split at h2 <;> lia
end Po
end SF
namespace SF
open Lean.Grind
namespace Po
open Re
noncomputable def hbF (M ρ : Rat) : Nat → Rat
  | 0 => 0
  | n + 1 => M + ρ * hbF M ρ n
noncomputable def dbF (M ρ : Rat) : Nat → Rat
  | 0 => 0
  | n + 1 => hbF M ρ n + ρ * dbF M ρ n
noncomputable def tbF (M ρ : Rat) : Nat → Rat
  | 0 => 0
  | n + 1 => ρ * tbF M ρ n + dbF M ρ n
theorem q_ab (a : Rat) : Re.ab (q a) = q (RR.ra a) := by
  unfold Re.ab RR.ra
  by_cases h : a < 0
  · have h2 : q a < 0 := q_lt (r := a) (t := 0) |>.mpr h
    rw [if_pos h, if_pos h2, q_neg]
  · have h2 : ¬ q a < 0 := fun z => h (q_lt (r := a) (t := 0) |>.mp z)
    rw [if_neg h, if_neg h2]
theorem val_bd {x : Re} {M ρ : Rat} (hρ : 0 ≤ ρ) (hx : Re.ab x ≤ q ρ) : ∀ xs : List Int, (∀ a ∈ xs, RR.ra (a : Rat) ≤ M) → Re.ab (at' x (ofL xs)) ≤ q (hbF M ρ xs.length) ∧ 0 ≤ hbF M ρ xs.length
  | [], _ => by
    rw [ofL_nil, at_zero]
    exact ⟨by show Re.ab 0 ≤ q 0; rw [q_zero]; unfold Re.ab; split <;> grind, by show (0 : Rat) ≤ 0; grind⟩
  | a :: r, h => by
    obtain ⟨i1, i2⟩ := val_bd hρ hx r fun b hb => h b (List.mem_cons_of_mem _ hb)
    have ha := h a List.mem_cons_self
    have hM : 0 ≤ M := by have := RR.ra_nonneg (a : Rat); grind
    rw [at_cons]
    have e1 := Re.ab_add ((a : Int) : Re) (x * at' x (ofL r))
    rw [Re.ab_mul] at e1
    have e2 := mul_le_mul hx i1 (q_le (r := 0) (t := ρ) |>.mpr hρ) (Re.ab_nonneg _)
    have e3 : Re.ab ((a : Int) : Re) ≤ q M := by rw [cast_q, q_ab, q_le]; exact ha
    have e4 : q (hbF M ρ (a :: r).length) = q M + q ρ * q (hbF M ρ r.length) := by
      show q (M + ρ * hbF M ρ r.length) = _
      rw [q_add, q_mul]
    refine ⟨by rw [e4]; grind, ?_⟩
    show 0 ≤ M + ρ * hbF M ρ r.length
    have := Rat.mul_nonneg hρ i2
    grind
theorem der_bd {x : Re} {M ρ : Rat} (hρ : 0 ≤ ρ) (hx : Re.ab x ≤ q ρ) : ∀ xs : List Int, (∀ a ∈ xs, RR.ra (a : Rat) ≤ M) → Re.ab (at' x (der (ofL xs))) ≤ q (dbF M ρ xs.length) ∧ 0 ≤ dbF M ρ xs.length
  | [], _ => by
    have : der (ofL []) = 0 := by rw [← ofL_der]; exact ofL_nil
    rw [this, at_zero]
    exact ⟨by show Re.ab 0 ≤ q 0; rw [q_zero]; unfold Re.ab; split <;> grind, by show (0 : Rat) ≤ 0; grind⟩
  | a :: r, h => by
    obtain ⟨i1, i2⟩ := der_bd hρ hx r fun b hb => h b (List.mem_cons_of_mem _ hb)
    obtain ⟨j1, j2⟩ := val_bd hρ hx r fun b hb => h b (List.mem_cons_of_mem _ hb)
    rw [cons_der, at_add, at_mul, at_X]
    have e1 := Re.ab_add (at' x (ofL r)) (x * at' x (der (ofL r)))
    rw [Re.ab_mul] at e1
    have e2 := mul_le_mul hx i1 (q_le (r := 0) (t := ρ) |>.mpr hρ) (Re.ab_nonneg _)
    have e4 : q (dbF M ρ (a :: r).length) = q (hbF M ρ r.length) + q ρ * q (dbF M ρ r.length) := by
      show q (hbF M ρ r.length + ρ * dbF M ρ r.length) = _
      rw [q_add, q_mul]
    refine ⟨by rw [e4]; grind, ?_⟩
    show 0 ≤ hbF M ρ r.length + ρ * dbF M ρ r.length
    have := Rat.mul_nonneg hρ i2
    grind
theorem tay_bd {x t : Re} {M ρ : Rat} (hρ : 0 ≤ ρ) (hx : Re.ab x ≤ q ρ) (ht : Re.ab t ≤ q ρ) : ∀ xs : List Int, (∀ a ∈ xs, RR.ra (a : Rat) ≤ M) →
    Re.ab (at' t (ofL xs) - at' x (ofL xs) - (t - x) * at' x (der (ofL xs))) ≤ q (tbF M ρ xs.length) * (Re.ab (t - x) * Re.ab (t - x)) ∧ 0 ≤ tbF M ρ xs.length
  | [], _ => by
    have : der (ofL []) = 0 := by rw [← ofL_der]; exact ofL_nil
    rw [this, ofL_nil]
    simp only [at_zero]
    have e : (0 : Re) - 0 - (t - x) * 0 = 0 := by grind
    rw [e]
    refine ⟨?_, by show (0 : Rat) ≤ 0; grind⟩
    show Re.ab 0 ≤ q 0 * _
    rw [q_zero]
    have : Re.ab (0 : Re) = 0 := by unfold Re.ab; split <;> grind
    rw [this]; grind
  | a :: r, h => by
    obtain ⟨i1, i2⟩ := tay_bd hρ hx ht r fun b hb => h b (List.mem_cons_of_mem _ hb)
    obtain ⟨j1, j2⟩ := der_bd hρ hx r fun b hb => h b (List.mem_cons_of_mem _ hb)
    rw [at_cons, at_cons, cons_der, at_add, at_mul, at_X]
    have e0 : (a : Re) + t * at' t (ofL r) - ((a : Re) + x * at' x (ofL r)) - (t - x) * (at' x (ofL r) + x * at' x (der (ofL r))) =
        t * (at' t (ofL r) - at' x (ofL r) - (t - x) * at' x (der (ofL r))) + at' x (der (ofL r)) * ((t - x) * (t - x)) := by grind
    rw [e0]
    have e1 := Re.ab_add (t * (at' t (ofL r) - at' x (ofL r) - (t - x) * at' x (der (ofL r)))) (at' x (der (ofL r)) * ((t - x) * (t - x)))
    rw [Re.ab_mul, Re.ab_mul, Re.ab_mul] at e1
    have e2 := mul_le_mul ht i1 (q_le (r := 0) (t := ρ) |>.mpr hρ) (Re.ab_nonneg _)
    have n2 : 0 ≤ Re.ab (t - x) * Re.ab (t - x) := mul_nonneg (Re.ab_nonneg _) (Re.ab_nonneg _)
    have e3 := mul_le_mul j1 (Std.le_refl (a := Re.ab (t - x) * Re.ab (t - x))) (q_le (r := 0) (t := dbF M ρ r.length) |>.mpr j2) n2
    have e4 : q (tbF M ρ (a :: r).length) = q ρ * q (tbF M ρ r.length) + q (dbF M ρ r.length) := by
      show q (ρ * tbF M ρ r.length + dbF M ρ r.length) = _
      rw [q_add, q_mul]
    refine ⟨by rw [e4]; grind, ?_⟩
    show 0 ≤ ρ * tbF M ρ r.length + dbF M ρ r.length
    have := Rat.mul_nonneg hρ i2
    grind
theorem bez_small {f g u0 v0 : Po} {c0 : Int} {M : Nat} (hf : f ≠ 0) (hg : g ≠ 0) (eb : u0 * f + v0 * g = K c0) (hc0 : c0 ≠ 0) (hM1 : ∀ i, ab (f.c i) ≤ M) (hM2 : ∀ i, ab (g.c i) ≤ M) {A : Nat} (hA : len f + len g = A + 2) (hA0 : 0 < A) :
    ∃ (U V : Po) (r : Int), r ≠ 0 ∧ U * f + V * g = K r ∧ len V ≤ len f - 1 ∧ ∀ i, ab (V.c i) ≤ (((2 * A * M + 1) ^ (A - 1) : Nat) : Int) := by
  have hp1 := len_pos hf
  have hp2 := len_pos hg
  obtain ⟨U, V, lU, lV, hne, bU, bV, hz, hsmall⟩ := sieg_core (f := f) (g := g) hM1 hM2 (n := len g - 1) (m := len f - 1) (A := A) (by lia) hA0 1
  have lR : len (U * f + V * g) ≤ 1 := len_le fun i hi => by
    by_cases hi2 : i < 1 + A - 1
    · have := hz (i - 1) (by lia)
      have ei : 1 + (i - 1) = i := by lia
      rw [ei] at this; exact this
    · show (U * f + V * g).c i = 0
      rw [add_c, mul_high' (W := U) (z := f) (b := 1 + A - 1) lU (by lia) (by lia), mul_high' (W := V) (z := g) (b := 1 + A - 1) lV (by lia) (by lia)]; rfl
  have er := of_len_one lR
  refine ⟨U, V, (U * f + V * g).c 0, ?_, er, lV, bV⟩
  intro z
  rw [z, K_zero] at er
  have dv : D f V := ⟨c0, hc0, u0 * V - v0 * U, by
    rw [← eb]
    have : V * g = - (U * f) := by grind
    have e2 : (u0 * f + v0 * g) * V = u0 * f * V + v0 * (V * g) := by grind
    rw [e2, this]; grind⟩
  have du : D g U := ⟨c0, hc0, v0 * U - u0 * V, by
    rw [← eb]
    have : U * f = - (V * g) := by grind
    have e2 : (u0 * f + v0 * g) * U = u0 * (U * f) + v0 * g * U := by grind
    rw [e2, this]; grind⟩
  rcases hne with hU | hV
  · have := du.len hU
    lia
  · have := dv.len hV
    lia
theorem root_sep {f U V : Po} {r : Int} (hr : r ≠ 0) (e : U * f + V * der f = K r) {x y : Re} (hx : at' x f = 0) (hy : at' y f = 0) {VB TB : Rat}
    (h1 : Re.ab (at' x V) ≤ q VB) (h2 : Re.ab (at' y f - at' x f - (y - x) * at' x (der f)) ≤ q TB * (Re.ab (y - x) * Re.ab (y - x))) (hV : 0 ≤ VB) (hT : 0 ≤ TB)
    (h3 : Re.ab (y - x) * q (VB * TB) < 1) : x = y := by
  by_cases hne : y - x = 0
  · grind
  exfalso
  have e1 : at' x V * at' x (der f) = ((r : Int) : Re) := by
    have := congrArg (at' x) e
    rw [at_add, at_mul, at_mul, hx, at_K] at this
    rw [← this]; grind
  have e2 : (1 : Re) ≤ Re.ab ((r : Int) : Re) := by
    rw [cast_q, q_ab, ← q_one, q_le]
    unfold RR.ra
    split
    · rename_i c
      have c2 : r < 0 := by
        have : ((r : Int) : Rat) < ((0 : Int) : Rat) := c
        exact Rat.intCast_lt_intCast.mp this
      have : ((1 : Int) : Rat) ≤ ((-r : Int) : Rat) := Rat.intCast_le_intCast.mpr (by lia)
      rw [Rat.intCast_neg] at this
      exact this
    · rename_i c
      have c2 : ¬ r < 0 := fun z => c (by
        have : ((r : Int) : Rat) < ((0 : Int) : Rat) := Rat.intCast_lt_intCast.mpr z
        exact this)
      exact Rat.intCast_le_intCast (a := 1).mpr (by lia)
  rw [← e1, Re.ab_mul] at e2
  have nd := Re.ab_nonneg (at' x (der f))
  have e3 := mul_le_mul h1 (Std.le_refl (a := Re.ab (at' x (der f)))) (q_le (r := 0) (t := VB) |>.mpr hV) nd
  rw [hx, hy] at h2
  have e4 : (0 : Re) - 0 - (y - x) * at' x (der f) = -((y - x) * at' x (der f)) := by grind
  rw [e4, Re.ab_neg, Re.ab_mul] at h2
  have hp : 0 < Re.ab (y - x) := by
    have g := Re.ab_nonneg (y - x)
    rcases tri (Re.ab (y - x)) 0 with g1 | g1 | g1
    · grind
    · exfalso
      apply hne
      unfold Re.ab at g1
      split at g1 <;> grind
    · exact g1
  have e5 : Re.ab (at' x (der f)) ≤ q TB * Re.ab (y - x) := by
    by_cases c : Re.ab (at' x (der f)) ≤ q TB * Re.ab (y - x)
    · exact c
    · exfalso
      have c' : 0 < Re.ab (at' x (der f)) - q TB * Re.ab (y - x) := by grind
      have := mul_pos hp c'
      grind
  have e6 := mul_le_mul (Std.le_refl (a := q VB)) e5 (q_le (r := 0) (t := VB) |>.mpr hV) nd
  rw [q_mul] at h3
  grind
end Po
end SF
namespace SF
open Lean.Grind
namespace Po
open Re
theorem one_le_pow' {a : Rat} (h : 1 ≤ a) : ∀ n : Nat, 1 ≤ a ^ n
  | 0 => by rw [Rat.pow_zero]; grind
  | n + 1 => by
    have i := one_le_pow' h n
    rw [Rat.pow_succ]
    have := Rat.mul_le_mul_of_nonneg_left (c := a ^ n) (show (1 : Rat) ≤ a from h) (by grind)
    grind
theorem pow_plus (a : Rat) (m : Nat) : ∀ n : Nat, a ^ (m + n) = a ^ m * a ^ n
  | 0 => by rw [Nat.add_zero, Rat.pow_zero]; grind
  | n + 1 => by rw [← Nat.add_assoc, Rat.pow_succ, Rat.pow_succ, pow_plus a m n]; grind
theorem pow_times (a : Rat) (m : Nat) : ∀ n : Nat, a ^ (m * n) = (a ^ m) ^ n
  | 0 => by rw [Nat.mul_zero, Rat.pow_zero, Rat.pow_zero]
  | n + 1 => by rw [Nat.mul_succ, pow_plus, Rat.pow_succ, pow_times a m n]
theorem pow_up {a : Rat} (h : 1 ≤ a) {m n : Nat} (hm : m ≤ n) : a ^ m ≤ a ^ n := by
  obtain ⟨k, rfl⟩ := Nat.exists_eq_add_of_le hm
  rw [pow_plus]
  have h1 := one_le_pow' h m
  have h2 := one_le_pow' h k
  have := Rat.mul_le_mul_of_nonneg_left (c := a ^ m) h2 (by grind)
  grind
theorem pow_base {a b : Rat} (ha : 0 ≤ a) (h : a ≤ b) : ∀ n : Nat, 0 ≤ a ^ n ∧ a ^ n ≤ b ^ n
  | 0 => by rw [Rat.pow_zero, Rat.pow_zero]; constructor <;> grind
  | n + 1 => by
    obtain ⟨i1, i2⟩ := pow_base ha h n
    rw [Rat.pow_succ, Rat.pow_succ]
    exact ⟨Rat.mul_nonneg i1 ha, RR.mul_le i2 h (by grind) ha⟩
theorem hb_le {M ρ : Rat} (hM : 0 ≤ M) (hρ : 1 ≤ ρ) : ∀ n : Nat, hbF M ρ n ≤ M * (2 * ρ) ^ n
  | 0 => by show 0 ≤ M * (2 * ρ) ^ 0; rw [Rat.pow_zero]; grind
  | n + 1 => by
    have i := hb_le hM hρ n
    show M + ρ * hbF M ρ n ≤ M * (2 * ρ) ^ (n + 1)
    have h1 := one_le_pow' (a := 2 * ρ) (by grind) n
    rw [Rat.pow_succ]
    have g1 := Rat.mul_le_mul_of_nonneg_left (c := ρ) i (by grind)
    have g2 : 1 ≤ (2 * ρ) ^ n * ρ := by
      have := RR.mul_le h1 hρ (by grind) (by grind)
      grind
    have g3 := Rat.mul_le_mul_of_nonneg_left (c := M) g2 hM
    grind
theorem db_le {M ρ : Rat} (hM : 0 ≤ M) (hρ : 1 ≤ ρ) : ∀ n : Nat, dbF M ρ n ≤ M * (4 * ρ) ^ n
  | 0 => by show 0 ≤ M * (4 * ρ) ^ 0; rw [Rat.pow_zero]; grind
  | n + 1 => by
    have i := db_le hM hρ n
    have j := hb_le hM hρ n
    show hbF M ρ n + ρ * dbF M ρ n ≤ M * (4 * ρ) ^ (n + 1)
    have h1 := one_le_pow' (a := 4 * ρ) (by grind) n
    have h2 := (pow_base (a := 2 * ρ) (b := 4 * ρ) (by grind) (by grind) n).2
    rw [Rat.pow_succ]
    have g0 := Rat.mul_le_mul_of_nonneg_left (c := M) h2 hM
    have g1 := Rat.mul_le_mul_of_nonneg_left (c := ρ) i (by grind)
    have g2 : (4 * ρ) ^ n ≤ (4 * ρ) ^ n * ρ := by
      have := Rat.mul_le_mul_of_nonneg_left (c := (4 * ρ) ^ n) hρ (by grind)
      grind
    have g3 := Rat.mul_le_mul_of_nonneg_left (c := M) g2 hM
    have g4 : 0 ≤ M * ((4 * ρ) ^ n * ρ) := Rat.mul_nonneg hM (by grind)
    grind
theorem tb_le {M ρ : Rat} (hM : 0 ≤ M) (hρ : 1 ≤ ρ) : ∀ n : Nat, tbF M ρ n ≤ M * (8 * ρ) ^ n
  | 0 => by show 0 ≤ M * (8 * ρ) ^ 0; rw [Rat.pow_zero]; grind
  | n + 1 => by
    have i := tb_le hM hρ n
    have j := db_le hM hρ n
    show ρ * tbF M ρ n + dbF M ρ n ≤ M * (8 * ρ) ^ (n + 1)
    have h1 := one_le_pow' (a := 8 * ρ) (by grind) n
    have h2 := (pow_base (a := 4 * ρ) (b := 8 * ρ) (by grind) (by grind) n).2
    rw [Rat.pow_succ]
    have g0 := Rat.mul_le_mul_of_nonneg_left (c := M) h2 hM
    have g1 := Rat.mul_le_mul_of_nonneg_left (c := ρ) i (by grind)
    have g2 : (8 * ρ) ^ n ≤ (8 * ρ) ^ n * ρ := by
      have := Rat.mul_le_mul_of_nonneg_left (c := (8 * ρ) ^ n) hρ (by grind)
      grind
    have g3 := Rat.mul_le_mul_of_nonneg_left (c := M) g2 hM
    have g4 : 0 ≤ M * ((8 * ρ) ^ n * ρ) := Rat.mul_nonneg hM (by grind)
    grind
theorem bd_ra {b : Nat} {a : Int} (h : Bd b a) : RR.ra (a : Rat) ≤ (2 : Rat) ^ b := by
  unfold Bd at h
  have e : ((2 : Rat) ^ b) = (((2 ^ b : Nat) : Int) : Rat) := by
    rw [Int.natCast_pow, Rat.intCast_pow]; rfl
  rw [e, RR.ra_le]
  rw [← Rat.intCast_neg]
  constructor
  · exact Rat.intCast_le_intCast.mpr (by lia)
  · exact Rat.intCast_le_intCast.mpr (by lia)
theorem sep {xs : List Int} (tx : Tr xs) (hn : 2 ≤ xs.length) (h13 : xs.length ≤ 13) (bx : ∀ a ∈ xs, Bd 100 a) (hs : SFr (ofL xs) (ofL xs)) {x y : Re} (hx : at' x (ofL xs) = 0) (hy : at' y (ofL xs) = 0)
    (rx : Re.ab x ≤ q ((2 : Rat) ^ 110)) (ry : Re.ab y ≤ q ((2 : Rat) ^ 110)) (h : Re.ab (y - x) ≤ q (1 / (2 : Rat) ^ 5500)) : x = y := by
  have lf : len (ofL xs) = xs.length := len_ofL tx
  have hfn : ofL xs ≠ 0 := ne_of_len (by lia)
  have lg : len (der (ofL xs)) = xs.length - 1 := by rw [len_der, lf]
  have hgn : der (ofL xs) ≠ 0 := ne_of_len (by lia)
  have gc := gcdL_gc (xs := xs) (ys := derL xs) (.inl hfn)
  have g1 := sf_gcd tx hs
  have o1 : ofL [1] = 1 := Po.ext fun i => by
    rw [ofL_c, one_c]
    cases i with
    | zero => rfl
    | succ i => rfl
  rw [g1, o1, ofL_der] at gc
  obtain ⟨bu, bv, ba, hba, ebz⟩ := gc.bz
  have ebz' : bu * ofL xs + bv * der (ofL xs) = K ba := by rw [ebz]; grind
  have cob : ∀ i, Bd 100 (co xs i) := fun i => by
    by_cases hi : i < xs.length
    · rw [co_lt hi]; exact bx _ (List.getElem_mem _)
    · rw [co_ge (by lia)]; show (0 : Int).natAbs < 2 ^ 100; decide
  have m1 : ∀ i, ab ((ofL xs).c i) ≤ ((2 ^ 104 : Nat) : Int) := fun i => by
    have := cob i
    unfold Bd at this
    rw [ofL_c]
    unfold ab
    have e : (2 : Nat) ^ 100 ≤ 2 ^ 104 := Nat.pow_le_pow_right (by decide) (by decide)
    lia
  have m2 : ∀ i, ab ((der (ofL xs)).c i) ≤ ((2 ^ 104 : Nat) : Int) := fun i => by
    rw [← ofL_der, ofL_c]
    by_cases hi : i < xs.length - 1
    · have e0 : co (derL xs) i = ((i + 1 : Nat) : Int) * co xs (i + 1) := by rw [derL_co]; rfl
      rw [e0]
      have h1 : Bd 4 (((i + 1 : Nat) : Int)) := Bd.of_two (by lia) (by lia)
      have := h1.mul (cob (i + 1))
      unfold Bd at this
      unfold ab; lia
    · rw [co_ge (by unfold derL; rw [ofS_length]; lia)]; show (0 : Int) ≤ _; lia
  obtain ⟨U, V, r, hr, e, lV, bV⟩ := bez_small (M := 2 ^ 104) (A := 2 * xs.length - 3) hfn hgn ebz' hba m1 m2 (by rw [lf, lg]; lia) (by lia)
  have hH : (2 * (2 * xs.length - 3) * 2 ^ 104 + 1) ^ (2 * xs.length - 3 - 1) ≤ 2 ^ 2420 := by
    have a1 : 2 * (2 * xs.length - 3) * 2 ^ 104 + 1 ≤ 2 ^ 110 := by lia
    have a2 := Nat.pow_le_pow_left a1 (2 * xs.length - 3 - 1)
    have a3 : (2 ^ 110) ^ (2 * xs.length - 3 - 1) ≤ (2 ^ 110) ^ 22 := Nat.pow_le_pow_right (by decide) (by lia)
    have a4 : ((2 : Nat) ^ 110) ^ 22 = 2 ^ 2420 := by rw [← Nat.pow_mul]
    lia
  have bVl : ∀ a ∈ lst V, Bd 2421 a := fun a ha => by
    obtain ⟨i, hi, ea⟩ := List.getElem_of_mem ha
    have := bV i
    rw [← lst_co, co_lt hi, ea] at this
    unfold ab at this
    unfold Bd
    have e2 : (2 : Nat) ^ 2420 < 2 ^ 2421 := Nat.pow_lt_pow_right (by decide) (by decide)
    lia
  have ρ1 : (1 : Rat) ≤ 2 ^ 110 := one_le_pow' (by grind) _
  obtain ⟨v1, v2⟩ := val_bd (M := (2 : Rat) ^ 2421) (ρ := 2 ^ 110) (by grind) rx (lst V) fun a ha => bd_ra (bVl a ha)
  obtain ⟨t1, t2⟩ := tay_bd (M := (2 : Rat) ^ 100) (ρ := 2 ^ 110) (by grind) rx ry xs fun a ha => bd_ra (bx a ha)
  rw [ofL_lst] at v1
  refine root_sep hr e hx hy v1 t1 v2 t2 ?_
  have lVl : (lst V).length ≤ 13 := by
    have : (lst V).length = len V := rfl
    lia
  have b1 : hbF ((2 : Rat) ^ 2421) (2 ^ 110) (lst V).length ≤ 2 ^ 2421 * (2 * 2 ^ 110) ^ 13 := by
    have := hb_le (M := (2 : Rat) ^ 2421) (ρ := 2 ^ 110) (Rat.le_of_lt (Rat.pow_pos (by grind))) ρ1 (lst V).length
    have g := pow_up (a := 2 * (2 : Rat) ^ 110) (by grind) lVl
    have g2 := Rat.mul_le_mul_of_nonneg_left (c := (2 : Rat) ^ 2421) g (Rat.le_of_lt (Rat.pow_pos (by grind)))
    grind
  have b2 : tbF ((2 : Rat) ^ 100) (2 ^ 110) xs.length ≤ 2 ^ 100 * (8 * 2 ^ 110) ^ 13 := by
    have := tb_le (M := (2 : Rat) ^ 100) (ρ := 2 ^ 110) (Rat.le_of_lt (Rat.pow_pos (by grind))) ρ1 xs.length
    have g := pow_up (a := 8 * (2 : Rat) ^ 110) (by grind) h13
    have g2 := Rat.mul_le_mul_of_nonneg_left (c := (2 : Rat) ^ 100) g (Rat.le_of_lt (Rat.pow_pos (by grind)))
    grind
  have c1 : (2 : Rat) * 2 ^ 110 = 2 ^ 111 := by rw [Rat.pow_succ]; grind
  have c2 : (8 : Rat) * 2 ^ 110 = 2 ^ 113 := by rw [Rat.pow_succ, Rat.pow_succ, Rat.pow_succ]; grind
  rw [c1, ← pow_times, ← pow_plus] at b1
  rw [c2, ← pow_times, ← pow_plus] at b2
  have b3 := RR.mul_le b1 b2 (Rat.le_of_lt (Rat.pow_pos (by grind))) t2
  rw [← pow_plus] at b3
  have b4 : hbF ((2 : Rat) ^ 2421) (2 ^ 110) (lst V).length * tbF ((2 : Rat) ^ 100) (2 ^ 110) xs.length < 2 ^ 5500 := by
    have g : (2 : Rat) ^ (2421 + 111 * 13 + (100 + 113 * 13)) ≤ 2 ^ 5499 := pow_up (by grind) (by decide)
    have g2 : (2 : Rat) ^ 5500 = 2 ^ 5499 * 2 := Rat.pow_succ ..
    have g3 : (0 : Rat) < 2 ^ 5499 := Rat.pow_pos (by grind)
    grind
  generalize hbF ((2 : Rat) ^ 2421) (2 ^ 110) (lst V).length * tbF ((2 : Rat) ^ 100) (2 ^ 110) xs.length = W at b4 b3 ⊢
  have p0 : (0 : Rat) < 2 ^ 5500 := Rat.pow_pos (by grind)
  generalize (2 : Rat) ^ 5500 = Z at b4 p0 h ⊢
  by_cases hW : 0 ≤ W
  · have f1 := mul_le_mul h (Std.le_refl (a := q W)) (q_le (r := 0) (t := 1 / Z) |>.mpr (Rat.le_of_lt (RR.dpos (by grind) p0))) (q_le (r := 0) (t := W) |>.mpr hW)
    have f2 : q (1 / Z) * q W < 1 := by
      rw [← q_mul, ← q_one, q_lt, Rat.div_def, Rat.one_mul]
      have := (Rat.mul_lt_mul_left (Rat.inv_pos.mpr p0)).mpr b4
      rw [Rat.inv_mul_cancel _ (by grind)] at this
      exact this
    grind
  · have f1 : q W ≤ 0 := q_le (r := W) (t := 0) |>.mpr (by grind)
    have f2 : 0 ≤ Re.ab (y - x) * (-q W) := mul_nonneg (Re.ab_nonneg _) (by grind)
    grind
end Po
end SF
namespace SF
open Lean.Grind
namespace Po
open Re
theorem hv_nil (t u : Int) : hv t u [] = 0 := by simp [hv, sumN]
theorem hv_lead (t u : Int) : ∀ xs : List Int, xs ≠ [] → ∃ w, hv t u xs = co xs (xs.length - 1) * t ^ (xs.length - 1) + u * w
  | [], h => absurd rfl h
  | [x], _ => ⟨0, by
    rw [hv_cons, hv_nil]
    show 0 * t + x * u ^ 0 = x * t ^ 0 + u * 0
    rw [Int.pow_zero, Int.pow_zero]; lia⟩
  | x :: y :: r, _ => by
    obtain ⟨w, e⟩ := hv_lead t u (y :: r) (by simp)
    refine ⟨w * t + x * u ^ r.length, ?_⟩
    rw [hv_cons, e]
    have e1 : (y :: r).length - 1 = r.length := by simp
    have e2 : (x :: y :: r).length - 1 = r.length + 1 := by simp
    have e3 : co (x :: y :: r) (r.length + 1) = co (y :: r) r.length := rfl
    have e4 : (y :: r).length = r.length + 1 := by simp
    rw [e1, e2, e3, e4, Int.pow_succ, Int.pow_succ]
    generalize co (y :: r) r.length = l
    generalize t ^ r.length = a
    generalize u ^ r.length = b
    grind
theorem cop_dvd {a b c : Int} (d : a ∣ b * c) (h : Int.gcd a b = 1) : a ∣ c := by
  have d1 : a.natAbs ∣ b.natAbs * c.natAbs := by rw [← Int.natAbs_mul]; exact Int.natAbs_dvd_natAbs.mpr d
  have hc : Nat.Coprime a.natAbs b.natAbs := h
  exact Int.natAbs_dvd_natAbs.mp (hc.dvd_of_dvd_mul_left d1)
theorem cop_pow {u t : Int} (h : Int.gcd u t = 1) {l : Int} : ∀ k : Nat, u ∣ l * t ^ k → u ∣ l
  | 0, d => by rw [Int.pow_zero, Int.mul_one] at d; exact d
  | k + 1, d => by
    rw [Int.pow_succ, ← Int.mul_assoc] at d
    exact cop_pow h k (cop_dvd (by rw [Int.mul_comm] at d; exact d) h)
theorem no_root {xs : List Int} (hx : xs ≠ []) {t u o : Int} (hg : Int.gcd t u = 1) (ho : o ∣ u) (hn : ¬ o ∣ co xs (xs.length - 1)) : hv t u xs ≠ 0 := fun z => by
  obtain ⟨w, e⟩ := hv_lead t u xs hx
  rw [z] at e
  have d : u ∣ co xs (xs.length - 1) * t ^ (xs.length - 1) := ⟨-w, by rw [Int.mul_neg]; lia⟩
  exact hn (Int.dvd_trans ho (cop_pow (by rw [Int.gcd_comm]; exact hg) _ d))
noncomputable def Pt (o : Int) (k : Nat) (m t u : Int) : Prop := t * (o * 2 ^ k) = (2 ^ k + o * m) * u
theorem gcd_two_pow {o : Int} (h : Int.gcd o 2 = 1) : ∀ k : Nat, Int.gcd o (2 ^ k) = 1
  | 0 => by rw [Int.pow_zero]; exact Int.gcd_one_right _
  | k + 1 => by
    have i := gcd_two_pow h k
    rw [Int.pow_succ]
    rw [Int.gcd_eq_one_iff] at *
    · intro c hc1 hc2
      have g : Int.gcd c 2 = 1 := by
        have : (Int.gcd c 2 : Int) ∣ 1 := h _ (Int.dvd_trans (Int.gcd_dvd_left ..) hc1) (Int.gcd_dvd_right ..)
        have h2 := Int.le_of_dvd (by decide) this
        have h3 : 0 < Int.gcd c 2 := Int.gcd_pos_of_ne_zero_right _ (by decide)
        lia
      exact i c hc1 (cop_dvd (by rw [Int.mul_comm] at hc2; exact hc2) g)
theorem Pt.odd {o : Int} {k : Nat} {m t u : Int} (h : Pt o k m t u) (ho : Int.gcd o 2 = 1) : o ∣ u := by
  have d : o ∣ (2 ^ k + o * m) * u := ⟨t * 2 ^ k, by rw [← h]; grind⟩
  have g : Int.gcd o (2 ^ k + o * m) = 1 := by
    rw [Int.gcd_comm, Int.add_comm, Int.gcd_mul_left_add_left, Int.gcd_comm]
    exact gcd_two_pow ho k
  exact cop_dvd d g
theorem Pt.up {o : Int} {k : Nat} {m t u : Int} (h : Pt o k m t u) : Pt o (k + 1) (2 * m) t u := by
  unfold Pt at *
  rw [Int.pow_succ]
  generalize (2 : Int) ^ k = z at *
  grind
theorem Pt.mid {o : Int} {k : Nat} {m t u m' t' u' c d : Int} (h : Pt o k m t u) (h' : Pt o k m' t' u') (hu : 0 < u) (hu' : 0 < u') (e : c * (2 * u * u') = (t * u' + t' * u) * d) : Pt o (k + 1) (m + m') c d := by
  unfold Pt at *
  rw [Int.pow_succ]
  generalize (2 : Int) ^ k = z at *
  have hp := Int.mul_pos hu hu'
  refine Int.eq_of_mul_eq_mul_right (Int.ne_of_gt hp) ?_
  grind
theorem Pt.bits {o : Int} {k : Nat} {m t u b : Int} (h : Pt o k m t u) (ho : 0 < o) (hu : 0 < u) (hg : Int.gcd t u = 1) (bo : Bd 102 o) (bb : 0 < b ∧ b ≤ 2 ^ 102) (h1 : -(b * 2 ^ k) ≤ m) (h2 : m ≤ b * 2 ^ k) : Bd (k + 210) t ∧ Bd (k + 210) u := by
  have hz : (0 : Int) < 2 ^ k := Int.pow_pos (by decide)
  have hoz : 0 < o * 2 ^ k := Int.mul_pos ho hz
  have d : u ∣ o * 2 ^ k := by
    have : u ∣ t * (o * 2 ^ k) := ⟨2 ^ k + o * m, by rw [show t * (o * 2 ^ k) = _ from h]; grind⟩
    exact cop_dvd this (by rw [Int.gcd_comm]; exact hg)
  have hle := Int.le_of_dvd hoz d
  have bz : Bd (k + 1) ((2 : Int) ^ k) := by
    unfold Bd
    rw [Int.natAbs_pow]
    exact Nat.pow_lt_pow_right (by decide) (by lia)
  have boz := bo.mul bz
  have bu : Bd (k + 103) u := by
    unfold Bd at *
    have e : 102 + (k + 1) = k + 103 := by lia
    rw [e] at boz
    lia
  refine ⟨?_, bu.mono (by lia)⟩
  have bm : Bd (k + 105) m := by
    have b3 : Bd 103 b := by unfold Bd; lia
    have := b3.mul bz
    unfold Bd at *
    have e : 103 + (k + 1) = k + 104 := by lia
    rw [e] at this
    have e2 : (2 : Nat) ^ (k + 105) = 2 ^ (k + 104) * 2 := Nat.pow_succ ..
    lia
  have bom := bo.mul bm
  have bs : Bd (k + 209) (2 ^ k + o * m) := ((bz.mono (n := k + 207) (by lia)).add (bom.mono (n := k + 207) (by lia))).mono (by lia)
  have key : t.natAbs ≤ (2 ^ k + o * m).natAbs := by
    have e : t.natAbs * (o * 2 ^ k).natAbs = (2 ^ k + o * m).natAbs * u.natAbs := by rw [← Int.natAbs_mul, ← Int.natAbs_mul, show t * (o * 2 ^ k) = _ from h]
    have h3 : u.natAbs ≤ (o * 2 ^ k).natAbs := by lia
    have h4 : (2 ^ k + o * m).natAbs * u.natAbs ≤ (2 ^ k + o * m).natAbs * (o * 2 ^ k).natAbs := Nat.mul_le_mul_left _ h3
    have h5 : t.natAbs * (o * 2 ^ k).natAbs ≤ (2 ^ k + o * m).natAbs * (o * 2 ^ k).natAbs := Nat.le_trans (Nat.le_of_eq e) h4
    exact Nat.le_of_mul_le_mul_right h5 (by lia)
  unfold Bd at *
  have e2 : (2 : Nat) ^ (k + 210) = 2 ^ (k + 209) * 2 := Nat.pow_succ ..
  lia
theorem Pt.val {o : Int} {k : Nat} {m t u : Int} (h : Pt o k m t u) (ho : 0 < o) (hu : 0 < u) : (t : Rat) / (u : Rat) = 1 / (o : Rat) + (m : Rat) / 2 ^ k := by
  have ho' : (o : Rat) ≠ 0 := fun z => by
    have := Rat.intCast_inj.mp (show (o : Rat) = ((0 : Int) : Rat) from z)
    lia
  have hu' : (u : Rat) ≠ 0 := fun z => by
    have := Rat.intCast_inj.mp (show (u : Rat) = ((0 : Int) : Rat) from z)
    lia
  have hz : (2 : Rat) ^ k ≠ 0 := fun z => by
    have : (0 : Rat) < 2 ^ k := Rat.pow_pos (by grind)
    grind
  have e : (t : Rat) * ((o : Rat) * 2 ^ k) = (2 ^ k + (o : Rat) * (m : Rat)) * (u : Rat) := by
    have := congrArg (fun z : Int => (z : Rat)) h
    simp only [Rat.intCast_mul, Rat.intCast_add, Rat.intCast_pow] at this
    exact this
  generalize (2 : Rat) ^ k = z at *
  generalize (o : Rat) = o' at *
  generalize (u : Rat) = u' at *
  generalize (t : Rat) = t' at *
  generalize (m : Rat) = m' at *
  grind
theorem par_step : ∀ (l : List Int) (b : Int), b = 1 ∨ b = -1 → (∀ x ∈ l, x = 0 ∨ x = 1 ∨ x = -1) → (-1) ^ cg b l = b * l.foldl (fun b s => if s ≠ 0 then s else b) b
  | [], b, hb, _ => by
    show (-1 : Int) ^ 0 = b * b
    rcases hb with rfl | rfl <;> rfl
  | x :: r, b, hb, h => by
    have hx := h x List.mem_cons_self
    have hr := fun y hy => h y (List.mem_cons_of_mem _ hy)
    show (-1 : Int) ^ ((if x * b < 0 then 1 else 0) + cg (if x ≠ 0 then x else b) r) = b * r.foldl (fun b s => if s ≠ 0 then s else b) (if x ≠ 0 then x else b)
    rcases hx with rfl | hx
    · rw [if_neg (by lia), if_neg (by lia), Nat.zero_add]
      exact par_step r b hb hr
    · have hx0 : x ≠ 0 := by lia
      rw [if_pos hx0, Int.pow_add]
      rw [par_step r x hx hr]
      have : (-1 : Int) ^ (if x * b < 0 then 1 else 0) = b * x := by
        rcases hb with rfl | rfl <;> rcases hx with rfl | rfl <;> rfl
      rw [this]
      have : x * x = 1 := by rcases hx with rfl | rfl <;> rfl
      generalize List.foldl _ x r = z
      grind
theorem fold_last {l : List Int} {s : Int} (hs : s ≠ 0) (b : Int) : (l ++ [s]).foldl (fun b s => if s ≠ 0 then s else b) b = s := by
  rw [List.foldl_append]
  show (if s ≠ 0 then s else _) = s
  rw [if_pos hs]
theorem sgR_val (x : Re) : sgR x = 0 ∨ sgR x = 1 ∨ sgR x = -1 := by
  rcases sgR_cases x with z | z | z
  · exact .inr (.inr z.2)
  · exact .inl z.2
  · exact .inr (.inl z.2)
theorem chn_last {x : Re} : ∀ {ps : List Po} {l : Po}, Chn x (ps ++ [l]) → at' x l ≠ 0
  | [], l, h => h
  | [a], l, h => h
  | a :: b :: [], l, h => h.2
  | a :: b :: c :: r, l, h => chn_last (ps := b :: c :: r) h.2
theorem chn_par {p0 l : Po} {r : List Po} (hc : ∀ x : Re, Chn x (p0 :: (r ++ [l]))) {a b : Rat} (hab : a ≤ b) (ha : at' (q a) p0 ≠ 0) (hb : at' (q b) p0 ≠ 0) :
    sgR (at' (q a) p0) * sgR (at' (q b) p0) = (-1) ^ cg 0 (sgs (q a) (p0 :: (r ++ [l]))) * (-1) ^ cg 0 (sgs (q b) (p0 :: (r ++ [l]))) := by
  have hl : ∀ x : Re, at' x l ≠ 0 := fun x => chn_last (ps := p0 :: r) (hc x)
  have hsame : sgR (at' (q a) l) = sgR (at' (q b) l) := by
    refine same_all (φ := fun t => sgR (at' (q t) l)) (fun x => ?_) hab
    obtain ⟨d, hd, h⟩ := near_ne (hl x)
    exact ⟨d, hd, fun s t hs ht => by rw [h _ hs, h _ ht]⟩
  have key : ∀ c : Rat, at' (q c) p0 ≠ 0 → (-1) ^ cg 0 (sgs (q c) (p0 :: (r ++ [l]))) = sgR (at' (q c) p0) * sgR (at' (q c) l) := fun c hc0 => by
    have h1 := sgR_ne hc0
    have e : sgs (q c) (p0 :: (r ++ [l])) = sgR (at' (q c) p0) :: (sgs (q c) r ++ [sgR (at' (q c) l)]) := by
      unfold sgs
      rw [List.map_cons, List.map_append]; rfl
    rw [e]
    have e2 : cg 0 (sgR (at' (q c) p0) :: (sgs (q c) r ++ [sgR (at' (q c) l)])) = cg (sgR (at' (q c) p0)) (sgs (q c) r ++ [sgR (at' (q c) l)]) := by
      show (if sgR (at' (q c) p0) * 0 < 0 then 1 else 0) + cg (if sgR (at' (q c) p0) ≠ 0 then sgR (at' (q c) p0) else 0) _ = _
      rw [if_neg (by lia), if_pos (fun z => hc0 (sgR_eq_zero z))]; lia
    rw [e2, par_step _ _ (h1.symm) (fun x hx => ?_), fold_last (fun z => hl _ (sgR_eq_zero z))]
    rcases List.mem_append.mp hx with z | z
    · obtain ⟨y, _, rfl⟩ := List.mem_map.mp z
      exact sgR_val _
    · rw [List.mem_singleton.mp z]; exact sgR_val _
  rw [key a ha, key b hb, hsame]
  have := sgR_ne (hl (q b))
  have h2 : sgR (at' (q b) l) * sgR (at' (q b) l) = 1 := by rcases this with z | z <;> rw [z] <;> rfl
  generalize sgR (at' (q b) l) = z at *
  grind
end Po
end SF
local macro_rules | `(tactic| walk_at "sf") => `(tactic| (repeat first
  | ((with_reducible apply L2.r_var); exact rfl)
  | with_reducible apply L2.r_c | with_reducible apply L2.r_seq | with_reducible apply L2.r_set | with_reducible apply L2.r_ret | with_reducible apply L2.r_op | with_reducible apply L2.r_un
  | with_reducible apply L2.r_i0 | with_reducible apply L2.r_u | with_reducible apply L2.r_test | with_reducible apply L2.r_tb | with_reducible apply L2.r_bl | with_reducible apply L2.r_eqi | with_reducible apply L2.r_nei
  | with_reducible apply L2.r_ifS | with_reducible apply L2.r_ifE | with_reducible apply L2.r_and | with_reducible apply L2.r_or | with_reducible apply L2.r_not | with_reducible apply L2.r_andV | with_reducible apply L2.r_orV | with_reducible apply L2.r_notV
  | with_reducible apply L2.r_nil | with_reducible apply L2.r_cons | with_reducible apply L2.r_call | with_reducible apply L2.r_cb | with_reducible apply L2.r_tup | with_reducible apply L2.r_lst | with_reducible apply L2.r_drop | with_reducible apply L2.r_next
  | with_reducible apply L2.r_tru | with_reducible apply L2.r_for | with_reducible apply L2.r_rng3 | with_reducible apply L2.r_gname | with_reducible apply L2.r_gcons | with_reducible apply L2.r_gnil | with_reducible apply L2.r_asg
  | with_reducible apply L2.r_ilist | with_reducible apply L2.r_rng1 | with_reducible apply L2.r_rng2 | with_reducible apply L2.r_ienum | with_reducible apply L2.r_irev | with_reducible apply L2.r_part | with_reducible apply L2.r_nopart | with_reducible apply L2.r_slice | with_reducible apply L2.r_sub
  | ((with_reducible show (_ ≤ PySem.sizeLine) ∧ _); refine And.intro (L2.small4 (Nat.le_of_ble_eq_true rfl)) ?_)))
namespace K16
open PySem PyProof.Rows L2 SF
noncomputable def top (i : Nat) : Stmt := PySem.Challenge.pw_surefoot_k16_whole_drawn_together.main.body.getD i (.Pass ⟨0, 0, 0, 0⟩)
noncomputable abbrev s_common_divisor : Stmt := top 5
theorem sc_common_divisor : FnScope ["one", "other", "greater", "lesser", "rest"] ["one", "other"] (defScope s_common_divisor) := ⟨rfl, rfl, rfl, by decide +kernel, rfl, by decide +kernel, by decide +kernel⟩
noncomputable abbrev s_sign : Stmt := top 6
theorem sc_sign : FnScope ["number"] ["number"] (defScope s_sign) := ⟨rfl, rfl, rfl, by decide +kernel, rfl, by decide +kernel, by decide +kernel⟩
noncomputable abbrev s_power : Stmt := top 7
theorem sc_power : FnScope ["number", "many", "product", "square", "left"] ["number", "many"] (defScope s_power) := ⟨rfl, rfl, rfl, by decide +kernel, rfl, by decide +kernel, by decide +kernel⟩
noncomputable abbrev s_ratio : Stmt := top 8
theorem sc_ratio : FnScope ["top", "under", "shared"] ["top", "under"] (defScope s_ratio) := ⟨rfl, rfl, rfl, by decide +kernel, rfl, by decide +kernel, by decide +kernel⟩
noncomputable abbrev s_middle : Stmt := top 9
theorem sc_middle : FnScope ["one", "other"] ["one", "other"] (defScope s_middle) := ⟨rfl, rfl, rfl, by decide +kernel, rfl, by decide +kernel, by decide +kernel⟩
noncomputable abbrev s_trimmed : Stmt := top 11
theorem sc_trimmed : FnScope ["row", "length"] ["row"] (defScope s_trimmed) := ⟨rfl, rfl, rfl, by decide +kernel, rfl, by decide +kernel, by decide +kernel⟩
noncomputable abbrev s_degree : Stmt := top 12
theorem sc_degree : FnScope ["poly"] ["poly"] (defScope s_degree) := ⟨rfl, rfl, rfl, by decide +kernel, rfl, by decide +kernel, by decide +kernel⟩
noncomputable abbrev s_derivative : Stmt := top 13
theorem sc_derivative : FnScope ["poly"] ["poly"] (defScope s_derivative) := ⟨rfl, rfl, rfl, by decide +kernel, rfl, by decide +kernel, by decide +kernel⟩
noncomputable abbrev s_content : Stmt := top 14
theorem sc_content : FnScope ["poly", "shared", "number"] ["poly"] (defScope s_content) := ⟨rfl, rfl, rfl, by decide +kernel, rfl, by decide +kernel, by decide +kernel⟩
noncomputable abbrev s_primitive : Stmt := top 15
theorem sc_primitive : FnScope ["poly", "shared"] ["poly"] (defScope s_primitive) := ⟨rfl, rfl, rfl, by decide +kernel, rfl, by decide +kernel, by decide +kernel⟩
noncomputable abbrev s_value_at : Stmt := top 16
theorem sc_value_at : FnScope ["poly", "point", "value", "number"] ["poly", "point"] (defScope s_value_at) := ⟨rfl, rfl, rfl, by decide +kernel, rfl, by decide +kernel, by decide +kernel⟩
noncomputable abbrev s_spread : Stmt := top 17
theorem sc_spread : FnScope ["value", "point", "poly", "rest", "number"] ["value", "point"] (defScope s_spread) := ⟨rfl, rfl, rfl, by decide +kernel, rfl, by decide +kernel, by decide +kernel⟩
noncomputable abbrev s_divided : Stmt := top 18
theorem sc_divided : FnScope ["poly", "divisor", "rest", "factors", "factor", "shift", "power", "number"] ["poly", "divisor"] (defScope s_divided) := ⟨rfl, rfl, rfl, by decide +kernel, rfl, by decide +kernel, by decide +kernel⟩
noncomputable abbrev s_largest : Stmt := top 19
theorem sc_largest : FnScope ["poly"] ["poly"] (defScope s_largest) := ⟨rfl, rfl, rfl, by decide +kernel, rfl, by decide +kernel, by decide +kernel⟩
noncomputable abbrev s_divisor_of : Stmt := top 20
theorem sc_divisor_of : FnScope ["one", "other", "first", "second", "point", "shared", "found"] ["one", "other"] (defScope s_divisor_of) := ⟨rfl, rfl, rfl, by decide +kernel, rfl, by decide +kernel, by decide +kernel⟩
noncomputable abbrev s_quotient : Stmt := top 21
theorem sc_quotient : FnScope ["one", "other"] ["one", "other"] (defScope s_quotient) := ⟨rfl, rfl, rfl, by decide +kernel, rfl, by decide +kernel, by decide +kernel⟩
noncomputable abbrev s_square_free : Stmt := top 22
theorem sc_square_free : FnScope ["poly"] ["poly"] (defScope s_square_free) := ⟨rfl, rfl, rfl, by decide +kernel, rfl, by decide +kernel, by decide +kernel⟩
noncomputable abbrev s_height_at : Stmt := top 23
theorem sc_height_at : FnScope ["poly", "top", "under", "height", "scale", "number"] ["poly", "top", "under"] (defScope s_height_at) := ⟨rfl, rfl, rfl, by decide +kernel, rfl, by decide +kernel, by decide +kernel⟩
noncomputable abbrev s_sign_at : Stmt := top 24
theorem sc_sign_at : FnScope ["poly", "given"] ["poly", "given"] (defScope s_sign_at) := ⟨rfl, rfl, rfl, by decide +kernel, rfl, by decide +kernel, by decide +kernel⟩
noncomputable abbrev s_changes_in : Stmt := top 26
theorem sc_changes_in : FnScope ["row", "many", "before", "number"] ["row"] (defScope s_changes_in) := ⟨rfl, rfl, rfl, by decide +kernel, rfl, by decide +kernel, by decide +kernel⟩
noncomputable abbrev s_remainder : Stmt := top 27
theorem sc_remainder : FnScope ["one", "other", "size", "turn", "rest", "shift", "factor", "power_of_x", "number"] ["one", "other"] (defScope s_remainder) := ⟨rfl, rfl, rfl, by decide +kernel, rfl, by decide +kernel, by decide +kernel⟩
noncomputable abbrev s_chain_of : Stmt := top 28
theorem sc_chain_of : FnScope ["free", "chain", "size", "scale", "one", "other", "gap", "shared"] ["free"] (defScope s_chain_of) := ⟨rfl, rfl, rfl, by decide +kernel, rfl, by decide +kernel, by decide +kernel⟩
noncomputable abbrev s_changes_at : Stmt := top 29
theorem sc_changes_at : FnScope ["chain", "given"] ["chain", "given"] (defScope s_changes_at) := ⟨rfl, rfl, rfl, by decide +kernel, rfl, by decide +kernel, by decide +kernel⟩
noncomputable abbrev s_is_within : Stmt := top 32
theorem sc_is_within : FnScope ["free", "reach", "bound", "number"] ["free", "reach"] (defScope s_is_within) := ⟨rfl, rfl, rfl, by decide +kernel, rfl, by decide +kernel, by decide +kernel⟩
noncomputable abbrev s_bound_of : Stmt := top 33
theorem sc_bound_of : FnScope ["free", "reach"] ["free"] (defScope s_bound_of) := ⟨rfl, rfl, rfl, by decide +kernel, rfl, by decide +kernel, by decide +kernel⟩
noncomputable abbrev s_pair_around_all : Stmt := top 34
theorem sc_pair_around_all : FnScope ["free", "odd", "bound"] ["free"] (defScope s_pair_around_all) := ⟨rfl, rfl, rfl, by decide +kernel, rfl, by decide +kernel, by decide +kernel⟩
noncomputable abbrev s_marked : Stmt := top 35
theorem sc_marked : FnScope ["chain", "given"] ["chain", "given"] (defScope s_marked) := ⟨rfl, rfl, rfl, by decide +kernel, rfl, by decide +kernel, by decide +kernel⟩
noncomputable abbrev s_isolated : Stmt := top 36
theorem sc_isolated : FnScope ["poly", "free", "chain", "around", "waiting", "found", "stretch", "low", "high", "many", "cut"] ["poly"] (defScope s_isolated) := ⟨rfl, rfl, rfl, by decide +kernel, rfl, by decide +kernel, by decide +kernel⟩
noncomputable abbrev s_stretch_of : Stmt := top 37
theorem sc_stretch_of : FnScope ["pair", "low", "high"] ["pair"] (defScope s_stretch_of) := ⟨rfl, rfl, rfl, by decide +kernel, rfl, by decide +kernel, by decide +kernel⟩
noncomputable abbrev s_parts_needed : Stmt := top 38
theorem sc_parts_needed : FnScope ["stretch", "width", "room"] ["stretch", "width"] (defScope s_parts_needed) := ⟨rfl, rfl, rfl, by decide +kernel, rfl, by decide +kernel, by decide +kernel⟩
noncomputable abbrev s_part_between : Stmt := top 39
theorem sc_part_between : FnScope ["free", "stretch", "parts", "near", "far", "under", "start", "at_near", "at_far"] ["free", "stretch", "parts", "near", "far"] (defScope s_part_between) := ⟨rfl, rfl, rfl, by decide +kernel, rfl, by decide +kernel, by decide +kernel⟩
noncomputable abbrev s_guessed : Stmt := top 40
theorem sc_guessed : FnScope ["free", "stretch", "parts", "step", "at_low", "at_high", "part", "near"] ["free", "stretch", "parts"] (defScope s_guessed) := ⟨rfl, rfl, rfl, by decide +kernel, rfl, by decide +kernel, by decide +kernel⟩
noncomputable abbrev s_halved : Stmt := top 41
theorem sc_halved : FnScope ["free", "stretch", "cut", "lower"] ["free", "stretch"] (defScope s_halved) := ⟨rfl, rfl, rfl, by decide +kernel, rfl, by decide +kernel, by decide +kernel⟩
noncomputable abbrev s_narrowed : Stmt := top 42
theorem sc_narrowed : FnScope ["free", "pair", "width", "stretch", "parts", "needed", "found"] ["free", "pair", "width"] (defScope s_narrowed) := ⟨rfl, rfl, rfl, by decide +kernel, rfl, by decide +kernel, by decide +kernel⟩
noncomputable abbrev s_refined : Stmt := top 43
theorem sc_refined : FnScope ["poly", "pair", "width"] ["poly", "pair", "width"] (defScope s_refined) := ⟨rfl, rfl, rfl, by decide +kernel, rfl, by decide +kernel, by decide +kernel⟩
noncomputable abbrev s_law_cell : Stmt := top 45
theorem sc_law_cell : FnScope ["_law_script", "_law_k"] ["_law_script", "_law_k"] (defScope s_law_cell) := ⟨rfl, rfl, rfl, by decide +kernel, rfl, by decide +kernel, by decide +kernel⟩
noncomputable abbrev s_law_drawn : Stmt := top 46
theorem sc_law_drawn : FnScope ["_law_cell_here", "_law_k", "_law_more"] ["_law_cell_here", "_law_k"] (defScope s_law_drawn) := ⟨rfl, rfl, rfl, by decide +kernel, rfl, by decide +kernel, by decide +kernel⟩
noncomputable abbrev s_law_common : Stmt := top 47
theorem sc_law_common : FnScope ["_law_one", "_law_other", "_law_left"] ["_law_one", "_law_other"] (defScope s_law_common) := ⟨rfl, rfl, rfl, by decide +kernel, rfl, by decide +kernel, by decide +kernel⟩
noncomputable abbrev s_law_ratio : Stmt := top 48
theorem sc_law_ratio : FnScope ["_law_top", "_law_under", "_law_divisor"] ["_law_top", "_law_under"] (defScope s_law_ratio) := ⟨rfl, rfl, rfl, by decide +kernel, rfl, by decide +kernel, by decide +kernel⟩
noncomputable abbrev s_law_order : Stmt := top 49
theorem sc_law_order : FnScope ["_law_one", "_law_other", "_law_gap"] ["_law_one", "_law_other"] (defScope s_law_order) := ⟨rfl, rfl, rfl, by decide +kernel, rfl, by decide +kernel, by decide +kernel⟩
noncomputable abbrev s_law_product : Stmt := top 50
theorem sc_law_product : FnScope ["_law_one", "_law_other", "_law_made", "_law_k", "_law_j"] ["_law_one", "_law_other"] (defScope s_law_product) := ⟨rfl, rfl, rfl, by decide +kernel, rfl, by decide +kernel, by decide +kernel⟩
noncomputable abbrev s_law_value : Stmt := top 51
theorem sc_law_value : FnScope ["_law_poly", "_law_given", "_law_total", "_law_k", "_law_part", "_law_j"] ["_law_poly", "_law_given"] (defScope s_law_value) := ⟨rfl, rfl, rfl, by decide +kernel, rfl, by decide +kernel, by decide +kernel⟩
noncomputable abbrev s_law_factors : Stmt := top 52
theorem sc_law_factors : FnScope ["_law_script", "_law_k", "_law_many_here", "_law_made", "_law_j", "_law_more", "_law_a", "_law_given", "_law_one", "_law_n"] ["_law_script", "_law_k", "_law_many_here"] (defScope s_law_factors) := ⟨rfl, rfl, rfl, by decide +kernel, rfl, by decide +kernel, by decide +kernel⟩
noncomputable abbrev s_law_all : Stmt := top 54
theorem sc_law_all : FnScope ["_law_factors_here", "_law_powers", "_law_made", "_law_k", "_law_j"] ["_law_factors_here", "_law_powers"] (defScope s_law_all) := ⟨rfl, rfl, rfl, by decide +kernel, rfl, by decide +kernel, by decide +kernel⟩
noncomputable abbrev s_law : Stmt := top 55
theorem sc_law : FnScope ["_law_script", "_law_factors_here", "_law_powers", "_law_poly", "_law_plain", "_law_pairs", "_law_k", "_law_more", "_law_width", "_law_low", "_law_high", "_law_again"] ["_law_script"] (defScope s_law) := ⟨rfl, rfl, rfl, by decide +kernel, rfl, by decide +kernel, by decide +kernel⟩
structure Nm (mg : Str → Option Value) : Prop where
  n_abs : mg "abs" = none
  n_len : mg "len" = none
  n_int : mg "int" = none
  n_max : mg "max" = none
  n_min : mg "min" = none
  n_sum : mg "sum" = none
  n_any : mg "any" = none
  n_all : mg "all" = none
  n_list : mg "list" = none
  n_range : mg "range" = none
  n_enumerate : mg "enumerate" = none
  n_reversed : mg "reversed" = none
noncomputable abbrev IL (H : Hp) (a : Addr) (xs : List Int) : Prop := H a = some (.lst (xs.map V.int))
noncomputable def Ab (n : Nat) (xs : List Int) : Prop := ∀ x ∈ xs, Bd n x
theorem Ab.co {n : Nat} {xs : List Int} (h : Ab n xs) (i : Nat) : Bd n (SF.co xs i) := by
  by_cases hi : i < xs.length
  · rw [co_lt hi]; exact h _ (List.getElem_mem _)
  · rw [co_ge (by lia)]
    show (0 : Int).natAbs < 2 ^ n
    exact Nat.two_pow_pos n
theorem Ab.mono {m n : Nat} {xs : List Int} (h : Ab m xs) (hm : m ≤ n) : Ab n xs := fun x hx => (h x hx).mono hm
theorem mulOk {i j : Int} {m n : Nat} (hi : Bd m i) (hj : Bd n j) (h : m + n ≤ 134217728) : IntMulOk i j := by
  have bits : ∀ {k : Nat} {x : Int}, Bd k x → Builtin.Int.intBits x ≤ k := fun {k x} hx => PySem.intBits_le_iff.mpr hx
  exact PySem.IntMulOk.of_le (bits hi) (bits hj) (by lia)
theorem il_at {xs : List Int} {n : Nat} (h : n < xs.length) : atI (xs.map V.int) (n : Int) = some (.int (SF.co xs n)) :=
  atI_nat (by rw [List.getElem?_map, List.getElem?_eq_getElem h, co_lt h] <;> rfl)
theorem il_get {xs : List Int} {n : Nat} {x : V} (h : (xs.map V.int)[n]? = some x) : n < xs.length ∧ x = .int (SF.co xs n) := by
  have hn : n < xs.length := by
    have := (List.getElem?_eq_some_iff.mp h).1
    rwa [List.length_map] at this
  rw [List.getElem?_map, List.getElem?_eq_getElem hn] at h
  rw [co_lt hn]
  exact ⟨hn, (Option.some.inj h).symm⟩
theorem cut_take (xs : List Int) (n : Nat) : cutV (xs.map V.int) none (some (n : Int)) = (xs.take n).map V.int := by
  unfold cutV
  rw [HT.sIx_none, HT.sIx_nat, List.length_map, List.drop_zero, Nat.sub_zero, List.map_take]
  rcases Nat.le_total n xs.length with h | h
  · rw [Nat.min_eq_left h]
  · rw [Nat.min_eq_right h, List.take_of_length_le (by simp), List.take_of_length_le (by simpa using h)]
theorem cut_from (xs : List Int) (k : Nat) : cutV (xs.map V.int) (some (k : Int)) none = (xs.drop k).map V.int := by
  unfold cutV
  rw [HT.sIx_none, HT.sIx_nat, List.length_map, List.map_drop]
  rcases Nat.le_total k xs.length with h | h
  · rw [Nat.min_eq_left h, List.take_of_length_le (by simp)]
  · rw [Nat.min_eq_right h, Nat.sub_self, List.take_zero, List.drop_of_length_le (by simpa using h)]
theorem cut_init (xs : List Int) : cutV (xs.map V.int) none (some (-1)) = xs.dropLast.map V.int := by
  unfold cutV
  rw [HT.sIx_none, List.drop_zero, Nat.sub_zero, List.length_map, List.dropLast_eq_take, List.map_take]
  have e : HT.sIx xs.length xs.length (some (-1)) = xs.length - 1 := by
    show (if (-1 : Int) < 0 then ((-1 : Int) + (xs.length : Int)).toNat else min (-1 : Int).toNat xs.length) = xs.length - 1
    rw [if_pos (by decide)]; lia
  rw [e]
theorem rep_flat {α : Type} (x : α) : ∀ n : Nat, (List.replicate n [x]).flatten = List.replicate n x
  | 0 => rfl
  | n + 1 => by
    rw [List.replicate_succ, List.flatten_cons, rep_flat x n, List.replicate_succ]; rfl
theorem map_rep (n : Nat) (x : Int) : (List.replicate n x).map V.int = List.replicate n (V.int x) := List.map_replicate
theorem ix_nat {n i : Nat} (h : i < n) : ixN n (i : Int) = some i := by
  unfold ixN
  rw [if_pos (by lia), if_pos (by lia)]
  simp
theorem il_last {xs : List Int} (h : xs ≠ []) : atI (xs.map V.int) (-1) = some (.int (SF.co xs (xs.length - 1))) := by
  have hl : 0 < xs.length := List.length_pos_iff.mpr h
  unfold atI
  have e : ixN (xs.map V.int).length (-1) = some (xs.length - 1) := by
    unfold ixN
    rw [List.length_map, if_neg (by decide), if_pos (by lia)]
    congr 1
    lia
  rw [e]
  show (xs.map V.int)[xs.length - 1]? = _
  rw [List.getElem?_map, List.getElem?_eq_getElem (by lia), co_lt (by lia)]
  rfl
noncomputable def spGcd : Sp := fun vs H Q _ => ∃ a b : Int, vs = [.int a, .int b] ∧ Q (.int ((Int.gcd a b : Nat) : Int)) H
noncomputable def spL (f : List Int → List Int) (Pr : List Int → Prop) : Sp := fun vs H Q _ => ∃ (a : Addr) (xs : List Int), vs = [.ref a] ∧ IL H a xs ∧ Pr xs ∧ ∀ (p : Addr) (H' : Hp), Same H H' → IL H' p (f xs) → Q (.ref p) H'
noncomputable def spLL (f : List Int → List Int → List Int) (Pr : List Int → List Int → Prop) : Sp := fun vs H Q _ => ∃ (a b : Addr) (xs ys : List Int), vs = [.ref a, .ref b] ∧ IL H a xs ∧ IL H b ys ∧ Pr xs ys ∧ ∀ (p : Addr) (H' : Hp), Same H H' → IL H' p (f xs ys) → Q (.ref p) H'
noncomputable def spN (f : List Int → Int) (Pr : List Int → Prop) : Sp := fun vs H Q _ => ∃ (a : Addr) (xs : List Int), vs = [.ref a] ∧ IL H a xs ∧ Pr xs ∧ Q (.int (f xs)) H
noncomputable abbrev Few (xs : List Int) : Prop := xs.length ≤ 1000
noncomputable abbrev Big : Nat := 60000000
noncomputable abbrev Ok2 (xs ys : List Int) : Prop := (xs.length ≤ 100 ∧ ys.length ≤ 100) ∧ Ab Big xs ∧ Ab Big ys
section
variable {P : Program} {w : World} {K : PySem.W.Frag} {mg : Str → Option Value} {base : Heap}
theorem ok_common_divisor (T : Nm mg) (D : DefB K mg "common_divisor" s_common_divisor ["one", "other"]) : FnB P w K mg base 1 "common_divisor" ["one", "other"] spGcd := by
  refine D.ok sc_common_divisor (fun vs H Q E h => ?_) (fun f cdv A outer s H vs Q E hr h => ?_)
  · obtain ⟨a, b, rfl, _⟩ := h
    rfl
  obtain ⟨a, b, rfl, q⟩ := h
  refine ⟨_, (pss_cons (ps_set (i := 2) sc_common_divisor.nd rfl (Or.inl rfl) (pe_callB call_abs rfl T.n_abs boot_abs (pa_cons (pv 0) pa_nil)))
    (pss_cons (ps_set (i := 3) sc_common_divisor.nd rfl (Or.inl rfl) (pe_callB call_abs rfl T.n_abs boot_abs (pa_cons (pv 1) pa_nil)))
    (pss_cons (ps_while PassesOwn.never (pt_truth (pv 3) (fun _ => rfl))
    (pss_cons (ps_set (i := 4) sc_common_divisor.nd rfl (Or.inl rfl) (pe_op op_modN (pv 2) (pv 3)))
    (pss_cons (ps_set (i := 2) sc_common_divisor.nd rfl (Or.inl rfl) (pv 3))
    (pss_one (ps_set (i := 3) sc_common_divisor.nd rfl (Or.inl rfl) (pv 4))))))
    (pss_one (ps_ret (pv 2)))))), ?_⟩
  walk_at "sf"
  refine ⟨_, rfl, ?_⟩
  walk_at "sf"
  refine ⟨_, rfl, ?_⟩
  walk_at "sf"
  refine while_go (fun m σ H' => ∃ (g l : Int) (r : Option V), m = l.toNat ∧ σ = [some (.int a), some (.int b), some (.int g), some (.int l), r] ∧ H' = H ∧ 0 ≤ g ∧ 0 ≤ l ∧ Int.gcd g l = Int.gcd a b)
    ⟨_, _, _, _, rfl, rfl, rfl, by split <;> lia, by split <;> lia, gcd_abs⟩ ?_
  rintro m σ H' ⟨g, l, r, rfl, rfl, rfl, hg, hl, e⟩
  walk_at "sf"
  refine ite2 (fun c => ?_) (fun c => ?_)
  · have hl0 : l ≠ 0 := by simpa using c
    have hp : 0 < l := by lia
    refine ⟨_, fun σ' H' h => h, ?_⟩
    walk_at "sf"
    refine r_i hl0 ?_
    walk_at "sf"
    have h1 := Int.emod_nonneg g hl0
    have h2 := Int.emod_lt_of_pos g hp
    rw [fmod_pos hp]
    exact ⟨_, by lia, _, _, _, rfl, rfl, rfl, hl, h1, by rw [gcd_turn hg hp, e]⟩
  · have hl0 : l = 0 := by simpa using c
    subst hl0
    walk_at "sf"
    have e' : ((Int.gcd a b : Nat) : Int) = g := by rw [← e]; exact gcd_end hg
    rw [e'] at q
    exact q
theorem primL_ofS (xs : List Int) : primL xs = ofS (fun i => (co xs i).fdiv (cont xs)) xs.length := by
  unfold primL
  refine List.ext_getElem (by rw [List.length_map, ofS_length]) fun i h1 h2 => ?_
  simp only [ofS, List.getElem_map, List.getElem_range]
  rw [co_lt (by simpa using h1)]
theorem ok_derivative (T : Nm mg) (D : DefB K mg "derivative" s_derivative ["poly"]) : FnB P w K mg base 1 "derivative" ["poly"] (spL derL (fun xs => Few xs ∧ Ab Big xs)) := by
  refine D.ok sc_derivative (fun vs H Q E h => ?_) (fun f cdv A outer s H vs Q E hr h => ?_)
  · obtain ⟨a, xs, rfl, _⟩ := h
    rfl
  obtain ⟨a, xs, rfl, ha, ⟨hx, bx⟩, q⟩ := h
  refine ⟨_, (pss_one (ps_ret (pe_slice sl_list (pe_comp rfl rfl (compOk (own := ["power", "number"]) (fr := []) (fs := []) (by with_unfolding_all rfl) rfl (by decide +kernel) (by decide +kernel) (by exact trivial) (by with_unfolding_all rfl) (by exact trivial)) (pi_enum rfl T.n_enumerate (pa_cons (pv 0) pa_nil)) (fun _ _ _ _ _ => (pg_tupK (K := K) (n := 2) rfl rfl (pgs_cons (pg_name (i := 0) (show List.Nodup (["power", "number"] : List Str) by decide +kernel) rfl (Or.inl rfl) (Or.inr rfl)) (pgs_cons (pg_name (i := 1) (show List.Nodup (["power", "number"] : List Str) by decide +kernel) rfl (Or.inl rfl) (Or.inr rfl)) pgs_nil)) rfl rfl)) (fun _ _ _ _ _ => (pe_op op_mulL (pv 0) (pv 1)))) (po_some pe_int) po_none))), ?_⟩
  walk_at "sf"
  refine r_comp1 (H1 := H) (Ite K a) (fun R hR => ?_) (comp_enumI (xs := xs) (SqL.of ha) (fun i => (i : Int) * co xs i) hx ?_ ?_)
  · walk_at "sf"
    exact ⟨a, rfl, ⟨_, SqL.of ha⟩, hR⟩
  · intro i p r H2 hi hr s12 hp Z hZ
    obtain ⟨x0, x1, rfl⟩ := len2 hr
    refine r_gtup (SqT.of hp) rfl ?_
    walk_at "sf"
    refine r_i (mulOk (m := 10) (Bd.of_range (by lia) (by have : xs.length ≤ 1000 := hx; lia)) (bx.co i) (by decide)) ?_
    exact hZ _ _ (Same.refl _) ⟨[_, _], rfl, rfl⟩
  · intro D H2 hD s12 h2
    walk_at "sf"
    refine ⟨_, rfl, ?_⟩
    walk_at "sf"
    refine ⟨D, _, rfl, SqL.of h2, fun p hp => q p _ (s12.trans (Same.new hp _)) ?_⟩
    show upd H2 p _ p = _
    rw [upd_same]
    have e : cutV ((ofS (fun i => (i : Int) * co xs i) xs.length).map V.int) (some 1) none = ((ofS (fun i => (i : Int) * co xs i) xs.length).drop 1).map V.int := cut_from _ 1
    rw [e, derL_list]
theorem contF_take {xs : List Int} {i : Nat} (h : i < xs.length) : contF 0 (xs.take (i + 1)) = Int.gcd ((contF 0 (xs.take i) : Nat) : Int) (co xs i) := by
  rw [List.take_add_one, List.getElem?_eq_getElem h, Option.toList_some]
  unfold contF
  rw [List.foldl_append, co_lt h]; rfl
theorem ok_content (g_common_divisor : FnB P w K mg base 1 "common_divisor" ["one", "other"] spGcd) (D : DefB K mg "content" s_content ["poly"]) : FnB P w K mg base 2 "content" ["poly"] (spN cont Few) := by
  refine D.ok sc_content (fun vs H Q E h => ?_) (fun f cdv A outer s H vs Q E hr h => ?_)
  · obtain ⟨a, xs, rfl, _⟩ := h
    rfl
  obtain ⟨a, xs, rfl, ha, hx, q⟩ := h
  refine ⟨_, (pss_cons (ps_set (i := 1) sc_content.nd rfl (Or.inl rfl) pe_int)
    (pss_cons (ps_for PassesOwn.never rfl (pi_list (pv 0)) (pg_name (i := 2) sc_content.nd rfl (Or.inl rfl))
    (pss_one (ps_set (i := 1) sc_content.nd rfl (Or.inl rfl) (pe_fn g_common_divisor hr (pa_cons (pv 1) (pa_cons (pv 2) pa_nil))))))
    (pss_one (ps_ret (pe_ifExp (PW.pt (pw_and (pt_truth (pv 0) (fun _ => rfl)) (pw_and1 (pt_cmpR op_lt (pe_ix ix_list (pv 0) (pe_un un_neg pe_int) (fun _ _ => rfl)) pe_int (nomark _))))) (pe_un un_neg (pv 1)) (pv 1)))))), ?_⟩
  walk_at "sf"
  refine ⟨a, rfl, ⟨_, SqL.of ha⟩, ?_⟩
  refine for_list (xs := xs.map V.int) (fun i σ H' => (∃ r, σ = [some (.ref a), some (.int ((contF 0 (xs.take i) : Nat) : Int)), r]) ∧ H' = H) ⟨⟨_, rfl⟩, rfl⟩ (fun i σ H' _ z => by rw [z.2]; exact SqL.of ha) ?_ ?_
  · rintro i x σ H' hi ⟨⟨r, rfl⟩, rfl⟩
    obtain ⟨hix, rfl⟩ := il_get hi
    walk_at "sf"
    refine ⟨_, _, rfl, ?_⟩
    walk_at "sf"
    exact ⟨⟨_, by rw [contF_take hix]; rfl⟩, rfl⟩
  · rintro σ H' ⟨⟨r, rfl⟩, rfl⟩
    have e : contF 0 (xs.take (xs.map V.int).length) = contN xs := by rw [List.length_map, List.take_length]; rfl
    rw [e]
    walk_at "sf"
    refine r_truL (SqL.of ha) ?_
    dsimp only
    unfold cont at q
    by_cases hx0 : xs = []
    · subst hx0
      rw [if_neg (by decide), if_neg (by decide)]
      walk_at "sf"
      exact q
    · have e1 : (!(xs.map V.int).isEmpty) = true := by
        cases xs with
        | nil => exact absurd rfl hx0
        | cons x r => rfl
      rw [e1, if_pos rfl]
      walk_at "sf"
      refine r_ixL (SqL.of ha) (il_last hx0) ?_
      walk_at "sf"
      refine ite2 (fun c => ?_) (fun c => ?_)
      · rw [if_pos (by simpa using c)] at q
        walk_at "sf"
        exact q
      · rw [if_neg (by simpa using c)] at q
        walk_at "sf"
        exact q
theorem ok_primitive (hT : P.given.tree = none) (g_content : FnB P w K mg base 33 "content" ["poly"] (spN cont Few)) (D : DefB K mg "primitive" s_primitive ["poly"]) : FnB P w K mg base 34 "primitive" ["poly"] (spL primL (fun xs => Few xs ∧ Tr xs)) := by
  refine D.ok sc_primitive (fun vs H Q E h => ?_) (fun f cdv A outer s H vs Q E hr h => ?_)
  · obtain ⟨a, xs, rfl, _⟩ := h
    rfl
  obtain ⟨a, xs, rfl, ha, ⟨hx, tx⟩, q⟩ := h
  refine ⟨_, (pss_cons (ps_set (i := 1) sc_primitive.nd rfl (Or.inr rfl) (pe_fn g_content hr (pa_cons (pv 0) pa_nil)))
    (pss_one (ps_ret (pe_comp rfl rfl (compOk (own := ["number"]) (fr := [1]) (fs := ["shared"]) (by with_unfolding_all rfl) rfl (by decide +kernel) (by decide +kernel) (by exact ⟨rfl, trivial⟩) (by with_unfolding_all rfl) (by exact ⟨⟨rfl, rfl, rfl, Or.inl rfl⟩, trivial⟩)) (pi_list (pv 0)) (fun _ _ _ _ _ => (pg_name (i := 0) (show List.Nodup (["number", "shared"] : List Str) by decide +kernel) rfl (Or.inl rfl) (Or.inr rfl))) (fun _ _ _ _ _ => (pe_op (op_fdivP ⟨hT, ⟨_, _, rfl, rfl, rfl, rfl, rfl⟩, hr.py⟩) (pv 0) (pv 1))))))), ?_⟩
  walk_at "sf"
  refine ⟨a, xs, rfl, ha, hx, ?_⟩
  walk_at "sf"
  refine r_comp1 (H1 := H) (Itl K a) (fun R hR => ?_) (comp_listI (xs := xs) (SqL.of ha) (fun i => (co xs i).fdiv (cont xs)) hx ?_ ?_)
  · walk_at "sf"
    exact ⟨a, rfl, ⟨_, SqL.of ha⟩, hR⟩
  · intro i r H2 hi hr s12 Z hZ
    have hn : xs ≠ [] := by rintro rfl; exact absurd hi (Nat.not_lt_zero _)
    obtain ⟨x0, rfl⟩ := len1 hr
    walk_at "sf"
    refine r_i (cont_ne tx hn) ?_
    exact hZ _ _ (Same.refl _) ⟨[_], rfl, rfl⟩
  · intro D H2 hD s12 h2
    refine q D H2 s12 ?_
    show H2 D = some (.lst ((primL xs).map V.int))
    rw [primL_ofS]
    exact h2
end
end K16
namespace K16
open PySem PyProof.Rows L2 SF
noncomputable def spCell (K : PySem.W.Frag) : Sp := fun vs H Q _ => ∃ (a : Addr) (ns : List Int) (k : Int), vs = [.ref a, .int k] ∧ SqL K H a (ns.map V.int) ∧ ns.length ≤ 63 ∧ 0 ≤ k ∧ ∀ (c : Int) (H' : Hp), Same H H' → Q (.int c) H'
noncomputable def spDrawn : Sp := fun vs H Q _ => ∃ c k : Int, vs = [.int c, .int k] ∧ ∀ m : Int, 0 ≤ m → Bd 128 m → Q (.int m) H
theorem fm {x : Int} {m : Int} (hm : 0 < m) : x.fmod m = x % m ∧ 0 ≤ x % m ∧ x % m < m := ⟨fmod_pos hm, Int.emod_nonneg x (Int.ne_of_gt hm), Int.emod_lt_of_pos x hm⟩
theorem d64 (n : Int) (h1 : 0 < n) (h2 : n < 2 ^ 64) : (n ≠ 0 ∧ n.natAbs.log2 < 9000) := ⟨Int.ne_of_gt h1, (Bd.of_range (n := 64) (by lia) h2).log2 (by decide)⟩
section
variable {P : Program} {w : World} {K : PySem.W.Frag} {mg : Str → Option Value} {base : Heap}
theorem ok_law_cell (T : Nm mg) (D : DefB K mg "_law_cell" s_law_cell ["_law_script", "_law_k"]) : FnB P w K mg base 1 "_law_cell" ["_law_script", "_law_k"] (spCell K) := by
  refine D.ok sc_law_cell (fun vs H Q E h => ?_) (fun f cdv A outer s H vs Q E hr h => ?_)
  · obtain ⟨a, ns, k, rfl, _⟩ := h
    rfl
  obtain ⟨a, ns, k, rfl, hS, hl, hk, q⟩ := h
  refine ⟨_, (pss_cons (ps_if (pt_cmpR (op_eqI hr.units0) (pv 0) (pe_lst pa_nil) (nomark _))
    (pss_one (ps_ret (pe_op op_mulL (pv 1) pe_int)))
    pss_nil)
    (pss_one (ps_ret (pe_op op_add (pe_ix ix_list (pv 0) (pe_op op_modN (pv 1) (pe_callB call_len_seq rfl T.n_len boot_len (pa_cons (pv 0) pa_nil))) (fun _ _ => rfl)) (pe_op op_mulL (pe_op op_fdivL (pv 1) (pe_callB call_len_seq rfl T.n_len boot_len (pa_cons (pv 0) pa_nil))) pe_int))))), ?_⟩
  walk_at "sf"
  intro p hp
  have g1 : Same H (upd H p (.lst [])) := Same.new hp _
  refine ⟨a, p, ns, [], rfl, rfl, g1.seq hS, SqL.of upd_same, ?_⟩
  walk_at "sf"
  refine ite2 (fun c => ?_) (fun c => ?_)
  · walk_at "sf"
    refine r_i (IntMulOk.of_right (by decide)) ?_
    exact q _ _ g1
  · have hne : ns ≠ [] := by simpa using c
    have hp1 : 0 < ns.length := List.length_pos_iff.mpr hne
    have em : (ns.map V.int).length = ns.length := List.length_map _
    have hpz : (0 : Int) < ((ns.map V.int).length : Nat) := by rw [em]; lia
    walk_at "sf"
    refine ⟨a, _, rfl, .inl (g1.seq hS), ?_⟩
    refine r_i (Int.ne_of_gt hpz) ?_
    rw [fmod_pos hpz]
    have h1 := Int.emod_nonneg k (Int.ne_of_gt hpz)
    have h2 := Int.emod_lt_of_pos k hpz
    obtain ⟨j, ej⟩ := Int.eq_ofNat_of_zero_le h1
    rw [ej] at h2 ⊢
    have hj : j < ns.length := by rw [em] at h2; lia
    refine r_ixL (g1.seq hS) (atI_nat (v := V.int ns[j]) (by rw [List.getElem?_map, List.getElem?_eq_getElem hj] <;> rfl)) ?_
    walk_at "sf"
    refine ⟨a, _, rfl, .inl (g1.seq hS), ?_⟩
    refine r_i ⟨Int.ne_of_gt hpz, (Bd.of_range (n := 64) (by lia) (by rw [em]; lia)).log2 (by decide)⟩ ?_
    walk_at "sf"
    refine r_i (IntMulOk.of_right (by decide)) ?_
    walk_at "sf"
    exact q _ _ g1
theorem ok_law_drawn (D : DefB K mg "_law_drawn" s_law_drawn ["_law_cell_here", "_law_k"]) : FnB P w K mg base 1 "_law_drawn" ["_law_cell_here", "_law_k"] spDrawn := by
  refine D.ok sc_law_drawn (fun vs H Q E h => ?_) (fun f cdv A outer s H vs Q E hr h => ?_)
  · obtain ⟨c, k, rfl, _⟩ := h
    rfl
  obtain ⟨c, k, rfl, q⟩ := h
  refine ⟨_, (pss_cons (ps_set (i := 2) sc_law_drawn.nd rfl (Or.inl rfl) (pe_op op_modN (pe_op op_add (pe_op op_mulL (pv 0) pe_int) (pe_op op_mulL (pe_op op_add (pv 1) pe_int) pe_int)) pe_int))
    (pss_one (ps_ret (pe_op op_modN (pe_op op_mulL (pv 2) (pv 2)) pe_int)))), ?_⟩
  walk_at "sf"
  refine r_i (IntMulOk.of_right (by decide)) ?_
  walk_at "sf"
  refine r_i (IntMulOk.of_right (by decide)) ?_
  walk_at "sf"
  refine r_i (by decide) ?_
  rw [fmod_pos (by decide)]
  generalize hm : (c * 6364136223846793005 + (k + 1) * 1442695040888963407) % 340282366920938463463374607431768211507 = m
  have m1 : 0 ≤ m := by rw [← hm]; exact Int.emod_nonneg _ (by decide)
  have m2 : m < 340282366920938463463374607431768211507 := by rw [← hm]; exact Int.emod_lt_of_pos _ (by decide)
  have mz : Bd 129 m := Bd.of_range m1 (Int.lt_of_lt_of_le m2 (by decide))
  walk_at "sf"
  refine r_i (mulOk mz mz (by decide)) ?_
  walk_at "sf"
  refine r_i (by decide) ?_
  rw [fmod_pos (by decide)]
  exact q _ (Int.emod_nonneg _ (by decide)) (Bd.of_range (Int.emod_nonneg _ (by decide)) (Int.lt_of_lt_of_le (Int.emod_lt_of_pos _ (by decide)) (by decide)))
theorem ok_law_product (T : Nm mg) (D : DefB K mg "_law_product" s_law_product ["_law_one", "_law_other"]) : FnB P w K mg base 1 "_law_product" ["_law_one", "_law_other"] (spLL mulL (fun xs ys => Ok2 xs ys ∧ xs ≠ [] ∧ ys ≠ [])) := by
  refine D.ok sc_law_product (fun vs H Q E h => ?_) (fun f cdv A outer s H vs Q E hr h => ?_)
  · obtain ⟨a, b, xs, ys, rfl, _⟩ := h
    rfl
  obtain ⟨a, b, xs, ys, rfl, ha, hb, ⟨⟨⟨hx, hy⟩, bx, by'⟩, hx0, hy0⟩, q⟩ := h
  have ex : (xs.map V.int).length = xs.length := List.length_map _
  have ey : (ys.map V.int).length = ys.length := List.length_map _
  have lx := List.length_pos_iff.mpr hx0
  have ly := List.length_pos_iff.mpr hy0
  refine ⟨_, (pss_cons (ps_set (i := 2) sc_law_product.nd rfl (Or.inl rfl) (pe_op op_rep (pe_lst (pa_cons pe_int pa_nil)) (pe_op op_sub (pe_op op_add (pe_callB call_len_seq rfl T.n_len boot_len (pa_cons (pv 0) pa_nil)) (pe_callB call_len_seq rfl T.n_len boot_len (pa_cons (pv 1) pa_nil))) pe_int)))
    (pss_cons (ps_for PassesOwn.never rfl (pi_range1 rfl T.n_range (pa_cons (pe_callB call_len_seq rfl T.n_len boot_len (pa_cons (pv 0) pa_nil)) pa_nil)) (pg_name (i := 3) sc_law_product.nd rfl (Or.inl rfl))
    (pss_one (ps_for PassesOwn.never rfl (pi_range1 rfl T.n_range (pa_cons (pe_callB call_len_seq rfl T.n_len boot_len (pa_cons (pv 1) pa_nil)) pa_nil)) (pg_name (i := 4) sc_law_product.nd rfl (Or.inl rfl))
    (pss_one (ps_asg (pe_op op_add (pe_ix ix_list (pv 2) (pe_op op_add (pv 3) (pv 4)) (fun _ _ => rfl)) (pe_op op_mulL (pe_ix ix_list (pv 0) (pv 3) (fun _ _ => rfl)) (pe_ix ix_list (pv 1) (pv 4) (fun _ _ => rfl)))) (pg_sub (pv 2) (pe_op op_add (pv 3) (pv 4)) set_list))))))
    (pss_one (ps_ret (pv 2))))), ?_⟩
  walk_at "sf"
  intro p1 hp1
  walk_at "sf"
  have s1 := Same.new hp1 (.lst [V.int 0])
  refine ⟨a, _, rfl, .inl (SqL.of (s1 _ _ ha)), ?_⟩
  walk_at "sf"
  refine ⟨b, _, rfl, .inl (SqL.of (s1 _ _ hb)), ?_⟩
  walk_at "sf"
  rw [ex, ey]
  refine ⟨p1, _, _, rfl, rfl, upd_same, by lia, by lia, by show 1 * ((xs.length : Int) + (ys.length : Int) - 1).toNat ≤ sizeLine; exact small4 (by lia), fun p2 hp2 => ?_⟩
  have s2 := s1.trans (Same.new hp2 (.lst (List.replicate ((xs.length : Int) + (ys.length : Int) - 1).toNat [V.int 0]).flatten))
  have h2 : upd (upd H p1 (.lst [V.int 0])) p2 (.lst (List.replicate ((xs.length : Int) + (ys.length : Int) - 1).toNat [V.int 0]).flatten) p2 = some (.lst ((ofS (cv xs ys 0) (xs.length + ys.length - 1)).map V.int)) := by
    rw [upd_same, show ofS (cv xs ys 0) (xs.length + ys.length - 1) = ofS (fun _ => 0) _ from ofS_congr fun j _ => rfl, ofS_zero, map_rep, rep_flat]
    have e : ((xs.length : Int) + (ys.length : Int) - 1).toNat = xs.length + ys.length - 1 := by lia
    rw [e]
  have n2 : H p2 = none := s1.free hp2
  revert s2 h2
  generalize upd (upd H p1 (.lst [V.int 0])) p2 (.lst (List.replicate ((xs.length : Int) + (ys.length : Int) - 1).toNat [V.int 0]).flatten) = H2
  intro s2 h2
  walk_at "sf"
  refine ⟨a, _, rfl, .inl (SqL.of (s2 _ _ ha)), ?_⟩
  walk_at "sf"
  rw [ex]
  refine ⟨_, rfl, by lia, by lia, ?_⟩
  rw [Int.toNat_natCast]
  refine for_range (fun i σ H' => (∃ r1 r2, σ = [some (.ref a), some (.ref b), some (.ref p2), r1, r2]) ∧ Same H H' ∧ IL H' p2 (ofS (cv xs ys i) (xs.length + ys.length - 1)))
    ⟨⟨_, _, rfl⟩, s2, h2⟩ ?_ ?_
  · rintro i σ H' hix ⟨⟨r1, r2, rfl⟩, s4, h4⟩
    have e0 : (0 : Int) + (i : Int) = (i : Int) := by lia
    rw [e0]
    walk_at "sf"
    refine ⟨b, _, rfl, .inl (SqL.of (s4 _ _ hb)), ?_⟩
    walk_at "sf"
    rw [ey]
    refine ⟨_, rfl, by lia, by lia, ?_⟩
    rw [Int.toNat_natCast]
    refine for_range (fun k σ H' => (∃ r2, σ = [some (.ref a), some (.ref b), some (.ref p2), some (.int (i : Int)), r2]) ∧ Same H H' ∧ IL H' p2 (ofS (fun j => cv xs ys i j + if i ≤ j ∧ j < i + k then SF.co xs i * SF.co ys (j - i) else 0) (xs.length + ys.length - 1)))
      ⟨⟨_, rfl⟩, s4, ?_⟩ ?_ ?_
    · show H' p2 = _
      rw [h4]
      refine congrArg (fun l => some (HO.lst (l.map V.int))) (ofS_congr fun j hj => ?_)
      rw [if_neg (by lia)]; lia
    · rintro k σ H6 hky ⟨⟨r2, rfl⟩, s6, h6⟩
      have e0 : (0 : Int) + (k : Int) = (k : Int) := by lia
      rw [e0]
      have ei : (i : Int) + (k : Int) = ((i + k : Nat) : Int) := by lia
      walk_at "sf"
      rw [ei]
      refine r_ixL (SqL.of h6) (il_at (by rw [ofS_length]; lia)) ?_
      walk_at "sf"
      refine r_ixL (SqL.of (s6 _ _ ha)) (il_at hix) ?_
      walk_at "sf"
      refine r_ixL (SqL.of (s6 _ _ hb)) (il_at hky) ?_
      refine r_i (mulOk (bx.co i) (by'.co k) (by decide)) ?_
      walk_at "sf"
      rw [ei]
      refine ⟨p2, _, _, i + k, rfl, rfl, h6, ix_nat (by rw [List.length_map, ofS_length]; lia), ?_⟩
      refine ⟨⟨_, rfl⟩, fun c o z => ?_, ?_⟩
      · rw [upd_ne (ne_of_none z n2)]
        exact s6 _ _ z
      · show upd _ p2 _ p2 = _
        rw [upd_same, ofS_co, if_pos (by lia), ← List.map_set, ofS_set (by lia)]
        refine congrArg (fun l => some (HO.lst (l.map V.int))) (ofS_congr fun j hj => ?_)
        show (if j = i + k then _ else _) = _
        by_cases e : j = i + k
        · subst e
          have e3 : i + k - i = k := by lia
          rw [if_pos rfl, if_neg (by lia), if_pos ⟨by lia, by lia⟩, e3]; lia
        · rw [if_neg e]
          by_cases e4 : i ≤ j ∧ j < i + k
          · rw [if_pos e4, if_pos ⟨e4.1, by lia⟩]
          · rw [if_neg e4, if_neg (by lia)]
    · rintro σ H6 ⟨⟨r2, rfl⟩, s6, h6⟩
      refine ⟨⟨_, _, rfl⟩, s6, ?_⟩
      show H6 p2 = _
      rw [h6]
      exact congrArg (fun l => some (HO.lst (l.map V.int))) (ofS_congr fun j hj => cv_inner xs ys i j)
  · rintro σ H' ⟨⟨r1, r2, rfl⟩, s4, h4⟩
    walk_at "sf"
    refine q p2 H' s4 ?_
    rw [mulL_ofS hx0 hy0]
    exact h4
end
end K16
namespace K16
open PySem PyProof.Rows L2 SF SF.Po
theorem hor_bd {p : Int} {P b : Nat} (hb : Bd P p) {xs : List Int} (hx : Ab b xs) : ∀ i, i ≤ xs.length → Bd (b + (P + 1) * i) (evL p (xs.drop (xs.length - i)))
  | 0, _ => by rw [evL_none]; show (0 : Int).natAbs < _; exact Nat.two_pow_pos _
  | i + 1, h => by
    rw [evL_drop p xs (by lia)]
    have ih := hor_bd hb hx i (by lia)
    have h1 : Bd (b + (P + 1) * i + P) (evL p (xs.drop (xs.length - i)) * p) := ih.mul hb
    have h2 : Bd (b + (P + 1) * i + P) (co xs (xs.length - 1 - i)) := (hx.co _).mono (by lia)
    have e : b + (P + 1) * (i + 1) = b + (P + 1) * i + P + 1 := by rw [Nat.mul_add]; lia
    rw [e]
    exact h1.add h2
noncomputable def spVal : Sp := fun vs H Q _ => ∃ (a : Addr) (xs : List Int) (p : Int) (P : Nat), vs = [.ref a, .int p] ∧ IL H a xs ∧ (∃ b, xs.length ≤ 40 ∧ Ab b xs ∧ Bd P p ∧ P ≤ 1400000 ∧ b ≤ 1000000) ∧ Q (.int (evL p xs)) H
noncomputable def spSpread : Sp := fun vs H Q _ => ∃ (v p : Int) (n : Nat), vs = [.int v, .int p] ∧ (3 ≤ p ∧ 0 ≤ v ∧ v ≤ p ^ n ∧ n ≤ 50) ∧ ∀ (a : Addr) (xs : List Int) (H' : Hp), Same H H' → IL H' a xs → Spr p v xs → xs.length ≤ n + 1 → Q (.ref a) H'
noncomputable def spLargest : Sp := fun vs H Q _ => ∃ (a : Addr) (xs : List Int), vs = [.ref a] ∧ IL H a xs ∧ (xs ≠ [] ∧ Few xs) ∧ ∀ (m : Int) (H' : Hp), Same H H' → (∃ x ∈ xs, m = ab x) → (∀ x ∈ xs, ab x ≤ m) → Q (.int m) H'
section
variable {P : Program} {w : World} {K : PySem.W.Frag} {mg : Str → Option Value} {base : Heap}
theorem ok_value_at (T : Nm mg) (D : DefB K mg "value_at" s_value_at ["poly", "point"]) : FnB P w K mg base 1 "value_at" ["poly", "point"] spVal := by
  refine D.ok sc_value_at (fun vs H Q E h => ?_) (fun f cdv A outer s H vs Q E hr h => ?_)
  · obtain ⟨a, xs, p, P, rfl, _⟩ := h
    rfl
  obtain ⟨a, xs, p, P, rfl, ha, ⟨b, hx, hxb, hb, hP, hb1⟩, q⟩ := h
  refine ⟨_, (pss_cons (ps_set (i := 2) sc_value_at.nd rfl (Or.inl rfl) pe_int)
    (pss_cons (ps_for PassesOwn.never rfl (pi_rev rfl T.n_reversed (pa_cons (pv 0) pa_nil)) (pg_name (i := 3) sc_value_at.nd rfl (Or.inl rfl))
    (pss_one (ps_set (i := 2) sc_value_at.nd rfl (Or.inl rfl) (pe_op op_add (pe_op op_mulL (pv 2) (pv 1)) (pv 3)))))
    (pss_one (ps_ret (pv 2))))), ?_⟩
  walk_at "sf"
  refine ⟨a, _, rfl, SqL.of ha, ?_⟩
  refine for_rev (xs := xs.map V.int) (fun i σ H' => (∃ r, σ = [some (.ref a), some (.int p), some (.int (evL p (xs.drop (xs.length - i)))), r]) ∧ H' = H) ⟨⟨_, by rw [evL_none]; rfl⟩, rfl⟩ (fun i σ H' _ z => by rw [z.2]; exact SqL.of ha) ?_ ?_
  · rintro i x σ H' hi hxx ⟨⟨r, rfl⟩, rfl⟩
    rw [List.length_map] at hi hxx
    obtain ⟨hix, rfl⟩ := il_get hxx
    have h1 := hor_bd hb hxb i (by lia)
    have h2 : (P + 1) * i ≤ 1400001 * 40 := Nat.mul_le_mul (by lia) (by lia)
    walk_at "sf"
    refine r_i (mulOk h1 hb (by lia)) ?_
    walk_at "sf"
    exact ⟨⟨_, by rw [evL_drop p xs hi]; rfl⟩, rfl⟩
  · rintro σ H' ⟨⟨r, rfl⟩, rfl⟩
    rw [List.length_map, evL_full]
    walk_at "sf"
    exact q
theorem ok_spread (hT : P.given.tree = none) (D : DefB K mg "spread" s_spread ["value", "point"]) : FnB P w K mg base 33 "spread" ["value", "point"] spSpread := by
  refine D.ok sc_spread (fun vs H Q E h => ?_) (fun f cdv A outer s H vs Q E hr h => ?_)
  · obtain ⟨v, p, n, rfl, _⟩ := h
    rfl
  obtain ⟨v, p, n, rfl, ⟨hp3, hv, hvn, hn⟩, q⟩ := h
  have hp : 0 < p := by lia
  have hp0 : p ≠ 0 := by lia
  refine ⟨_, (pss_cons (ps_set (i := 2) sc_spread.nd rfl (Or.inl rfl) (pe_lst pa_nil))
    (pss_cons (ps_set (i := 3) sc_spread.nd rfl (Or.inl rfl) (pv 0))
    (pss_cons (ps_while PassesOwn.never (pt_truth (pv 3) (fun _ => rfl))
    (pss_cons (ps_set (i := 4) sc_spread.nd rfl (Or.inl rfl) (pe_op op_modN (pv 3) (pv 1)))
    (pss_cons (ps_if (pt_cmpR op_gt (pe_op op_mulL pe_int (pv 4)) (pv 1) (nomark _))
    (pss_one (ps_set (i := 4) sc_spread.nd rfl (Or.inl rfl) (pe_op op_sub (pv 4) (pv 1))))
    pss_nil)
    (pss_cons (ps_expr (pe_bm PySem.F.plainAttrs_list PySem.F.slot_list_append PySem.F.type_list_append mt_append (pv 2) (pa_cons (pv 4) pa_nil)))
    (pss_one (ps_set (i := 3) sc_spread.nd rfl (Or.inl rfl) (pe_op (op_fdivP ⟨hT, ⟨_, _, rfl, rfl, rfl, rfl, rfl⟩, hr.py⟩) (pe_op op_sub (pv 3) (pv 4)) (pv 1))))))))
    (pss_one (ps_ret (pv 2)))))), ?_⟩
  walk_at "sf"
  intro p1 hp1
  walk_at "sf"
  refine while_go (fun m σ H' => ∃ (xs : List Int) (r : Int) (z : Option V), m = r.toNat ∧ σ = [some (.int v), some (.int p), some (.ref p1), some (.int r), z] ∧ Same H H' ∧ IL H' p1 xs ∧ 0 ≤ r ∧
      evL p xs + p ^ xs.length * r = v ∧ (∀ x ∈ xs, -p < 2 * x ∧ 2 * x ≤ p) ∧ (r = 0 → Tr xs) ∧ ((xs.length ≤ n ∧ r ≤ p ^ (n - xs.length)) ∨ (xs.length ≤ n + 1 ∧ r = 0)))
    ⟨_, [], v, _, rfl, rfl, Same.new hp1 _, upd_same, hv, by show 0 + p ^ 0 * v = v; rw [Int.pow_zero]; lia, fun x hx => by simp at hx, fun _ => Tr.nil, .inl ⟨Nat.zero_le _, hvn⟩⟩ ?_
  rintro m σ H' ⟨xs, r, z, rfl, rfl, s1, h1, hr0, e, bal, htr, hsz⟩
  walk_at "sf"
  refine ite2 (fun c => ?_) (fun c => ?_)
  · have hrn : r ≠ 0 := by simpa using c
    have hrp : 0 < r := by lia
    have hlen : xs.length ≤ n ∧ r ≤ p ^ (n - xs.length) := by
      rcases hsz with h | h
      · exact h
      · exact absurd h.2 hrn
    have fin : ∀ d : Int, d = digit p r → ∀ H2 : Hp, Same H H2 → IL H2 p1 (xs ++ [d]) → ∃ m', m' < r.toNat ∧ ∃ (xs : List Int) (t : Int) (z : Option V), m' = t.toNat ∧ [some (.int v), some (.int p), some (.ref p1), some (.int ((digR p r))), some (V.int d)] = [some (.int v), some (.int p), some (.ref p1), some (.int t), z] ∧ Same H H2 ∧ IL H2 p1 xs ∧ 0 ≤ t ∧
        evL p xs + p ^ xs.length * t = v ∧ (∀ x ∈ xs, -p < 2 * x ∧ 2 * x ≤ p) ∧ (t = 0 → Tr xs) ∧ ((xs.length ≤ n ∧ t ≤ p ^ (n - xs.length)) ∨ (xs.length ≤ n + 1 ∧ t = 0)) := by
      intro d hd H2 s2 h2
      have q0 := digR_nonneg hp hr0
      have q1 := digR_lt hp3 hrp
      refine ⟨_, by lia, xs ++ [d], digR p r, _, rfl, rfl, s2, h2, q0, ?_, ?_, ?_, ?_⟩
      · rw [evL_app, List.length_append, List.length_singleton, Int.pow_succ]
        show evL p xs + p ^ xs.length * (d + p * 0) + p ^ xs.length * p * digR p r = v
        have e2 := dig_eq (v := r) hp
        rw [← e, hd]
        conv => rhs; rw [← e2]
        grind
      · intro x hx
        rcases List.mem_append.mp hx with hx | hx
        · exact bal x hx
        · rw [List.mem_singleton.mp hx, hd]; exact dig_bal hp
      · intro hz y hy
        rw [List.getLast?_append, List.getLast?_singleton] at hy
        have : d = y := by simpa using hy
        rw [← this, hd]
        exact digit_zero hp hrn hz
      · rw [List.length_append, List.length_singleton]
        by_cases hl : xs.length = n
        · right
          have h3 := hlen.2
          rw [hl, Nat.sub_self, Int.pow_zero] at h3
          have h4 : r = 1 := by lia
          rw [h4]
          exact ⟨by lia, (digR_one (by lia)).1⟩
        · left
          refine ⟨by lia, digR_le hp ?_⟩
          have e3 : n - xs.length = n - (xs.length + 1) + 1 := by lia
          have h3 := hlen.2
          rw [e3, Int.pow_succ] at h3
          rw [Int.mul_comm]; exact h3
    have happ : ∀ d : Int, IL (upd H' p1 (.lst (xs.map V.int ++ [V.int d]))) p1 (xs ++ [d]) := fun d => by
      show upd H' p1 _ p1 = _
      rw [upd_same, List.map_append]; rfl
    have hsame : ∀ o : HO, Same H (upd H' p1 o) := fun o c u z => by
      rw [upd_ne (ne_of_none z hp1)]
      exact s1 _ _ z
    refine ⟨_, fun σ' H' h => h, ?_⟩
    walk_at "sf"
    refine r_i hp0 ?_
    rw [fmod_pos hp]
    walk_at "sf"
    have b1 : IntMulOk 2 (r % p) := IntMulOk.of_left (by decide)
    refine r_i b1 ?_
    walk_at "sf"
    refine ite2 (fun c2 => ?_) (fun c2 => ?_)
    · have h2 : 2 * (r % p) > p := by simpa using c2
      have ed : r % p - p = digit p r := by unfold digit; rw [if_pos h2]
      walk_at "sf"
      refine ⟨_, rfl, .inl ⟨rfl, _, SqL.of h1⟩, ?_⟩
      walk_at "sf"
      refine ⟨p1, _, _, rfl, rfl, h1, ?_, ?_⟩
      · rw [List.length_map]; exact Nat.lt_of_lt_of_le (Nat.lt_of_le_of_lt hlen.1 (by lia : n < 1000)) (small4 (Nat.le_refl _))
      · walk_at "sf"
        refine r_i hp0 ?_
        rw [ed, fdiv_pos hp]
        exact fin _ rfl _ (hsame _) (happ _)
    · have h2 : ¬ 2 * (r % p) > p := by simpa using c2
      have ed : r % p = digit p r := by unfold digit; rw [if_neg h2]
      walk_at "sf"
      refine ⟨_, rfl, .inl ⟨rfl, _, SqL.of h1⟩, ?_⟩
      walk_at "sf"
      refine ⟨p1, _, _, rfl, rfl, h1, ?_, ?_⟩
      · rw [List.length_map]; exact Nat.lt_of_lt_of_le (Nat.lt_of_le_of_lt hlen.1 (by lia : n < 1000)) (small4 (Nat.le_refl _))
      · walk_at "sf"
        refine r_i hp0 ?_
        rw [ed, fdiv_pos hp]
        exact fin _ rfl _ (hsame _) (happ _)
  · have hrn : r = 0 := by simpa using c
    subst hrn
    walk_at "sf"
    refine q p1 xs H' s1 h1 ⟨by rw [← e]; lia, bal, htr rfl⟩ ?_
    rcases hsz with h | h <;> lia
theorem ok_largest (T : Nm mg) (D : DefB K mg "largest" s_largest ["poly"]) : FnB P w K mg base 1 "largest" ["poly"] spLargest := by
  refine D.ok sc_largest (fun vs H Q E h => ?_) (fun f cdv A outer s H vs Q E hr h => ?_)
  · obtain ⟨a, xs, rfl, _⟩ := h
    rfl
  obtain ⟨a, xs, rfl, ha, ⟨hn, hf⟩, q⟩ := h
  have eab : ∀ i, (if co xs i < 0 then - co xs i else co xs i) = ab (co xs i) := fun i => by unfold ab; split <;> lia
  refine ⟨_, (pss_one (ps_ret (pe_callB (call_maxI rfl) rfl T.n_max boot_max (pa_cons (pe_comp rfl rfl (compOk (own := ["number"]) (fr := []) (fs := []) (by with_unfolding_all rfl) rfl (by decide +kernel) (by decide +kernel) (by exact trivial) (by with_unfolding_all rfl) (by exact trivial)) (pi_list (pv 0)) (fun _ _ _ _ _ => (pg_name (i := 0) (show List.Nodup (["number"] : List Str) by decide +kernel) rfl (Or.inl rfl) (Or.inr rfl))) (fun _ _ _ _ _ => (pe_callB call_abs rfl T.n_abs boot_abs (pa_cons (pv 0) pa_nil)))) pa_nil)))), ?_⟩
  walk_at "sf"
  refine r_comp1 (H1 := H) (Itl K a) (fun R hR => ?_) (comp_listI (xs := xs) (SqL.of ha) (fun i => ab (co xs i)) hf ?_ ?_)
  · walk_at "sf"
    exact ⟨a, rfl, ⟨_, SqL.of ha⟩, hR⟩
  · intro i r H2 hi hr s12 Z hZ
    obtain ⟨x0, rfl⟩ := len1 hr
    walk_at "sf"
    refine ⟨_, rfl, ?_⟩
    rw [eab]
    exact hZ _ _ (Same.refl _) ⟨[_], rfl, rfl⟩
  · intro D H2 hD s12 h2
    walk_at "sf"
    have hl := List.length_pos_iff.mpr hn
    refine ⟨D, _, rfl, SqL.of h2, fun z => ?_, fun m hm hmax => q m H2 s12 ?_ fun x hx => ?_⟩
    · have := congrArg List.length z
      rw [ofS_length] at this
      simp at this
      exact hn this
    · obtain ⟨i, hi, e⟩ := List.mem_map.mp hm
      have hi := List.mem_range.mp hi
      exact ⟨co xs i, by rw [co_lt hi]; exact List.getElem_mem hi, e.symm⟩
    · obtain ⟨i, hi, e⟩ := List.getElem_of_mem hx
      refine hmax _ (List.mem_map.mpr ⟨i, List.mem_range.mpr hi, ?_⟩)
      rw [co_lt hi, e]
end
end K16
namespace K16
open PySem PyProof.Rows L2 SF SF.Po
noncomputable def spDivd : Sp := fun vs H Q _ => ∃ (a d : Addr) (xs ds : List Int) (b c : Nat), vs = [.ref a, .ref d] ∧ IL H a xs ∧ IL H d ds ∧ (ds ≠ [] ∧ Tr ds ∧ xs.length ≤ 40 ∧ ds.length ≤ 60 ∧ Ab b xs ∧ Ab c ds ∧ b + 41 * (c + 1) ≤ Big) ∧
  (∀ H', Same H H' → (∀ s, ofL xs ≠ ofL ds * s) → Q .non H') ∧
  (∀ (a' : Addr) (qs : List Int) (H' : Hp), Same H H' → IL H' a' qs → ofL xs = ofL ds * ofL qs → (ds.length ≤ xs.length → qs.length + ds.length = xs.length + 1) → Q (.ref a') H')
theorem step_bd {rs ds : List Int} {t : Int} {k r c : Nat} (hk : k + ds.length ≤ rs.length) (b1 : Ab r rs) (b2 : Ab c ds) (bt : Bd r t) : Ab (r + (c + 1)) (stepL rs ds t k) := fun x hx => by
  obtain ⟨j, e⟩ := co_mem hx
  rw [← e, stepL_co hk]
  have h1 : Bd (r + c) (co rs j) := (b1.co j).mono (by lia)
  have h2 : Bd (r + c) (if k ≤ j then t * co ds (j - k) else 0) := by
    split
    · exact bt.mul (b2.co _)
    · show (0 : Int).natAbs < _; exact Nat.two_pow_pos _
  exact h1.sub h2
theorem il_lastV {xs : List Int} (h : xs ≠ []) : (xs.map V.int)[(xs.map V.int).length - 1]? = some (.int (SF.co xs (xs.length - 1))) := by
  have hl : 0 < xs.length := List.length_pos_iff.mpr h
  rw [List.length_map, List.getElem?_map, List.getElem?_eq_getElem (by lia), co_lt (by lia)]
  rfl
section
variable {P : Program} {w : World} {K : PySem.W.Frag} {mg : Str → Option Value} {base : Heap}
theorem ok_divided (T : Nm mg) (hT : P.given.tree = none) (D : DefB K mg "divided" s_divided ["poly", "divisor"]) : FnB P w K mg base 33 "divided" ["poly", "divisor"] spDivd := by
  refine D.ok sc_divided (fun vs H Q E h => ?_) (fun f cdv A outer s H vs Q E hr h => ?_)
  · obtain ⟨a, d, xs, ds, b, c, rfl, _⟩ := h
    rfl
  obtain ⟨a, d, xs, ds, b, c, rfl, ha, hd, ⟨hdn, td, hx, hdl, bx, bd, hsz⟩, qn, qs⟩ := h
  have ed : (ds.map V.int).length = ds.length := List.length_map _
  have hdp := List.length_pos_iff.mpr hdn
  have hlead := td.last hdn
  have hBig : Big = 60000000 := rfl
  refine ⟨_, (pss_cons (ps_set (i := 2) sc_divided.nd rfl (Or.inl rfl) (pe_callTy call_list_of rfl T.n_list boot_list (pa_cons (pv 0) pa_nil)))
    (pss_cons (ps_set (i := 3) sc_divided.nd rfl (Or.inl rfl) (pe_lst pa_nil))
    (pss_cons (ps_while PassesOwn.never (pt_cmpR op_ge (pe_callB call_len_seq rfl T.n_len boot_len (pa_cons (pv 2) pa_nil)) (pe_callB call_len_seq rfl T.n_len boot_len (pa_cons (pv 1) pa_nil)) (nomark _))
    (pss_cons (ps_set (i := 4) sc_divided.nd rfl (Or.inl rfl) (pe_op (op_fdivP ⟨hT, ⟨_, _, rfl, rfl, rfl, rfl, rfl⟩, hr.py⟩) (pe_ix ix_list (pv 2) (pe_un un_neg pe_int) (fun _ _ => rfl)) (pe_ix ix_list (pv 1) (pe_un un_neg pe_int) (fun _ _ => rfl))))
    (pss_cons (ps_set (i := 5) sc_divided.nd rfl (Or.inl rfl) (pe_op op_sub (pe_callB call_len_seq rfl T.n_len boot_len (pa_cons (pv 2) pa_nil)) (pe_callB call_len_seq rfl T.n_len boot_len (pa_cons (pv 1) pa_nil))))
    (pss_cons (ps_for PassesOwn.never rfl (pi_enum rfl T.n_enumerate (pa_cons (pv 1) pa_nil)) (pg_tup rfl (pgs_cons (pg_name (i := 6) sc_divided.nd rfl (Or.inl rfl)) (pgs_cons (pg_name (i := 7) sc_divided.nd rfl (Or.inl rfl)) pgs_nil)))
    (pss_one (ps_asg (pe_op op_sub (pe_ix ix_list (pv 2) (pe_op op_add (pv 5) (pv 6)) (fun _ _ => rfl)) (pe_op op_mulL (pv 4) (pv 7))) (pg_sub (pv 2) (pe_op op_add (pv 5) (pv 6)) set_list))))
    (pss_cons (ps_if (pt_cmpR op_ne (pe_bm0 PySem.F.plainAttrs_list PySem.F.slot_list_pop PySem.F.type_list_pop mt_pop (pv 2)) pe_int (nomark _))
    (pss_one (ps_ret pe_non))
    pss_nil)
    (pss_one (ps_expr (pe_bm PySem.F.plainAttrs_list PySem.F.slot_list_append PySem.F.type_list_append mt_append (pv 3) (pa_cons (pv 4) pa_nil)))))))))
    (pss_cons (ps_if (pt_val (pe_callB (call_anyI rfl) rfl T.n_any boot_any (pa_cons (pv 2) pa_nil)))
    (pss_one (ps_ret pe_non))
    pss_nil)
    (pss_one (ps_ret (pe_revL rfl rfl T.n_reversed rfl T.n_list (pa_cons (pv 3) pa_nil)))))))), ?_⟩
  walk_at "sf"
  refine ⟨a, _, rfl, .inl (SqL.of ha), fun p1 hp1 => ?_⟩
  have s1 := Same.new hp1 (.lst (xs.map V.int))
  walk_at "sf"
  intro p2 hp2
  have s2 := s1.trans (Same.new hp2 (.lst []))
  have hp2n : H p2 = none := s1.free hp2
  have h12 : p1 ≠ p2 := fun z => by rw [← z, upd_same] at hp2; cases hp2
  walk_at "sf"
  refine while_go (fun m σ H' => ∃ (rs fs : List Int) (z1 z2 z3 z4 : Option V), m = rs.length ∧ σ = [some (.ref a), some (.ref d), some (.ref p1), some (.ref p2), z1, z2, z3, z4] ∧ Same H H' ∧ IL H' p1 rs ∧ IL H' p2 fs ∧
      ofL xs = ofL rs + ofL ds * (X (rs.length + 1 - ds.length) * ofL fs.reverse) ∧ rs.length + fs.length = xs.length ∧ (ds.length ≤ rs.length + 1 ∨ fs = []) ∧ Ab (b + fs.length * (c + 1)) rs)
    ⟨_, xs, [], _, _, _, _, rfl, rfl, s2, by show upd _ p2 _ p1 = _; rw [upd_ne h12, upd_same], upd_same, ?_, by simp, .inr rfl, bx.mono (by simp)⟩ ?_
  · rw [List.reverse_nil, ofL_nil]; grind
  rintro m σ H' ⟨rs, fs, z1, z2, z3, z4, rfl, rfl, s3, h1, h2, e, hlen, hor, hbd⟩
  have er : (rs.map V.int).length = rs.length := List.length_map _
  have hfl : fs.length * (c + 1) ≤ 40 * (c + 1) := Nat.mul_le_mul_right _ (by lia)
  walk_at "sf"
  refine ⟨p1, _, rfl, .inl (SqL.of h1), ?_⟩
  walk_at "sf"
  refine ⟨d, _, rfl, .inl (SqL.of (s3 _ _ hd)), ?_⟩
  walk_at "sf"
  rw [er, ed]
  refine ite2 (fun cc => ?_) (fun cc => ?_)
  · have hge : ds.length ≤ rs.length := by simpa using cc
    have hrn : rs ≠ [] := List.length_pos_iff.mp (by lia)
    refine ⟨_, fun σ' H' h => h, ?_⟩
    walk_at "sf"
    refine r_ixL (SqL.of h1) (il_last hrn) ?_
    walk_at "sf"
    refine r_ixL (SqL.of (s3 _ _ hd)) (il_last hdn) ?_
    refine r_i hlead ?_
    generalize ht : (co rs (rs.length - 1)).fdiv (co ds (ds.length - 1)) = t
    have bt : Bd (b + fs.length * (c + 1)) t := (hbd.co (rs.length - 1)).of_le (by rw [← ht]; exact fdiv_le _ _)
    walk_at "sf"
    refine ⟨p1, _, rfl, .inl (SqL.of h1), ?_⟩
    walk_at "sf"
    refine ⟨d, _, rfl, .inl (SqL.of (s3 _ _ hd)), ?_⟩
    walk_at "sf"
    rw [er, ed]
    have ek : (rs.length : Int) - (ds.length : Int) = ((rs.length - ds.length : Nat) : Int) := by lia
    rw [ek]
    generalize hk : rs.length - ds.length = k
    have hkl : k + ds.length = rs.length := by lia
    refine ⟨d, rfl, ⟨_, SqL.of (s3 _ _ hd)⟩, ?_⟩
    refine for_enum (xs := ds.map V.int) (fun i σ H' => (∃ r1 r2, σ = [some (.ref a), some (.ref d), some (.ref p1), some (.ref p2), some (.int t), some (.int (k : Int)), r1, r2]) ∧ Same H H' ∧ IL H' p2 fs ∧
        IL H' p1 (ofS (fun j => co rs j - if k ≤ j ∧ j < k + i then t * co ds (j - k) else 0) rs.length))
      ⟨⟨_, _, rfl⟩, s3, h2, ?_⟩ (fun i σ H' _ z => SqL.of (z.2.1 _ _ hd)) ?_ ?_
    · show H' p1 = _
      rw [h1]
      refine congrArg (fun l : List Int => some (HO.lst (l.map V.int))) ?_
      conv => lhs; rw [← ofS_of rs]
      exact ofS_congr fun j _ => by rw [if_neg (by lia)]; lia
    · rintro i x pp σ H4 hi hpp ⟨⟨r1, r2, rfl⟩, s4, h4, h5⟩
      obtain ⟨hid, rfl⟩ := il_get hi
      have s5 := Same.new hpp (.tup [.int (i : Int), .int (co ds i)])
      have h6 := s5 _ _ h5
      have ei : (k : Int) + (i : Int) = ((k + i : Nat) : Int) := by lia
      refine r_gtup (SqT.of upd_same) rfl ?_
      walk_at "sf"
      rw [ei]
      refine r_ixL (SqL.of h6) (il_at (by rw [ofS_length]; lia)) ?_
      walk_at "sf"
      refine r_i (mulOk bt (bd.co i) (by lia)) ?_
      walk_at "sf"
      rw [ei]
      refine ⟨p1, _, _, k + i, rfl, rfl, h6, ix_nat (by rw [List.length_map, ofS_length]; lia), ?_⟩
      refine ⟨⟨_, _, rfl⟩, fun c o z => ?_, ?_, ?_⟩
      · rw [upd_ne (ne_of_none z hp1)]
        exact s5 _ _ (s4 _ _ z)
      · show upd _ p1 _ p2 = _
        rw [upd_ne h12.symm]
        exact s5 _ _ h4
      · show upd _ p1 _ p1 = _
        rw [upd_same, ofS_co, if_pos (by lia), ← List.map_set, ofS_set (by lia)]
        refine congrArg (fun l => some (HO.lst (l.map V.int))) (ofS_congr fun j hj => ?_)
        show (if j = k + i then _ else _) = _
        by_cases e : j = k + i
        · subst e
          have e3 : k + i - k = i := by lia
          rw [if_pos rfl, if_neg (by lia), if_pos ⟨by lia, by lia⟩, e3]; lia
        · rw [if_neg e]
          by_cases e4 : k ≤ j ∧ j < k + i
          · rw [if_pos e4, if_pos ⟨e4.1, by lia⟩]
          · rw [if_neg e4, if_neg (by lia)]
    · rintro σ H4 ⟨⟨r1, r2, rfl⟩, s4, h4, h5⟩
      rw [ed] at h5
      have es : ofS (fun j => co rs j - if k ≤ j ∧ j < k + ds.length then t * co ds (j - k) else 0) rs.length = stepL rs ds t k := ofS_congr fun j hj => by
        by_cases e : k ≤ j
        · rw [if_pos e, if_pos ⟨e, by lia⟩]
        · rw [if_neg e, if_neg (fun z => e z.1)]
      rw [es] at h5
      have hsl := stepL_len rs ds t k
      have hsn : stepL rs ds t k ≠ [] := List.length_pos_iff.mp (by rw [hsl]; lia)
      have etop : co (stepL rs ds t k) ((stepL rs ds t k).length - 1) = co rs (rs.length - 1) - t * co ds (ds.length - 1) := by
        rw [hsl, stepL_co (by lia), if_pos (by lia)]
        have e3 : rs.length - 1 - k = ds.length - 1 := by lia
        rw [e3]
      have s6 : ∀ o : HO, Same H (upd H4 p1 o) := fun o c u z => by
        rw [upd_ne (ne_of_none z hp1)]
        exact s4 _ _ z
      walk_at "sf"
      refine ⟨_, rfl, .inl ⟨rfl, _, SqL.of h5⟩, p1, _, _, rfl, rfl, h5, il_lastV hsn, ?_⟩
      walk_at "sf"
      rw [etop]
      refine ite2 (fun c2 => ?_) (fun c2 => ?_)
      · have hne : co rs (rs.length - 1) - t * co ds (ds.length - 1) ≠ 0 := by simpa using c2
        walk_at "sf"
        refine qn _ (s6 _) fun s hs => hne ?_
        have e2 : ofL rs = ofL ds * (s - X (rs.length + 1 - ds.length) * ofL fs.reverse) := by
          rw [e] at hs; grind
        have := top_falls td hdn hge e2
        rw [ht] at this; exact this
      · have hz : co rs (rs.length - 1) - t * co ds (ds.length - 1) = 0 := by simpa using c2
        walk_at "sf"
        have h7 : upd H4 p1 (.lst ((stepL rs ds t k).map V.int).dropLast) p2 = some (.lst (fs.map V.int)) := by rw [upd_ne h12.symm]; exact h4
        refine ⟨_, rfl, .inl ⟨rfl, _, SqL.of h7⟩, ?_⟩
        walk_at "sf"
        refine ⟨p2, _, _, rfl, rfl, h7, ?_, ?_⟩
        · rw [List.length_map]; exact Nat.lt_of_lt_of_le (by lia : fs.length < 1000) (small4 (Nat.le_refl _))
        · refine ⟨_, ?_, (stepL rs ds t k).dropLast, fs ++ [t], _, _, _, _, rfl, rfl, fun c o z => ?_, ?_, ?_, ?_, ?_, ?_, ?_⟩
          · rw [List.length_dropLast, hsl]; lia
          · rw [upd_ne (ne_of_none z hp2n)]
            exact s6 _ _ _ z
          · show upd _ p2 _ p1 = _
            rw [upd_ne h12, upd_same, List.map_dropLast]
          · show upd _ p2 _ p2 = _
            rw [upd_same, List.map_append]; rfl
          · rw [ofL_init (by rw [etop]; exact hz), stepL_ofL (by lia), List.length_dropLast, hsl, List.reverse_append, List.reverse_singleton, List.singleton_append, ofL_cons]
            have e3 : rs.length + 1 - ds.length = k + 1 := by lia
            have e4 : rs.length - 1 + 1 - ds.length = k := by lia
            rw [e3] at e
            rw [e4, e, X_add]
            grind
          · rw [List.length_dropLast, hsl, List.length_append, List.length_singleton]; lia
          · left; rw [List.length_dropLast, hsl]; lia
          · rw [List.length_append, List.length_singleton]
            have := step_bd (k := k) (by lia) hbd bd bt
            have e5 : b + (fs.length + 1) * (c + 1) = b + fs.length * (c + 1) + (c + 1) := by rw [Nat.add_mul]; lia
            rw [e5]
            exact fun x hx => this x (List.mem_of_mem_take (by rw [List.dropLast_eq_take] at hx; exact hx))
  · have hlt : rs.length < ds.length := by
      have : ¬ ds.length ≤ rs.length := by simpa using cc
      lia
    have e0 : rs.length + 1 - ds.length = 0 := by lia
    rw [e0, X_zero] at e
    have e1 : ofL xs = ofL rs + ofL ds * ofL fs.reverse := by rw [e]; grind
    walk_at "sf"
    refine ⟨p1, _, rfl, SqL.of h1, ?_⟩
    walk_at "sf"
    cases hany : rs.any (· != 0) with
    | true =>
      rw [if_pos rfl]
      walk_at "sf"
      refine qn H' s3 fun s hs => ?_
      have e2 : ofL rs = ofL ds * (s - ofL fs.reverse) := by rw [e1] at hs; grind
      have := any_zero.mpr (rest_none td hlt e2)
      rw [hany] at this; cases this
    | false =>
      have hz := any_zero.mp hany
      rw [hz] at e1
      have e2 : ofL xs = ofL ds * ofL fs.reverse := by rw [e1]; grind
      rw [if_neg (by decide)]
      walk_at "sf"
      refine ⟨_, rfl, p2, _, rfl, SqL.of h2, fun l hl => ?_⟩
      refine qs l fs.reverse _ (s3.trans (Same.new hl _)) ?_ e2 fun hge => ?_
      · show upd H' l _ l = _
        rw [upd_same, List.map_reverse]
      · rw [List.length_reverse]
        rcases hor with h | h
        · lia
        · rw [h, List.length_nil] at hlen; lia
end
end K16
namespace K16
open PySem PyProof.Rows L2 SF SF.Po
theorem primL_ab {xs : List Int} {n : Nat} (h : Tr xs) (hn : xs ≠ []) (b : Ab n xs) : Ab n (primL xs) := fun x hx => by
  obtain ⟨i, hi, e⟩ := List.getElem_of_mem hx
  rw [primL_len] at hi
  have e2 := primL_co hi
  have hc := cont_ne h hn
  rw [← e, ← co_lt]
  refine (b.co i).of_le ?_
  rw [← e2, Int.natAbs_mul]
  exact Nat.le_mul_of_pos_right _ (Int.natAbs_pos.mpr hc)
theorem ab_bd {b : Nat} {x : Int} (h : Bd b x) : ab x ≤ ((2 ^ b : Nat) : Int) := by
  unfold Bd at h
  unfold ab
  lia
theorem bd_ab {b : Nat} {x : Int} {B : Nat} (h : ab x ≤ (B : Int)) (hB : B < 2 ^ b) : Bd b x := by
  unfold Bd
  unfold ab at h
  lia
noncomputable def PreG (xs ys : List Int) : Prop := Tr xs ∧ Tr ys ∧ xs.length ≤ 40 ∧ ys.length ≤ 40 ∧ xs.length + ys.length ≤ 62 ∧ ∃ b, b ≤ 10000 ∧ Ab b xs ∧ Ab b ys
theorem truL {xs : List Int} : (!(xs.map V.int).isEmpty) = decide (xs ≠ []) := by cases xs <;> rfl
theorem gcdL_ab {xs ys : List Int} {b : Nat} (hx : Tr xs) (hy : Tr ys) (hl : xs.length + ys.length ≤ 62) (b1 : Ab b xs) (b2 : Ab b ys) : Ab (61 * b + 427) (gcdL xs ys) := by
  by_cases hxn : xs = []
  · subst hxn
    rw [gcdL_comm, gcdL_nil hy]
    by_cases hyn : ys = []
    · subst hyn; intro x hx; exact absurd hx (by simp [primL])
    · exact (primL_ab hy hyn b2).mono (by lia)
  by_cases hyn : ys = []
  · subst hyn
    rw [gcdL_nil hx]
    exact (primL_ab hx hxn b1).mono (by lia)
  intro x hxx
  obtain ⟨i, e⟩ := co_mem hxx
  have h1 := gcdL_bd hx hy hxn hyn (A := 60) (M := 2 ^ b) (by lia) (fun i => ab_bd ((primL_ab hx hxn b1).co i)) (fun i => ab_bd ((primL_ab hy hyn b2).co i)) i
  rw [e] at h1
  have h2 := NB_bits b
  exact bd_ab h1 (by lia)
section
variable {P : Program} {w : World} {K : PySem.W.Frag} {mg : Str → Option Value} {base : Heap}
theorem ok_divisor_of (T : Nm mg) (g_common_divisor : FnB P w K mg base 34 "common_divisor" ["one", "other"] spGcd) (g_primitive : FnB P w K mg base 34 "primitive" ["poly"] (spL primL (fun xs => Few xs ∧ Tr xs)))
    (g_value_at : FnB P w K mg base 34 "value_at" ["poly", "point"] spVal) (g_spread : FnB P w K mg base 34 "spread" ["value", "point"] spSpread) (g_largest : FnB P w K mg base 34 "largest" ["poly"] spLargest)
    (g_divided : FnB P w K mg base 34 "divided" ["poly", "divisor"] spDivd) (D : DefB K mg "divisor_of" s_divisor_of ["one", "other"]) : FnB P w K mg base 35 "divisor_of" ["one", "other"] (spLL gcdL PreG) := by
  refine D.ok sc_divisor_of (fun vs H Q E h => ?_) (fun f cdv A outer s H vs Q E hr h => ?_)
  · obtain ⟨a, b, xs, ys, rfl, _⟩ := h
    rfl
  obtain ⟨a, b, xs, ys, rfl, ha, hb, ⟨tx, ty, lx, ly, lxy, bb, hbb, bx, by'⟩, q⟩ := h
  refine ⟨_, (pss_cons (ps_set (i := 2) sc_divisor_of.nd rfl (Or.inl rfl) (pe_fn g_primitive hr (pa_cons (pv 0) pa_nil)))
    (pss_cons (ps_set (i := 3) sc_divisor_of.nd rfl (Or.inl rfl) (pe_fn g_primitive hr (pa_cons (pv 1) pa_nil)))
    (pss_cons (ps_if (pt_not (pt_truth (pv 2) (fun _ => rfl)))
    (pss_one (ps_ret (pv 3)))
    pss_nil)
    (pss_cons (ps_if (pt_not (pt_truth (pv 3) (fun _ => rfl)))
    (pss_one (ps_ret (pv 2)))
    pss_nil)
    (pss_cons (ps_set (i := 4) sc_divisor_of.nd rfl (Or.inl rfl) (pe_op op_mulL (pe_op op_mulL pe_int (pe_op op_add (pe_callB (call_min2 rfl) rfl T.n_min boot_min (pa_cons (pe_fn g_largest hr (pa_cons (pv 2) pa_nil)) (pa_cons (pe_fn g_largest hr (pa_cons (pv 3) pa_nil)) pa_nil))) pe_int)) (pe_op op_pow pe_int pe_int)))
    (pss_one (ps_while PassesOwn.never (pt_truth pe_bl (fun _ => rfl))
    (pss_cons (ps_set (i := 5) sc_divisor_of.nd rfl (Or.inl rfl) (pe_fn g_common_divisor hr (pa_cons (pe_fn g_value_at hr (pa_cons (pv 2) (pa_cons (pv 4) pa_nil))) (pa_cons (pe_fn g_value_at hr (pa_cons (pv 3) (pa_cons (pv 4) pa_nil))) pa_nil))))
    (pss_cons (ps_set (i := 6) sc_divisor_of.nd rfl (Or.inl rfl) (pe_fn g_primitive hr (pa_cons (pe_fn g_spread hr (pa_cons (pv 5) (pa_cons (pv 4) pa_nil))) pa_nil)))
    (pss_cons (ps_if (PW.pt (pw_and (pt_cmpR op_notN (pe_fn g_divided hr (pa_cons (pv 2) (pa_cons (pv 6) pa_nil))) pe_non (nomark _)) (pw_and1 (pt_cmpR op_notN (pe_fn g_divided hr (pa_cons (pv 3) (pa_cons (pv 6) pa_nil))) pe_non (nomark _)))))
    (pss_one (ps_ret (pv 6)))
    pss_nil)
    (pss_one (ps_set (i := 4) sc_divisor_of.nd rfl (Or.inl rfl) (pe_op op_mulL (pv 4) (pv 4)))))))))))))), ?_⟩
  walk_at "sf"
  refine ⟨a, xs, rfl, ha, ⟨by show xs.length ≤ 1000; lia, tx⟩, fun p1 H1 s1 h1 => ?_⟩
  walk_at "sf"
  refine ⟨b, ys, rfl, s1 _ _ hb, ⟨by show ys.length ≤ 1000; lia, ty⟩, fun p2 H2 s2 h2 => ?_⟩
  have s12 := s1.trans s2
  walk_at "sf"
  refine r_truL (SqL.of (s2 _ _ h1)) ?_
  dsimp only
  rw [truL]
  by_cases hxn : xs = []
  · subst hxn
    have e1 : primL [] = [] := rfl
    rw [if_pos (by rw [e1]; rfl)]
    walk_at "sf"
    refine q p2 H2 s12 ?_
    rw [gcdL_comm, gcdL_nil ty]; exact h2
  have pxn : primL xs ≠ [] := fun z => hxn (by have := congrArg List.length z; rw [primL_len] at this; exact List.length_eq_zero_iff.mp this)
  rw [if_neg (by simpa using pxn)]
  walk_at "sf"
  refine r_truL (SqL.of h2) ?_
  dsimp only
  rw [truL]
  by_cases hyn : ys = []
  · subst hyn
    have e1 : primL [] = [] := rfl
    rw [if_pos (by rw [e1]; rfl)]
    walk_at "sf"
    refine q p1 H2 s12 ?_
    rw [gcdL_nil tx]; exact s2 _ _ h1
  have pyn : primL ys ≠ [] := fun z => hyn (by have := congrArg List.length z; rw [primL_len] at this; exact List.length_eq_zero_iff.mp this)
  rw [if_neg (by simpa using pyn)]
  have h1' := s2 _ _ h1
  have lpx := primL_len xs
  have lpy := primL_len ys
  have bpx := primL_ab tx hxn bx
  have bpy := primL_ab ty hyn by'
  walk_at "sf"
  refine ⟨p1, _, rfl, h1', ⟨pxn, by show (primL xs).length ≤ 1000; lia⟩, fun m1 H3 s3 ⟨x1, hx1, ex1⟩ hm1 => ?_⟩
  walk_at "sf"
  refine ⟨p2, _, rfl, s3 _ _ h2, ⟨pyn, by show (primL ys).length ≤ 1000; lia⟩, fun m2 H4 s4 ⟨x2, hx2, ex2⟩ hm2 => ?_⟩
  walk_at "sf"
  refine ⟨_, _, rfl, ?_⟩
  walk_at "sf"
  have s34 := s3.trans s4
  have s14 := s12.trans s34
  have hm1b : ab m1 ≤ ((2 ^ bb : Nat) : Int) := by
    rw [ex1, ab_of (ab_nonneg _)]; exact ab_bd (bpx _ hx1)
  have hm10 : 0 ≤ m1 := by rw [ex1]; exact ab_nonneg _
  have hm20 : 0 ≤ m2 := by rw [ex2]; exact ab_nonneg _
  have key : ∀ M : Int, M = (if m2 < m1 then m2 else m1) → 0 ≤ M ∧ M ≤ ((2 ^ bb : Nat) : Int) ∧ ((∀ x ∈ primL xs, ab x ≤ M) ∨ (∀ y ∈ primL ys, ab y ≤ M)) := fun M e => by
    rw [ab_of hm10] at hm1b
    rw [e]
    split
    · exact ⟨hm20, by lia, .inr hm2⟩
    · exact ⟨hm10, by lia, .inl hm1⟩
  generalize hM : (if m2 < m1 then m2 else m1) = M at *
  obtain ⟨hM0, hMb, hMor⟩ := key M rfl
  refine r_i (IntMulOk.of_left (by decide)) ?_
  walk_at "sf"
  refine r_i ⟨by decide, by decide, by decide⟩ ?_
  refine r_i (IntMulOk.of_right (by decide)) ?_
  walk_at "sf"
  have e32 : (2 : Int) ^ (32 : Int).toNat = 4294967296 := by decide
  rw [e32]
  dsimp only
  let PB : Nat := 122 * bb + 860
  have hPB : PB = 122 * bb + 860 := rfl
  have nbb := NB_bits bb
  have hpx : Pr (ofL (primL xs)) := prim_Pr tx hxn
  have hpy : Pr (ofL (primL ys)) := prim_Pr ty hyn
  have hMor' : (∀ i, ab ((ofL (primL xs)).c i) ≤ M) ∨ (∀ i, ab ((ofL (primL ys)).c i) ≤ M) := by
    rcases hMor with h | h
    · exact .inl fun i => mem_co h hM0 i
    · exact .inr fun i => mem_co h hM0 i
  have hp0 : Bd PB (2 * (M + 1) * 4294967296) := by
    unfold Bd
    have e3 : (2 * (M + 1) * 4294967296).natAbs = (2 * (M + 1) * 4294967296).toNat := by lia
    have e4 : 2 ^ (bb + 35) = 2 ^ bb * 34359738368 := by rw [Nat.pow_add]
    have e5 : 2 ^ (bb + 35) ≤ 2 ^ PB := Nat.pow_le_pow_right (by decide) (by lia)
    have e6 : 0 < 2 ^ bb := Nat.two_pow_pos bb
    lia
  refine while_go (fun m σ H' => ∃ (p : Int) (z1 z2 : Option V), m = (2 * ((NB 60 (2 ^ bb) : Nat) : Int) + 1 - p).toNat ∧ σ = [some (.ref a), some (.ref b), some (.ref p1), some (.ref p2), some (.int p), z1, z2] ∧ Same H2 H' ∧ 2 * (M + 1) < p ∧ Bd PB p)
    ⟨_, _, _, _, rfl, rfl, s34, by lia, hp0⟩ ?_
  rintro m σ H5 ⟨p, z1, z2, rfl, rfl, s5, hp, bp⟩
  have hgam := gcd_gamma hpx.ne hpy.ne hMor hM0 hp 40 (by lia) (by lia)
  have s15 := s12.trans s5
  walk_at "sf"
  refine ⟨true, rfl, ?_⟩
  dsimp only
  rw [if_pos rfl]
  refine ⟨_, fun σ' H' h => h, ?_⟩
  walk_at "sf"
  refine ⟨p1, _, p, PB, rfl, s5 _ _ h1', ⟨bb, by lia, bpx, bp, by lia, by lia⟩, ?_⟩
  walk_at "sf"
  refine ⟨p2, _, p, PB, rfl, s5 _ _ h2, ⟨bb, by lia, bpy, bp, by lia, by lia⟩, ?_⟩
  walk_at "sf"
  refine ⟨_, _, rfl, ?_⟩
  walk_at "sf"
  refine ⟨_, _, 40, rfl, ⟨by lia, by lia, hgam.2, by decide⟩, fun p6 G H6 s6 h6 spr hGl => ?_⟩
  walk_at "sf"
  refine ⟨p6, G, rfl, h6, ⟨by show G.length ≤ 1000; lia, spr.tr⟩, fun p7 H7 s7 h7 => ?_⟩
  have s57 := (s5.trans s6).trans s7
  have hGn : G ≠ [] := by
    rintro rfl
    have := spr.val
    have e0 : evL p [] = 0 := rfl
    rw [e0] at this
    lia
  have pGn : primL G ≠ [] := fun z => hGn (by have := congrArg List.length z; rw [primL_len] at this; exact List.length_eq_zero_iff.mp this)
  have lpG := primL_len G
  have bG : Ab PB G := fun x hx => by
    have h8 := spr.bal x hx
    unfold Bd at bp ⊢
    lia
  have bpG := primL_ab spr.tr hGn bG
  have tpG := primL_tr spr.tr
  have spr' : Spr p ((Int.gcd (ev p (ofL (primL xs))) (ev p (ofL (primL ys))) : Nat) : Int) G := by rw [ev_ofL, ev_ofL]; exact spr
  have small : (∀ s, ofL (primL xs) ≠ ofL (primL G) * s) ∨ (∀ s, ofL (primL ys) ≠ ofL (primL G) * s) → p ≤ 2 * ((NB 60 (2 ^ bb) : Nat) : Int) := fun hno => by
    rcases Int.lt_or_le (2 * ((NB 60 (2 ^ bb) : Nat) : Int)) p with hlt | hle
    · exfalso
      have gc := gcdL_gc (xs := primL xs) (ys := primL ys) (.inl hpx.ne)
      have ef := gcd_found hpx hpy (fun i => ab_bd (bpx.co i)) (fun i => ab_bd (bpy.co i)) gc (A := 60) (by rw [len_ofL (primL_tr tx), len_ofL (primL_tr ty)]; lia) hlt spr' (by rw [ev_ofL, ev_ofL]; exact hgam.1)
      obtain ⟨f1, e1⟩ := gc.pr.div gc.df
      obtain ⟨g1, e2⟩ := gc.pr.div gc.dg
      rcases hno with h | h
      · exact h f1 (by rw [ef]; exact e1)
      · exact h g1 (by rw [ef]; exact e2)
    · exact hle
  have again : ∀ H8 : Hp, Same H2 H8 → p ≤ 2 * ((NB 60 (2 ^ bb) : Nat) : Int) → IntMulOk p p ∧ ∃ m', m' < (2 * ((NB 60 (2 ^ bb) : Nat) : Int) + 1 - p).toNat ∧ ∃ (p' : Int) (z1 z2 : Option V), m' = (2 * ((NB 60 (2 ^ bb) : Nat) : Int) + 1 - p').toNat ∧
      [some (V.ref a), some (V.ref b), some (V.ref p1), some (V.ref p2), some (V.int (p * p)), some (V.int ((Int.gcd (evL p (primL xs)) (evL p (primL ys)) : Nat) : Int)), some (V.ref p7)] = [some (.ref a), some (.ref b), some (.ref p1), some (.ref p2), some (.int p'), z1, z2] ∧ Same H2 H8 ∧ 2 * (M + 1) < p' ∧ Bd PB p' := fun H8 s8 hle => by
    have hpp : p * 2 ≤ p * p := Int.mul_le_mul_of_nonneg_left (by lia) (by lia)
    refine ⟨mulOk bp bp (by lia), _, ?_, p * p, _, _, rfl, rfl, s8, by lia, ?_⟩
    · lia
    · have h9 : Bd (61 * bb + 427) p := by unfold Bd; lia
      exact (h9.mul h9).mono (by lia)
  walk_at "sf"
  refine ⟨p1, p7, _, _, bb, PB, rfl, s57 _ _ h1', h7, ⟨pGn, tpG, by lia, by lia, bpx, bpG, by show bb + 41 * (PB + 1) ≤ 60000000; lia⟩, fun H8 s8 hno => ?_, fun p8 q1 H8 s8 h8 e8 _ => ?_⟩
  · obtain ⟨mok, fin⟩ := again H8 (s57.trans s8) (small (.inl hno))
    walk_at "sf"
    refine ⟨rfl, false, rfl, ?_⟩
    rw [if_neg (by decide), if_neg (by decide)]
    walk_at "sf"
    refine r_i mok ?_
    walk_at "sf"
    exact fin
  · walk_at "sf"
    refine ⟨rfl, true, rfl, ?_⟩
    rw [if_pos rfl]
    walk_at "sf"
    have s58 := s57.trans s8
    refine ⟨p2, p7, _, _, bb, PB, rfl, s58 _ _ h2, s8 _ _ h7, ⟨pGn, tpG, by lia, by lia, bpy, bpG, by show bb + 41 * (PB + 1) ≤ 60000000; lia⟩, fun H9 s9 hno => ?_, fun p9 q2 H9 s9 h9 e9 _ => ?_⟩
    · obtain ⟨mok, fin⟩ := again H9 (s58.trans s9) (small (.inr hno))
      walk_at "sf"
      refine ⟨rfl, false, rfl, ?_⟩
      rw [if_neg (by decide)]
      walk_at "sf"
      refine r_i mok ?_
      walk_at "sf"
      exact fin
    · walk_at "sf"
      refine ⟨rfl, true, rfl, ?_⟩
      rw [if_pos rfl]
      walk_at "sf"
      refine q p7 H9 (s12.trans (s58.trans s9)) ?_
      have gc : GC (ofL (primL xs)) (ofL (primL ys)) (ofL (primL G)) := gcd_right hpx hpy hMor' hp spr' (by rw [e8]; exact Po.D.mul _ _) (by rw [e9]; exact Po.D.mul _ _)
      rw [← gcdL_scale tx ty hxn hyn, ← gcdL_of tpG gc]
      exact s9 _ _ (s8 _ _ h7)
noncomputable def PreQ (xs ys : List Int) : Prop := Tr xs ∧ Tr ys ∧ xs ≠ [] ∧ ys ≠ [] ∧ xs.length ≤ 40 ∧ ys.length ≤ 40 ∧ Po.D (ofL ys) (ofL xs) ∧ ∃ b c, b ≤ 1000000 ∧ c ≤ 1000000 ∧ Ab b xs ∧ Ab c ys
theorem ok_quotient (g_primitive : FnB P w K mg base 34 "primitive" ["poly"] (spL primL (fun xs => Few xs ∧ Tr xs))) (g_divided : FnB P w K mg base 34 "divided" ["poly", "divisor"] spDivd)
    (D : DefB K mg "quotient" s_quotient ["one", "other"]) : FnB P w K mg base 35 "quotient" ["one", "other"] (spLL quoL PreQ) := by
  refine D.ok sc_quotient (fun vs H Q E h => ?_) (fun f cdv A outer s H vs Q E hr h => ?_)
  · obtain ⟨a, b, xs, ys, rfl, _⟩ := h
    rfl
  obtain ⟨a, b, xs, ys, rfl, ha, hb, ⟨tx, ty, hxn, hyn, lx, ly, hd, bb, cc, hbb, hcc, bx, by'⟩, q⟩ := h
  have pxn : primL xs ≠ [] := fun z => hxn (by have := congrArg List.length z; rw [primL_len] at this; exact List.length_eq_zero_iff.mp this)
  have pyn : primL ys ≠ [] := fun z => hyn (by have := congrArg List.length z; rw [primL_len] at this; exact List.length_eq_zero_iff.mp this)
  have lpx := primL_len xs
  have lpy := primL_len ys
  have eq := quoL_eq tx ty hxn hyn hd
  refine ⟨_, (pss_one (ps_ret (pe_fn g_divided hr (pa_cons (pe_fn g_primitive hr (pa_cons (pv 0) pa_nil)) (pa_cons (pe_fn g_primitive hr (pa_cons (pv 1) pa_nil)) pa_nil))))), ?_⟩
  walk_at "sf"
  refine ⟨a, xs, rfl, ha, ⟨by show xs.length ≤ 1000; lia, tx⟩, fun p1 H1 s1 h1 => ?_⟩
  walk_at "sf"
  refine ⟨b, ys, rfl, s1 _ _ hb, ⟨by show ys.length ≤ 1000; lia, ty⟩, fun p2 H2 s2 h2 => ?_⟩
  have s12 := s1.trans s2
  walk_at "sf"
  refine ⟨p1, p2, _, _, bb, cc, rfl, s2 _ _ h1, h2, ⟨pyn, primL_tr ty, by lia, by lia, primL_ab tx hxn bx, primL_ab ty hyn by', by show bb + 41 * (cc + 1) ≤ 60000000; lia⟩, fun H3 s3 hno => ?_, fun p3 qs H3 s3 h3 e3 hl => ?_⟩
  · exact absurd eq (hno _)
  · refine q p3 H3 (s12.trans s3) ?_
    have hl2 : (primL ys).length ≤ (primL xs).length := by
      have h0 := (prim_Pr tx hxn).ne
      rw [eq] at h0
      have := len_mul (left_ne h0) (right_ne h0)
      rw [← eq, len_ofL (primL_tr tx), len_ofL (primL_tr ty)] at this
      have := len_pos (right_ne h0)
      lia
    have tq : Tr qs := quo_tr (primL_tr tx) pxn (primL_tr ty) e3 (hl hl2)
    rw [← quoL_of ty hyn tq e3]
    exact h3
noncomputable def PreS (xs : List Int) : Prop := Tr xs ∧ xs ≠ [] ∧ xs.length ≤ 31 ∧ ∃ b, b ≤ 9990 ∧ Ab b xs
theorem derL_ab {xs : List Int} {b : Nat} (h : Ab b xs) (hl : xs.length ≤ 31) : Ab (b + 5) (derL xs) := fun x hx => by
  obtain ⟨i, hi, e⟩ := List.getElem_of_mem hx
  have hi2 : i < xs.length - 1 := by rw [show (derL xs).length = xs.length - 1 from ofS_length _ _] at hi; exact hi
  rw [← e, ← co_lt, derL_co]
  show Bd (b + 5) (((i + 1 : Nat) : Int) * co xs (i + 1))
  have h1 : Bd 5 (((i + 1 : Nat) : Int)) := Bd.of_range (by lia) (by lia)
  have h2 := h1.mul (h.co (i + 1))
  rw [Nat.add_comm] at h2
  exact h2
theorem derL_len (xs : List Int) : (derL xs).length = xs.length - 1 := ofS_length _ _
theorem ok_square_free (g_quotient : FnB P w K mg base 35 "quotient" ["one", "other"] (spLL quoL PreQ)) (g_divisor_of : FnB P w K mg base 35 "divisor_of" ["one", "other"] (spLL gcdL PreG))
    (g_derivative : FnB P w K mg base 35 "derivative" ["poly"] (spL derL (fun xs => Few xs ∧ Ab Big xs))) (D : DefB K mg "square_free" s_square_free ["poly"]) : FnB P w K mg base 36 "square_free" ["poly"] (spL sfL PreS) := by
  refine D.ok sc_square_free (fun vs H Q E h => ?_) (fun f cdv A outer s H vs Q E hr h => ?_)
  · obtain ⟨a, xs, rfl, _⟩ := h
    rfl
  obtain ⟨a, xs, rfl, ha, ⟨tx, hxn, lx, bb, hbb, bx⟩, q⟩ := h
  have hBig : Big = 60000000 := rfl
  have ld := derL_len xs
  have td := derL_tr tx
  have bd := derL_ab bx lx
  have h0 : ofL xs ≠ 0 ∨ ofL (derL xs) ≠ 0 := .inl (ofL_ne tx hxn)
  refine ⟨_, (pss_one (ps_ret (pe_fn g_quotient hr (pa_cons (pv 0) (pa_cons (pe_fn g_divisor_of hr (pa_cons (pv 0) (pa_cons (pe_fn g_derivative hr (pa_cons (pv 0) pa_nil)) pa_nil))) pa_nil))))), ?_⟩
  walk_at "sf"
  refine ⟨a, xs, rfl, ha, ⟨by show xs.length ≤ 1000; lia, bx.mono (by lia)⟩, fun p1 H1 s1 h1 => ?_⟩
  walk_at "sf"
  refine ⟨a, p1, xs, _, rfl, s1 _ _ ha, h1, ⟨tx, td, by lia, by lia, by lia, bb + 5, by lia, bx.mono (by lia), bd⟩, fun p2 H2 s2 h2 => ?_⟩
  have s12 := s1.trans s2
  have hgl : (gcdL xs (derL xs)).length ≤ xs.length := by
    have := (gcdL_gc h0).df.len (ofL_ne tx hxn)
    rw [len_ofL (gcdL_tr _ _), len_ofL tx] at this
    exact this
  walk_at "sf"
  refine ⟨a, p2, xs, _, rfl, s12 _ _ ha, h2, ⟨tx, gcdL_tr _ _, hxn, gcdL_ne h0, by lia, by lia, sf_D tx hxn, bb, 61 * (bb + 5) + 427, by lia, by lia, bx, gcdL_ab tx td (by lia) (bx.mono (by lia)) bd⟩, fun p3 H3 s3 h3 => ?_⟩
  exact q p3 H3 (s12.trans s3) h3
end
end K16
namespace K16
open PySem PyProof.Rows L2 SF
noncomputable def sg (a : Int) : Int := if a < 0 then -1 else if 0 < a then 1 else 0
noncomputable def spSign : Sp := fun vs H Q _ => ∃ a : Int, vs = [.int a] ∧ Q (.int (sg a)) H
noncomputable def spHeight : Sp := fun vs H Q _ => ∃ (a : Addr) (xs : List Int) (t u : Int) (b p : Nat), vs = [.ref a, .int t, .int u] ∧ IL H a xs ∧ (xs.length ≤ 100 ∧ Ab b xs ∧ Bd p t ∧ Bd p u ∧ b + (p + 1) * 101 ≤ Big) ∧ Q (.int (hv t u xs)) H
noncomputable def spAt : Sp := fun vs H Q _ => ∃ (a g : Addr) (xs : List Int) (t u : Int) (b p : Nat), vs = [.ref a, .ref g] ∧ IL H a xs ∧ H g = some (.tup [.int t, .int u]) ∧ (xs.length ≤ 100 ∧ Ab b xs ∧ Bd p t ∧ Bd p u ∧ b + (p + 1) * 101 ≤ Big) ∧ Q (.int (sg (hv t u xs))) H
theorem hvp_bd {t u : Int} {xs : List Int} {j b p : Nat} (bt : Bd p t) (bu : Bd p u) (hb : Ab b xs) : j ≤ xs.length → Bd (b + (p + 1) * j + 1) (hvp t u xs j).1 ∧ Bd (p * j + 1) (hvp t u xs j).2 := by
  induction j with
  | zero =>
    intro _
    rw [hvp_zero]
    exact ⟨by show (0 : Int).natAbs < _; exact Nat.two_pow_pos _, Bd.mono (m := 1) (by show (1 : Int).natAbs < 2 ^ 1; decide) (by lia)⟩
  | succ j ih =>
    intro hj
    obtain ⟨h1, h2⟩ := ih (by lia)
    rw [hvp_succ t u xs j (by lia)]
    unfold hstep
    have e1 : (p + 1) * (j + 1) = (p + 1) * j + (p + 1) := by rw [Nat.mul_add]; lia
    have e2 : p * (j + 1) = p * j + p := by rw [Nat.mul_add]; lia
    have e3 : (p + 1) * j = p * j + j := by rw [Nat.add_mul]; lia
    refine ⟨?_, (h2.mul bu).mono (by lia)⟩
    have z1 := (h1.mul bt)
    have z2 := ((hb.co (xs.length - 1 - j)).mul h2)
    exact ((z1.mono (by lia : b + (p + 1) * j + 1 + p ≤ b + (p + 1) * j + 1 + p)).add (z2.mono (by lia))).mono (by lia)
section
variable {P : Program} {w : World} {K : PySem.W.Frag} {mg : Str → Option Value} {base : Heap}
theorem ok_sign (D : DefB K mg "sign" s_sign ["number"]) : FnB P w K mg base 1 "sign" ["number"] spSign := by
  refine D.ok sc_sign (fun vs H Q E h => ?_) (fun f cdv A outer s H vs Q E hr h => ?_)
  · obtain ⟨a, rfl, _⟩ := h
    rfl
  obtain ⟨a, rfl, q⟩ := h
  refine ⟨_, (pss_cons (ps_if (pt_cmpR op_lt (pv 0) pe_int (nomark _))
    (pss_one (ps_ret (pe_un un_neg pe_int)))
    pss_nil)
    (pss_one (ps_ret (pe_ifExp (pt_cmpR op_gt (pv 0) pe_int (nomark _)) pe_int pe_int)))), ?_⟩
  walk_at "sf"
  unfold sg at q
  refine ite2 (fun c => ?_) (fun c => ?_)
  · walk_at "sf"
    rw [if_pos (by simpa using c)] at q
    exact q
  · rw [if_neg (by simpa using c)] at q
    walk_at "sf"
    refine ite2 (fun c2 => ?_) (fun c2 => ?_)
    · walk_at "sf"
      rw [if_pos (by simpa using c2)] at q
      exact q
    · walk_at "sf"
      rw [if_neg (by simpa using c2)] at q
      exact q
theorem ok_trimmed (T : Nm mg) (D : DefB K mg "trimmed" s_trimmed ["row"]) : FnB P w K mg base 1 "trimmed" ["row"] (spL trimL Few) := by
  refine D.ok sc_trimmed (fun vs H Q E h => ?_) (fun f cdv A outer s H vs Q E hr h => ?_)
  · obtain ⟨a, xs, rfl, _⟩ := h
    rfl
  obtain ⟨a, xs, rfl, ha, hl, q⟩ := h
  have em : (xs.map V.int).length = xs.length := List.length_map _
  refine ⟨_, (pss_cons (ps_set (i := 1) sc_trimmed.nd rfl (Or.inl rfl) (pe_callB call_len_seq rfl T.n_len boot_len (pa_cons (pv 0) pa_nil)))
    (pss_cons (ps_while PassesOwn.never (PW.pt (pw_and (pt_cmpR op_gt (pv 1) pe_int (nomark _)) (pw_and1 (pt_cmpR op_eq (pe_ix ix_list (pv 0) (pe_op op_sub (pv 1) pe_int) (fun _ _ => rfl)) pe_int (nomark _)))))
    (pss_one (ps_set (i := 1) sc_trimmed.nd rfl (Or.inl rfl) (pe_op op_sub (pv 1) pe_int))))
    (pss_one (ps_ret (pe_slice sl_list (pv 0) po_none (po_some (pv 1))))))), ?_⟩
  walk_at "sf"
  refine ⟨a, _, rfl, .inl (SqL.of ha), ?_⟩
  walk_at "sf"
  rw [em]
  refine while_go (fun m σ H' => ∃ n : Nat, n = m ∧ σ = [some (.ref a), some (.int (n : Int))] ∧ H' = H ∧ n ≤ xs.length ∧ trimL (xs.take n) = trimL xs) ⟨_, xs.length, rfl, rfl, rfl, Nat.le_refl _, by rw [List.take_length]⟩ ?_
  rintro m σ H' ⟨n, rfl, rfl, rfl, hn, e⟩
  have fin : (n = 0 ∨ SF.co xs (n - 1) ≠ 0) → ∀ p, H' p = none → Q (.ref p) (upd H' p (.lst (cutV (xs.map V.int) none (some (n : Int))))) := fun hz p hp => by
    have e2 : trimL xs = xs.take n := by rw [← e]; exact trimL_id (take_tr hn hz)
    exact q p _ (Same.new hp _) (by show upd H' p _ p = _; rw [upd_same, cut_take, e2])
  walk_at "sf"
  refine ite2 (fun c => ?_) (fun c => ?_)
  · have hp : 0 < n := by simpa using c
    have ei : ((n : Int) - 1) = ((n - 1 : Nat) : Int) := by lia
    walk_at "sf"
    rw [ei]
    refine r_ixL (SqL.of ha) (il_at (by lia)) ?_
    walk_at "sf"
    refine ite2 (fun c2 => ?_) (fun c2 => ?_)
    · have hz : SF.co xs (n - 1) = 0 := by simpa using c2
      refine ⟨_, fun σ' H' h => h, ?_⟩
      walk_at "sf"
      rw [ei]
      refine ⟨n - 1, by lia, n - 1, rfl, rfl, rfl, by lia, ?_⟩
      have := trimL_take (xs := xs) hz
      rw [Nat.sub_add_cancel hp] at this
      rw [← this, e]
    · have hz : SF.co xs (n - 1) ≠ 0 := by simpa using c2
      walk_at "sf"
      refine ⟨_, rfl, ?_⟩
      exact ⟨a, _, rfl, SqL.of ha, fin (.inr hz)⟩
  · have hp : n = 0 := by simpa using c
    rw [if_neg (by decide)]
    walk_at "sf"
    refine ⟨_, rfl, ?_⟩
    exact ⟨a, _, rfl, SqL.of ha, fin (.inl hp)⟩
theorem ok_height_at (T : Nm mg) (D : DefB K mg "height_at" s_height_at ["poly", "top", "under"]) : FnB P w K mg base 1 "height_at" ["poly", "top", "under"] spHeight := by
  refine D.ok sc_height_at (fun vs H Q E h => ?_) (fun f cdv A outer s H vs Q E hr h => ?_)
  · obtain ⟨a, xs, t, u, b, p, rfl, _⟩ := h
    rfl
  obtain ⟨a, xs, t, u, b, p, rfl, ha, ⟨hx, bx, bt, bu, hsz⟩, q⟩ := h
  have hBig : Big = 60000000 := rfl
  refine ⟨_, (pss_cons (ps_set (i := 3) sc_height_at.nd rfl (Or.inl rfl) pe_int)
    (pss_cons (ps_set (i := 4) sc_height_at.nd rfl (Or.inl rfl) pe_int)
    (pss_cons (ps_for PassesOwn.never rfl (pi_rev rfl T.n_reversed (pa_cons (pv 0) pa_nil)) (pg_name (i := 5) sc_height_at.nd rfl (Or.inl rfl))
    (pss_cons (ps_set (i := 3) sc_height_at.nd rfl (Or.inl rfl) (pe_op op_add (pe_op op_mulL (pv 3) (pv 1)) (pe_op op_mulL (pv 5) (pv 4))))
    (pss_one (ps_set (i := 4) sc_height_at.nd rfl (Or.inl rfl) (pe_op op_mulL (pv 4) (pv 2))))))
    (pss_one (ps_ret (pv 3)))))), ?_⟩
  walk_at "sf"
  refine ⟨a, _, rfl, SqL.of ha, ?_⟩
  refine for_rev (xs := xs.map V.int) (fun i σ H' => (∃ r, σ = [some (.ref a), some (.int t), some (.int u), some (.int (hvp t u xs i).1), some (.int (hvp t u xs i).2), r]) ∧ H' = H) ⟨⟨_, rfl⟩, rfl⟩ (fun i σ H' _ z => by rw [z.2]; exact SqL.of ha) ?_ ?_
  · rintro i x σ H' hi hxx ⟨⟨r, rfl⟩, rfl⟩
    rw [List.length_map] at hi hxx
    obtain ⟨hix, rfl⟩ := il_get hxx
    obtain ⟨b1, b2⟩ := hvp_bd bt bu bx (j := i) (by lia)
    have k1 : (p + 1) * i ≤ (p + 1) * 100 := Nat.mul_le_mul_left _ (by lia)
    have k2 : p * i ≤ p * 100 := Nat.mul_le_mul_left _ (by lia)
    have k3 : (p + 1) * 101 = (p + 1) * 100 + (p + 1) := by lia
    have k4 : (p + 1) * 100 = p * 100 + 100 := by lia
    walk_at "sf"
    refine r_i (mulOk b1 bt (by lia)) ?_
    walk_at "sf"
    refine r_i (mulOk (bx.co _) b2 (by lia)) ?_
    walk_at "sf"
    refine r_i (mulOk b2 bu (by lia)) ?_
    walk_at "sf"
    exact ⟨⟨_, by rw [hvp_succ t u xs i hi]; rfl⟩, rfl⟩
  · rintro σ H' ⟨⟨r, rfl⟩, rfl⟩
    rw [List.length_map]
    walk_at "sf"
    rw [hvp_full]
    exact q
theorem ok_sign_at (g_sign : FnB P w K mg base 1 "sign" ["number"] spSign) (g_height_at : FnB P w K mg base 1 "height_at" ["poly", "top", "under"] spHeight) (D : DefB K mg "sign_at" s_sign_at ["poly", "given"]) : FnB P w K mg base 2 "sign_at" ["poly", "given"] spAt := by
  refine D.ok sc_sign_at (fun vs H Q E h => ?_) (fun f cdv A outer s H vs Q E hr h => ?_)
  · obtain ⟨a, g, xs, t, u, b, p, rfl, _⟩ := h
    rfl
  obtain ⟨a, g, xs, t, u, b, p, rfl, ha, hg, hpre, q⟩ := h
  refine ⟨_, (pss_one (ps_ret (pe_fn g_sign hr (pa_cons (pe_fn g_height_at hr (pa_cons (pv 0) (pa_cons (pe_ix ix_tup (pv 1) pe_int (fun _ _ => rfl)) (pa_cons (pe_ix ix_tup (pv 1) pe_int (fun _ _ => rfl)) pa_nil)))) pa_nil)))), ?_⟩
  walk_at "sf"
  refine r_ixT (SqT.of hg) rfl ?_
  walk_at "sf"
  refine r_ixT (SqT.of hg) rfl ?_
  walk_at "sf"
  refine ⟨a, xs, t, u, b, p, rfl, ha, hpre, ?_⟩
  walk_at "sf"
  exact ⟨_, rfl, q⟩
end
end K16
namespace K16
open PySem PyProof.Rows L2 SF SF.Po
theorem Bd.pow {b : Nat} {x : Int} (h : Bd b x) : ∀ k : Nat, Bd (b * k + 1) (x ^ k)
  | 0 => Bd.mono (m := 1) (by rw [Int.pow_zero]; show (1 : Int).natAbs < 2 ^ 1; decide) (by lia)
  | k + 1 => by
    rw [Int.pow_succ]
    have e : b * (k + 1) = b * k + b := by rw [Nat.mul_add]; lia
    exact ((Bd.pow h k).mul h).mono (by lia)
noncomputable def spPow : Sp := fun vs H Q _ => ∃ (x : Int) (k b : Nat), vs = [.int x, .int (k : Int)] ∧ (Bd b x ∧ k ≤ 100 ∧ b * k ≤ Big ∧ b ≤ Big) ∧ Q (.int (x ^ k)) H
noncomputable def spRem : Sp := fun vs H Q _ => ∃ (a d : Addr) (xs ys : List Int) (b c : Nat), vs = [.ref a, .ref d] ∧ IL H a xs ∧ IL H d ys ∧ (ys ≠ [] ∧ Tr ys ∧ ys.length ≤ xs.length ∧ xs.length ≤ 60 ∧ Ab b xs ∧ Ab c ys ∧ b + (xs.length - ys.length + 1) * (c + 1) ≤ Big) ∧
  ∀ (p : Addr) (rs : List Int) (H' : Hp), Same H H' → IL H' p rs → Rem xs ys rs → Ab (b + (xs.length - ys.length + 1) * (c + 1)) rs → Q (.ref p) H'
theorem smD {d : Nat} (h : d ≤ 60) : Builtin.Range.small (d : Int) (-1) (-1) = true := by
  revert d
  decide
theorem rszD {d : Nat} : Builtin.Range.rangeSize (d : Int) (-1) (-1) = ((d + 1 : Nat) : Int) := by
  unfold Builtin.Range.rangeSize
  rw [if_neg (by decide), if_pos (by lia)]
  have : ((d : Int) - -1 - 1) = (d : Int) := by lia
  rw [this]; simp
section
variable {P : Program} {w : World} {K : PySem.W.Frag} {mg : Str → Option Value} {base : Heap}
theorem ok_power (T : Nm mg) (D : DefB K mg "power" s_power ["number", "many"]) : FnB P w K mg base 1 "power" ["number", "many"] spPow := by
  refine D.ok sc_power (fun vs H Q E h => ?_) (fun f cdv A outer s H vs Q E hr h => ?_)
  · obtain ⟨x, k, b, rfl, _⟩ := h
    rfl
  obtain ⟨x, k, b, rfl, ⟨bx, hk, hbk, hb⟩, q⟩ := h
  have hBig : Big = 60000000 := rfl
  refine ⟨_, (pss_cons (ps_set (i := 2) sc_power.nd rfl (Or.inl rfl) pe_int)
    (pss_cons (ps_set (i := 3) sc_power.nd rfl (Or.inl rfl) (pv 0))
    (pss_cons (ps_set (i := 4) sc_power.nd rfl (Or.inl rfl) (pv 1))
    (pss_cons (ps_while PassesOwn.never (pt_cmpR op_gt (pv 4) pe_int (nomark _))
    (pss_cons (ps_if (pt_cmpR op_eq (pe_op op_modN (pv 4) pe_int) pe_int (nomark _))
    (pss_one (ps_set (i := 2) sc_power.nd rfl (Or.inl rfl) (pe_op op_mulL (pv 2) (pv 3))))
    pss_nil)
    (pss_cons (ps_set (i := 4) sc_power.nd rfl (Or.inl rfl) (pe_op op_fdivL (pv 4) pe_int))
    (pss_one (ps_if (pt_cmpR op_gt (pv 4) pe_int (nomark _))
    (pss_one (ps_set (i := 3) sc_power.nd rfl (Or.inl rfl) (pe_op op_mulL (pv 3) (pv 3))))
    pss_nil)))))
    (pss_one (ps_ret (pv 2))))))), ?_⟩
  walk_at "sf"
  refine while_go (fun m σ H' => ∃ (j s : Nat), σ = [some (.int x), some (.int (k : Int)), some (.int (x ^ j)), some (.int (x ^ s)), some (.int (m : Int))] ∧ H' = H ∧ j + s * m = k)
    ⟨k, 0, 1, by rw [Int.pow_zero, Int.pow_succ, Int.pow_zero, Int.one_mul]; rfl, rfl, by lia⟩ ?_
  rintro m σ H' ⟨j, s, rfl, rfl, e⟩
  walk_at "sf"
  refine ite2 (fun c => ?_) (fun c => ?_)
  · have hm : 0 < m := by
      have : (0 : Int) < (m : Int) := by simpa using c
      lia
    have hs : s ≤ k := by
      have := Nat.mul_le_mul_left s hm
      lia
    have h1 : b * j ≤ b * k := Nat.mul_le_mul_left _ (by lia)
    have h2 : b * s ≤ b * k := Nat.mul_le_mul_left _ hs
    have ef : (m : Int).fmod 2 = ((m % 2 : Nat) : Int) := by rw [fmod_pos (by decide)]; rfl
    have ed : (m : Int).fdiv 2 = ((m / 2 : Nat) : Int) := by rw [Int.fdiv_eq_ediv_of_nonneg _ (by decide)]; rfl
    have hmd := Nat.div_add_mod m 2
    have hms : s * m = s * (2 * (m / 2)) + s * (m % 2) := by rw [← Nat.mul_add, hmd]
    have hms2 : s * (2 * (m / 2)) = (s + s) * (m / 2) := by rw [← Nat.mul_assoc, Nat.mul_two]
    refine ⟨_, fun σ' H' h => h, ?_⟩
    walk_at "sf"
    refine r_i (by decide) ?_
    rw [ef]
    walk_at "sf"
    refine ite2 (fun c1 => ?_) (fun c1 => ?_)
    case' refine_1 =>
      have e1 : m % 2 = 1 := by
        have : ((m % 2 : Nat) : Int) = 1 := by simpa using c1
        lia
      walk_at "sf"
      refine r_i (mulOk (Bd.pow bx j) (Bd.pow bx s) (by lia)) ?_
      rw [← Int.pow_add]
      have e2 : (j + s) + (s + s) * (m / 2) = k := by
        rw [e1, Nat.mul_one] at hms
        lia
      generalize hj' : j + s = j' at e2 ⊢
    case' refine_2 =>
      have e1 : m % 2 = 0 := by
        have : ¬ ((m % 2 : Nat) : Int) = 1 := by simpa using c1
        lia
      have e2 : j + (s + s) * (m / 2) = k := by
        rw [e1, Nat.mul_zero] at hms
        lia
      generalize hj' : j = j' at e2 ⊢
    all_goals
      walk_at "sf"
      refine r_i ⟨by decide, by decide⟩ ?_
      rw [ed]
      have hlt : m / 2 < m := Nat.div_lt_self hm (by decide)
      walk_at "sf"
      generalize m / 2 = d at e2 hlt ⊢
      refine ite2 (fun c2 => ?_) (fun c2 => ?_)
      · have hd : 0 < d := by
          have : (0 : Int) < (d : Int) := by simpa using c2
          lia
        have h3 : (s + s) ≤ k := by
          have := Nat.mul_le_mul_left (s + s) hd
          lia
        have h4 : b * (s + s) ≤ b * k := Nat.mul_le_mul_left _ h3
        rw [Nat.mul_add] at h4
        walk_at "sf"
        refine r_i (mulOk (Bd.pow bx s) (Bd.pow bx s) (by lia)) ?_
        rw [← Int.pow_add]
        walk_at "sf"
        exact ⟨d, hlt, j', s + s, rfl, rfl, e2⟩
      · have hd : d = 0 := by
          have : ¬ (0 : Int) < (d : Int) := by simpa using c2
          lia
        walk_at "sf"
        exact ⟨d, hlt, j', s, rfl, rfl, by rw [hd, Nat.mul_zero] at e2 ⊢; exact e2⟩
  · have hm : m = 0 := by
      have : ¬ (0 : Int) < (m : Int) := by simpa using c
      lia
    subst hm
    have ej : j = k := by lia
    subst ej
    walk_at "sf"
    exact q
theorem ok_remainder (T : Nm mg) (g_sign : FnB P w K mg base 1 "sign" ["number"] spSign) (g_trimmed : FnB P w K mg base 1 "trimmed" ["row"] (spL trimL Few)) (D : DefB K mg "remainder" s_remainder ["one", "other"]) :
    FnB P w K mg base 2 "remainder" ["one", "other"] spRem := by
  refine D.ok sc_remainder (fun vs H Q E h => ?_) (fun f cdv A outer s H vs Q E hr h => ?_)
  · obtain ⟨a, d, xs, ys, b, c, rfl, _⟩ := h
    rfl
  obtain ⟨a, d, xs, ys, b, c, rfl, ha, hd, ⟨hyn, ty, hl, hx, bx, by', hsz⟩, q⟩ := h
  have hBig : Big = 60000000 := rfl
  have ex : (xs.map V.int).length = xs.length := List.length_map _
  have ey : (ys.map V.int).length = ys.length := List.length_map _
  have hyp := List.length_pos_iff.mpr hyn
  have hlead := ty.last hyn
  refine ⟨_, (pss_cons (ps_set (i := 2) sc_remainder.nd rfl (Or.inr rfl) (pe_callB call_abs rfl T.n_abs boot_abs (pa_cons (pe_ix ix_list (pv 1) (pe_un un_neg pe_int) (fun _ _ => rfl)) pa_nil)))
    (pss_cons (ps_set (i := 3) sc_remainder.nd rfl (Or.inl rfl) (pe_fn g_sign hr (pa_cons (pe_ix ix_list (pv 1) (pe_un un_neg pe_int) (fun _ _ => rfl)) pa_nil)))
    (pss_cons (ps_set (i := 4) sc_remainder.nd rfl (Or.inl rfl) (pe_callTy call_list_of rfl T.n_list boot_list (pa_cons (pv 0) pa_nil)))
    (pss_cons (ps_for PassesOwn.never rfl (pi_range3 rfl T.n_range (pa_cons (pe_op op_sub (pe_callB call_len_seq rfl T.n_len boot_len (pa_cons (pv 0) pa_nil)) (pe_callB call_len_seq rfl T.n_len boot_len (pa_cons (pv 1) pa_nil))) (pa_cons (pe_un un_neg pe_int) (pa_cons (pe_un un_neg pe_int) pa_nil)))) (pg_name (i := 5) sc_remainder.nd rfl (Or.inl rfl))
    (pss_cons (ps_set (i := 6) sc_remainder.nd rfl (Or.inl rfl) (pe_op op_mulL (pe_bm0 PySem.F.plainAttrs_list PySem.F.slot_list_pop PySem.F.type_list_pop mt_pop (pv 4)) (pv 3)))
    (pss_cons (ps_comp (i := 4) sc_remainder.nd rfl rfl rfl (compOk (own := ["number"]) (fr := [2]) (fs := ["size"]) (by with_unfolding_all rfl) rfl (by decide +kernel) (by decide +kernel) (by exact ⟨rfl, trivial⟩) (by with_unfolding_all rfl) (by exact ⟨⟨rfl, rfl, rfl, Or.inl rfl⟩, trivial⟩)) (pi_list (pv 4)) (fun _ _ _ _ _ => (pg_name (i := 0) (show List.Nodup (["number", "size"] : List Str) by decide +kernel) rfl (Or.inl rfl) (Or.inr rfl))) (fun _ _ _ _ _ => (pe_op op_mulL (pv 0) (pv 1))) rfl)
    (pss_one (ps_for PassesOwn.never rfl (pi_enum rfl T.n_enumerate (pa_cons (pe_slice sl_list (pv 1) po_none (po_some (pe_un un_neg pe_int))) pa_nil)) (pg_tup rfl (pgs_cons (pg_name (i := 7) sc_remainder.nd rfl (Or.inl rfl)) (pgs_cons (pg_name (i := 8) sc_remainder.nd rfl (Or.inl rfl)) pgs_nil)))
    (pss_one (ps_asg (pe_op op_sub (pe_ix ix_list (pv 4) (pe_op op_add (pv 5) (pv 7)) (fun _ _ => rfl)) (pe_op op_mulL (pv 6) (pv 8))) (pg_sub (pv 4) (pe_op op_add (pv 5) (pv 7)) set_list))))))))
    (pss_one (ps_ret (pe_fn g_trimmed hr (pa_cons (pv 4) pa_nil)))))))), ?_⟩
  walk_at "sf"
  refine r_ixL (SqL.of hd) (il_last hyn) ?_
  walk_at "sf"
  refine ⟨_, rfl, ?_⟩
  walk_at "sf"
  refine r_ixL (SqL.of hd) (il_last hyn) ?_
  walk_at "sf"
  refine ⟨_, rfl, ?_⟩
  walk_at "sf"
  have eab : (if co ys (ys.length - 1) < 0 then -co ys (ys.length - 1) else co ys (ys.length - 1)) = ab (co ys (ys.length - 1)) := by unfold ab; split <;> lia
  rw [eab]
  have hσ : sg (co ys (ys.length - 1)) * co ys (ys.length - 1) = ab (co ys (ys.length - 1)) := sg_ab _
  have bσ : Bd 1 (sg (co ys (ys.length - 1))) := by unfold sg Bd; split <;> (try split) <;> decide
  have bl : Bd c (ab (co ys (ys.length - 1))) := by
    have := by'.co (ys.length - 1)
    unfold Bd at *
    unfold ab; lia
  generalize sg (co ys (ys.length - 1)) = σs at hσ bσ ⊢
  generalize hle : ab (co ys (ys.length - 1)) = l at hσ bl ⊢
  refine ⟨a, _, rfl, .inl (SqL.of ha), fun p1 hp1 => ?_⟩
  have s1 := Same.new hp1 (.lst (xs.map V.int))
  walk_at "sf"
  refine ⟨a, _, rfl, .inl (SqL.of (s1 _ _ ha)), ?_⟩
  walk_at "sf"
  refine ⟨d, _, rfl, .inl (SqL.of (s1 _ _ hd)), ?_⟩
  walk_at "sf"
  rw [ex, ey]
  have ek : (xs.length : Int) - (ys.length : Int) = ((xs.length - ys.length : Nat) : Int) := by lia
  rw [ek]
  generalize hδ : xs.length - ys.length = δ at hsz ⊢
  refine ⟨_, _, _, δ + 1, rfl, by decide, by decide, smD (by lia), rszD, ?_⟩
  refine for_range3 (fun i σ H' => ∃ (p : Addr) (rs : List Int) (q : Po) (z5 z6 z7 z8 : Option V), σ = [some (.ref a), some (.ref d), some (.int l), some (.int σs), some (.ref p), z5, z6, z7, z8] ∧ Same H H' ∧ IL H' p rs ∧ H p = none ∧
      rs.length + i = xs.length ∧ Po.K (l ^ i) * ofL xs = q * ofL ys + ofL rs ∧ len q ≤ δ + 1 ∧ Ab (b + i * (c + 1)) rs)
    ⟨p1, xs, 0, _, _, _, _, rfl, s1, upd_same, hp1, by lia, by rw [Int.pow_zero, Po.K_one]; grind, by rw [len_zero]; lia, bx.mono (by lia)⟩ ?_ ?_
  · rintro i σ H2 hi ⟨p, rs, qq, z5, z6, z7, z8, rfl, s2, h2, hpn, hlen, eq, hq, hbd⟩
    have hrl : ys.length ≤ rs.length := by lia
    have hrn : rs ≠ [] := List.length_pos_iff.mp (by lia)
    have hk : rs.length - ys.length = δ - i := by lia
    have hib : i * (c + 1) ≤ (δ + 1) * (c + 1) := Nat.mul_le_mul_right _ (by lia)
    have hib2 : (i + 1) * (c + 1) ≤ (δ + 1) * (c + 1) := Nat.mul_le_mul_right _ (by lia)
    have hib3 : (i + 1) * (c + 1) = i * (c + 1) + (c + 1) := by rw [Nat.add_mul]; lia
    walk_at "sf"
    refine ⟨_, rfl, .inl ⟨rfl, _, SqL.of h2⟩, p, _, _, rfl, rfl, h2, il_lastV hrn, ?_⟩
    walk_at "sf"
    refine r_i (mulOk (hbd.co _) bσ (by lia)) ?_
    walk_at "sf"
    have em : (rs.map V.int).dropLast = rs.dropLast.map V.int := (List.map_dropLast ..).symm
    have h3 : IL (upd H2 p (.lst (rs.map V.int).dropLast)) p rs.dropLast := by show upd _ p _ p = _; rw [upd_same, em]
    have s3 : Same H (upd H2 p (.lst (rs.map V.int).dropLast)) := fun c o z => by
      rw [upd_ne (ne_of_none z hpn)]
      exact s2 _ _ z
    generalize upd H2 p (.lst (rs.map V.int).dropLast) = H3 at h3 s3 ⊢
    have ld : rs.dropLast.length = rs.length - 1 := List.length_dropLast
    have cd : ∀ j, j < rs.length - 1 → co rs.dropLast j = co rs j := fun j hj => by rw [List.dropLast_eq_take, co_take, if_pos hj]
    refine r_comp1 (H1 := H3) (Itl K p) (fun R hR => ?_) (comp_listI (xs := rs.dropLast) (SqL.of h3) (fun i => co rs.dropLast i * l) (by lia) ?_ ?_)
    · walk_at "sf"
      exact ⟨p, rfl, ⟨_, SqL.of h3⟩, hR⟩
    · intro j r H4 hj hr s34 Z hZ
      obtain ⟨x0, rfl⟩ := len1 hr
      walk_at "sf"
      have bj : Bd (b + i * (c + 1)) (co rs.dropLast j) := by rw [cd j (by lia)]; exact hbd.co j
      refine r_i (mulOk bj bl (by lia)) ?_
      exact hZ _ _ (Same.refl _) ⟨[_], rfl, rfl⟩
    · intro D2 H4 hD2 s34 h4
      have s4 := s3.trans s34
      have hDn : H D2 = none := s3.free hD2
      have e4 : ofS (fun i => co rs.dropLast i * l) rs.dropLast.length = ofS (fun j => co rs j * l) (rs.length - 1) := by
        rw [ld]; exact ofS_congr fun j hj => by rw [cd j hj]
      rw [e4] at h4
      walk_at "sf"
      refine ⟨_, rfl, ?_⟩
      walk_at "sf"
      refine ⟨d, _, rfl, SqL.of (s4 _ _ hd), fun p5 hp5 => ?_⟩
      have e5 : cutV (ys.map V.int) none (some (-1)) = ys.dropLast.map V.int := cut_init ys
      have s45 := Same.new hp5 (.lst (cutV (ys.map V.int) none (some (-1))))
      have h5 : IL (upd H4 p5 (.lst (cutV (ys.map V.int) none (some (-1))))) p5 ys.dropLast := by show upd _ p5 _ p5 = _; rw [upd_same, e5]
      have h45 := s45 _ _ h4
      have s5 := s4.trans s45
      have hD5 : p5 ≠ D2 := fun z => by rw [z, h4] at hp5; cases hp5
      generalize upd H4 p5 (.lst (cutV (ys.map V.int) none (some (-1)))) = H5 at h5 h45 s5 ⊢
      have lyd : ys.dropLast.length = ys.length - 1 := List.length_dropLast
      have cyd : ∀ j, j < ys.length - 1 → co ys.dropLast j = co ys j := fun j hj => by rw [List.dropLast_eq_take, co_take, if_pos hj]
      have eyd : (ys.dropLast.map V.int).length = ys.length - 1 := by rw [List.length_map, lyd]
      generalize hkk : rs.length - ys.length = kk at hk
      have eδ : (δ : Int) + (i : Int) * -1 = (kk : Int) := by lia
      rw [eδ]
      generalize ht : co rs (rs.length - 1) = t
      have bt : Bd (b + i * (c + 1)) t := by rw [← ht]; exact hbd.co _
      walk_at "sf"
      refine ⟨p5, rfl, ⟨_, SqL.of h5⟩, ?_⟩
      refine for_enum (xs := ys.dropLast.map V.int) (fun e σ H' => (∃ r1 r2, σ = [some (.ref a), some (.ref d), some (.int l), some (.int σs), some (.ref D2), some (.int (kk : Int)), some (.int (t * σs)), r1, r2]) ∧ Same H H' ∧ IL H' p5 ys.dropLast ∧
          IL H' D2 (ofS (fun j => co rs j * l - if kk ≤ j ∧ j < kk + e then t * σs * co ys (j - kk) else 0) (rs.length - 1)))
        ⟨⟨_, _, rfl⟩, s5, h5, ?_⟩ (fun e σ H' _ z => SqL.of z.2.2.1) ?_ ?_
      · show H5 D2 = _
        rw [h45]
        exact congrArg (fun l : List Int => some (HO.lst (l.map V.int))) (ofS_congr fun j _ => by rw [if_neg (by lia)]; lia)
      · rintro e x pp σ H6 hee hpp ⟨⟨r1, r2, rfl⟩, s6, h6, h7⟩
        obtain ⟨hey, rfl⟩ := il_get hee
        rw [lyd] at hey
        have s67 := Same.new hpp (.tup [.int (e : Int), .int (co ys.dropLast e)])
        have h8 := s67 _ _ h7
        have ei : (kk : Int) + (e : Int) = ((kk + e : Nat) : Int) := by lia
        refine r_gtup (SqT.of upd_same) rfl ?_
        walk_at "sf"
        rw [ei]
        refine r_ixL (SqL.of h8) (il_at (by rw [ofS_length]; lia)) ?_
        walk_at "sf"
        have be : Bd c (co ys.dropLast e) := by rw [cyd e hey]; exact by'.co e
        refine r_i (mulOk (bt.mul bσ) be (by lia)) ?_
        walk_at "sf"
        rw [ei]
        refine ⟨D2, _, _, kk + e, rfl, rfl, h8, ix_nat (by rw [List.length_map, ofS_length]; lia), ?_⟩
        refine ⟨⟨_, _, rfl⟩, fun c o z => ?_, ?_, ?_⟩
        · rw [upd_ne (ne_of_none z hDn)]
          exact s67 _ _ (s6 _ _ z)
        · show upd _ D2 _ p5 = _
          rw [upd_ne hD5]
          exact s67 _ _ h6
        · show upd _ D2 _ D2 = _
          rw [upd_same, ofS_co, if_pos (by lia), cyd e hey, ← List.map_set, ofS_set (by lia)]
          refine congrArg (fun l => some (HO.lst (l.map V.int))) (ofS_congr fun j hj => ?_)
          show (if j = kk + e then _ else _) = _
          by_cases e2 : j = kk + e
          · subst e2
            have e3 : kk + e - kk = e := by lia
            rw [if_pos rfl, if_neg (by lia), if_pos ⟨by lia, by lia⟩, e3]; lia
          · rw [if_neg e2]
            by_cases e4 : kk ≤ j ∧ j < kk + e
            · rw [if_pos e4, if_pos ⟨e4.1, by lia⟩]
            · rw [if_neg e4, if_neg (by lia)]
      · rintro σ H6 ⟨⟨r1, r2, rfl⟩, s6, h6, h7⟩
        rw [eyd] at h7
        have es := rem_step (rs := rs) hyn hrl hσ
        rw [hkk, ht] at es
        have hb2 : Ab (b + (i + 1) * (c + 1)) (ofS (fun j => co rs j * l - if kk ≤ j ∧ j < kk + (ys.length - 1) then t * σs * co ys (j - kk) else 0) (rs.length - 1)) := fun x hx => by
          obtain ⟨j, hj, rfl⟩ := List.mem_map.mp hx
          have g1 : Bd (b + i * (c + 1) + c) (co rs j * l) := (hbd.co j).mul bl
          have g2 : Bd (b + i * (c + 1) + c) (if kk ≤ j ∧ j < kk + (ys.length - 1) then t * σs * co ys (j - kk) else 0) := by
            split
            · have e5 : (t * σs * co ys (j - kk)).natAbs ≤ (t * co ys (j - kk)).natAbs := by
                rw [Int.natAbs_mul, Int.natAbs_mul, Int.natAbs_mul]
                have : σs.natAbs ≤ 1 := by unfold Bd at bσ; lia
                have h9 : t.natAbs * σs.natAbs ≤ t.natAbs * 1 := Nat.mul_le_mul_left _ this
                rw [Nat.mul_one] at h9
                exact Nat.mul_le_mul_right _ h9
              exact (bt.mul (by'.co (j - kk))).of_le e5
            · show (0 : Int).natAbs < _; exact Nat.two_pow_pos _
          have e6 : b + (i + 1) * (c + 1) = b + i * (c + 1) + c + 1 := by lia
          rw [e6]
          exact g1.sub g2
        refine ⟨D2, _, Po.K l * qq + Po.K (t * σs) * X kk, _, _, _, _, rfl, s6, h7, hDn, by rw [ofS_length]; lia, ?_, ?_, hb2⟩
        · rw [es, Int.pow_succ, Po.K_mul]
          have e7 : Po.K (l ^ i) * Po.K l * ofL xs = Po.K l * (Po.K (l ^ i) * ofL xs) := by grind
          rw [e7, eq]; grind
        · refine Nat.le_trans (len_add _ _) (Nat.max_le.mpr ⟨?_, Nat.le_trans (len_KX _ _) (by lia)⟩)
          refine Nat.le_trans (len_le fun j hj => ?_) hq
          rw [Kmul_c, c_ge hj]; grind
  · rintro σ H2 ⟨p, rs, qq, z5, z6, z7, z8, rfl, s2, h2, hpn, hlen, eq, hq, hbd⟩
    walk_at "sf"
    refine ⟨p, _, rfl, h2, by show rs.length ≤ 1000; lia, fun p3 H3 s3 h3 => ?_⟩
    refine q p3 _ H3 (s2.trans s3) h3 ⟨trimL_tr _, trim_lt (by lia), qq, ?_, by rw [hδ]; exact hq⟩ ?_
    · rw [hδ, hle, ofL_trim]; exact eq
    · intro x hx
      obtain ⟨j, e⟩ := co_mem hx
      rw [← e, trimL_co, hδ]
      exact hbd.co j
end
end K16
namespace K16
open PySem PyProof.Rows L2 SF SF.Po
noncomputable def ILs (H : Hp) : List Addr → List (List Int) → Prop
  | [], [] => True
  | a :: as, p :: ps => IL H a p ∧ ILs H as ps
  | _, _ => False
theorem ILs.len {H : Hp} : ∀ {as : List Addr} {ps : List (List Int)}, ILs H as ps → as.length = ps.length
  | [], [], _ => rfl
  | _ :: _, _ :: _, h => by rw [List.length_cons, List.length_cons, h.2.len]
theorem ILs.map {H H' : Hp} (f : ∀ a (p : List Int), IL H a p → IL H' a p) : ∀ {as : List Addr} {ps : List (List Int)}, ILs H as ps → ILs H' as ps
  | [], [], _ => trivial
  | _ :: _, _ :: _, h => ⟨f _ _ h.1, h.2.map f⟩
theorem ILs.snoc {H : Hp} {a : Addr} {p : List Int} (ha : IL H a p) : ∀ {as : List Addr} {ps : List (List Int)}, ILs H as ps → ILs H (as ++ [a]) (ps ++ [p])
  | [], [], _ => ⟨ha, trivial⟩
  | _ :: _, _ :: _, h => ⟨h.1, h.2.snoc ha⟩
theorem ILs.get {H : Hp} : ∀ {as : List Addr} {ps : List (List Int)} (i : Nat) {a : Addr}, ILs H as ps → as[i]? = some a → ∃ p, ps[i]? = some p ∧ IL H a p
  | [], [], i, a, _, e => by simp at e
  | b :: as, p :: ps, 0, a, h, e => by
    have : b = a := by simpa using e
    subst this
    exact ⟨p, rfl, h.1⟩
  | b :: as, p :: ps, i + 1, a, h, e => ILs.get i h.2 (by simpa using e)
theorem refs_last {as : List Addr} {u v : Addr} : atI ((as ++ [u, v]).map V.ref) (-1) = some (.ref v) := by
  unfold atI
  have e : ixN ((as ++ [u, v]).map V.ref).length (-1) = some (as.length + 1) := by
    unfold ixN
    rw [List.length_map, List.length_append, if_neg (by decide), if_pos (by simp; lia)]
    congr 1
    simp; lia
  rw [e]
  show ((as ++ [u, v]).map V.ref)[as.length + 1]? = _
  rw [List.getElem?_map, List.getElem?_append_right (by lia)]
  have e2 : as.length + 1 - as.length = 1 := by lia
  rw [e2]; rfl
theorem refs_last2 {as : List Addr} {u v : Addr} : atI ((as ++ [u, v]).map V.ref) (-2) = some (.ref u) := by
  unfold atI
  have e : ixN ((as ++ [u, v]).map V.ref).length (-2) = some as.length := by
    unfold ixN
    rw [List.length_map, List.length_append, if_neg (by decide), if_pos (by simp; lia)]
    congr 1
    simp; lia
  rw [e]
  show ((as ++ [u, v]).map V.ref)[as.length]? = _
  rw [List.getElem?_map, List.getElem?_append_right (by lia)]
  have e2 : as.length - as.length = 0 := by lia
  rw [e2]; rfl
theorem ne_refs {H : Hp} {c a : Addr} {as : List Addr} {p : List Int} (hc : H c = some (.lst (as.map V.ref))) (hn : as ≠ []) (ha : IL H a p) : a ≠ c := fun z => by
  subst z
  have : some (HO.lst (as.map V.ref)) = some (HO.lst (p.map V.int)) := hc.symm.trans ha
  injection this with e
  injection e with e
  cases as with
  | nil => exact hn rfl
  | cons x r =>
    cases p with
    | nil => simp at e
    | cons y t => simp at e
noncomputable abbrev BM : Nat := 56332746
structure ChL (xs : List Int) (ps : List (List Int)) : Prop where
  shape : ∃ rest, ps = xs :: derL xs :: rest
  chn : 2 ≤ xs.length → ∀ x : Re, Chn x (ps.map ofL)
  one : xs.length = 1 → ps = [xs, []]
  few : ∀ p ∈ ps, p.length ≤ 13 ∧ Ab BM p
  cnt : ps.length ≤ 60
noncomputable def PreC (xs : List Int) : Prop := Tr xs ∧ xs ≠ [] ∧ xs.length ≤ 13 ∧ Ab 100 xs ∧ SFr (ofL xs) (ofL xs)
noncomputable def spChain : Sp := fun vs H Q _ => ∃ (a : Addr) (xs : List Int), vs = [.ref a] ∧ IL H a xs ∧ PreC xs ∧ ∀ (c : Addr) (as : List Addr) (ps : List (List Int)) (H' : Hp), Same H H' → H' c = some (.lst (as.map V.ref)) → ILs H' as ps → ChL xs ps → Q (.ref c) H'
theorem pow3 {δ : Nat} (h : 1 ≤ δ) : δ + 2 ≤ 3 ^ δ := by
  induction δ with
  | zero => lia
  | succ δ ih =>
    by_cases h0 : δ = 0
    · subst h0; decide
    · have := ih (by lia)
      rw [Nat.pow_succ]; lia
theorem pow3k {k : Nat} (h : k ≤ 12) : 3 ^ k * 106 ≤ BM := by
  have : 3 ^ k ≤ 3 ^ 12 := Nat.pow_le_pow_right (by decide) h
  have e : 3 ^ 12 * 106 = BM := by decide
  lia
theorem pow3step {k δ : Nat} (h : 1 ≤ δ) : 3 ^ k * 106 - 2 + (δ + 1) * (3 ^ k * 106 - 2 + 1) ≤ 3 ^ (k + δ) * 106 - 2 ∧ δ * (3 ^ k * 106) ≤ 3 ^ (k + δ) * 106 ∧ 106 ≤ 3 ^ k * 106 := by
  have h1 := pow3 h
  have h2 : 0 < 3 ^ k := Nat.pow_pos (by decide)
  have h3 : (δ + 2) * (3 ^ k * 106) ≤ 3 ^ δ * (3 ^ k * 106) := Nat.mul_le_mul_right _ h1
  have h4 : 3 ^ (k + δ) * 106 = 3 ^ δ * (3 ^ k * 106) := by rw [Nat.pow_add]; grind
  have h5 : (δ + 2) * (3 ^ k * 106) = δ * (3 ^ k * 106) + 2 * (3 ^ k * 106) := by rw [Nat.add_mul]
  have h6 : (δ + 1) * (3 ^ k * 106 - 2 + 1) ≤ (δ + 1) * (3 ^ k * 106) - (δ + 1) := by
    have : 3 ^ k * 106 - 2 + 1 = 3 ^ k * 106 - 1 := by lia
    rw [this, Nat.mul_sub, Nat.mul_one]
    exact Nat.le_refl _
  have h7 : (δ + 1) * (3 ^ k * 106) = δ * (3 ^ k * 106) + 3 ^ k * 106 := by rw [Nat.add_mul]; lia
  refine ⟨?_, ?_, ?_⟩ <;> lia
theorem r_comp2 {σ : L2.St} {H : Hp} {Q : VK} {own : List Str} {fr : List Nat} {wi : TI} {g : TG} {te : TE} (Pj : It → Hp → Prop) (h : ∀ R : It → Hp → Prop, (∀ J H1, Pj J H1 → R J H1) → wi σ H R) (h2 : ∀ J H1, Pj J H1 → CompGo J own fr σ g te H1 Q) : tComp own fr wi g te σ H Q := h _ h2
section
variable {P : Program} {w : World} {K : PySem.W.Frag} {mg : Str → Option Value} {base : Heap}
theorem ok_chain_of (T : Nm mg) (hT : P.given.tree = none) (g_derivative : FnB P w K mg base 33 "derivative" ["poly"] (spL derL (fun xs => Few xs ∧ Ab Big xs))) (g_power : FnB P w K mg base 33 "power" ["number", "many"] spPow)
    (g_remainder : FnB P w K mg base 33 "remainder" ["one", "other"] spRem) (D : DefB K mg "chain_of" s_chain_of ["free"]) : FnB P w K mg base 34 "chain_of" ["free"] spChain := by
  refine D.ok sc_chain_of (fun vs H Q E h => ?_) (fun f cdv A outer s H vs Q E hr h => ?_)
  · obtain ⟨a, xs, rfl, _⟩ := h
    rfl
  obtain ⟨a, xs, rfl, ha, ⟨tx, hxn, lx, bx, hsf⟩, q⟩ := h
  have hBig : Big = 60000000 := rfl
  have hBM : BM = 56332746 := rfl
  have ld := derL_len xs
  have bd := derL_ab bx (by lia)
  have td := derL_tr tx
  refine ⟨_, (pss_cons (ps_set (i := 1) sc_chain_of.nd rfl (Or.inl rfl) (pe_lst (pa_cons (pv 0) (pa_cons (pe_fn g_derivative hr (pa_cons (pv 0) pa_nil)) pa_nil))))
    (pss_cons (ps_set (i := 2) sc_chain_of.nd rfl (Or.inl rfl) pe_int)
    (pss_cons (ps_set (i := 3) sc_chain_of.nd rfl (Or.inl rfl) pe_int)
    (pss_cons (ps_while PassesOwn.never (pt_cmpR op_gt (pe_callB call_len_seq rfl T.n_len boot_len (pa_cons (pe_ix ix_list (pv 1) (pe_un un_neg pe_int) (fun _ _ => rfl)) pa_nil)) pe_int (nomark _))
    (pss_cons (ps_set (i := 4) sc_chain_of.nd rfl (Or.inl rfl) (pe_ix ix_list (pv 1) (pe_un un_neg pe_int) (fun _ _ => rfl)))
    (pss_cons (ps_set (i := 5) sc_chain_of.nd rfl (Or.inl rfl) (pe_ix ix_list (pv 1) (pe_un un_neg pe_int) (fun _ _ => rfl)))
    (pss_cons (ps_set (i := 6) sc_chain_of.nd rfl (Or.inl rfl) (pe_op op_sub (pe_callB call_len_seq rfl T.n_len boot_len (pa_cons (pv 4) pa_nil)) (pe_callB call_len_seq rfl T.n_len boot_len (pa_cons (pv 5) pa_nil))))
    (pss_cons (ps_set (i := 7) sc_chain_of.nd rfl (Or.inr rfl) (pe_op op_mulL (pv 2) (pe_fn g_power hr (pa_cons (pv 3) (pa_cons (pv 6) pa_nil)))))
    (pss_cons (ps_expr (pe_bm PySem.F.plainAttrs_list PySem.F.slot_list_append PySem.F.type_list_append mt_append (pv 1) (pa_cons (pe_comp rfl rfl (compOk (own := ["number"]) (fr := [7]) (fs := ["shared"]) (by with_unfolding_all rfl) rfl (by decide +kernel) (by decide +kernel) (by exact ⟨rfl, trivial⟩) (by with_unfolding_all rfl) (by exact ⟨⟨rfl, rfl, rfl, Or.inl rfl⟩, trivial⟩)) (pi_list (pe_fn g_remainder hr (pa_cons (pv 4) (pa_cons (pv 5) pa_nil)))) (fun _ _ _ _ _ => (pg_name (i := 0) (show List.Nodup (["number", "shared"] : List Str) by decide +kernel) rfl (Or.inl rfl) (Or.inr rfl))) (fun _ _ _ _ _ => (pe_op (op_fdivP ⟨hT, ⟨_, _, rfl, rfl, rfl, rfl, rfl⟩, hr.py⟩) (pe_un un_neg (pv 0)) (pv 1)))) pa_nil)))
    (pss_cons (ps_set (i := 2) sc_chain_of.nd rfl (Or.inl rfl) (pe_callB call_abs rfl T.n_abs boot_abs (pa_cons (pe_ix ix_list (pv 5) (pe_un un_neg pe_int) (fun _ _ => rfl)) pa_nil)))
    (pss_one (ps_set (i := 3) sc_chain_of.nd rfl (Or.inl rfl) (pe_op (op_fdivP ⟨hT, ⟨_, _, rfl, rfl, rfl, rfl, rfl⟩, hr.py⟩) (pe_fn g_power hr (pa_cons (pv 2) (pa_cons (pv 6) pa_nil))) (pe_fn g_power hr (pa_cons (pv 3) (pa_cons (pe_op op_sub (pv 6) pe_int) pa_nil)))))))))))))
    (pss_one (ps_ret (pv 1))))))), ?_⟩
  walk_at "sf"
  refine ⟨a, xs, rfl, ha, ⟨by show xs.length ≤ 1000; lia, bx.mono (by lia)⟩, fun p1 H1 s1 h1 => ?_⟩
  walk_at "sf"
  intro pc hpc
  have hpcn : H pc = none := s1.free hpc
  have s2 := s1.trans (Same.new hpc (.lst [.ref a, .ref p1]))
  have hc2 : upd H1 pc (.lst [.ref a, .ref p1]) pc = some (.lst (([] ++ [a, p1]).map V.ref)) := upd_same
  have i2 : ILs (upd H1 pc (.lst [.ref a, .ref p1])) ([] ++ [a, p1]) ([] ++ [xs, derL xs]) := ⟨s2 _ _ ha, (Same.new hpc _) _ _ h1, trivial⟩
  generalize upd H1 pc (.lst [.ref a, .ref p1]) = H2 at s2 hc2 i2 ⊢
  walk_at "sf"
  have bda : Ab 104 (derL xs) := fun x hx => by
    obtain ⟨i, hi, e⟩ := List.getElem_of_mem hx
    have hi2 : i < xs.length - 1 := by rw [ld] at hi; exact hi
    rw [← e, ← co_lt, derL_co]
    show Bd 104 (((i + 1 : Nat) : Int) * co xs (i + 1))
    have h1 : Bd 4 (((i + 1 : Nat) : Int)) := Bd.of_range (by lia) (by lia)
    exact (h1.mul (bx.co (i + 1))).mono (by lia)
  by_cases hx2 : 2 ≤ xs.length
  · -- the loop
    have hdn : derL xs ≠ [] := List.length_pos_iff.mp (by lia)
    obtain ⟨n', hn'⟩ : ∃ n', xs.length = n' + 2 := ⟨xs.length - 2, by lia⟩
    have lF : len (ofL xs) = n' + 2 := by rw [len_ofL tx]; exact hn'
    have lG : len (ofL (derL xs)) = n' + 1 := by rw [len_ofL td, ld]; lia
    have gc := gcdL_gc (xs := xs) (ys := derL xs) (.inl hsf.pr.ne)
    have g1 := sf_gcd tx hsf
    have o1 : ofL [1] = 1 := Po.ext fun i => by
      rw [ofL_c, one_c]
      cases i with
      | zero => rfl
      | succ i => rfl
    rw [g1, o1] at gc
    obtain ⟨bu, bv, ba, hba, ebz⟩ := gc.bz
    have ebz' : bu * ofL xs + bv * ofL (derL xs) = Po.K ba := by rw [ebz]; grind
    refine while_go (fun m σ H' => ∃ (hs : List (List Int)) (us vs : List Int) (has : List Addr) (pu pv : Addr) (g0 h0 : Int) (k : Nat) (z4 z5 z6 z7 : Option V), m = vs.length ∧
        σ = [some (.ref a), some (.ref pc), some (.int g0), some (.int h0), z4, z5, z6, z7] ∧ Same H H' ∧ H' pc = some (.lst ((has ++ [pu, pv]).map V.ref)) ∧ ILs H' (has ++ [pu, pv]) (hs ++ [us, vs]) ∧ (∃ rest, hs ++ [us, vs] = xs :: derL xs :: rest) ∧
        Tr us ∧ Tr vs ∧ us ≠ [] ∧ vs ≠ [] ∧ IL H' pu us ∧ IL H' pv vs ∧ us.length ≤ xs.length ∧ us.length + k = xs.length ∧ Stg (ofL xs) (ofL (derL xs)) (ofL us) (ofL vs) (n' + 1) n' (us.length - 1) (vs.length - 1) g0 h0 ∧
        (∀ x : Re, Trip x ((hs ++ [us, vs]).map ofL)) ∧ (∀ x : Re, ¬ (at' x (ofL us) = 0 ∧ at' x (ofL vs) = 0)) ∧ (∀ d, Po.D d (ofL us) → Po.D d (ofL vs) → Po.D d (ofL xs) ∧ Po.D d (ofL (derL xs))) ∧
        Ab (3 ^ k * 106 - 2) us ∧ Ab (3 ^ k * 106 - 2) vs ∧ Bd (3 ^ k * 106) g0 ∧ Bd (3 ^ k * 106) h0 ∧ (∀ p ∈ hs ++ [us, vs], p.length ≤ 13 ∧ Ab BM p) ∧ hs.length + vs.length ≤ xs.length)
      ⟨_, [], xs, derL xs, [], a, p1, 1, 1, 0, _, _, _, _, rfl, rfl, s2, hc2, i2, ⟨[], rfl⟩, tx, td, hxn, hdn, i2.1, i2.2.1, Nat.le_refl _, rfl, ?_, fun x => trivial, fun x => no_common hba ebz', fun d h1 h2 => ⟨h1, h2⟩, bx.mono (by decide), bda.mono (by decide), ?_, ?_, ?_, by show 0 + (derL xs).length ≤ xs.length; lia⟩ ?_
    · have e1 : xs.length - 1 = n' + 1 := by lia
      have e2 : (derL xs).length - 1 = n' := by lia
      rw [e1, e2]
      exact Stg.start lF lG
    · exact Bd.mono (m := 1) (by show (1 : Int).natAbs < 2 ^ 1; decide) (by decide)
    · exact Bd.mono (m := 1) (by show (1 : Int).natAbs < 2 ^ 1; decide) (by decide)
    · intro p hp
      rcases List.mem_cons.mp hp with z | z
      · rw [z]; exact ⟨lx, bx.mono (by lia)⟩
      · rw [List.mem_singleton.mp z]; exact ⟨by lia, bda.mono (by lia)⟩
    rintro m σ H' ⟨hs, us, vs, has, pu, pv, g0, h0, k, z4, z5, z6, z7, rfl, rfl, s3, hc3, i3, hsh, tu, tv, hun, hvn, hu, hv, lu, lk, stg, trip, nz, ic, bu', bv', bg, bh, few, hlen⟩
    have eu : (us.map V.int).length = us.length := List.length_map _
    have ev : (vs.map V.int).length = vs.length := List.length_map _
    have hup := List.length_pos_iff.mpr hun
    have hvp := List.length_pos_iff.mpr hvn
    have hnm := stg.nm
    walk_at "sf"
    refine r_ixL (SqL.of hc3) refs_last ?_
    refine ⟨pv, _, rfl, .inl (SqL.of hv), ?_⟩
    walk_at "sf"
    rw [ev]
    refine ite2 (fun cc => ?_) (fun cc => ?_)
    · have hv2 : 2 ≤ vs.length := by
        have : (1 : Int) < (vs.length : Int) := by simpa using cc
        lia
      refine ⟨_, fun σ' H' h => h, ?_⟩
      walk_at "sf"
      refine r_ixL (SqL.of hc3) refs_last2 ?_
      walk_at "sf"
      refine r_ixL (SqL.of hc3) refs_last ?_
      walk_at "sf"
      refine ⟨pu, _, rfl, .inl (SqL.of hu), ?_⟩
      walk_at "sf"
      refine ⟨pv, _, rfl, .inl (SqL.of hv), ?_⟩
      walk_at "sf"
      rw [eu, ev]
      generalize hδ : us.length - vs.length = δ
      have hδ1 : 1 ≤ δ := by lia
      have ek : (us.length : Int) - (vs.length : Int) = (δ : Int) := by lia
      rw [ek]
      obtain ⟨p3a, p3b, p3c⟩ := pow3step (k := k) hδ1
      have p3d := pow3k (k := k + δ) (by lia)
      have p3e := pow3k (k := k) (by lia)
      have hcm : δ * (3 ^ k * 106) = 3 ^ k * 106 * δ := Nat.mul_comm _ _
      refine ⟨h0, δ, 3 ^ k * 106, rfl, ⟨bh, by lia, by lia, by lia⟩, ?_⟩
      have bhδ := Bd.pow bh δ
      refine r_i (mulOk bg bhδ (by lia)) ?_
      have dd : us.length - 1 - (vs.length - 1) = δ := by lia
      have hβ : 0 < g0 * h0 ^ δ := Int.mul_pos stg.g0p (pow_pos' stg.h0p _)
      walk_at "sf"
      refine ⟨_, rfl, .inl ⟨rfl, _, SqL.of hc3⟩, ?_⟩
      walk_at "sf"
      refine r_comp2 (fun J H4 => ∃ (p : Addr) (rs : List Int), J = Itl K p ∧ Same H' H4 ∧ IL H4 p rs ∧ Rem us vs rs ∧ Ab (3 ^ k * 106 - 2 + (us.length - vs.length + 1) * (3 ^ k * 106 - 2 + 1)) rs) (fun R hR => ?_) ?_
      · walk_at "sf"
        refine ⟨pu, pv, us, vs, _, _, rfl, hu, hv, ⟨hvn, tv, by lia, by lia, bu', bv', by rw [hδ]; lia⟩, fun p rs H4 s4 h4 hrem hb => ?_⟩
        exact ⟨p, rfl, ⟨_, SqL.of h4⟩, hR _ _ ⟨p, rs, rfl, s4, h4, hrem, hb⟩⟩
      rintro J H4 ⟨pr, rs, rfl, s4, h4, hrem, hbr⟩
      rw [hδ] at hbr
      obtain ⟨qq, eq, hq⟩ := hrem.eq
      rw [hδ] at eq hq
      have hl := stg.lead
      have elead : (ofL vs).c (vs.length - 1) = co vs (vs.length - 1) := rfl
      rw [elead] at hl
      have eq1 : Po.K (ab ((ofL vs).c (vs.length - 1)) ^ (us.length - 1 - (vs.length - 1) + 1)) * ofL us = qq * ofL vs + ofL rs := by rw [dd]; exact eq
      obtain ⟨hh, ehh⟩ := stg.rem (by lia) eq1 (by rw [dd]; exact hq) (Nat.le_trans (by rw [len_ofL hrem.tr]; exact Nat.le_refl _) (by have := hrem.lt; lia))
      rw [dd] at ehh
      have hrl := hrem.lt
      have enew := neg_fdiv hβ ehh
      refine comp_listI (xs := rs) (SqL.of h4) (fun i => (-(co rs i)).fdiv (g0 * h0 ^ δ)) (by lia) ?_ ?_
      · intro i r H5 hi hr s45 Z hZ
        obtain ⟨x0, rfl⟩ := len1 hr
        walk_at "sf"
        refine r_i (Int.ne_of_gt hβ) ?_
        exact hZ _ _ (Same.refl _) ⟨[_], rfl, rfl⟩
      intro D2 H5 hD2 s45 h5
      have s35 := s4.trans s45
      have s5 := s3.trans s35
      have hc5 := s35 _ _ hc3
      have i5 : ILs H5 (has ++ [pu, pv]) (hs ++ [us, vs]) := i3.map fun a p z => s35 _ _ z
      have hDn : H D2 = none := (s3.trans s4).free hD2
      have hrn : rs ≠ [] := fun z => by
        subst z
        have e1 : Po.K (ab (co vs (vs.length - 1)) ^ (δ + 1)) * ofL us = ofL vs * qq := by rw [eq, ofL_nil]; grind
        have d1 : Po.D (ofL vs) (ofL us) := ⟨_, Int.ne_of_gt (pow_pos' hl _), qq, e1⟩
        obtain ⟨d2, d3⟩ := ic _ d1 (Po.D.refl _)
        have d4 := gc.grt d2 d3
        have l1 : len (1 : Po) = 1 := by rw [← Po.K_one]; exact len_K (by decide)
        have := d4.len (ne_of_len (by lia))
        rw [len_ofL tv] at this
        lia
      have hrp := List.length_pos_iff.mpr hrn
      have tw : Tr (ofS (fun i => (-(co rs i)).fdiv (g0 * h0 ^ δ)) rs.length) := by
        refine Tr.of_last fun _ => ?_
        rw [ofS_length]
        have e1 : (ofL (ofS (fun i => (-(co rs i)).fdiv (g0 * h0 ^ δ)) rs.length)).c (rs.length - 1) = (-hh).c (rs.length - 1) := by rw [enew]
        rw [ofL_c, neg_c] at e1
        rw [e1]
        have e2 : (ofL rs).c (rs.length - 1) = (Po.K (g0 * h0 ^ δ) * hh).c (rs.length - 1) := by rw [ehh]
        rw [ofL_c, Kmul_c] at e2
        have e3 := hrem.tr.last hrn
        rw [e2] at e3
        intro z
        have : hh.c (rs.length - 1) = 0 := by lia
        rw [this] at e3
        exact e3 (by simp)
      have bw : Ab (3 ^ (k + δ) * 106 - 2) (ofS (fun i => (-(co rs i)).fdiv (g0 * h0 ^ δ)) rs.length) := fun x hx => by
        obtain ⟨i, hi, rfl⟩ := List.mem_map.mp hx
        have h6 : Bd (3 ^ (k + δ) * 106 - 2) (co rs i) := (hbr.co i).mono p3a
        refine h6.of_le ?_
        have := fdiv_le (-(co rs i)) (g0 * h0 ^ δ)
        rw [Int.natAbs_neg] at this; exact this
      have lw : (ofS (fun i => (-(co rs i)).fdiv (g0 * h0 ^ δ)) rs.length).length = rs.length := ofS_length _ _
      have eqw : Po.K (ab ((ofL vs).c (vs.length - 1)) ^ (us.length - 1 - (vs.length - 1) + 1)) * ofL us = qq * ofL vs + Po.K (-(g0 * h0 ^ (us.length - 1 - (vs.length - 1)))) * ofL (ofS (fun i => (-(co rs i)).fdiv (g0 * h0 ^ δ)) rs.length) := by
        rw [eq1, dd, enew, ehh, Po.K_neg]; grind
      generalize ofS (fun i => (-(co rs i)).fdiv (g0 * h0 ^ δ)) rs.length = ws at h5 tw bw lw eqw
      have hwn : ws ≠ [] := List.length_pos_iff.mp (by lia)
      walk_at "sf"
      refine ⟨pc, _, _, rfl, rfl, hc5, ?_, ?_⟩
      · rw [List.length_map]
        have e1 := i5.len
        have e2 : (hs ++ [us, vs]).length ≤ 200 := by rw [List.length_append]; simp; lia
        exact Nat.lt_of_lt_of_le (by lia : (has ++ [pu, pv]).length < 1000) (small4 (Nat.le_refl _))
      have hasn : has ++ [pu, pv] ≠ [] := by simp
      have keep : ∀ (a : Addr) (p : List Int), IL H5 a p → IL (upd H5 pc (.lst ((has ++ [pu, pv]).map V.ref ++ [V.ref D2]))) a p := fun a p z => by
        show upd H5 pc _ a = _
        rw [upd_ne (ne_refs hc5 hasn z)]; exact z
      have s6 : Same H (upd H5 pc (.lst ((has ++ [pu, pv]).map V.ref ++ [V.ref D2]))) := fun c o z => by
        rw [upd_ne (ne_of_none z hpcn)]
        exact s5 _ _ z
      have hc6 : upd H5 pc (.lst ((has ++ [pu, pv]).map V.ref ++ [V.ref D2])) pc = some (.lst (((has ++ [pu]) ++ [pv, D2]).map V.ref)) := by
        rw [upd_same]; simp
      have i6 : ILs (upd H5 pc (.lst ((has ++ [pu, pv]).map V.ref ++ [V.ref D2]))) ((has ++ [pu]) ++ [pv, D2]) ((hs ++ [us]) ++ [vs, ws]) := by
        have z := (i5.map keep).snoc (keep _ _ h5)
        simpa using z
      have hv6 := keep _ _ (s35 _ _ hv)
      have hw6 := keep _ _ h5
      generalize upd H5 pc (.lst ((has ++ [pu, pv]).map V.ref ++ [V.ref D2])) = H6 at s6 hc6 i6 hv6 hw6 ⊢
      walk_at "sf"
      refine r_ixL (SqL.of hv6) (il_last hvn) ?_
      walk_at "sf"
      refine ⟨_, rfl, ?_⟩
      have eab : (if co vs (vs.length - 1) < 0 then -co vs (vs.length - 1) else co vs (vs.length - 1)) = ab (co vs (vs.length - 1)) := by unfold ab; split <;> lia
      rw [eab]
      have bl : Bd (3 ^ k * 106 - 2) (ab (co vs (vs.length - 1))) := by
        have := bv'.co (vs.length - 1)
        unfold Bd at *
        unfold ab; lia
      have hsc := stg.scale
      rw [dd, elead] at hsc
      walk_at "sf"
      have hcm2 : (3 ^ k * 106 - 2) * δ ≤ 3 ^ k * 106 * δ := Nat.mul_le_mul_right _ (by lia)
      refine ⟨ab (co vs (vs.length - 1)), δ, 3 ^ k * 106 - 2, rfl, ⟨bl, by lia, by lia, by lia⟩, ?_⟩
      walk_at "sf"
      have ed1 : (δ : Int) - 1 = ((δ - 1 : Nat) : Int) := by lia
      have hcm3 : 3 ^ k * 106 * (δ - 1) ≤ 3 ^ k * 106 * δ := Nat.mul_le_mul_left _ (by lia)
      refine ⟨h0, δ - 1, 3 ^ k * 106, by rw [ed1]; rfl, ⟨bh, by lia, by lia, by lia⟩, ?_⟩
      have hne : h0 ^ (δ - 1) ≠ 0 := Int.ne_of_gt (pow_pos' stg.h0p _)
      refine r_i hne ?_
      have eh1 := Int.fdiv_mul_cancel hsc
      have hlδ := Int.ne_of_gt (pow_pos' hl δ)
      generalize (ab (co vs (vs.length - 1)) ^ δ).fdiv (h0 ^ (δ - 1)) = h1 at eh1 ⊢
      have bh1 : Bd (3 ^ (k + δ) * 106) h1 := by
        have := (Bd.pow bl δ).of_dvd ⟨h0 ^ (δ - 1), eh1.symm⟩ hlδ
        refine this.mono ?_
        have : (3 ^ k * 106 - 2) * δ + 2 * δ = 3 ^ k * 106 * δ := by
          rw [Nat.sub_mul]
          have : 2 * δ ≤ 3 ^ k * 106 * δ := Nat.mul_le_mul_right _ (by lia)
          lia
        lia
      have stg2 : Stg (ofL xs) (ofL (derL xs)) (ofL vs) (ofL ws) (n' + 1) n' (vs.length - 1) (ws.length - 1) (ab (co vs (vs.length - 1))) h1 := by
        refine stg.next eqw (by rw [dd]; exact hq) (by rw [len_ofL tw]; lia) (by lia) ?_
        rw [dd, elead]; exact eh1
      have nsg : ∀ x : Re, (at' x (ofL vs) = 0 → sgR (at' x (ofL us)) * sgR (at' x (ofL ws)) < 0) ∧ ¬ (at' x (ofL vs) = 0 ∧ at' x (ofL ws) = 0) := fun x => by
        rw [dd] at eqw
        exact next_sign (pow_pos' hl _) hβ eqw (nz x)
      walk_at "sf"
      refine ⟨ws.length, by lia, hs ++ [us], vs, ws, has ++ [pu], pv, D2, _, h1, k + δ, _, _, _, _, rfl, rfl, s6, hc6, i6, ?_, tv, tw, hvn, hwn, hv6, hw6, by lia, by lia, stg2, fun x => ?_, fun x => (nsg x).2, fun d d1 d2 => ?_, ?_, bw, ?_, bh1, ?_, ?_⟩
      · obtain ⟨rest, er⟩ := hsh
        refine ⟨rest ++ [ws], ?_⟩
        have e1 : hs ++ [us] ++ [vs, ws] = (hs ++ [us, vs]) ++ [ws] := by simp
        rw [e1, er]; rfl
      · have t1 := trip x
        have e1 : (hs ++ [us, vs]).map ofL = hs.map ofL ++ [ofL us, ofL vs] := by simp
        have e2 : (hs ++ [us] ++ [vs, ws]).map ofL = hs.map ofL ++ [ofL us, ofL vs, ofL ws] := by simp
        rw [e1] at t1
        rw [e2]
        exact Trip.snoc (nsg x).1 _ t1
      · refine ic d (Po.D.unK (Int.ne_of_gt (pow_pos' hl (δ + 1))) ?_) d1
        have eqw2 := eqw
        rw [dd, elead] at eqw2
        rw [eqw2]
        exact (d1.mulL _).add (d2.mulL _)
      · exact bv'.mono (by lia)
      · exact bl.mono (by lia)
      · intro p hp
        have e1 : hs ++ [us] ++ [vs, ws] = (hs ++ [us, vs]) ++ [ws] := by simp
        rw [e1] at hp
        rcases List.mem_append.mp hp with z | z
        · exact few p z
        · rw [List.mem_singleton.mp z]; exact ⟨by lia, bw.mono (by lia)⟩
      · rw [List.length_append]; simp; lia
    · have hv1 : vs.length = 1 := by
        have : ¬ (1 : Int) < (vs.length : Int) := by simpa using cc
        lia
      walk_at "sf"
      refine q pc _ _ H' s3 hc3 i3 ⟨hsh, fun _ x => ?_, fun h1 => by lia, few, by rw [List.length_append]; show hs.length + 2 ≤ 60; lia⟩
      have e1 : (hs ++ [us, vs]).map ofL = (hs.map ofL ++ [ofL us]) ++ [ofL vs] := by simp
      have t1 := trip x
      rw [e1] at t1 ⊢
      refine Trip.chn ?_ _ t1
      have ek := of_len_one (f := ofL vs) (by rw [len_ofL tv]; lia)
      have hne : (ofL vs).c 0 ≠ 0 := fun z => ofL_ne tv hvn (by rw [ek, z, Po.K_zero])
      rw [ek, at_K]
      intro z
      have z2 : Re.q (((ofL vs).c 0 : Int) : Rat) = Re.q 0 := z
      have z3 : (((ofL vs).c 0 : Int) : Rat) = ((0 : Int) : Rat) := Re.q_inj z2
      exact hne (Rat.intCast_inj.mp z3)
  · have hx1 : xs.length = 1 := by have := List.length_pos_iff.mpr hxn; lia
    have hdn : derL xs = [] := List.length_eq_zero_iff.mp (by lia)
    rw [hdn] at i2
    refine while_go (fun m σ H' => σ = [some (.ref a), some (.ref pc), some (.int 1), some (.int 1), none, none, none, none] ∧ H' = H2) ⟨0, rfl, rfl⟩ ?_
    rintro m σ H' ⟨rfl, rfl⟩
    walk_at "sf"
    refine r_ixL (SqL.of hc2) (refs_last (as := [])) ?_
    refine ⟨p1, _, rfl, .inl (SqL.of i2.2.1), ?_⟩
    walk_at "sf"
    rw [if_neg (by decide)]
    walk_at "sf"
    refine q pc _ _ H' s2 hc2 i2 ⟨⟨[], by rw [hdn]; rfl⟩, fun h => absurd h hx2, fun _ => rfl, fun p hp => ?_, show 2 ≤ 60 by decide⟩
    rcases List.mem_cons.mp hp with z | z
    · rw [z]; exact ⟨lx, bx.mono (by lia)⟩
    · rw [List.mem_singleton.mp z]; exact ⟨by simp, fun x hx => nomatch hx⟩
end
end K16
namespace K16
open PySem PyProof.Rows L2 SF SF.Po
noncomputable def sgl (t u : Int) (ps : List (List Int)) : List Int := ps.map fun p => sg (hv t u p)
theorem cg_shift (b : Int) : ∀ (l : List Int) (s : Int), cg b (l ++ [s]) = cg b l + (if s * (l.foldl (fun b s => if s ≠ 0 then s else b) b) < 0 then 1 else 0)
  | [], s => by
    show (if s * b < 0 then 1 else 0) + 0 = 0 + _
    simp
  | x :: l, s => by
    show (if x * b < 0 then 1 else 0) + cg (if x ≠ 0 then x else b) (l ++ [s]) = (if x * b < 0 then 1 else 0) + cg (if x ≠ 0 then x else b) l + _
    rw [cg_shift _ l s, List.foldl_cons]; lia
noncomputable def lastS (l : List Int) : Int := l.foldl (fun b s => if s ≠ 0 then s else b) 0
theorem lastS_snoc (l : List Int) (s : Int) : lastS (l ++ [s]) = if s ≠ 0 then s else lastS l := by
  unfold lastS
  rw [List.foldl_append]; rfl
noncomputable def spChgIn : Sp := fun vs H Q _ => ∃ (a : Addr) (xs : List Int) (b : Nat), vs = [.ref a] ∧ IL H a xs ∧ (Ab b xs ∧ b ≤ Big ∧ xs.length ≤ 100) ∧ Q (.int ((cg 0 (xs.map sg) : Nat) : Int)) H
noncomputable def spChg : Sp := fun vs H Q _ => ∃ (c g : Addr) (as : List Addr) (ps : List (List Int)) (t u : Int) (p : Nat), vs = [.ref c, .ref g] ∧ H c = some (.lst (as.map V.ref)) ∧ ILs H as ps ∧ H g = some (.tup [.int t, .int u]) ∧
  ((∀ q ∈ ps, q.length ≤ 13 ∧ Ab BM q) ∧ ps.length ≤ 60 ∧ Bd p t ∧ Bd p u ∧ p ≤ 30000) ∧ ∀ H', Same H H' → Q (.int ((cg 0 (sgl t u ps) : Nat) : Int)) H'
theorem comp_listP {K : PySem.W.Frag} {own : List Str} {fr : List Nat} {g : TG} {te : TE} {σ : L2.St} {H1 : Hp} {Q : VK} {a : Addr} {xs : List V} (hS : SqL K H1 a xs) (Pv : List V → Prop) (hz : xs.length ≤ sizeLine) (p0 : Pv [])
    (hs : ∀ (i : Nat) (x : V) (r : L2.St) (ys : List V) (H2 : Hp), xs[i]? = some x → r.length = own.length → ys.length = i → Pv ys → Same H1 H2 → ∀ Z : V → L2.St → Hp → Prop, (∀ y σ4 H5, Same H2 H5 → Pv (ys ++ [y]) → (∃ r' : L2.St, r'.length = own.length ∧ σ4 = r' ++ cap fr σ) → Z y σ4 H5) → g x (r ++ cap fr σ) H2 fun σ4 H4 => te σ4 H4 fun y H5 => Z y σ4 H5)
    (hq : ∀ D H2 ys, H1 D = none → Same H1 H2 → H2 D = some (.lst ys) → ys.length = xs.length → Pv ys → Q (.ref D) H2) : CompGo (Itl K a) own fr σ g te H1 Q := comp_list hS Pv hz p0 hs hq
theorem sg_bd (x : Int) : Bd 2 (sg x) := by unfold sg Bd; split <;> (try split) <;> decide
theorem last_bd : ∀ (l : List Int), (∀ x ∈ l, Bd 2 x) → Bd 2 (lastS l) := by
  intro l hl
  unfold lastS
  have key : ∀ (l : List Int) (b : Int), Bd 2 b → (∀ x ∈ l, Bd 2 x) → Bd 2 (l.foldl (fun b s => if s ≠ 0 then s else b) b) := by
    intro l
    induction l with
    | nil => exact fun b hb _ => hb
    | cons x l ih =>
      intro b hb h
      rw [List.foldl_cons]
      refine ih _ ?_ fun y hy => h y (List.mem_cons_of_mem _ hy)
      split
      · exact h x List.mem_cons_self
      · exact hb
  exact key l 0 (by show (0 : Int).natAbs < 2 ^ 2; decide) hl
section
variable {P : Program} {w : World} {K : PySem.W.Frag} {mg : Str → Option Value} {base : Heap}
theorem sg_sg (x : Int) : sg (sg x) = sg x := by
  rcases Int.lt_trichotomy x 0 with h | h | h
  · have : sg x = -1 := if_pos h
    rw [this]; rfl
  · rw [h]; rfl
  · have : sg x = 1 := by unfold sg; rw [if_neg (by lia), if_pos h]
    rw [this]; rfl
theorem sg_neg_iff (x y : Int) : x * y < 0 ↔ sg x * y < 0 := by
  have hp := fun a b : Int => Int.mul_neg_of_pos_of_neg (a := a) (b := b)
  unfold sg
  split
  · rename_i h
    constructor
    · intro z
      have : 0 < y := by
        rcases Int.lt_trichotomy y 0 with h' | h' | h'
        · have := Int.mul_pos_of_neg_of_neg h h'; lia
        · rw [h', Int.mul_zero] at z; lia
        · exact h'
      lia
    · intro z
      exact Int.mul_neg_of_neg_of_pos h (by lia)
  · split
    · rename_i h
      constructor
      · intro z
        have : y < 0 := by
          rcases Int.lt_trichotomy y 0 with h' | h' | h'
          · exact h'
          · rw [h', Int.mul_zero] at z; lia
          · have := Int.mul_pos h h'; lia
        lia
      · intro z
        exact Int.mul_neg_of_pos_of_neg h (by lia)
    · have : x = 0 := by lia
      subst this
      simp
theorem sg_ne {x : Int} : sg x ≠ 0 ↔ x ≠ 0 := by
  unfold sg; split <;> (try split) <;> constructor <;> intro h <;> lia
theorem ok_changes_in (g_sign : FnB P w K mg base 1 "sign" ["number"] spSign) (D : DefB K mg "changes_in" s_changes_in ["row"]) : FnB P w K mg base 2 "changes_in" ["row"] spChgIn := by
  refine D.ok sc_changes_in (fun vs H Q E h => ?_) (fun f cdv A outer s H vs Q E hr h => ?_)
  · obtain ⟨a, xs, b, rfl, _⟩ := h
    rfl
  obtain ⟨a, xs, b, rfl, ha, ⟨bx, hb, hl⟩, q⟩ := h
  have hBig : Big = 60000000 := rfl
  refine ⟨_, (pss_cons (ps_set (i := 1) sc_changes_in.nd rfl (Or.inl rfl) pe_int)
    (pss_cons (ps_set (i := 2) sc_changes_in.nd rfl (Or.inl rfl) pe_int)
    (pss_cons (ps_for PassesOwn.never rfl (pi_list (pv 0)) (pg_name (i := 3) sc_changes_in.nd rfl (Or.inl rfl))
    (pss_cons (ps_if (pt_cmpR op_lt (pe_op op_mulL (pv 3) (pv 2)) pe_int (nomark _))
    (pss_one (ps_set (i := 1) sc_changes_in.nd rfl (Or.inl rfl) (pe_op op_add (pv 1) pe_int)))
    pss_nil)
    (pss_one (ps_if (pt_cmpR op_ne (pv 3) pe_int (nomark _))
    (pss_one (ps_set (i := 2) sc_changes_in.nd rfl (Or.inl rfl) (pe_fn g_sign hr (pa_cons (pv 3) pa_nil))))
    pss_nil))))
    (pss_one (ps_ret (pv 1)))))), ?_⟩
  walk_at "sf"
  refine ⟨a, rfl, ⟨_, SqL.of ha⟩, ?_⟩
  refine for_list (xs := xs.map V.int) (fun i σ H' => (∃ r1, σ = [some (.ref a), some (.int ((cg 0 ((xs.take i).map sg) : Nat) : Int)), some (.int (lastS ((xs.take i).map sg))), r1]) ∧ H' = H) ⟨⟨_, rfl⟩, rfl⟩ (fun i σ H' _ z => by rw [z.2]; exact SqL.of ha) ?_ ?_
  · rintro i x σ H' hx ⟨⟨r1, rfl⟩, rfl⟩
    obtain ⟨hi, rfl⟩ := il_item hx
    have exi : xs[i]? = some (co xs i) := by
      rw [List.getElem?_eq_getElem hi, co_lt hi]
    have et : (xs.take (i + 1)).map sg = (xs.take i).map sg ++ [sg (co xs i)] := by
      rw [List.take_add_one, exi, List.map_append]; rfl
    have bl : Bd 2 (lastS ((xs.take i).map sg)) := last_bd _ fun y hy => by
      obtain ⟨z, _, rfl⟩ := List.mem_map.mp hy
      exact sg_bd _
    have ec : cg 0 ((xs.take (i + 1)).map sg) = cg 0 ((xs.take i).map sg) + (if sg (co xs i) * lastS ((xs.take i).map sg) < 0 then 1 else 0) := by rw [et]; exact cg_shift 0 _ _
    have el : lastS ((xs.take (i + 1)).map sg) = if sg (co xs i) ≠ 0 then sg (co xs i) else lastS ((xs.take i).map sg) := by rw [et]; exact lastS_snoc _ _
    walk_at "sf"
    refine r_i (mulOk (bx.co i) bl (by lia)) ?_
    walk_at "sf"
    generalize lastS ((xs.take i).map sg) = lb at bl ec el ⊢
    generalize cg 0 ((xs.take i).map sg) = cn at ec ⊢
    refine ite2 (fun c1 => ?_) (fun c1 => ?_)
    case' refine_1 =>
      have h1 : co xs i * lb < 0 := by simpa using c1
      rw [if_pos ((sg_neg_iff _ _).mp h1)] at ec
    case' refine_2 =>
      have h1 : ¬ co xs i * lb < 0 := by simpa using c1
      rw [if_neg (fun z => h1 ((sg_neg_iff _ _).mpr z))] at ec
    all_goals
      walk_at "sf"
      refine ite2 (fun c2 => ?_) (fun c2 => ?_)
      · have h2 : co xs i ≠ 0 := by simpa using c2
        rw [if_pos (sg_ne.mpr h2)] at el
        walk_at "sf"
        refine ⟨_, rfl, ?_⟩
        walk_at "sf"
        refine ⟨⟨some (.int (co xs i)), ?_⟩, rfl⟩
        rw [ec, el]; rfl
      · have h2 : ¬ co xs i ≠ 0 := by simpa using c2
        rw [if_neg (fun z => h2 (sg_ne.mp z))] at el
        walk_at "sf"
        refine ⟨⟨some (.int (co xs i)), ?_⟩, rfl⟩
        rw [ec, el]; rfl
  · rintro σ H' ⟨⟨r1, rfl⟩, rfl⟩
    have e : xs.take (xs.map V.int).length = xs := by rw [List.length_map, List.take_length]
    rw [e]
    walk_at "sf"
    exact q
theorem ok_changes_at (g_changes_in : FnB P w K mg base 2 "changes_in" ["row"] spChgIn) (g_sign_at : FnB P w K mg base 2 "sign_at" ["poly", "given"] spAt) (D : DefB K mg "changes_at" s_changes_at ["chain", "given"]) : FnB P w K mg base 3 "changes_at" ["chain", "given"] spChg := by
  refine D.ok sc_changes_at (fun vs H Q E h => ?_) (fun f cdv A outer s H vs Q E hr h => ?_)
  · obtain ⟨c, g, as, ps, t, u, p, rfl, _⟩ := h
    rfl
  obtain ⟨c, g, as, ps, t, u, p, rfl, hc, hi, hg, ⟨few, hn, bt, bu, hp⟩, q⟩ := h
  have hBig : Big = 60000000 := rfl
  have hBM : BM = 56332746 := rfl
  have hlen := hi.len
  refine ⟨_, (pss_one (ps_ret (pe_fn g_changes_in hr (pa_cons (pe_comp rfl rfl (compOk (own := ["poly"]) (fr := [1]) (fs := ["given"]) (by with_unfolding_all rfl) rfl (by decide +kernel) (by decide +kernel) (by exact ⟨rfl, trivial⟩) (by with_unfolding_all rfl) (by exact ⟨⟨rfl, rfl, rfl, Or.inl rfl⟩, trivial⟩)) (pi_list (pv 0)) (fun _ _ _ _ _ => (pg_name (i := 0) (show List.Nodup (["poly", "given"] : List Str) by decide +kernel) rfl (Or.inl rfl) (Or.inr rfl))) (fun _ _ _ _ _ => (pe_fn g_sign_at hr (pa_cons (pv 0) (pa_cons (pv 1) pa_nil))))) pa_nil)))), ?_⟩
  walk_at "sf"
  refine r_comp1 (H1 := H) (Itl K c) (fun R hR => ?_) (comp_listP (xs := as.map V.ref) (SqL.of hc) (fun ys => ys = (sgl t u (ps.take ys.length)).map V.int) (small4 (by rw [List.length_map]; lia)) rfl ?_ ?_)
  · walk_at "sf"
    exact ⟨c, rfl, ⟨_, SqL.of hc⟩, hR⟩
  · intro i x r ys H2 hx hr2 hl2 hys s12 Z hZ
    rw [List.getElem?_map] at hx
    cases ea : as[i]? with
    | none => rw [ea] at hx; cases hx
    | some a =>
      rw [ea] at hx
      have hx' : V.ref a = x := by simpa using hx
      subst hx'
      obtain ⟨xs, exs, hxs⟩ := (hi.map fun a p z => s12 _ _ z).get i ea
      obtain ⟨f1, f2⟩ := few xs (List.mem_of_getElem? exs)
      obtain ⟨x0, rfl⟩ := len1 hr2
      walk_at "sf"
      refine ⟨a, g, xs, t, u, _, p, rfl, hxs, s12 _ _ hg, ⟨by lia, f2, bt, bu, by lia⟩, ?_⟩
      walk_at "sf"
      refine hZ _ _ _ (Same.refl _) ?_ ⟨[_], rfl, rfl⟩
      have el : (ys ++ [V.int (sg (hv t u xs))]).length = ys.length + 1 := by simp
      unfold sgl at hys ⊢
      rw [el, List.take_add_one, hl2, exs, List.map_append, List.map_append, ← hl2, ← hys]; rfl
  intro D2 H2 ys hD2 s2 hD22 hyl hys
  have hE : ys = (sgl t u ps).map V.int := by
    rw [hys, hyl, List.length_map, hlen, List.take_length]
  walk_at "sf"
  have lsg : (sgl t u ps).length = ps.length := List.length_map _
  refine ⟨D2, sgl t u ps, 2, rfl, by show H2 D2 = _; rw [hD22, hE], ⟨?_, by lia, by lia⟩, ?_⟩
  · intro y hy
    obtain ⟨z, _, rfl⟩ := List.mem_map.mp hy
    exact sg_bd _
  have e2 : (sgl t u ps).map sg = sgl t u ps := by
    unfold sgl
    rw [List.map_map]
    exact List.map_congr_left fun z _ => sg_sg _
  rw [e2]
  walk_at "sf"
  exact q H2 s2
end
end K16
namespace K16
open PySem PyProof.Rows L2 SF SF.Po
noncomputable def spCommon : Sp := fun vs H Q _ => ∃ a b : Int, vs = [.int a, .int b] ∧ Bd 8000 a ∧ Bd 8000 b ∧ Q (.int ((Int.gcd a b : Nat) : Int)) H
noncomputable def spRatL : Sp := fun vs H Q _ => ∃ (a b : Int) (n : Nat), vs = [.int a, .int b] ∧ Bd n a ∧ Bd n b ∧ n ≤ 8000 ∧ 0 < b ∧ ∀ (p : Addr) (t u : Int), H p = none → Bd n t → Bd n u → 0 < u → Int.gcd t u = 1 → t * b = a * u → Q (.ref p) (upd H p (.tup [.int t, .int u]))
noncomputable def spOrdL : Sp := fun vs H Q _ => ∃ (g h : Addr) (t u t' u' : Int), vs = [.ref g, .ref h] ∧ H g = some (.tup [.int t, .int u]) ∧ H h = some (.tup [.int t', .int u']) ∧ (Bd 100000 t ∧ Bd 100000 u ∧ Bd 100000 t' ∧ Bd 100000 u') ∧ Q (.int (sg (t * u' - t' * u))) H
noncomputable def spAtL : Sp := fun vs H Q _ => ∃ (a g : Addr) (xs : List Int) (t u : Int) (p : Nat), vs = [.ref a, .ref g] ∧ IL H a xs ∧ H g = some (.tup [.int t, .int u]) ∧ (xs.length ≤ 100 ∧ Ab 100 xs ∧ Bd p t ∧ Bd p u ∧ p ≤ 100000) ∧ Q (.int (sg (hv t u xs))) H
noncomputable def spFactors (K : PySem.W.Frag) : Sp := fun vs H Q _ => ∃ (a : Addr) (ns : List Int) (k : Int) (m : Nat), vs = [.ref a, .int k, .int (m : Int)] ∧ SqL K H a (ns.map V.int) ∧ ns.length ≤ 63 ∧ 0 ≤ k ∧ 1 ≤ m ∧ m ≤ 4 ∧
  ∀ (c : Addr) (as : List Addr) (gs : List (List Int)) (H' : Hp), Same H H' → H' c = some (.lst (as.map V.ref)) → ILs H' as gs → (∀ g ∈ gs, Fac g ∧ Ab 8 g) → gs.Nodup → gs ≠ [] → gs.length ≤ 4 → Q (.ref c) H'
theorem fdiv_bd {a g : Int} {n : Nat} (hd : g ∣ a) (hg : g ≠ 0) (b : Bd n a) : Bd n (a.fdiv g) := by
  have e := fdiv_mul hd
  refine b.of_le ?_
  have h1 : a.natAbs = (a.fdiv g).natAbs * g.natAbs := by rw [← Int.natAbs_mul, e]
  rw [h1]
  exact Nat.le_mul_of_pos_right _ (Int.natAbs_pos.mpr hg)
theorem pickM {L : List Int} {i : Int} (h0 : 0 ≤ i) (h1 : i < (L.length : Int)) : ∃ n ∈ L, atI (L.map V.int) i = some (.int n) := by
  obtain ⟨k, rfl⟩ := Int.eq_ofNat_of_zero_le h0
  have hk : k < L.length := by lia
  exact ⟨co L k, by rw [co_lt hk]; exact List.getElem_mem hk, il_at hk⟩
theorem sg_ints (z : Int) : sg z = (if decide (0 < z) = true then (1 : Int) else 0) - (if decide (z < 0) = true then 1 else 0) := by
  unfold sg
  simp only [decide_eq_true_eq]
  split <;> split <;> first | lia | (split <;> lia)
theorem hfac_bd {t u x : Int} {k p : Nat} (bt : Bd p t) (bu : Bd p u) (bx : Bd 100 x) : ∀ j : Nat, Bd (p * j + 100) (hfac t u x k j)
  | 0 => by rw [hfac_zero, Nat.mul_zero, Nat.zero_add]; exact bx
  | j + 1 => by
    rw [hfac_succ]
    have ih := hfac_bd (k := k) bt bu bx j
    have : Bd p (if k ≤ j then u else t) := by split <;> assumption
    exact (ih.mul this).mono (by rw [Nat.mul_succ]; lia)
theorem pick2 {x y : V} {b : Bool} : atI [x, y] (if b = true then 1 else 0) = some (if b = true then y else x) := by
  cases b <;> rfl
theorem nodup_snoc {gs : List (List Int)} {g : List Int} (h : gs.Nodup) (hg : g ∉ gs) : (gs ++ [g]).Nodup := by
  rw [List.nodup_append]
  refine ⟨h, by simp, fun x hx y hy z => ?_⟩
  rw [List.mem_singleton.mp hy] at z
  exact hg (by rw [← z]; exact hx)
section
variable {P : Program} {w : World} {K : PySem.W.Frag} {mg : Str → Option Value} {base : Heap}
theorem ok_law_common (T : Nm mg) (D : DefB K mg "_law_common" s_law_common ["_law_one", "_law_other"]) : FnB P w K mg base 1 "_law_common" ["_law_one", "_law_other"] spCommon := by
  refine D.ok sc_law_common (fun vs H Q E h => ?_) (fun f cdv A outer s H vs Q E hr h => ?_)
  · obtain ⟨a, b, rfl, _⟩ := h
    rfl
  obtain ⟨a, b, rfl, ha, hb, q⟩ := h
  refine ⟨_, (pss_cons (ps_set (i := 0) sc_law_common.nd rfl (Or.inl rfl) (pe_callB call_abs rfl T.n_abs boot_abs (pa_cons (pv 0) pa_nil)))
    (pss_cons (ps_set (i := 1) sc_law_common.nd rfl (Or.inl rfl) (pe_callB call_abs rfl T.n_abs boot_abs (pa_cons (pv 1) pa_nil)))
    (pss_cons (ps_while PassesOwn.never (pt_cmpR op_ne (pv 1) pe_int (nomark _))
    (pss_cons (ps_set (i := 2) sc_law_common.nd rfl (Or.inl rfl) (pe_op op_sub (pv 0) (pe_op op_mulL (pe_op op_fdivL (pv 0) (pv 1)) (pv 1))))
    (pss_cons (ps_set (i := 0) sc_law_common.nd rfl (Or.inl rfl) (pv 1))
    (pss_one (ps_set (i := 1) sc_law_common.nd rfl (Or.inl rfl) (pv 2))))))
    (pss_one (ps_ret (pv 0)))))), ?_⟩
  walk_at "sf"
  refine ⟨_, rfl, ?_⟩
  walk_at "sf"
  refine ⟨_, rfl, ?_⟩
  walk_at "sf"
  refine while_go (fun m σ H' => ∃ (g l : Int) (r : Option V), m = l.toNat ∧ σ = [some (.int g), some (.int l), r] ∧ H' = H ∧ 0 ≤ g ∧ 0 ≤ l ∧ Bd 8000 g ∧ Bd 8000 l ∧ Int.gcd g l = Int.gcd a b)
    ⟨_, _, _, _, rfl, rfl, rfl, by split <;> lia, by split <;> lia, ha.of_le (by split <;> lia), hb.of_le (by split <;> lia), gcd_abs⟩ ?_
  rintro m σ H' ⟨g, l, r, rfl, rfl, rfl, hg, hl, hgz, hlz, e⟩
  walk_at "sf"
  refine ite2 (fun c => ?_) (fun c => ?_)
  · have hl0 : l ≠ 0 := by simpa using c
    have hp : 0 < l := by lia
    refine ⟨_, fun σ' H' h => h, ?_⟩
    walk_at "sf"
    refine r_i ⟨hl0, hlz.log2 (by decide)⟩ ?_
    walk_at "sf"
    have h1 := Int.emod_nonneg g hl0
    have h2 := Int.emod_lt_of_pos g hp
    have ed : g.fdiv l = g / l := fdiv_pos hp
    have hdz : Bd 8000 (g / l) := hgz.of_le (by
      have h3 := Int.ediv_nonneg hg hl
      have h4 := Int.ediv_le_self l hg
      lia)
    rw [ed]
    refine r_i (mulOk hdz hlz (by decide)) ?_
    walk_at "sf"
    have em : g - g / l * l = g % l := by
      have := Int.emod_add_mul_ediv g l
      rw [Int.mul_comm] at this
      lia
    rw [em]
    exact ⟨_, by lia, _, _, _, rfl, rfl, rfl, hl, h1, hlz, hlz.of_le (by lia), by rw [gcd_turn hg hp, e]⟩
  · have hl0 : l = 0 := by simpa using c
    subst hl0
    walk_at "sf"
    have e' : ((Int.gcd a b : Nat) : Int) = g := by rw [← e]; exact gcd_end hg
    rw [e'] at q
    exact q
theorem ok_law_ratio (g_law_common : FnB P w K mg base 1 "_law_common" ["_law_one", "_law_other"] spCommon) (D : DefB K mg "_law_ratio" s_law_ratio ["_law_top", "_law_under"]) : FnB P w K mg base 2 "_law_ratio" ["_law_top", "_law_under"] spRatL := by
  refine D.ok sc_law_ratio (fun vs H Q E h => ?_) (fun f cdv A outer s H vs Q E hr h => ?_)
  · obtain ⟨a, b, n, rfl, _⟩ := h
    rfl
  obtain ⟨a, b, n, rfl, ha, hb, hn, hb0, q⟩ := h
  have hg : 0 < Int.gcd a b := Int.gcd_pos_of_ne_zero_right a (by lia)
  have hg0 : ((Int.gcd a b : Nat) : Int) ≠ 0 := by lia
  have bg : Bd n ((Int.gcd a b : Nat) : Int) := hb.of_dvd (Int.gcd_dvd_right ..) (by lia)
  refine ⟨_, (pss_cons (ps_set (i := 2) sc_law_ratio.nd rfl (Or.inl rfl) (pe_fn g_law_common hr (pa_cons (pv 0) (pa_cons (pv 1) pa_nil))))
    (pss_one (ps_ret (pe_tup (pa_cons (pe_op op_fdivL (pv 0) (pv 2)) (pa_cons (pe_op op_fdivL (pv 1) (pv 2)) pa_nil)))))), ?_⟩
  walk_at "sf"
  refine ⟨_, _, rfl, ha.mono (by lia), hb.mono (by lia), ?_⟩
  walk_at "sf"
  refine r_i ⟨hg0, (bg.mono (by lia : n ≤ 9000)).log2 (by decide)⟩ ?_
  walk_at "sf"
  refine r_i ⟨hg0, (bg.mono (by lia : n ≤ 9000)).log2 (by decide)⟩ ?_
  walk_at "sf"
  intro p hp
  have e1 := fdiv_mul (Int.gcd_dvd_left (a := a) (b := b))
  have e2 := fdiv_mul (Int.gcd_dvd_right (a := a) (b := b))
  refine q p _ _ hp (fdiv_bd (Int.gcd_dvd_left ..) hg0 ha) (fdiv_bd (Int.gcd_dvd_right ..) hg0 hb) ?_ ?_ ?_
  · have hg1 : (0 : Int) < ((Int.gcd a b : Nat) : Int) := by lia
    rcases Int.lt_or_le 0 (b.fdiv ((Int.gcd a b : Nat) : Int)) with z | z
    · exact z
    · have := Int.mul_nonpos_of_nonpos_of_nonneg z (Int.le_of_lt hg1)
      lia
  · have h3 : Int.gcd (a.fdiv ((Int.gcd a b : Nat) : Int) * ((Int.gcd a b : Nat) : Int)) (b.fdiv ((Int.gcd a b : Nat) : Int) * ((Int.gcd a b : Nat) : Int)) = Int.gcd (a.fdiv ((Int.gcd a b : Nat) : Int)) (b.fdiv ((Int.gcd a b : Nat) : Int)) * (((Int.gcd a b : Nat) : Int)).natAbs := Int.gcd_mul_right ..
    rw [e1, e2, Int.natAbs_natCast] at h3
    have h4 : 1 * Int.gcd a b = Int.gcd (a.fdiv ((Int.gcd a b : Nat) : Int)) (b.fdiv ((Int.gcd a b : Nat) : Int)) * Int.gcd a b := by lia
    exact (Nat.eq_of_mul_eq_mul_right hg h4).symm
  · generalize a.fdiv ((Int.gcd a b : Nat) : Int) = x at *
    generalize b.fdiv ((Int.gcd a b : Nat) : Int) = y at *
    generalize ((Int.gcd a b : Nat) : Int) = z at *
    rw [← e1, ← e2]; grind
theorem ok_law_order (T : Nm mg) (D : DefB K mg "_law_order" s_law_order ["_law_one", "_law_other"]) : FnB P w K mg base 1 "_law_order" ["_law_one", "_law_other"] spOrdL := by
  refine D.ok sc_law_order (fun vs H Q E h => ?_) (fun f cdv A outer s H vs Q E hr h => ?_)
  · obtain ⟨g, h, t, u, t', u', rfl, _⟩ := h
    rfl
  obtain ⟨g, h, t, u, t', u', rfl, hg, hh, ⟨b1, b2, b3, b4⟩, q⟩ := h
  refine ⟨_, (pss_cons (ps_set (i := 2) sc_law_order.nd rfl (Or.inl rfl) (pe_op op_sub (pe_op op_mulL (pe_ix ix_tup (pv 0) pe_int (fun _ _ => rfl)) (pe_ix ix_tup (pv 1) pe_int (fun _ _ => rfl))) (pe_op op_mulL (pe_ix ix_tup (pv 1) pe_int (fun _ _ => rfl)) (pe_ix ix_tup (pv 0) pe_int (fun _ _ => rfl)))))
    (pss_one (ps_ret (pe_op op_sub (pe_callTy call_int1 rfl T.n_int boot_int (pa_cons (pe_cmpR op_gt (pv 2) pe_int (nomark _)) pa_nil)) (pe_callTy call_int1 rfl T.n_int boot_int (pa_cons (pe_cmpR op_lt (pv 2) pe_int (nomark _)) pa_nil)))))), ?_⟩
  walk_at "sf"
  refine r_ixT (SqT.of hg) rfl ?_
  walk_at "sf"
  refine r_ixT (SqT.of hh) rfl ?_
  refine r_i (mulOk b1 b4 (by lia)) ?_
  walk_at "sf"
  refine r_ixT (SqT.of hh) rfl ?_
  walk_at "sf"
  refine r_ixT (SqT.of hg) rfl ?_
  refine r_i (mulOk b3 b2 (by lia)) ?_
  walk_at "sf"
  refine .inr ⟨_, rfl, ?_⟩
  walk_at "sf"
  refine .inr ⟨_, rfl, ?_⟩
  walk_at "sf"
  rw [sg_ints] at q
  exact q
theorem ok_law_value (T : Nm mg) (D : DefB K mg "_law_value" s_law_value ["_law_poly", "_law_given"]) : FnB P w K mg base 1 "_law_value" ["_law_poly", "_law_given"] spAtL := by
  refine D.ok sc_law_value (fun vs H Q E h => ?_) (fun f cdv A outer s H vs Q E hr h => ?_)
  · obtain ⟨a, g, xs, t, u, p, rfl, _⟩ := h
    rfl
  obtain ⟨a, g, xs, t, u, p, rfl, ha, hg, ⟨hx, bx, bt, bu, hp⟩, q⟩ := h
  have hBig : Big = 60000000 := rfl
  have ex : (xs.map V.int).length = xs.length := List.length_map _
  refine ⟨_, (pss_cons (ps_set (i := 2) sc_law_value.nd rfl (Or.inl rfl) pe_int)
    (pss_cons (ps_for PassesOwn.never rfl (pi_range1 rfl T.n_range (pa_cons (pe_callB call_len_seq rfl T.n_len boot_len (pa_cons (pv 0) pa_nil)) pa_nil)) (pg_name (i := 3) sc_law_value.nd rfl (Or.inl rfl))
    (pss_cons (ps_set (i := 4) sc_law_value.nd rfl (Or.inl rfl) (pe_ix ix_list (pv 0) (pv 3) (fun _ _ => rfl)))
    (pss_cons (ps_for PassesOwn.never rfl (pi_range1 rfl T.n_range (pa_cons (pe_op op_sub (pe_callB call_len_seq rfl T.n_len boot_len (pa_cons (pv 0) pa_nil)) pe_int) pa_nil)) (pg_name (i := 5) sc_law_value.nd rfl (Or.inl rfl))
    (pss_one (ps_set (i := 4) sc_law_value.nd rfl (Or.inl rfl) (pe_op op_mulL (pv 4) (pe_ix ix_tup (pv 1) (pe_callTy call_int1 rfl T.n_int boot_int (pa_cons (pe_cmpR op_ge (pv 5) (pv 3) (nomark _)) pa_nil)) (fun _ _ => rfl))))))
    (pss_one (ps_set (i := 2) sc_law_value.nd rfl (Or.inl rfl) (pe_op op_add (pv 2) (pv 4)))))))
    (pss_one (ps_ret (pe_op op_sub (pe_callTy call_int1 rfl T.n_int boot_int (pa_cons (pe_cmpR op_gt (pv 2) pe_int (nomark _)) pa_nil)) (pe_callTy call_int1 rfl T.n_int boot_int (pa_cons (pe_cmpR op_lt (pv 2) pe_int (nomark _)) pa_nil))))))), ?_⟩
  walk_at "sf"
  refine ⟨a, _, rfl, .inl (SqL.of ha), ?_⟩
  walk_at "sf"
  rw [ex]
  refine ⟨_, rfl, by lia, by lia, ?_⟩
  rw [Int.toNat_natCast]
  refine for_range (fun i σ H' => (∃ r1 r2 r3, σ = [some (.ref a), some (.ref g), some (.int (hpart t u xs i)), r1, r2, r3]) ∧ H' = H) ⟨⟨_, _, _, rfl⟩, rfl⟩ ?_ ?_
  · rintro i σ H' hi ⟨⟨r1, r2, r3, rfl⟩, rfl⟩
    have e0 : (0 : Int) + (i : Int) = (i : Int) := by lia
    rw [e0]
    walk_at "sf"
    refine r_ixL (SqL.of ha) (il_at hi) ?_
    walk_at "sf"
    refine ⟨a, _, rfl, .inl (SqL.of ha), ?_⟩
    walk_at "sf"
    rw [ex]
    refine ⟨_, rfl, by lia, by lia, ?_⟩
    have en : ((xs.length : Int) - 1).toNat = xs.length - 1 := by lia
    rw [en]
    refine for_range (fun j σ H'' => (∃ r3, σ = [some (.ref a), some (.ref g), some (.int (hpart t u xs i)), some (.int (i : Int)), some (.int (hfac t u (co xs i) i j)), r3]) ∧ H'' = H') ⟨⟨_, by rw [hfac_zero]; rfl⟩, rfl⟩ ?_ ?_
    · rintro j σ H'' hj ⟨⟨r3, rfl⟩, rfl⟩
      have e0 : (0 : Int) + (j : Int) = (j : Int) := by lia
      rw [e0]
      walk_at "sf"
      refine .inr ⟨_, rfl, ?_⟩
      refine r_ixT (SqT.of hg) pick2 ?_
      have ev : (if decide ((i : Int) ≤ (j : Int)) = true then V.int u else V.int t) = V.int (if i ≤ j then u else t) := by
        by_cases h : i ≤ j
        · rw [if_pos h, if_pos (by simpa using h)]
        · rw [if_neg h, if_neg (by simpa using h)]
      rw [ev]
      have b2 : Bd p (if i ≤ j then u else t) := by split <;> assumption
      have hpj : p * j ≤ p * 100 := Nat.mul_le_mul_left _ (by lia)
      refine r_i (mulOk (hfac_bd (k := i) bt bu (bx.co i) j) b2 (by lia)) ?_
      walk_at "sf"
      exact ⟨⟨_, by rw [hfac_succ]; rfl⟩, rfl⟩
    · rintro σ H'' ⟨⟨r3, rfl⟩, rfl⟩
      walk_at "sf"
      rw [hfac_full t u xs i hi]
      exact ⟨⟨_, _, _, rfl⟩, rfl⟩
  · rintro σ H' ⟨⟨r1, r2, r3, rfl⟩, rfl⟩
    walk_at "sf"
    refine .inr ⟨_, rfl, ?_⟩
    walk_at "sf"
    refine .inr ⟨_, rfl, ?_⟩
    walk_at "sf"
    rw [hpart_full]
    generalize hv t u xs = z at q
    have e : sg z = (if decide (0 < z) = true then (1 : Int) else 0) - (if decide (z < 0) = true then 1 else 0) := by
      unfold sg
      simp only [decide_eq_true_eq]
      split <;> split <;> first | lia | (split <;> lia)
    rw [e] at q
    exact q
end
end K16
namespace K16
open PySem PyProof.Rows L2 SF SF.Po
theorem ab_two {a b : Int} {n : Nat} (h1 : Bd n a) (h2 : Bd n b) : Ab n [a, b] := fun x hx => by
  rcases List.mem_cons.mp hx with rfl | hx
  · exact h1
  rw [List.mem_singleton.mp hx]; exact h2
theorem ab_three {a b c : Int} {n : Nat} (h1 : Bd n a) (h2 : Bd n b) (h3 : Bd n c) : Ab n [a, b, c] := fun x hx => by
  rcases List.mem_cons.mp hx with rfl | hx
  · exact h1
  exact ab_two h2 h3 x hx
theorem ab_four {a b c d : Int} {n : Nat} (h1 : Bd n a) (h2 : Bd n b) (h3 : Bd n c) (h4 : Bd n d) : Ab n [a, b, c, d] := fun x hx => by
  rcases List.mem_cons.mp hx with rfl | hx
  · exact h1
  exact ab_three h2 h3 h4 x hx
section
variable {P : Program} {w : World} {K : PySem.W.Frag} {mg : Str → Option Value} {base : Heap}
theorem ok_law_factors (T : Nm mg) (g_law_cell : FnB P w K mg base 3 "_law_cell" ["_law_script", "_law_k"] (spCell K)) (g_law_drawn : FnB P w K mg base 3 "_law_drawn" ["_law_cell_here", "_law_k"] spDrawn) (g_law_ratio : FnB P w K mg base 3 "_law_ratio" ["_law_top", "_law_under"] spRatL)
    (D : DefB K mg "_law_factors" s_law_factors ["_law_script", "_law_k", "_law_many_here"]) : FnB P w K mg base 4 "_law_factors" ["_law_script", "_law_k", "_law_many_here"] (spFactors K) := by
  refine D.ok sc_law_factors (fun vs H Q E h => ?_) (fun f cdv A outer s H vs Q E hr h => ?_)
  · obtain ⟨a, ns, k, m, rfl, _⟩ := h
    rfl
  obtain ⟨sa, ns, k, mm, rfl, hS, hl, hk, hm1, hm4, q⟩ := h
  refine' ⟨_, ?term, ?rest⟩
  case' term => refine' (pss_cons (ps_set (i := 3) sc_law_factors.nd rfl (Or.inl rfl) (pe_lst pa_nil))
    (pss_cons (ps_for PassesOwn.never rfl (pi_range1 rfl T.n_range (pa_cons (pv 2) pa_nil)) (pg_name (i := 4) sc_law_factors.nd rfl (Or.inl rfl))
    (pss_cons (ps_set (i := 5) sc_law_factors.nd rfl (Or.inl rfl) (pe_fn g_law_drawn hr (pa_cons (pe_fn g_law_cell hr (pa_cons (pv 0) (pa_cons (pe_op op_add (pv 1) (pv 4)) pa_nil))) (pa_cons (pe_op op_add (pe_op op_add (pv 1) (pv 4)) pe_int) pa_nil))))
    (pss_cons (ps_set (i := 6) sc_law_factors.nd rfl (Or.inl rfl) (pe_op op_sub (pe_op op_modN (pe_op op_fdivL (pv 5) pe_int) pe_int) pe_int))
    (pss_cons (ps_if (pt_cmpR op_lt (pe_op op_modN (pv 5) pe_int) pe_int (nomark _))
    (pss_cons (ps_set (i := 7) sc_law_factors.nd rfl (Or.inl rfl) (pe_fn g_law_ratio hr (pa_cons (pe_op op_sub (pe_op op_modN (pe_op op_fdivL (pv 5) pe_int) pe_int) pe_int) (pa_cons (pe_op op_add pe_int (pe_op op_modN (pe_op op_fdivL (pv 5) pe_int) pe_int)) pa_nil))))
    (pss_one (ps_set (i := 8) sc_law_factors.nd rfl (Or.inl rfl) (pe_lst (pa_cons (pe_op op_sub pe_int (pe_ix ix_tup (pv 7) pe_int (fun _ _ => rfl))) (pa_cons (pe_ix ix_tup (pv 7) pe_int (fun _ _ => rfl)) pa_nil))))))
    ?e1)
    (pss_one (ps_if (pt_cmpR (op_notinL hr.units) (pv 8) (pv 3) rfl)
    (pss_one (ps_expr (pe_bm PySem.F.plainAttrs_list PySem.F.slot_list_append PySem.F.type_list_append mt_append (pv 3) (pa_cons (pv 8) pa_nil))))
    pss_nil))))))
    (pss_one (ps_ret (pv 3)))))
  case' e1 => refine' (pss_one (ps_if (pt_cmpR op_lt (pe_op op_modN (pv 5) pe_int) pe_int (nomark _))
    ?b9
    ?e2))
  case' b9 => refine' (pss_cons ?s1 ?s2)
  case' s1 => with_reducible refine' (ps_set (i := 9) ?nd ?hi ?hl ?x1 ?hs ?hf)
  case nd => exact sc_law_factors.nd
  case hi => rfl
  case hl => exact Or.inl rfl
  case hs => rfl
  case hf => first | exact .inl rfl | exact .inr rfl
  case' x1 => with_reducible refine' (pe_ix ?ix ?l ?k ?u)
  case' ix => refine' ix_list
  case' l => with_reducible refine' (pe_lst ?li)
  case' li => with_reducible refine' (pa_ints ?ii)
  case' ii => exact (.pos (.pos (.pos (.pos (.pos (.pos (.pos (.pos (.pos (.pos .nil))))))))))
  case' k => exact (pe_op op_modN (pe_op op_fdivL (pv 5) pe_int) pe_int)
  case' u => exact (fun _ _ => rfl)
  case' s2 => exact (pss_one (ps_set (i := 8) sc_law_factors.nd rfl (Or.inl rfl) (pe_lst (pa_cons (pe_op op_sub (pe_op op_mulL (pv 6) (pv 6)) (pv 9)) (pa_cons (pe_op op_sub pe_int (pe_op op_mulL pe_int (pv 6))) (pa_cons pe_int pa_nil))))))
  case' e2 => refine' (pss_one (ps_if (pt_cmpR op_eq (pe_op op_modN (pv 5) pe_int) pe_int (nomark _))
    (pss_one (ps_set (i := 8) sc_law_factors.nd rfl (Or.inl rfl) (pe_lst (pa_cons (pe_op op_add (pe_op op_add (pe_op op_mulL (pv 6) (pv 6)) pe_int) (pe_op op_modN (pe_op op_fdivL (pv 5) pe_int) pe_int)) (pa_cons (pe_op op_sub pe_int (pe_op op_mulL pe_int (pv 6))) (pa_cons pe_int pa_nil))))))
    ?b10))
  case' b10 => with_reducible refine' (pss_one ?s1z)
  case' s1z => with_reducible refine' (ps_set (i := 8) ?ndz ?hiz ?hlz ?x1z ?hsz ?hfz)
  case ndz => exact sc_law_factors.nd
  case hiz => rfl
  case hlz => exact Or.inl rfl
  case hsz => rfl
  case hfz => first | exact .inl rfl | exact .inr rfl
  case' x1z => with_reducible refine' (pe_lst ?y1)
  case' y1 => with_reducible refine' (pa_cons ?y2 ?y3 ?y4)
  case' y4 => rfl
  case' y3 => exact (pa_cons pe_int (pa_cons pe_int (pa_cons pe_int pa_nil)))
  case' y2 => with_reducible refine' (pe_op ?op ?y5 ?y6)
  case' op => exact op_sub
  case' y5 => exact pe_int
  case' y6 => with_reducible refine' (pe_ix ?ixz ?lz ?kz ?uz)
  case' ixz => refine' ix_list
  case' lz => with_reducible refine' (pe_lst ?liz)
  case' liz => with_reducible refine' (pa_ints ?iiz)
  case' iiz => exact (.pos (.pos (.pos (.pos (.pos (.pos (.pos (.pos (.neg (.neg .nil))))))))))
  case' kz => exact (pe_op op_modN (pe_op op_fdivL (pv 5) pe_int) pe_int)
  case' uz => exact (fun _ _ => rfl)
  walk_at "sf"
  intro pm hpm
  walk_at "sf"
  refine ⟨_, rfl, by lia, by lia, ?_⟩
  rw [Int.toNat_natCast]
  refine for_range (fun j σ H' => ∃ (as : List Addr) (gs : List (List Int)) (r4 r5 r6 r7 r8 r9 : Option V), σ = [some (.ref sa), some (.int k), some (.int (mm : Int)), some (.ref pm), r4, r5, r6, r7, r8, r9] ∧ Same H H' ∧ H' pm = some (.lst (as.map V.ref)) ∧ ILs H' as gs ∧
      (∀ g ∈ gs, Fac g ∧ Ab 8 g) ∧ gs.Nodup ∧ gs.length ≤ j ∧ (1 ≤ j → gs ≠ []))
    ⟨[], [], _, _, _, _, _, _, rfl, Same.new hpm _, upd_same, trivial, (fun g hg => nomatch hg), List.nodup_nil, Nat.le_refl _, fun h => by lia⟩ ?_ ?_
  · rintro j σ H0 hj ⟨as, gs, r4, r5, r6, r7, r8, r9, rfl, g0, hp0, i0, fac, nd, len, ne⟩
    have e0 : (0 : Int) + (j : Int) = (j : Int) := by lia
    rw [e0]
    walk_at "sf"
    refine ⟨sa, ns, k + (j : Int), rfl, g0.seq hS, hl, by lia, fun c H1 s1 => ?_⟩
    walk_at "sf"
    refine ⟨_, _, rfl, fun m m0 mz => ?_⟩
    walk_at "sf"
    refine r_i (d64 8 (by decide) (by decide)) ?_
    walk_at "sf"
    refine r_i (by decide) ?_
    obtain ⟨a1, a2, a3⟩ := fm (x := m.fdiv 8) (m := 9) (by decide)
    rw [a1]
    walk_at "sf"
    generalize haa : m.fdiv 8 % 9 - 4 = a
    have ha4 : -4 ≤ a ∧ a ≤ 4 := by lia
    have ba : Bd 4 a := Bd.of_two (by lia) (by lia)
    have bound : a * a ≤ 16 ∧ 0 ≤ a * a := by
      have h1 : (4 - a) * (4 + a) = 16 - a * a := by grind
      have h2 := Int.mul_nonneg (show 0 ≤ 4 - a by lia) (show 0 ≤ 4 + a by lia)
      have h3 : 0 ≤ a * a := by
        rcases Int.le_total 0 a with z | z
        · exact Int.mul_nonneg z z
        · exact Int.mul_nonneg_of_nonpos_of_nonpos z z
      lia
    have g1 := g0.trans s1
    have hp1 := s1 _ _ hp0
    have i1 : ILs H1 as gs := i0.map fun a p z => s1 _ _ z
    clear s1 g0 hp0 i0
    obtain ⟨b1, b2, b3⟩ := fm (x := m) (m := 8) (by decide)
    refine r_i (by decide) ?_
    rw [b1]
    walk_at "sf"
    refine ite2 (fun c => ?_) (fun c => ?_)
    case' refine_1 =>
      walk_at "sf"
      refine r_i (d64 64 (by decide) (by decide)) ?_
      walk_at "sf"
      refine r_i (by decide) ?_
      obtain ⟨c1, c2, c3⟩ := fm (x := m.fdiv 64) (m := 21) (by decide)
      rw [c1]
      walk_at "sf"
      refine r_i (d64 2048 (by decide) (by decide)) ?_
      walk_at "sf"
      refine r_i (by decide) ?_
      obtain ⟨d1, d2, d3⟩ := fm (x := m.fdiv 2048) (m := 5) (by decide)
      rw [d1]
      walk_at "sf"
      refine ⟨_, _, 4, rfl, Bd.of_two (by lia) (by lia), Bd.of_two (by lia) (by lia), by decide, by lia, fun p t u hp bt bu hu hc _ => ?_⟩
      walk_at "sf"
      refine r_ixT (SqT.of upd_same) rfl ?_
      walk_at "sf"
      refine r_ixT (SqT.of upd_same) rfl ?_
      walk_at "sf"
      intro po hpo
      have hs : Same H1 (upd H1 p (.tup [.int t, .int u])) := Same.new hp _
      have hfac : Fac [0 - t, u] := .lin t u hu hc
      have hab : Ab 8 [0 - t, u] := ab_two ((bt.mono (by decide : 4 ≤ 8)).of_le (by lia)) (bu.mono (by decide))
      have ho : IL (upd (upd H1 p (.tup [.int t, .int u])) po (.lst [.int (0 - t), .int (u)])) po [0 - t, u] := upd_same
      have s2 : Same H1 (upd (upd H1 p (.tup [.int t, .int u])) po (.lst [.int (0 - t), .int (u)])) := hs.trans (Same.new hpo _)
      have hpp : po ≠ pm := fun z => by rw [z, hs _ _ hp1] at hpo; exact absurd hpo (by simp)
      generalize upd (upd H1 p (.tup [.int t, .int u])) po (.lst [.int (0 - t), .int (u)]) = H2 at ho s2 ⊢
      generalize [0 - t, u] = g at ho hfac hab
    case' refine_2 =>
      walk_at "sf"
      refine r_i (by decide) ?_
      rw [b1]
      walk_at "sf"
      refine ite2 (fun c => ?_) (fun c => ?_)
      case' refine_1 =>
        walk_at "sf"
        unfold tInts
        walk_at "sf"
        intro p hp
        walk_at "sf"
        refine r_i (d64 64 (by decide) (by decide)) ?_
        walk_at "sf"
        refine r_i (by decide) ?_
        obtain ⟨c1, c2, c3⟩ := fm (x := m.fdiv 64) (m := 10) (by decide)
        rw [c1]
        walk_at "sf"
        obtain ⟨n, hn, en⟩ := pickM (L := [2, 3, 5, 6, 7, 8, 10, 12, 50, 99]) c2 c3
        refine r_ixL (SqL.of upd_same) en ?_
        walk_at "sf"
        refine r_i (mulOk ba ba (by decide)) ?_
        walk_at "sf"
        refine r_i (mulOk (show Bd 4 2 from Bd.of_two (by decide) (by decide)) ba (by decide)) ?_
        walk_at "sf"
        intro po hpo
        have hs : Same H1 (upd H1 p (.lst ([2, 3, 5, 6, 7, 8, 10, 12, 50, 99].map V.int))) := Same.new hp _
        have hn' : NSq n := by simpa [NSq] using hn
        have hfac : Fac [a * a - n, 0 - 2 * a, 1] := .quad a n hn'
        have hab : Ab 8 [a * a - n, 0 - 2 * a, 1] := ab_three (Bd.of_two (by unfold NSq at hn'; lia) (by unfold NSq at hn'; lia)) (Bd.of_two (by lia) (by lia)) (Bd.of_two (by decide) (by decide))
        have ho : IL (upd (upd H1 p (.lst ([2, 3, 5, 6, 7, 8, 10, 12, 50, 99].map V.int))) po (.lst [.int (a * a - n), .int (0 - 2 * a), .int (1)])) po [a * a - n, 0 - 2 * a, 1] := upd_same
        have s2 : Same H1 (upd (upd H1 p (.lst ([2, 3, 5, 6, 7, 8, 10, 12, 50, 99].map V.int))) po (.lst [.int (a * a - n), .int (0 - 2 * a), .int (1)])) := hs.trans (Same.new hpo _)
        have hpp : po ≠ pm := fun z => by rw [z, hs _ _ hp1] at hpo; exact absurd hpo (by simp)
        generalize upd (upd H1 p (.lst ([2, 3, 5, 6, 7, 8, 10, 12, 50, 99].map V.int))) po (.lst [.int (a * a - n), .int (0 - 2 * a), .int (1)]) = H2 at ho s2 ⊢
        generalize [a * a - n, 0 - 2 * a, 1] = g at ho hfac hab
      case' refine_2 =>
        walk_at "sf"
        refine r_i (by decide) ?_
        rw [b1]
        walk_at "sf"
        refine ite2 (fun c => ?_) (fun c => ?_)
        case' refine_1 =>
          walk_at "sf"
          refine r_i (mulOk ba ba (by decide)) ?_
          walk_at "sf"
          refine r_i (d64 64 (by decide) (by decide)) ?_
          walk_at "sf"
          refine r_i (by decide) ?_
          obtain ⟨c1, c2, c3⟩ := fm (x := m.fdiv 64) (m := 9) (by decide)
          rw [c1]
          walk_at "sf"
          refine r_i (mulOk (show Bd 4 2 from Bd.of_two (by decide) (by decide)) ba (by decide)) ?_
          walk_at "sf"
          intro po hpo
          have hs : Same H1 H1 := Same.refl _
          have hfac : Fac [a * a + 1 + m.fdiv 64 % 9, 0 - 2 * a, 1] := by
            rw [Int.add_assoc]
            exact .noq a _ (by lia)
          have hab : Ab 8 [a * a + 1 + m.fdiv 64 % 9, 0 - 2 * a, 1] := ab_three (Bd.of_two (by lia) (by lia)) (Bd.of_two (by lia) (by lia)) (Bd.of_two (by decide) (by decide))
          have ho : IL (upd H1 po (.lst [.int (a * a + 1 + m.fdiv 64 % 9), .int (0 - 2 * a), .int (1)])) po [a * a + 1 + m.fdiv 64 % 9, 0 - 2 * a, 1] := upd_same
          have s2 : Same H1 (upd H1 po (.lst [.int (a * a + 1 + m.fdiv 64 % 9), .int (0 - 2 * a), .int (1)])) := hs.trans (Same.new hpo _)
          have hpp : po ≠ pm := fun z => by rw [z, hs _ _ hp1] at hpo; exact absurd hpo (by simp)
          generalize upd H1 po (.lst [.int (a * a + 1 + m.fdiv 64 % 9), .int (0 - 2 * a), .int (1)]) = H2 at ho s2 ⊢
          generalize [a * a + 1 + m.fdiv 64 % 9, 0 - 2 * a, 1] = g at ho hfac hab
        case' refine_2 =>
          walk_at "sf"
          unfold tInts
          walk_at "sf"
          intro p hp
          walk_at "sf"
          refine r_i (d64 64 (by decide) (by decide)) ?_
          walk_at "sf"
          refine r_i (by decide) ?_
          obtain ⟨c1, c2, c3⟩ := fm (x := m.fdiv 64) (m := 10) (by decide)
          rw [c1]
          walk_at "sf"
          obtain ⟨n, hn, en⟩ := pickM (L := [2, 3, 4, 5, 6, 7, 9, 10, -2, -5]) c2 c3
          refine r_ixL (SqL.of upd_same) en ?_
          walk_at "sf"
          intro po hpo
          have hs : Same H1 (upd H1 p (.lst ([2, 3, 4, 5, 6, 7, 9, 10, -2, -5].map V.int))) := Same.new hp _
          have hn' : NCu n := by simpa [NCu] using hn
          have hfac : Fac [0 - n, 0, 0, 1] := .cub n hn'
          have hab : Ab 8 [0 - n, 0, 0, 1] := ab_four (Bd.of_two (by unfold NCu at hn'; lia) (by unfold NCu at hn'; lia)) (Bd.of_two (by decide) (by decide)) (Bd.of_two (by decide) (by decide)) (Bd.of_two (by decide) (by decide))
          have ho : IL (upd (upd H1 p (.lst ([2, 3, 4, 5, 6, 7, 9, 10, -2, -5].map V.int))) po (.lst [.int (0 - n), .int (0), .int (0), .int (1)])) po [0 - n, 0, 0, 1] := upd_same
          have s2 : Same H1 (upd (upd H1 p (.lst ([2, 3, 4, 5, 6, 7, 9, 10, -2, -5].map V.int))) po (.lst [.int (0 - n), .int (0), .int (0), .int (1)])) := hs.trans (Same.new hpo _)
          have hpp : po ≠ pm := fun z => by rw [z, hs _ _ hp1] at hpo; exact absurd hpo (by simp)
          generalize upd (upd H1 p (.lst ([2, 3, 4, 5, 6, 7, 9, 10, -2, -5].map V.int))) po (.lst [.int (0 - n), .int (0), .int (0), .int (1)]) = H2 at ho s2 ⊢
          generalize [0 - n, 0, 0, 1] = g at ho hfac hab
    all_goals
      walk_at "sf"
      have hp2 := s2 _ _ hp1
      have i2 : ILs H2 as gs := i1.map fun a p z => s2 _ _ z
      refine ⟨po, pm, g, as, gs, rfl, rfl, SqL.of ho, SqL.of hp2, i2.len, fun i b l e1 e2 => ?_, ?_⟩
      · obtain ⟨l', e3, e4⟩ := ILs.get i i2 e1
        rw [e2] at e3
        injection e3 with e3
        subst e3
        exact SqL.of e4
      walk_at "sf"
      refine ite2 (fun c => ?_) (fun c => ?_)
      · have hng : g ∉ gs := by simpa using c
        have la : as.length ≤ j := by rw [i2.len]; exact len
        walk_at "sf"
        refine ⟨_, rfl, .inl ⟨rfl, _, SqL.of hp2⟩, ?_⟩
        walk_at "sf"
        refine ⟨pm, _, _, rfl, rfl, hp2, ?_, ?_⟩
        · rw [List.length_map]
          exact Nat.lt_of_lt_of_le (by lia : as.length < 1000) (small4 (Nat.le_refl _))
        walk_at "sf"
        refine ⟨as ++ [po], gs ++ [g], _, _, _, _, _, _, rfl, ?_, ?_, ?_, ?_, nodup_snoc nd hng, ?_, fun _ => by simp⟩
        · intro b o z
          rw [upd_ne (ne_of_none z hpm)]
          exact s2 _ _ (g1 _ _ z)
        · rw [upd_same]; simp
        · have hpo2 : IL (upd H2 pm (.lst (as.map V.ref ++ [V.ref po]))) po g := by
            show upd H2 pm _ po = _
            rw [upd_ne hpp]; exact ho
          refine ILs.snoc hpo2 ?_
          by_cases han : as = []
          · subst han
            have := i2.len
            have hg0 : gs = [] := List.length_eq_zero_iff.mp this.symm
            subst hg0
            trivial
          · refine i2.map fun b l z => ?_
            show upd H2 pm _ b = _
            rw [upd_ne (ne_refs hp2 han z)]; exact z
        · intro x hx
          rcases List.mem_append.mp hx with hx | hx
          · exact fac x hx
          · rw [List.mem_singleton.mp hx]; exact ⟨hfac, hab⟩
        · rw [List.length_append]; simp; lia
      · have hng : g ∈ gs := by simpa using c
        walk_at "sf"
        exact ⟨as, gs, _, _, _, _, _, _, rfl, g1.trans s2, hp2, i2, fac, nd, by lia, fun _ => List.ne_nil_of_mem hng⟩
  · rintro σ H' ⟨as, gs, r4, r5, r6, r7, r8, r9, rfl, g0, hp0, i0, fac, nd, len, ne⟩
    walk_at "sf"
    exact q pm as gs H' g0 hp0 i0 fac nd (ne (by lia)) (by lia)
end
end K16
namespace K16
open PySem PyProof.Rows L2 SF SF.Po
theorem mulL_len {xs ys : List Int} (hx : xs ≠ []) (hy : ys ≠ []) : (mulL xs ys).length = xs.length + ys.length - 1 := by
  unfold mulL
  rw [if_neg (by intro z; rcases z with z | z; exact hx z; exact hy z), ofS_length]
theorem mulL_ne {xs ys : List Int} (hx : xs ≠ []) (hy : ys ≠ []) : mulL xs ys ≠ [] := by
  have h1 := List.length_pos_iff.mpr hx
  have h2 := List.length_pos_iff.mpr hy
  exact List.length_pos_iff.mp (by rw [mulL_len hx hy]; lia)
theorem ab_ofS {n : Nat} {f : Nat → Int} {k : Nat} (h : ∀ i, i < k → Bd n (f i)) : Ab n (ofS f k) := fun x hx => by
  obtain ⟨i, hi, e⟩ := List.getElem_of_mem hx
  have hi2 : i < k := by rw [ofS_length] at hi; exact hi
  rw [← e, ← co_lt, ofS_co, if_pos hi2]
  exact h i hi2
theorem sumN_bd {n : Nat} {f : Nat → Int} : ∀ {k : Nat}, (∀ i, i < k → Bd n (f i)) → Bd (n + k) (sumN f k)
  | 0, _ => by
    show (0 : Int).natAbs < 2 ^ (n + 0)
    exact Nat.two_pow_pos _
  | k + 1, h => by
    have ih := sumN_bd (k := k) fun i hi => h i (by lia)
    exact ((ih.add ((h k (by lia)).mono (by lia)))).mono (by lia)
theorem mulL_ab {m n : Nat} {xs ys : List Int} (bx : Ab m xs) (b : Ab n ys) (hl : xs.length ≤ 40) : Ab (m + n + xs.length) (mulL xs ys) := by
  unfold mulL
  split
  · exact fun x hx => nomatch hx
  · refine ab_ofS fun i _ => ?_
    rw [← cv_full]
    unfold cv
    refine (sumN_bd (n := m + n) fun j _ => ?_).mono (by lia)
    split
    · exact (bx.co _).mul (b.co _)
    · show (0 : Int).natAbs < 2 ^ (m + n)
      exact Nat.two_pow_pos _
noncomputable def prodL : List (List Int) → List Int
  | [] => [1]
  | g :: r => mulL g (prodL r)
theorem prodL_ok : ∀ {gs : List (List Int)}, (∀ g ∈ gs, Fac g ∧ Ab 8 g) → Tr (prodL gs) ∧ prodL gs ≠ [] ∧ (prodL gs).length ≤ 1 + 3 * gs.length ∧ Ab (1 + 12 * gs.length) (prodL gs) ∧ ofL (prodL gs) = prodP (gs.map ofL)
  | [], _ => ⟨tr_last (xs := []) (by decide), by unfold prodL; simp, Nat.le_refl _, fun x hx => by
      rw [show x = 1 from List.mem_singleton.mp hx]; exact Bd.of_two (by decide) (by decide), by
      show ofL [1] = 1
      refine ext fun i => ?_
      rw [ofL_c, ← K_one]
      cases i <;> rfl⟩
  | g :: r, h => by
    obtain ⟨a1, a2, a3, a4, a5⟩ := prodL_ok (gs := r) fun x hx => h x (List.mem_cons_of_mem _ hx)
    obtain ⟨f, ab⟩ := h g List.mem_cons_self
    obtain ⟨t1, t2, t3, t4⟩ := f.tr
    have e : prodL (g :: r) = mulL g (prodL r) := rfl
    rw [e]
    refine ⟨mulL_tr t1 a1, mulL_ne t2 a2, by rw [mulL_len t2 a2, List.length_cons]; lia, ?_, by rw [ofL_mul, a5]; rfl⟩
    have := mulL_ab ab a4 (by lia)
    exact this.mono (by rw [List.length_cons]; lia)
theorem prodP_snoc (g : Po) : ∀ l : List Po, prodP (l ++ [g]) = prodP l * g
  | [] => by show g * 1 = 1 * g; grind
  | x :: r => by
    show x * prodP (r ++ [g]) = x * prodP r * g
    rw [prodP_snoc g r]; grind
theorem prodP_mem {p g : Po} : ∀ {gs : List Po}, g ∈ gs → Po.D p g → Po.D p (prodP gs)
  | x :: r, h, d => by
    show Po.D p (x * prodP r)
    rcases List.mem_cons.mp h with rfl | h
    · exact d.mulR _
    · exact (prodP_mem h d).mulL _
noncomputable def spAllL : Sp := fun vs H Q _ => ∃ (c e : Addr) (as : List Addr) (gs : List (List Int)) (es : List Int), vs = [.ref c, .ref e] ∧ H c = some (.lst (as.map V.ref)) ∧ ILs H as gs ∧ (∀ g ∈ gs, Fac g ∧ Ab 8 g) ∧ gs.length ≤ 4 ∧
  IL H e es ∧ es.length = gs.length ∧ (∀ x ∈ es, x = 1 ∨ x = 2) ∧ ∀ (p : Addr) (xs : List Int) (H' : Hp), Same H H' → IL H' p xs → Tr xs → xs ≠ [] → xs.length ≤ 25 → Ab 300 xs → (∀ π, Irr π → (Po.D π (ofL xs) ↔ Po.D π (prodP (gs.map ofL)))) → ((∀ x ∈ es, x = 1) → ofL xs = prodP (gs.map ofL)) → Q (.ref p) H'
section
variable {P : Program} {w : World} {K : PySem.W.Frag} {mg : Str → Option Value} {base : Heap}
theorem ok_law_all (T : Nm mg) (g_law_product : FnB P w K mg base 3 "_law_product" ["_law_one", "_law_other"] (spLL mulL (fun xs ys => Ok2 xs ys ∧ xs ≠ [] ∧ ys ≠ []))) (D : DefB K mg "_law_all" s_law_all ["_law_factors_here", "_law_powers"]) : FnB P w K mg base 4 "_law_all" ["_law_factors_here", "_law_powers"] spAllL := by
  refine D.ok sc_law_all (fun vs H Q E h => ?_) (fun f cdv A outer s H vs Q E hr h => ?_)
  · obtain ⟨c, e, as, gs, es, rfl, _⟩ := h
    rfl
  obtain ⟨c, e, as, gs, es, rfl, hc, hi, fac, len, he, lee, hes, q⟩ := h
  have hBig : Big = 60000000 := rfl
  have hlen := hi.len
  refine ⟨_, (pss_cons (ps_set (i := 2) sc_law_all.nd rfl (Or.inl rfl) (pe_lst (pa_cons pe_int pa_nil)))
    (pss_cons (ps_for PassesOwn.never rfl (pi_range1 rfl T.n_range (pa_cons (pe_callB call_len_seq rfl T.n_len boot_len (pa_cons (pv 0) pa_nil)) pa_nil)) (pg_name (i := 3) sc_law_all.nd rfl (Or.inl rfl))
    (pss_one (ps_for PassesOwn.never rfl (pi_range1 rfl T.n_range (pa_cons (pe_ix ix_list (pv 1) (pv 3) (fun _ _ => rfl)) pa_nil)) (pg_name (i := 4) sc_law_all.nd rfl (Or.inl rfl))
    (pss_one (ps_set (i := 2) sc_law_all.nd rfl (Or.inl rfl) (pe_fn g_law_product hr (pa_cons (pv 2) (pa_cons (pe_ix ix_list (pv 0) (pv 3) (fun _ _ => rfl)) pa_nil))))))))
    (pss_one (ps_ret (pv 2))))), ?_⟩
  walk_at "sf"
  intro p0 hp0
  walk_at "sf"
  have s0 := Same.new hp0 (.lst [V.int 1])
  refine ⟨c, _, rfl, .inl (SqL.of (s0 _ _ hc)), ?_⟩
  walk_at "sf"
  refine ⟨_, rfl, by lia, by rw [List.length_map]; lia, ?_⟩
  rw [Int.toNat_natCast, List.length_map]
  refine for_range (fun i σ H' => ∃ (p : Addr) (xs : List Int) (r3 r4 : Option V), σ = [some (.ref c), some (.ref e), some (.ref p), r3, r4] ∧ Same H H' ∧ IL H' p xs ∧ Tr xs ∧ xs ≠ [] ∧ xs.length ≤ 1 + 6 * i ∧ Ab (1 + 66 * i) xs ∧
      (∀ π, Irr π → (Po.D π (ofL xs) ↔ ∃ (k : Nat) (g : List Int), k < i ∧ gs[k]? = some g ∧ Po.D π (ofL g))) ∧ ((∀ x ∈ es, x = 1) → ofL xs = prodP ((gs.take i).map ofL)))
    ⟨p0, [1], _, _, rfl, s0, upd_same, tr_last (xs := []) (by decide), by simp, Nat.le_refl _, fun x hx => by rw [List.mem_singleton.mp hx]; exact Bd.of_two (by decide) (by decide), fun π hπ => ?_, fun _ => ext fun i => by show co [1] i = (1 : Po).c i; rw [one_c]; cases i <;> rfl⟩ ?_ ?_
  · constructor
    · intro d
      have l1 : Po.len (ofL [1]) = 1 := len_ofL (tr_last (xs := []) (by decide))
      have := d.len (ne_of_len (by lia))
      have := hπ.1
      lia
    · rintro ⟨k, g, h, _⟩; lia
  · rintro i σ H' hi' ⟨p, xs, r3, r4, rfl, s1, h1, t1, n1, l1, b1, d1, x1⟩
    have e0 : (0 : Int) + (i : Int) = (i : Int) := by lia
    rw [e0]
    have hie : i < es.length := by lia
    have hig : i < gs.length := by lia
    obtain ⟨g, eg, hg⟩ := (hi.map fun a p z => s1 _ _ z).get i (List.getElem?_eq_getElem hi')
    obtain ⟨fg, ag⟩ := fac g (List.mem_of_getElem? eg)
    obtain ⟨tg1, tg2, tg3, tg4⟩ := fg.tr
    have hev : co es i = 1 ∨ co es i = 2 := hes _ (by rw [co_lt hie]; exact List.getElem_mem hie)
    walk_at "sf"
    refine r_ixL (SqL.of (s1 _ _ he)) (il_at hie) ?_
    walk_at "sf"
    refine ⟨_, rfl, by lia, by lia, ?_⟩
    refine for_range (fun j σ H' => ∃ (p : Addr) (xs : List Int) (r4 : Option V), σ = [some (.ref c), some (.ref e), some (.ref p), some (.int (i : Int)), r4] ∧ Same H H' ∧ IL H' p xs ∧ Tr xs ∧ xs ≠ [] ∧ xs.length ≤ 1 + 6 * i + 3 * j ∧ Ab (1 + 66 * i + 33 * j) xs ∧
        (∀ π, Irr π → (Po.D π (ofL xs) ↔ (∃ (k : Nat) (g : List Int), k < i ∧ gs[k]? = some g ∧ Po.D π (ofL g)) ∨ (1 ≤ j ∧ Po.D π (ofL g)))) ∧ ((∀ x ∈ es, x = 1) → ofL xs = prodP ((gs.take i).map ofL) * (if j = 0 then 1 else ofL g)))
      ⟨p, xs, _, rfl, s1, h1, t1, n1, l1, b1, fun π hπ => by rw [d1 π hπ]; constructor; exact fun z => .inl z; rintro (z | z); exact z; exact absurd z.1 (by lia), fun z => by rw [x1 z, if_pos rfl]; grind⟩ ?_ ?_
    · rintro j σ H2 hj ⟨p, xs, r4, rfl, s2, h2, t2, n2, l2, b2, d2, x2⟩
      have e0 : (0 : Int) + (j : Int) = (j : Int) := by lia
      rw [e0]
      have hj2 : j < 2 := by lia
      have hg2 := (hi.map fun a p z => s2 _ _ z)
      obtain ⟨g', eg', hg'⟩ := hg2.get i (List.getElem?_eq_getElem hi')
      rw [eg] at eg'
      injection eg' with eg'
      subst eg'
      walk_at "sf"
      refine r_ixL (SqL.of (s2 _ _ hc)) (atI_nat (v := V.ref as[i]) (by rw [List.getElem?_map, List.getElem?_eq_getElem hi'] <;> rfl)) ?_
      walk_at "sf"
      refine ⟨p, as[i], xs, g, rfl, h2, hg', ⟨⟨⟨by lia, by lia⟩, b2.mono (by lia), ag.mono (by lia)⟩, n2, tg2⟩, fun p3 H3 s3 h3 => ?_⟩
      walk_at "sf"
      refine ⟨p3, _, _, rfl, s2.trans s3, h3, mulL_tr t2 tg1, mulL_ne n2 tg2, by rw [mulL_len n2 tg2]; lia, (mulL_ab b2 ag (by lia)).mono (by lia), fun π hπ => ?_, fun z => by
        have h1 := z (co es i) (by rw [co_lt hie]; exact List.getElem_mem hie)
        have j0 : j = 0 := by lia
        rw [ofL_mul, x2 z, if_pos j0, if_neg (by lia)]; grind⟩
      rw [ofL_mul]
      constructor
      · intro z
        rcases hπ.prime z with z | z
        · rcases (d2 π hπ).mp z with z | z
          · exact .inl z
          · exact .inr ⟨by lia, z.2⟩
        · exact .inr ⟨by lia, z⟩
      · rintro (z | z)
        · exact ((d2 π hπ).mpr (.inl z)).mulR _
        · exact z.2.mulL _
    · rintro σ H2 ⟨p, xs, r4, rfl, s2, h2, t2, n2, l2, b2, d2, x2⟩
      have hn1 : 1 ≤ (co es i).toNat := by lia
      have hn2 : (co es i).toNat ≤ 2 := by lia
      walk_at "sf"
      refine ⟨p, xs, _, _, rfl, s2, h2, t2, n2, by lia, b2.mono (by lia), fun π hπ => ?_, fun z => by
        rw [x2 z, if_neg (by lia), List.take_add_one, eg, List.map_append]
        exact (prodP_snoc _ _).symm⟩
      rw [d2 π hπ]
      constructor
      · rintro (⟨k, g', z1, z2, z3⟩ | z)
        · exact ⟨k, g', by lia, z2, z3⟩
        · exact ⟨i, g, by lia, eg, z.2⟩
      · rintro ⟨k, g', z1, z2, z3⟩
        by_cases hk : k < i
        · exact .inl ⟨k, g', hk, z2, z3⟩
        · have : k = i := by lia
          subst this
          rw [eg] at z2
          injection z2 with z2
          subst z2
          exact .inr ⟨hn1, z3⟩
  · rintro σ H' ⟨p, xs, r3, r4, rfl, s1, h1, t1, n1, l1, b1, d1, x1⟩
    walk_at "sf"
    refine q p xs H' s1 h1 t1 n1 (by lia) (b1.mono (by lia)) (fun π hπ => ?_) (fun z => by
      have := x1 z
      rw [hlen, List.take_length] at this
      exact this)
    rw [d1 π hπ]
    constructor
    · rintro ⟨k, g, _, z2, z3⟩
      exact prodP_mem (List.mem_map.mpr ⟨g, List.mem_of_getElem? z2, rfl⟩) z3
    · intro z
      obtain ⟨y, hy, hd⟩ := prodP_dvd hπ _ z
      obtain ⟨g, hg, rfl⟩ := List.mem_map.mp hy
      obtain ⟨k, hk, ek⟩ := List.getElem_of_mem hg
      exact ⟨k, g, by lia, by rw [List.getElem?_eq_getElem hk, ek], hd⟩
end
end K16
namespace K16
open PySem PyProof.Rows L2 SF SF.Po
theorem sg_hv {t u : Int} (hu : 0 < u) (xs : List Int) : sg (hv t u xs) = sgR (at' (Re.q ((t : Rat) / (u : Rat))) (ofL xs)) := hv_sgn hu xs
section
variable {P : Program} {w : World} {K : PySem.W.Frag} {mg : Str → Option Value} {base : Heap}
end
end K16
namespace K16
open PySem PyProof.Rows L2 SF SF.Po
theorem sf_roots {xs : List Int} (tx : Tr xs) (h : SFr (ofL xs) (ofL xs)) (x : Re) : ¬ (at' x (ofL xs) = 0 ∧ at' x (der (ofL xs)) = 0) := by
  have gc := gcdL_gc (xs := xs) (ys := derL xs) (.inl h.pr.ne)
  have o1 : ofL [1] = 1 := Po.ext fun i => by
    rw [ofL_c, one_c]
    cases i with
    | zero => rfl
    | succ i => rfl
  rw [sf_gcd tx h, o1] at gc
  obtain ⟨bu, bv, ba, hba, ebz⟩ := gc.bz
  have ebz' : bu * ofL xs + bv * ofL (derL xs) = Po.K ba := by rw [ebz]; grind
  rw [← ofL_der]
  exact no_common hba ebz'
theorem nodup_ofL : ∀ {gs : List (List Int)}, (∀ g ∈ gs, Tr g) → gs.Nodup → (gs.map ofL).Nodup
  | [], _, _ => List.nodup_nil
  | g :: r, h, n => by
    rw [List.nodup_cons] at n
    rw [List.map_cons, List.nodup_cons]
    refine ⟨fun z => ?_, nodup_ofL (fun x hx => h x (List.mem_cons_of_mem _ hx)) n.2⟩
    obtain ⟨y, hy, e⟩ := List.mem_map.mp z
    have := ofL_inj (h y (List.mem_cons_of_mem _ hy)) (h g List.mem_cons_self) e
    rw [this] at hy
    exact n.1 hy
structure Of (gs : List (List Int)) (xs : List Int) : Prop where
  fac : ∀ g ∈ gs, Fac g ∧ Ab 8 g
  nd : gs.Nodup
  few : gs.length ≤ 4
  tr : Tr xs
  ne : xs ≠ []
  dv : ∀ π, Irr π → (Po.D π (ofL xs) ↔ Po.D π (prodP (gs.map ofL)))
theorem Of.fk {gs : List (List Int)} {xs : List Int} (h : Of gs xs) : ∀ g ∈ gs.map ofL, Fk g := fun g hg => by
  obtain ⟨y, hy, rfl⟩ := List.mem_map.mp hg
  exact (h.fac y hy).1.fk
theorem Of.sf {gs : List (List Int)} {xs : List Int} (h : Of gs xs) : sfL xs = prodL gs := by
  obtain ⟨a1, a2, a3, a4, a5⟩ := prodL_ok h.fac
  refine ofL_inj (sfL_tr _) a1 ?_
  rw [a5]
  exact sf_of_prod h.tr h.ne h.fk (nodup_ofL (fun g hg => (h.fac g hg).1.tr.1) h.nd) h.dv
theorem Of.pre {gs : List (List Int)} {xs : List Int} (h : Of gs xs) : PreC (sfL xs) := by
  obtain ⟨a1, a2, a3, a4, a5⟩ := prodL_ok h.fac
  have := h.few
  rw [h.sf]
  refine ⟨a1, a2, by lia, a4.mono (by lia), ?_⟩
  rw [a5]
  exact prodP_sf h.fk (nodup_ofL (fun g hg => (h.fac g hg).1.tr.1) h.nd)
theorem sgs_sgl {t u : Int} (hu : 0 < u) (ps : List (List Int)) : sgs (Re.q ((t : Rat) / (u : Rat))) (ps.map ofL) = sgl t u ps := by
  unfold sgs sgl
  rw [List.map_map]
  exact List.map_congr_left fun p _ => (sg_hv hu p).symm
end K16
namespace K16
open PySem PyProof.Rows L2 SF SF.Po
noncomputable def Rt (H : Hp) (g : Addr) (t u : Int) : Prop := H g = some (.tup [.int t, .int u]) ∧ 0 < u ∧ Int.gcd t u = 1
theorem Rt.same {H H' : Hp} {g : Addr} {t u : Int} (h : Rt H g t u) (s : Same H H') : Rt H' g t u := ⟨s _ _ h.1, h.2⟩
noncomputable def spRat : Sp := fun vs H Q _ => ∃ (a b : Int) (n : Nat), vs = [.int a, .int b] ∧ Bd n a ∧ Bd n b ∧ n ≤ 1000000 ∧ 0 < b ∧ ∀ (p : Addr) (t u : Int), H p = none → Bd n t → Bd n u → 0 < u → Int.gcd t u = 1 → t * b = a * u → Q (.ref p) (upd H p (.tup [.int t, .int u]))
noncomputable def spMid : Sp := fun vs H Q _ => ∃ (g h : Addr) (t u t' u' : Int) (n : Nat), vs = [.ref g, .ref h] ∧ H g = some (.tup [.int t, .int u]) ∧ H h = some (.tup [.int t', .int u']) ∧ (Bd n t ∧ Bd n u ∧ Bd n t' ∧ Bd n u') ∧ n ≤ 100000 ∧ 0 < u ∧ 0 < u' ∧
  ∀ (p : Addr) (c d : Int), H p = none → 0 < d → Int.gcd c d = 1 → c * (2 * u * u') = (t * u' + t' * u) * d → Q (.ref p) (upd H p (.tup [.int c, .int d]))
noncomputable def Win (xs : List Int) (r : Int) : Prop := ∀ k, k < xs.length - 1 → ab (co xs (xs.length - 2 - k)) ≤ ab (co xs (xs.length - 1)) * r ^ (k + 1)
noncomputable def PreB (xs : List Int) : Prop := Tr xs ∧ xs ≠ [] ∧ xs.length ≤ 13 ∧ Ab 100 xs
noncomputable def spWithin : Sp := fun vs H Q _ => ∃ (a : Addr) (xs : List Int) (r : Int), vs = [.ref a, .int r] ∧ IL H a xs ∧ PreB xs ∧ Bd 110 r ∧ (Win xs r → ∀ H', Same H H' → Q (.bl true) H') ∧ (¬ Win xs r → ∀ H', Same H H' → Q (.bl false) H')
noncomputable def spBound : Sp := fun vs H Q _ => ∃ (a : Addr) (xs : List Int), vs = [.ref a] ∧ IL H a xs ∧ PreB xs ∧ ∀ (r : Int) (H' : Hp), Same H H' → 0 < r → r ≤ 2 ^ 100 → Win xs r → Q (.int (2 * r)) H'
structure Ends (xs : List Int) (o b t u t' u' : Int) : Prop where
  odd : Int.gcd o 2 = 1
  three : 3 ≤ o
  nd : ¬ o ∣ co xs (xs.length - 1)
  bo : Bd 102 o
  bb : 0 < b ∧ b ≤ 2 ^ 102
  win : ∃ r, 0 < r ∧ b = 2 * r + 1 ∧ Win xs r
  lo : t * o = (1 - o * b) * u
  hi : t' * o = (1 + o * b) * u'
noncomputable def spAround : Sp := fun vs H Q _ => ∃ (a : Addr) (xs : List Int), vs = [.ref a] ∧ IL H a xs ∧ PreB xs ∧ ∀ (p g h : Addr) (o b t u t' u' : Int) (H' : Hp), Same H H' → H' p = some (.tup [.ref g, .ref h]) → Rt H' g t u → Rt H' h t' u' → Ends xs o b t u t' u' → Q (.ref p) H'
noncomputable def spMark : Sp := fun vs H Q _ => ∃ (c g : Addr) (as : List Addr) (ps : List (List Int)) (t u : Int) (p : Nat), vs = [.ref c, .ref g] ∧ H c = some (.lst (as.map V.ref)) ∧ ILs H as ps ∧ H g = some (.tup [.int t, .int u]) ∧
  ((∀ q ∈ ps, q.length ≤ 13 ∧ Ab BM q) ∧ ps.length ≤ 60 ∧ Bd p t ∧ Bd p u ∧ p ≤ 30000) ∧ ∀ (m : Addr) (H' : Hp), Same H H' → H' m = some (.tup [.ref g, .int ((cg 0 (sgl t u ps) : Nat) : Int)]) → Q (.ref m) H'
section
variable {P : Program} {w : World} {K : PySem.W.Frag} {mg : Str → Option Value} {base : Heap}
theorem ok_ratio (hT : P.given.tree = none) (g_common_divisor : FnB P w K mg base 33 "common_divisor" ["one", "other"] spGcd) (D : DefB K mg "ratio" s_ratio ["top", "under"]) : FnB P w K mg base 34 "ratio" ["top", "under"] spRat := by
  refine D.ok sc_ratio (fun vs H Q E h => ?_) (fun f cdv A outer s H vs Q E hr h => ?_)
  · obtain ⟨a, b, n, rfl, _⟩ := h
    rfl
  obtain ⟨a, b, n, rfl, ha, hb, hn, hb0, q⟩ := h
  have hg : 0 < Int.gcd a b := Int.gcd_pos_of_ne_zero_right a (by lia)
  have hg0 : ((Int.gcd a b : Nat) : Int) ≠ 0 := by lia
  refine ⟨_, (pss_cons (ps_if (pt_cmpR op_eq (pv 1) pe_int (nomark _))
    (pss_one ps_never)
    pss_nil)
    (pss_cons (ps_set (i := 2) sc_ratio.nd rfl (Or.inl rfl) (pe_fn g_common_divisor hr (pa_cons (pv 0) (pa_cons (pv 1) pa_nil))))
    (pss_cons (ps_if (pt_cmpR op_lt (pv 1) pe_int (nomark _))
    (pss_one (ps_set (i := 2) sc_ratio.nd rfl (Or.inl rfl) (pe_un un_neg (pv 2))))
    pss_nil)
    (pss_one (ps_ret (pe_tup (pa_cons (pe_op (op_fdivP ⟨hT, ⟨_, _, rfl, rfl, rfl, rfl, rfl⟩, hr.py⟩) (pv 0) (pv 2)) (pa_cons (pe_op (op_fdivP ⟨hT, ⟨_, _, rfl, rfl, rfl, rfl, rfl⟩, hr.py⟩) (pv 1) (pv 2)) pa_nil)))))))), ?_⟩
  walk_at "sf"
  rw [if_neg (by simp; lia)]
  walk_at "sf"
  refine ⟨_, _, rfl, ?_⟩
  walk_at "sf"
  rw [if_neg (by simp; lia)]
  walk_at "sf"
  refine r_i hg0 ?_
  walk_at "sf"
  refine r_i hg0 ?_
  walk_at "sf"
  intro p hp
  have e1 := fdiv_mul (Int.gcd_dvd_left (a := a) (b := b))
  have e2 := fdiv_mul (Int.gcd_dvd_right (a := a) (b := b))
  refine q p _ _ hp (fdiv_bd (Int.gcd_dvd_left ..) hg0 ha) (fdiv_bd (Int.gcd_dvd_right ..) hg0 hb) ?_ ?_ ?_
  · have hg1 : (0 : Int) < ((Int.gcd a b : Nat) : Int) := by lia
    rcases Int.lt_or_le 0 (b.fdiv ((Int.gcd a b : Nat) : Int)) with z | z
    · exact z
    · have := Int.mul_nonpos_of_nonpos_of_nonneg z (Int.le_of_lt hg1)
      lia
  · have h3 : Int.gcd (a.fdiv ((Int.gcd a b : Nat) : Int) * ((Int.gcd a b : Nat) : Int)) (b.fdiv ((Int.gcd a b : Nat) : Int) * ((Int.gcd a b : Nat) : Int)) = Int.gcd (a.fdiv ((Int.gcd a b : Nat) : Int)) (b.fdiv ((Int.gcd a b : Nat) : Int)) * (((Int.gcd a b : Nat) : Int)).natAbs := Int.gcd_mul_right ..
    rw [e1, e2, Int.natAbs_natCast] at h3
    have h4 : 1 * Int.gcd a b = Int.gcd (a.fdiv ((Int.gcd a b : Nat) : Int)) (b.fdiv ((Int.gcd a b : Nat) : Int)) * Int.gcd a b := by lia
    exact (Nat.eq_of_mul_eq_mul_right hg h4).symm
  · generalize a.fdiv ((Int.gcd a b : Nat) : Int) = x at *
    generalize b.fdiv ((Int.gcd a b : Nat) : Int) = y at *
    generalize ((Int.gcd a b : Nat) : Int) = z at *
    rw [← e1, ← e2]; grind
theorem ok_middle (g_ratio : FnB P w K mg base 34 "ratio" ["top", "under"] spRat) (D : DefB K mg "middle" s_middle ["one", "other"]) : FnB P w K mg base 35 "middle" ["one", "other"] spMid := by
  refine D.ok sc_middle (fun vs H Q E h => ?_) (fun f cdv A outer s H vs Q E hr h => ?_)
  · obtain ⟨g, h, t, u, t', u', n, rfl, _⟩ := h
    rfl
  obtain ⟨g, h, t, u, t', u', n, rfl, hg, hh, ⟨b1, b2, b3, b4⟩, hn, hu, hu', q⟩ := h
  have hBig : Big = 60000000 := rfl
  refine ⟨_, (pss_one (ps_ret (pe_fn g_ratio hr (pa_cons (pe_op op_add (pe_op op_mulL (pe_ix ix_tup (pv 0) pe_int (fun _ _ => rfl)) (pe_ix ix_tup (pv 1) pe_int (fun _ _ => rfl))) (pe_op op_mulL (pe_ix ix_tup (pv 1) pe_int (fun _ _ => rfl)) (pe_ix ix_tup (pv 0) pe_int (fun _ _ => rfl)))) (pa_cons (pe_op op_mulL (pe_op op_mulL pe_int (pe_ix ix_tup (pv 0) pe_int (fun _ _ => rfl))) (pe_ix ix_tup (pv 1) pe_int (fun _ _ => rfl))) pa_nil))))), ?_⟩
  walk_at "sf"
  refine r_ixT (SqT.of hg) rfl ?_
  walk_at "sf"
  refine r_ixT (SqT.of hh) rfl ?_
  refine r_i (mulOk b1 b4 (by lia)) ?_
  walk_at "sf"
  refine r_ixT (SqT.of hh) rfl ?_
  walk_at "sf"
  refine r_ixT (SqT.of hg) rfl ?_
  refine r_i (mulOk b3 b2 (by lia)) ?_
  walk_at "sf"
  refine r_ixT (SqT.of hg) rfl ?_
  have b22 : Bd 3 (2 : Int) := Bd.of_two (by decide) (by decide)
  refine r_i (mulOk b22 b2 (by lia)) ?_
  walk_at "sf"
  refine r_ixT (SqT.of hh) rfl ?_
  refine r_i (mulOk (b22.mul b2) b4 (by lia)) ?_
  walk_at "sf"
  have p1 := Int.mul_pos (Int.mul_pos (show (0 : Int) < 2 by decide) hu) hu'
  refine ⟨_, _, n + n + 3, rfl, ((b1.mul b4).add (b3.mul b2)).mono (by lia), ((b22.mul b2).mul b4).mono (by lia), by lia, p1, fun p c d hp _ _ hd hc e => ?_⟩
  walk_at "sf"
  exact q p c d hp hd hc e
theorem ok_is_within (T : Nm mg) (D : DefB K mg "is_within" s_is_within ["free", "reach"]) : FnB P w K mg base 1 "is_within" ["free", "reach"] spWithin := by
  refine D.ok sc_is_within (fun vs H Q E h => ?_) (fun f cdv A outer s H vs Q E hr h => ?_)
  · obtain ⟨a, xs, r, rfl, _⟩ := h
    rfl
  obtain ⟨a, xs, r, rfl, ha, ⟨tx, hxn, hx, bx⟩, br, qt, qf⟩ := h
  have hBig : Big = 60000000 := rfl
  have hpos := List.length_pos_iff.mpr hxn
  refine ⟨_, (pss_cons (ps_set (i := 2) sc_is_within.nd rfl (Or.inl rfl) (pe_callB call_abs rfl T.n_abs boot_abs (pa_cons (pe_ix ix_list (pv 0) (pe_un un_neg pe_int) (fun _ _ => rfl)) pa_nil)))
    (pss_cons (ps_for PassesOwn.never rfl (pi_rev rfl T.n_reversed (pa_cons (pe_slice sl_list (pv 0) po_none (po_some (pe_un un_neg pe_int))) pa_nil)) (pg_name (i := 3) sc_is_within.nd rfl (Or.inl rfl))
    (pss_cons (ps_set (i := 2) sc_is_within.nd rfl (Or.inl rfl) (pe_op op_mulL (pv 2) (pv 1)))
    (pss_one (ps_if (pt_cmpR op_gt (pe_callB call_abs rfl T.n_abs boot_abs (pa_cons (pv 3) pa_nil)) (pv 2) (nomark _))
    (pss_one (ps_ret pe_bl))
    pss_nil))))
    (pss_one (ps_ret pe_bl)))), ?_⟩
  walk_at "sf"
  refine r_ixL (SqL.of ha) (il_last hxn) ?_
  walk_at "sf"
  refine ⟨_, rfl, ?_⟩
  walk_at "sf"
  refine ⟨_, rfl, ?_⟩
  refine ⟨a, _, rfl, SqL.of ha, fun p5 hp5 => ?_⟩
  have e5 : cutV (xs.map V.int) none (some (-1)) = xs.dropLast.map V.int := cut_init xs
  have s5 := Same.new hp5 (.lst (cutV (xs.map V.int) none (some (-1))))
  have h5 : IL (upd H p5 (.lst (cutV (xs.map V.int) none (some (-1))))) p5 xs.dropLast := by show upd _ p5 _ p5 = _; rw [upd_same, e5]
  generalize upd H p5 (.lst (cutV (xs.map V.int) none (some (-1)))) = H5 at h5 s5 ⊢
  walk_at "sf"
  refine ⟨p5, _, rfl, SqL.of h5, ?_⟩
  have eab : (if co xs (xs.length - 1) < 0 then -co xs (xs.length - 1) else co xs (xs.length - 1)) = ab (co xs (xs.length - 1)) := by unfold ab; split <;> lia
  rw [eab]
  have ld : xs.dropLast.length = xs.length - 1 := List.length_dropLast
  have cd : ∀ j, j < xs.length - 1 → co xs.dropLast j = co xs j := fun j hj => by rw [List.dropLast_eq_take, co_take, if_pos hj]
  have bl : Bd 100 (ab (co xs (xs.length - 1))) := by
    have := bx.co (xs.length - 1)
    unfold Bd at *
    unfold ab; lia
  refine for_rev (xs := xs.dropLast.map V.int) (fun i σ H' => (∃ z, σ = [some (.ref a), some (.int r), some (.int (ab (co xs (xs.length - 1)) * r ^ i)), z]) ∧ H' = H5 ∧ ∀ k, k < i → ab (co xs (xs.length - 2 - k)) ≤ ab (co xs (xs.length - 1)) * r ^ (k + 1))
    ⟨⟨_, by rw [Int.pow_zero, Int.mul_one]; rfl⟩, rfl, fun k hk => absurd hk (Nat.not_lt_zero _)⟩ (fun i σ H' _ z => by rw [z.2.1]; exact SqL.of h5) ?_ ?_
  · rintro i x σ H' hi hxx ⟨⟨z, rfl⟩, rfl, hall⟩
    rw [List.length_map] at hi hxx
    obtain ⟨hix, rfl⟩ := il_get hxx
    have ei : xs.dropLast.length - 1 - i = xs.length - 2 - i := by lia
    rw [ei, cd _ (by lia)]
    have hpw := Bd.pow br i
    have hi12 : 110 * i ≤ 110 * 12 := Nat.mul_le_mul_left _ (by lia)
    walk_at "sf"
    refine r_i (mulOk (bl.mul hpw) br (by lia)) ?_
    walk_at "sf"
    refine ⟨_, rfl, ?_⟩
    walk_at "sf"
    have eb2 : (if co xs (xs.length - 2 - i) < 0 then -co xs (xs.length - 2 - i) else co xs (xs.length - 2 - i)) = ab (co xs (xs.length - 2 - i)) := by unfold ab; split <;> lia
    rw [eb2]
    have ep : ab (co xs (xs.length - 1)) * r ^ i * r = ab (co xs (xs.length - 1)) * r ^ (i + 1) := by rw [Int.mul_assoc, ← Int.pow_succ]
    rw [ep]
    refine ite2 (fun c => ?_) (fun c => ?_)
    · have hlt : ab (co xs (xs.length - 1)) * r ^ (i + 1) < ab (co xs (xs.length - 2 - i)) := by simpa using c
      walk_at "sf"
      refine qf (fun W => ?_) H' s5
      have := W i (by lia)
      lia
    · have hle : ab (co xs (xs.length - 2 - i)) ≤ ab (co xs (xs.length - 1)) * r ^ (i + 1) := by simpa using c
      walk_at "sf"
      refine ⟨⟨_, rfl⟩, rfl, fun k hk => ?_⟩
      by_cases hk2 : k < i
      · exact hall k hk2
      · have : k = i := by lia
        subst this
        exact hle
  · rintro σ H' ⟨⟨z, rfl⟩, rfl, hall⟩
    walk_at "sf"
    refine qt (fun k hk => hall k ?_) H' s5
    rw [List.length_map, ld]
    exact hk
theorem win_of {xs : List Int} (tx : Tr xs) (hxn : xs ≠ []) (bx : Ab 100 xs) : Win xs (2 ^ 100) := fun k hk => by
  have h1 := bx.co (xs.length - 2 - k)
  have h2 := ab_pos (tx.last hxn)
  have h3 : (1 : Int) ≤ (2 ^ 100) ^ k := by
    rw [← Int.pow_mul]
    exact Int.add_one_le_of_lt (Int.pow_pos (by decide))
  rw [Int.pow_succ]
  have h4 : (2 : Int) ^ 100 ≤ (2 ^ 100) ^ k * 2 ^ 100 := by
    have := Int.mul_le_mul_of_nonneg_right h3 (show (0 : Int) ≤ 2 ^ 100 by decide)
    lia
  have h5 : (2 ^ 100) ^ k * 2 ^ 100 ≤ ab (co xs (xs.length - 1)) * ((2 ^ 100) ^ k * 2 ^ 100) := by
    have := Int.mul_le_mul_of_nonneg_right (show (1 : Int) ≤ ab (co xs (xs.length - 1)) by lia) (show (0 : Int) ≤ (2 ^ 100) ^ k * 2 ^ 100 by lia)
    lia
  unfold Bd at h1
  unfold ab at h5 ⊢
  lia
theorem ok_bound_of (g_is_within : FnB P w K mg base 1 "is_within" ["free", "reach"] spWithin) (D : DefB K mg "bound_of" s_bound_of ["free"]) : FnB P w K mg base 2 "bound_of" ["free"] spBound := by
  refine D.ok sc_bound_of (fun vs H Q E h => ?_) (fun f cdv A outer s H vs Q E hr h => ?_)
  · obtain ⟨a, xs, rfl, _⟩ := h
    rfl
  obtain ⟨a, xs, rfl, ha, hp, q⟩ := h
  have hBig : Big = 60000000 := rfl
  have b22 : Bd 3 (2 : Int) := Bd.of_two (by decide) (by decide)
  refine ⟨_, (pss_cons (ps_set (i := 1) sc_bound_of.nd rfl (Or.inl rfl) pe_int)
    (pss_cons (ps_while PassesOwn.never (pt_not (pt_val (pe_fn g_is_within hr (pa_cons (pv 0) (pa_cons (pv 1) pa_nil)))))
    (pss_one (ps_set (i := 1) sc_bound_of.nd rfl (Or.inl rfl) (pe_op op_mulL pe_int (pv 1)))))
    (pss_one (ps_ret (pe_op op_mulL pe_int (pv 1)))))), ?_⟩
  walk_at "sf"
  refine while_go (fun m σ H' => ∃ j : Nat, m = 100 - j ∧ j ≤ 100 ∧ σ = [some (.ref a), some (.int ((2 : Int) ^ j))] ∧ Same H H') ⟨_, 0, rfl, by decide, rfl, Same.refl _⟩ ?_
  rintro m σ H1 ⟨j, rfl, hj, rfl, s1⟩
  have bj : Bd (j + 1) ((2 : Int) ^ j) := by
    unfold Bd
    rw [Int.natAbs_pow]
    exact Nat.pow_lt_pow_right (by decide) (by lia)
  walk_at "sf"
  refine ⟨a, xs, _, rfl, s1 _ _ ha, hp, bj.mono (by lia), fun W H2 s2 => ?_, fun W H2 s2 => ?_⟩
  · walk_at "sf"
    rw [if_neg (by decide)]
    walk_at "sf"
    refine r_i (mulOk b22 bj (by lia)) ?_
    walk_at "sf"
    refine q _ H2 (s1.trans s2) (Int.pow_pos (by decide)) ?_ W
    have e1 : ((2 ^ j : Nat) : Int) ≤ ((2 ^ 100 : Nat) : Int) := Int.ofNat_le.mpr (Nat.pow_le_pow_right (by decide) hj)
    rw [Int.natCast_pow, Int.natCast_pow] at e1
    exact e1
  · have hj2 : j ≠ 100 := fun z => by
      subst z
      exact W (win_of hp.1 hp.2.1 hp.2.2.2)
    walk_at "sf"
    rw [if_pos (by decide)]
    refine ⟨_, fun σ' H' h => h, ?_⟩
    walk_at "sf"
    refine r_i (mulOk b22 bj (by lia)) ?_
    walk_at "sf"
    exact ⟨_, by lia, j + 1, rfl, by lia, by rw [Int.pow_succ, Int.mul_comm]; rfl, s1.trans s2⟩
theorem ok_pair_around_all (T : Nm mg) (g_bound_of : FnB P w K mg base 34 "bound_of" ["free"] spBound) (g_ratio : FnB P w K mg base 34 "ratio" ["top", "under"] spRat) (D : DefB K mg "pair_around_all" s_pair_around_all ["free"]) : FnB P w K mg base 35 "pair_around_all" ["free"] spAround := by
  refine D.ok sc_pair_around_all (fun vs H Q E h => ?_) (fun f cdv A outer s H vs Q E hr h => ?_)
  · obtain ⟨a, xs, rfl, _⟩ := h
    rfl
  obtain ⟨a, xs, rfl, ha, hp, q⟩ := h
  obtain ⟨tx, hxn, hx, bx⟩ := id hp
  have hBig : Big = 60000000 := rfl
  have hl0 := tx.last hxn
  have bl := bx.co (xs.length - 1)
  generalize hle : co xs (xs.length - 1) = l at hl0 bl
  have b1 : Bd 100 ((ab l : Int)) := by
    unfold Bd at *
    unfold ab; lia
  refine ⟨_, (pss_cons (ps_set (i := 1) sc_pair_around_all.nd rfl (Or.inl rfl) pe_int)
    (pss_cons (ps_while PassesOwn.never (pt_cmpR op_eq (pe_op op_modN (pe_ix ix_list (pv 0) (pe_un un_neg pe_int) (fun _ _ => rfl)) (pv 1)) pe_int (nomark _))
    (pss_one (ps_set (i := 1) sc_pair_around_all.nd rfl (Or.inl rfl) (pe_op op_add (pv 1) pe_int))))
    (pss_cons (ps_set (i := 2) sc_pair_around_all.nd rfl (Or.inl rfl) (pe_op op_add (pe_fn g_bound_of hr (pa_cons (pv 0) pa_nil)) pe_int))
    (pss_one (ps_ret (pe_tup (pa_cons (pe_fn g_ratio hr (pa_cons (pe_op op_sub pe_int (pe_op op_mulL (pv 1) (pv 2))) (pa_cons (pv 1) pa_nil))) (pa_cons (pe_fn g_ratio hr (pa_cons (pe_op op_add pe_int (pe_op op_mulL (pv 1) (pv 2))) (pa_cons (pv 1) pa_nil))) pa_nil)))))))), ?_⟩
  walk_at "sf"
  refine while_go (fun m σ H' => ∃ o : Int, m = (ab l + 3 - o).toNat ∧ Int.gcd o 2 = 1 ∧ 3 ≤ o ∧ o ≤ ab l + 2 ∧ σ = [some (.ref a), some (.int o), none] ∧ H' = H) ⟨_, 3, rfl, by decide, by decide, ?_, rfl, rfl⟩ ?_
  · have := ab_pos hl0
    lia
  rintro m σ H' ⟨o, rfl, ho, h3, hol, rfl, rfl⟩
  have bo : Bd 102 o := by
    unfold Bd at *
    unfold ab at *
    lia
  walk_at "sf"
  refine r_ixL (SqL.of ha) (il_last hxn) ?_
  rw [hle]
  walk_at "sf"
  refine r_i (by lia) ?_
  walk_at "sf"
  have ef : l.fmod o = l % o := fmod_pos (by lia)
  rw [ef]
  refine ite2 (fun c => ?_) (fun c => ?_)
  · have hz : l % o = 0 := by simpa using c
    have hd : o ∣ l := Int.dvd_of_emod_eq_zero hz
    have hle2 : o ≤ ab l := by
      have := Int.le_of_dvd (ab_pos hl0) (by unfold ab; exact Int.dvd_natAbs.mpr hd)
      exact this
    refine ⟨_, fun σ' H' h => h, ?_⟩
    walk_at "sf"
    refine ⟨_, ?_, o + 2, rfl, ?_, by lia, by lia, rfl, rfl⟩
    · lia
    · rw [← ho, Int.gcd_add_right_left_of_dvd o (Int.dvd_refl 2)]
  · have hz : ¬ l % o = 0 := by simpa using c
    have hnd : ¬ o ∣ l := fun z => hz (Int.emod_eq_zero_of_dvd z)
    walk_at "sf"
    refine ⟨a, xs, rfl, ha, hp, fun r H1 s1 hr0 hr1 W => ?_⟩
    walk_at "sf"
    have bb : Bd 103 (2 * r + 1) := by unfold Bd; lia
    generalize hb : 2 * r + 1 = b at bb
    have hbp : 0 < b ∧ b ≤ 2 ^ 102 := by lia
    refine r_i (mulOk bo bb (by lia)) ?_
    walk_at "sf"
    have bob := bo.mul bb
    have one1 : Bd (102 + 103) (1 : Int) := Bd.mono (m := 1) (by show (1 : Int).natAbs < 2 ^ 1; decide) (by decide)
    refine ⟨_, _, 210, rfl, (one1.sub bob).mono (by decide), bo.mono (by decide), by decide, by lia, fun p1 t u hp1 _ _ hu hg e1 => ?_⟩
    walk_at "sf"
    refine r_i (mulOk bo bb (by lia)) ?_
    walk_at "sf"
    have s2 := Same.new hp1 (.tup [.int t, .int u])
    have h1 : upd H1 p1 (.tup [.int t, .int u]) p1 = some (.tup [.int t, .int u]) := upd_same
    generalize upd H1 p1 (.tup [.int t, .int u]) = H2 at s2 h1 ⊢
    refine ⟨_, _, 210, rfl, (one1.add bob).mono (by decide), bo.mono (by decide), by decide, by lia, fun p2 t' u' hp2 _ _ hu' hg' e2 => ?_⟩
    walk_at "sf"
    have s3 := Same.new hp2 (.tup [.int t', .int u'])
    have h2 : upd H2 p2 (.tup [.int t', .int u']) p2 = some (.tup [.int t', .int u']) := upd_same
    generalize upd H2 p2 (.tup [.int t', .int u']) = H3 at s3 h2 ⊢
    intro p3 hp3
    have s4 := Same.new hp3 (.tup [.ref p1, .ref p2])
    refine q p3 p1 p2 o b t u t' u' _ (s1.trans (s2.trans (s3.trans s4))) upd_same ⟨s4 _ _ (s3 _ _ h1), hu, hg⟩ ⟨s4 _ _ h2, hu', hg'⟩ ⟨ho, h3, by rw [hle]; exact hnd, bo, hbp, ⟨r, hr0, hb.symm, W⟩, e1, e2⟩
theorem ok_marked (g_changes_at : FnB P w K mg base 3 "changes_at" ["chain", "given"] spChg) (D : DefB K mg "marked" s_marked ["chain", "given"]) : FnB P w K mg base 4 "marked" ["chain", "given"] spMark := by
  refine D.ok sc_marked (fun vs H Q E h => ?_) (fun f cdv A outer s H vs Q E hr h => ?_)
  · obtain ⟨c, g, as, ps, t, u, p, rfl, _⟩ := h
    rfl
  obtain ⟨c, g, as, ps, t, u, p, rfl, hc, hi, hg, hh, q⟩ := h
  refine ⟨_, (pss_one (ps_ret (pe_tup (pa_cons (pv 1) (pa_cons (pe_fn g_changes_at hr (pa_cons (pv 0) (pa_cons (pv 1) pa_nil))) pa_nil))))), ?_⟩
  walk_at "sf"
  refine ⟨c, g, as, ps, t, u, p, rfl, hc, hi, hg, hh, fun H1 s1 => ?_⟩
  walk_at "sf"
  intro m hm
  exact q m _ (s1.trans (Same.new hm _)) upd_same
end
end K16
namespace K16
open PySem PyProof.Rows L2 SF SF.Po
theorem mul_le_r {a b c : Rat} (hc : 0 < c) : a * c ≤ b * c ↔ a ≤ b := by
  have := Rat.mul_lt_mul_right (a := b) (b := a) hc
  constructor
  · intro h
    by_cases z : a ≤ b
    · exact z
    · have z2 := this.mpr (by grind)
      grind
  · intro h
    by_cases z : a * c ≤ b * c
    · exact z
    · have z2 := this.mp (by grind)
      grind
theorem rat_le {t u t' u' : Int} (hu : 0 < u) (hu' : 0 < u') : ((t : Rat) / (u : Rat) ≤ (t' : Rat) / (u' : Rat)) ↔ t * u' ≤ t' * u := by
  have h1 : (0 : Rat) < (u : Rat) := Rat.intCast_pos.mpr hu
  have h2 : (0 : Rat) < (u' : Rat) := Rat.intCast_pos.mpr hu'
  rw [← Rat.intCast_le_intCast, Rat.intCast_mul, Rat.intCast_mul]
  have e1 : (t : Rat) / (u : Rat) * (u : Rat) = (t : Rat) := Rat.div_mul_cancel (by grind)
  have e2 : (t' : Rat) / (u' : Rat) * (u' : Rat) = (t' : Rat) := Rat.div_mul_cancel (by grind)
  generalize (t : Rat) / (u : Rat) = x at *
  generalize (t' : Rat) / (u' : Rat) = y at *
  rw [← e1, ← e2]
  have hp := Rat.mul_pos h1 h2
  have g1 : x * (u : Rat) * (u' : Rat) = x * ((u : Rat) * (u' : Rat)) := by grind
  have g2 : y * (u' : Rat) * (u : Rat) = y * ((u : Rat) * (u' : Rat)) := by grind
  rw [g1, g2]
  exact (mul_le_r hp).symm
theorem ChL.mono {xs : List Int} {ps : List (List Int)} (h : ChL xs ps) (hp : PreC xs) {t u t' u' : Int} (hu : 0 < u) (hu' : 0 < u') (hle : (t : Rat) / (u : Rat) ≤ (t' : Rat) / (u' : Rat)) : cg 0 (sgl t' u' ps) ≤ cg 0 (sgl t u ps) := by
  obtain ⟨pt, pn, pl, pa, psf⟩ := hp
  by_cases h2 : 2 ≤ xs.length
  · obtain ⟨rest, er⟩ := h.shape
    have hc := h.chn h2
    have em : ps.map ofL = ofL xs :: der (ofL xs) :: rest.map ofL := by rw [er, List.map_cons, List.map_cons, ofL_der]
    rw [em] at hc
    have hz := sf_roots pt psf
    have := chn_mono hc (fun x z w => hz x ⟨z, w⟩) hle
    rw [← em, sgs_sgl hu, sgs_sgl hu'] at this
    exact this
  · have l1 : xs.length = 1 := by have := List.length_pos_iff.mpr pn; lia
    have e2 := h.one l1
    match xs, l1 with
    | [c], _ =>
      rw [e2]
      have e3 : ∀ a b : Int, sgl a b [[c], []] = [sg c, 0] := fun a b => by
        have h1 : hv a b [c] = c := by simp [hv, sumN, co]
        have h2 : hv a b [] = 0 := by simp [hv, sumN, co]
        show [sg (hv a b [c]), sg (hv a b [])] = _
        rw [h1, h2]; rfl
      rw [e3, e3]
      exact Nat.le_refl _
theorem ChL.short {xs : List Int} {ps : List (List Int)} (h : ChL xs ps) (hp : PreC xs) {o b : Int} {k : Nat} {m t u t' u' : Int} (ho : 0 < o) (hb : 0 < b ∧ b ≤ 2 ^ 102) (hu : 0 < u) (hu' : 0 < u') (p1 : Pt o k m t u) (p2 : Pt o k (m + 2 * b) t' u') (m1 : -(b * 2 ^ k) ≤ m) (m2 : m + 2 * b ≤ b * 2 ^ k) (hk : 5700 ≤ k) :
    cg 0 (sgl t u ps) ≤ cg 0 (sgl t' u' ps) + 1 := by
  obtain ⟨pt, pn, pl, pa, psf⟩ := id hp
  have v1 := p1.val ho hu
  have v2 := p2.val ho hu'
  have hz : (0 : Rat) < 2 ^ k := Rat.pow_pos (by grind)
  have ho' : (0 : Rat) < (o : Rat) := Rat.intCast_pos.mpr ho
  have ho1 : (1 : Rat) / (o : Rat) ≤ 1 ∧ 0 < (1 : Rat) / (o : Rat) := by
    have : (1 : Rat) ≤ (o : Rat) := Rat.intCast_le_intCast (a := 1).mpr (by lia)
    refine ⟨?_, RR.dpos (by grind) ho'⟩
    have e : (1 : Rat) / (o : Rat) * (o : Rat) = 1 := Rat.div_mul_cancel (by grind)
    generalize (1 : Rat) / (o : Rat) = z at *
    by_cases c : z ≤ 1
    · exact c
    · exfalso
      have c2 : 0 < (z - 1) * (o : Rat) := Rat.mul_pos (by grind) ho'
      grind
  have hb' : (0 : Rat) < (b : Rat) := Rat.intCast_pos.mpr hb.1
  have hb2 : (b : Rat) ≤ 2 ^ 102 := by
    have : (b : Rat) ≤ ((2 ^ 102 : Int) : Rat) := Rat.intCast_le_intCast.mpr hb.2
    rw [Rat.intCast_pow] at this
    exact this
  have e12 : (((m + 2 * b : Int)) : Rat) = (m : Rat) + 2 * (b : Rat) := by rw [Rat.intCast_add, Rat.intCast_mul]; rfl
  rw [e12] at v2
  have m1' : -((b : Rat) * 2 ^ k) ≤ (m : Rat) := by
    have := Rat.intCast_le_intCast.mpr m1
    rw [Rat.intCast_neg, Rat.intCast_mul, Rat.intCast_pow] at this
    exact this
  have m2' : (m : Rat) + 2 * (b : Rat) ≤ (b : Rat) * 2 ^ k := by
    have := Rat.intCast_le_intCast.mpr m2
    rw [Rat.intCast_add, Rat.intCast_mul, Rat.intCast_mul, Rat.intCast_pow] at this
    exact this
  have d1 : (m : Rat) / 2 ^ k * 2 ^ k = (m : Rat) := Rat.div_mul_cancel (by grind)
  have d2 : ((m : Rat) + 2 * (b : Rat)) / 2 ^ k * 2 ^ k = (m : Rat) + 2 * (b : Rat) := Rat.div_mul_cancel (by grind)
  have w1 : (t' : Rat) / (u' : Rat) - (t : Rat) / (u : Rat) ≤ 1 / 2 ^ 5500 := by
    rw [v1, v2]
    have d3 : (1 : Rat) / 2 ^ 5500 * 2 ^ 5500 = 1 := Rat.div_mul_cancel (by have : (0 : Rat) < 2 ^ 5500 := Rat.pow_pos (by grind); grind)
    have ek : (2 : Rat) ^ k = 2 ^ 5500 * 2 ^ (k - 5500) := by
      rw [← pow_plus]
      congr 1; lia
    have g1 : (2 : Rat) ^ 103 ≤ 2 ^ (k - 5500) := pow_up (by grind) (by lia)
    have g2 : (2 : Rat) ^ 103 = 2 ^ 102 * 2 := Rat.pow_succ ..
    have p5 : (0 : Rat) < 2 ^ 5500 := Rat.pow_pos (by grind)
    generalize ((m : Rat) + 2 * (b : Rat)) / 2 ^ k = y at *
    generalize (m : Rat) / 2 ^ k = x at *
    have key : (y - x) * 2 ^ k ≤ 1 / 2 ^ 5500 * 2 ^ k := by
      rw [ek]
      have : (1 : Rat) / 2 ^ 5500 * (2 ^ 5500 * 2 ^ (k - 5500)) = 2 ^ (k - 5500) := by rw [← Rat.mul_assoc, d3]; grind
      rw [this, ← ek]
      grind
    have := (mul_le_r hz).mp key
    grind
  have hle : (t : Rat) / (u : Rat) ≤ (t' : Rat) / (u' : Rat) := by
    rw [v1, v2]
    generalize ((m : Rat) + 2 * (b : Rat)) / 2 ^ k = y at *
    generalize (m : Rat) / 2 ^ k = x at *
    have key : x * 2 ^ k ≤ y * 2 ^ k := by grind
    have := (mul_le_r hz).mp key
    grind
  have r1 : -(2 ^ 110) ≤ (t : Rat) / (u : Rat) := by
    rw [v1]
    have g : (2 : Rat) ^ 102 ≤ 2 ^ 110 := pow_up (by grind) (by decide)
    generalize (m : Rat) / 2 ^ k = x at *
    have key : -(b : Rat) * 2 ^ k ≤ x * 2 ^ k := by grind
    have := (mul_le_r hz).mp key
    grind
  have r2 : (t' : Rat) / (u' : Rat) ≤ 2 ^ 110 := by
    rw [v2]
    have g : (2 : Rat) ^ 103 ≤ 2 ^ 110 := pow_up (by grind) (by decide)
    have g2 : (2 : Rat) ^ 103 = 2 ^ 102 * 2 := Rat.pow_succ ..
    have g3 : (1 : Rat) ≤ 2 ^ 102 := one_le_pow' (by grind) _
    generalize ((m : Rat) + 2 * (b : Rat)) / 2 ^ k = y at *
    have key : y * 2 ^ k ≤ (b : Rat) * 2 ^ k := by grind
    have := (mul_le_r hz).mp key
    grind
  by_cases h2 : 2 ≤ xs.length
  · obtain ⟨rest, er⟩ := h.shape
    have hc := h.chn h2
    have em : ps.map ofL = ofL xs :: der (ofL xs) :: rest.map ofL := by rw [er, List.map_cons, List.map_cons, ofL_der]
    rw [em] at hc
    have hz := sf_roots pt psf
    have := chn_one hc (fun x z w => hz x ⟨z, w⟩) hle fun x y x1 x2 y1 y2 x0 y0 => by
      have q1 : Re.q (-(2 ^ 110)) ≤ Re.q ((t : Rat) / (u : Rat)) := Re.q_le.mpr r1
      have q2 : Re.q ((t' : Rat) / (u' : Rat)) ≤ Re.q (2 ^ 110) := Re.q_le.mpr r2
      have q3 : Re.q ((t' : Rat) / (u' : Rat) - (t : Rat) / (u : Rat)) ≤ Re.q (1 / 2 ^ 5500) := Re.q_le.mpr w1
      rw [Re.q_neg] at q1
      have q4 : Re.q ((t' : Rat) / (u' : Rat) - (t : Rat) / (u : Rat)) = Re.q ((t' : Rat) / (u' : Rat)) - Re.q ((t : Rat) / (u : Rat)) := by
        rw [Rat.sub_eq_add_neg, Re.q_add, Re.q_neg]; grind
      rw [q4] at q3
      refine sep pt h2 pl pa psf x0 y0 ?_ ?_ ?_
      · rw [Re.ab_le_iff]; constructor <;> grind
      · rw [Re.ab_le_iff]; constructor <;> grind
      · rw [Re.ab_le_iff]; constructor <;> grind
    rw [← em, sgs_sgl hu, sgs_sgl hu'] at this
    exact this
  · have l1 : xs.length = 1 := by have := List.length_pos_iff.mpr pn; lia
    have e2 := h.one l1
    match xs, l1 with
    | [c], _ =>
      rw [e2]
      have e3 : ∀ a b : Int, sgl a b [[c], []] = [sg c, 0] := fun a b => by
        have h1 : hv a b [c] = c := by simp [hv, sumN, co]
        have h2 : hv a b [] = 0 := by simp [hv, sumN, co]
        show [sg (hv a b [c]), sg (hv a b [])] = _
        rw [h1, h2]; rfl
      rw [e3, e3]
      lia
theorem ChL.signs {xs : List Int} {ps : List (List Int)} (h : ChL xs ps) (hp : PreC xs) {t u t' u' : Int} (hu : 0 < u) (hu' : 0 < u') (hle : (t : Rat) / (u : Rat) ≤ (t' : Rat) / (u' : Rat)) (n1 : hv t u xs ≠ 0) (n2 : hv t' u' xs ≠ 0)
    (one : cg 0 (sgl t u ps) = cg 0 (sgl t' u' ps) + 1) : sg (hv t u xs) * sg (hv t' u' xs) = -1 := by
  obtain ⟨pt, pn, pl, pa, psf⟩ := hp
  by_cases h2 : 2 ≤ xs.length
  · obtain ⟨rest, er⟩ := h.shape
    have hc := h.chn h2
    have em : ps.map ofL = ofL xs :: (ofL (derL xs) :: rest.map ofL) := by rw [er, List.map_cons, List.map_cons]
    obtain ⟨r, l, erl⟩ : ∃ r l, ofL (derL xs) :: rest.map ofL = r ++ [l] := ⟨_, _, (List.dropLast_concat_getLast (List.cons_ne_nil _ _)).symm⟩
    rw [erl] at em
    rw [em] at hc
    have a1 : at' (Re.q ((t : Rat) / (u : Rat))) (ofL xs) ≠ 0 := fun z => n1 (by
      have := sg_hv (t := t) hu xs
      rw [z, Re.sgR_zero] at this
      exact Classical.byContradiction fun w => sg_ne.mpr w this)
    have a2 : at' (Re.q ((t' : Rat) / (u' : Rat))) (ofL xs) ≠ 0 := fun z => n2 (by
      have := sg_hv (t := t') hu' xs
      rw [z, Re.sgR_zero] at this
      exact Classical.byContradiction fun w => sg_ne.mpr w this)
    have := chn_par hc hle a1 a2
    rw [← em, sgs_sgl hu, sgs_sgl hu', ← sg_hv hu, ← sg_hv hu', one, Int.pow_succ] at this
    rw [this]
    have e : ∀ n : Nat, (-1 : Int) ^ n * (-1) ^ n = 1 := fun n => by
      rw [← Int.mul_pow]
      exact Int.one_pow
    have := e (cg 0 (sgl t' u' ps))
    grind
  · exfalso
    have l1 : xs.length = 1 := by have := List.length_pos_iff.mpr pn; lia
    have e2 := h.one l1
    match xs, l1 with
    | [c], _ =>
      rw [e2] at one
      have e3 : ∀ a b : Int, sgl a b [[c], []] = [sg c, 0] := fun a b => by
        have h1 : hv a b [c] = c := by simp [hv, sumN, co]
        have h2 : hv a b [] = 0 := by simp [hv, sumN, co]
        show [sg (hv a b [c]), sg (hv a b [])] = _
        rw [h1, h2]; rfl
      rw [e3, e3] at one
      lia
end K16
namespace K16
open PySem PyProof.Rows L2 SF SF.Po
structure Sx where
  s : Addr
  ml : Addr
  mh : Addr
  gl : Addr
  gh : Addr
  k : Nat
  m : Int
  t : Int
  u : Int
  t' : Int
  u' : Int
structure Sx.Hx (H : Hp) (ps : List (List Int)) (x : Sx) : Prop where
  hs : H x.s = some (.tup [.ref x.ml, .ref x.mh])
  hl : H x.ml = some (.tup [.ref x.gl, .int ((cg 0 (sgl x.t x.u ps) : Nat) : Int)])
  hh : H x.mh = some (.tup [.ref x.gh, .int ((cg 0 (sgl x.t' x.u' ps) : Nat) : Int)])
  rl : Rt H x.gl x.t x.u
  rh : Rt H x.gh x.t' x.u'
structure Sx.Px (o b : Int) (x : Sx) : Prop where
  pl : Pt o x.k x.m x.t x.u
  ph : Pt o x.k (x.m + 2 * b) x.t' x.u'
  lo : -(b * 2 ^ x.k) ≤ x.m
  hi : x.m + 2 * b ≤ b * 2 ^ x.k
  few : x.k ≤ 5700
structure Fx where
  p : Addr
  gl : Addr
  gh : Addr
  t : Int
  u : Int
  t' : Int
  u' : Int
structure Fx.Hx (H : Hp) (f : Fx) : Prop where
  hp : H f.p = some (.tup [.ref f.gl, .ref f.gh])
  rl : Rt H f.gl f.t f.u
  rh : Rt H f.gh f.t' f.u'
structure Fx.Px (xs : List Int) (ps : List (List Int)) (f : Fx) : Prop where
  sgn : sg (hv f.t f.u xs) * sg (hv f.t' f.u' xs) = -1
  one : cg 0 (sgl f.t f.u ps) = cg 0 (sgl f.t' f.u' ps) + 1
  bt : Bd 6000 f.t
  bu : Bd 6000 f.u
  bt' : Bd 6000 f.t'
  bu' : Bd 6000 f.u'
noncomputable def Sx.iv (x : Sx) : Rat × Rat := ((x.t : Rat) / (x.u : Rat), (x.t' : Rat) / (x.u' : Rat))
noncomputable def Fx.iv (x : Fx) : Rat × Rat := ((x.t : Rat) / (x.u : Rat), (x.t' : Rat) / (x.u' : Rat))
noncomputable def Ris (l : List (Rat × Rat)) : Prop := l.Pairwise (fun p q => p.2 ≤ q.1) ∧ ∀ p ∈ l, p.1 < p.2
noncomputable def wt (ws : List Sx) : Nat := (ws.map fun x => 2 ^ (5701 - x.k) - 1).sum
noncomputable def cnS (ps : List (List Int)) (ws : List Sx) : Nat := (ws.map fun x => cg 0 (sgl x.t x.u ps) - cg 0 (sgl x.t' x.u' ps)).sum
structure IsoR (xs : List Int) (ps : List (List Int)) (o b t u t' u' : Int) (fs : List Fx) : Prop where
  pre : PreC xs
  chl : ChL xs ps
  ends : Ends xs o b t u t' u'
  hu : 0 < u
  hu' : 0 < u'
  px : ∀ f ∈ fs, f.Px xs ps
  ris : Ris (fs.map Fx.iv)
  cnt : fs.length + cg 0 (sgl t' u' ps) = cg 0 (sgl t u ps)
theorem Sx.Px.lt {o b : Int} {x : Sx} (h : x.Px o b) (ho : 0 < o) (hb : 0 < b) (hu : 0 < x.u) (hu' : 0 < x.u') : (x.t : Rat) / (x.u : Rat) < (x.t' : Rat) / (x.u' : Rat) := by
  rw [h.pl.val ho hu, h.ph.val ho hu']
  have hz : (0 : Rat) < 2 ^ x.k := Rat.pow_pos (by grind)
  have hb' : (0 : Rat) < (b : Rat) := Rat.intCast_pos.mpr hb
  have e12 : (((x.m + 2 * b : Int)) : Rat) = (x.m : Rat) + 2 * (b : Rat) := by rw [Rat.intCast_add, Rat.intCast_mul]; rfl
  rw [e12]
  have d1 : (x.m : Rat) / 2 ^ x.k * 2 ^ x.k = (x.m : Rat) := Rat.div_mul_cancel (by grind)
  have d2 : ((x.m : Rat) + 2 * (b : Rat)) / 2 ^ x.k * 2 ^ x.k = (x.m : Rat) + 2 * (b : Rat) := Rat.div_mul_cancel (by grind)
  generalize ((x.m : Rat) + 2 * (b : Rat)) / 2 ^ x.k = y2 at *
  generalize (x.m : Rat) / 2 ^ x.k = y1 at *
  have key : y1 * 2 ^ x.k < y2 * 2 ^ x.k := by grind
  have := (Rat.mul_lt_mul_right hz).mp key
  grind
theorem Sx.Hx.upd {H : Hp} {ps : List (List Int)} {x : Sx} (h : x.Hx H ps) {l : Addr} {ys : List V} (hl : H l = some (.lst ys)) (o : HO) : x.Hx (L2.upd H l o) ps := by
  have key : ∀ (c : Addr) (vs : List V), H c = some (.tup vs) → L2.upd H l o c = some (.tup vs) := fun c vs z => by
    rw [upd_ne (fun w => by rw [w, hl] at z; cases z)]
    exact z
  exact ⟨key _ _ h.hs, key _ _ h.hl, key _ _ h.hh, ⟨key _ _ h.rl.1, h.rl.2⟩, ⟨key _ _ h.rh.1, h.rh.2⟩⟩
theorem Fx.Hx.upd {H : Hp} {x : Fx} (h : x.Hx H) {l : Addr} {ys : List V} (hl : H l = some (.lst ys)) (o : HO) : x.Hx (L2.upd H l o) := by
  have key : ∀ (c : Addr) (vs : List V), H c = some (.tup vs) → L2.upd H l o c = some (.tup vs) := fun c vs z => by
    rw [upd_ne (fun w => by rw [w, hl] at z; cases z)]
    exact z
  exact ⟨key _ _ h.hp, ⟨key _ _ h.rl.1, h.rl.2⟩, ⟨key _ _ h.rh.1, h.rh.2⟩⟩
theorem Sx.Hx.same {H H' : Hp} {ps : List (List Int)} {x : Sx} (h : x.Hx H ps) (s : Same H H') : x.Hx H' ps := ⟨s _ _ h.hs, s _ _ h.hl, s _ _ h.hh, h.rl.same s, h.rh.same s⟩
theorem Fx.Hx.same {H H' : Hp} {x : Fx} (h : x.Hx H) (s : Same H H') : x.Hx H' := ⟨s _ _ h.hp, h.rl.same s, h.rh.same s⟩
theorem cg_le : ∀ (l : List Int) (b : Int), cg b l ≤ l.length
  | [], _ => Nat.le_refl _
  | x :: r, b => by
    have := cg_le r (if x ≠ 0 then x else b)
    show (if x * b < 0 then 1 else 0) + cg (if x ≠ 0 then x else b) r ≤ r.length + 1
    split <;> lia
theorem lenOk {n : Nat} (h : n ≤ 10000) : n ≤ sizeLine := Nat.le_trans h (by unfold sizeLine; decide)
theorem same_upd {H3 H : Hp} {l : Addr} (s : Same H3 H) (hl : H3 l = none) (o : HO) : Same H3 (L2.upd H l o) := fun c o' z => by
  rw [upd_ne (ne_of_none z hl)]
  exact s _ _ z
theorem wt_snoc (ws : List Sx) (x : Sx) : wt (ws ++ [x]) = wt ws + (2 ^ (5701 - x.k) - 1) := by
  unfold wt
  rw [List.map_append, List.sum_append]; simp
theorem cnS_snoc (ps : List (List Int)) (ws : List Sx) (x : Sx) : cnS ps (ws ++ [x]) = cnS ps ws + (cg 0 (sgl x.t x.u ps) - cg 0 (sgl x.t' x.u' ps)) := by
  unfold cnS
  rw [List.map_append, List.sum_append]; simp
noncomputable def spIso : Sp := fun vs H Q _ => ∃ (a : Addr) (xs : List Int), vs = [.ref a] ∧ IL H a xs ∧ (PreS xs ∧ PreC (sfL xs) ∧ xs.length ≤ 13) ∧
  ∀ (r : Addr) (fs : List Fx) (ps : List (List Int)) (o b t u t' u' : Int) (H' : Hp), Same H H' → H' r = some (.lst (fs.map fun f => V.ref f.p)) → (∀ f ∈ fs, f.Hx H') → IsoR (sfL xs) ps o b t u t' u' fs → fs.length ≤ 60 → Q (.ref r) H'
noncomputable def spDeg : Sp := fun vs H Q _ => ∃ (a : Addr) (xs : List Int), vs = [.ref a] ∧ IL H a xs ∧ Q (.int ((xs.length : Int) - 1)) H
section
variable {P : Program} {w : World} {K : PySem.W.Frag} {mg : Str → Option Value} {base : Heap}
theorem ok_degree (T : Nm mg) (D : DefB K mg "degree" s_degree ["poly"]) : FnB P w K mg base 1 "degree" ["poly"] spDeg := by
  refine D.ok sc_degree (fun vs H Q E h => ?_) (fun f cdv A outer s H vs Q E hr h => ?_)
  · obtain ⟨a, xs, rfl, _⟩ := h
    rfl
  obtain ⟨a, xs, rfl, ha, q⟩ := h
  have ex : (xs.map V.int).length = xs.length := List.length_map _
  refine ⟨_, (pss_one (ps_ret (pe_op op_sub (pe_callB call_len_seq rfl T.n_len boot_len (pa_cons (pv 0) pa_nil)) pe_int))), ?_⟩
  walk_at "sf"
  refine ⟨a, _, rfl, .inl (SqL.of ha), ?_⟩
  walk_at "sf"
  rw [ex]
  exact q
theorem ok_isolated (T : Nm mg) {uG : Value} (hG_GREATEST_DEGREE : mg "GREATEST_DEGREE" = some uG ∧ RelV (.int 12) uG) (g_degree : FnB P w K mg base 36 "degree" ["poly"] spDeg) (g_square_free : FnB P w K mg base 36 "square_free" ["poly"] (spL sfL PreS)) (g_chain_of : FnB P w K mg base 36 "chain_of" ["free"] spChain)
    (g_pair_around_all : FnB P w K mg base 36 "pair_around_all" ["free"] spAround) (g_marked : FnB P w K mg base 36 "marked" ["chain", "given"] spMark) (g_middle : FnB P w K mg base 36 "middle" ["one", "other"] spMid) (D : DefB K mg "isolated" s_isolated ["poly"]) : FnB P w K mg base 37 "isolated" ["poly"] spIso := by
  refine D.ok sc_isolated (fun vs H Q E h => ?_) (fun f cdv A outer s H vs Q E hr h => ?_)
  · obtain ⟨a, xs, rfl, _⟩ := h
    rfl
  obtain ⟨a, xs, rfl, ha, ⟨prs, prc, lx⟩, q⟩ := h
  refine ⟨_, (pss_cons (ps_if (pt_cmpR op_gt (pe_fn g_degree hr (pa_cons (pv 0) pa_nil)) (pe_glob rfl hG_GREATEST_DEGREE.1 hG_GREATEST_DEGREE.2) (nomark _))
    (pss_one ps_never)
    pss_nil)
    (pss_cons (ps_set (i := 1) sc_isolated.nd rfl (Or.inl rfl) (pe_fn g_square_free hr (pa_cons (pv 0) pa_nil)))
    (pss_cons (ps_set (i := 2) sc_isolated.nd rfl (Or.inl rfl) (pe_fn g_chain_of hr (pa_cons (pv 1) pa_nil)))
    (pss_cons (ps_set (i := 3) sc_isolated.nd rfl (Or.inl rfl) (pe_fn g_pair_around_all hr (pa_cons (pv 1) pa_nil)))
    (pss_cons (ps_set (i := 4) sc_isolated.nd rfl (Or.inl rfl) (pe_lst (pa_cons (pe_tup (pa_cons (pe_fn g_marked hr (pa_cons (pv 2) (pa_cons (pe_ix ix_tup (pv 3) pe_int (fun _ _ => rfl)) pa_nil))) (pa_cons (pe_fn g_marked hr (pa_cons (pv 2) (pa_cons (pe_ix ix_tup (pv 3) pe_int (fun _ _ => rfl)) pa_nil))) pa_nil))) pa_nil)))
    (pss_cons (ps_set (i := 5) sc_isolated.nd rfl (Or.inl rfl) (pe_lst pa_nil))
    (pss_cons (ps_while PassesOwn.never (pt_truth (pv 4) (fun _ => rfl))
    (pss_cons (ps_set (i := 6) sc_isolated.nd rfl (Or.inl rfl) (pe_bm0 PySem.F.plainAttrs_list PySem.F.slot_list_pop PySem.F.type_list_pop mt_pop (pv 4)))
    (pss_cons (ps_set (i := 7) sc_isolated.nd rfl (Or.inl rfl) (pe_ix ix_tup (pv 6) pe_int (fun _ _ => rfl)))
    (pss_cons (ps_set (i := 8) sc_isolated.nd rfl (Or.inl rfl) (pe_ix ix_tup (pv 6) pe_int (fun _ _ => rfl)))
    (pss_cons (ps_set (i := 9) sc_isolated.nd rfl (Or.inl rfl) (pe_op op_sub (pe_ix ix_tup (pv 7) pe_int (fun _ _ => rfl)) (pe_ix ix_tup (pv 8) pe_int (fun _ _ => rfl))))
    (pss_cons (ps_if (pt_cmpR op_eq (pv 9) pe_int (nomark _))
    (pss_one (ps_expr (pe_bm PySem.F.plainAttrs_list PySem.F.slot_list_append PySem.F.type_list_append mt_append (pv 5) (pa_cons (pe_tup (pa_cons (pe_ix ix_tup (pv 7) pe_int (fun _ _ => rfl)) (pa_cons (pe_ix ix_tup (pv 8) pe_int (fun _ _ => rfl)) pa_nil))) pa_nil))))
    pss_nil)
    (pss_one (ps_if (pt_cmpR op_gt (pv 9) pe_int (nomark _))
    (pss_cons (ps_set (i := 10) sc_isolated.nd rfl (Or.inl rfl) (pe_fn g_marked hr (pa_cons (pv 2) (pa_cons (pe_fn g_middle hr (pa_cons (pe_ix ix_tup (pv 7) pe_int (fun _ _ => rfl)) (pa_cons (pe_ix ix_tup (pv 8) pe_int (fun _ _ => rfl)) pa_nil))) pa_nil))))
    (pss_cons (ps_expr (pe_bm PySem.F.plainAttrs_list PySem.F.slot_list_append PySem.F.type_list_append mt_append (pv 4) (pa_cons (pe_tup (pa_cons (pv 10) (pa_cons (pv 8) pa_nil))) pa_nil)))
    (pss_one (ps_expr (pe_bm PySem.F.plainAttrs_list PySem.F.slot_list_append PySem.F.type_list_append mt_append (pv 4) (pa_cons (pe_tup (pa_cons (pv 7) (pa_cons (pv 10) pa_nil))) pa_nil))))))
    pss_nil))))))))
    (pss_one (ps_ret (pv 5)))))))))), ?_⟩
  walk_at "sf"
  refine ⟨a, xs, rfl, ha, ?_⟩
  walk_at "sf"
  rw [if_neg (by simp; lia)]
  walk_at "sf"
  refine ⟨a, xs, rfl, ha, prs, fun p1 H1 s1 h1 => ?_⟩
  walk_at "sf"
  refine ⟨p1, _, rfl, h1, prc, fun c as ps H2 s2 hc hi chl => ?_⟩
  have s12 := s1.trans s2
  walk_at "sf"
  generalize hys : sfL xs = ys at *
  obtain ⟨yt, yn, yl, ya, ysf⟩ := id prc
  refine ⟨p1, ys, rfl, s2 _ _ h1, ⟨yt, yn, yl, ya⟩, fun pp g1 g2 o b t u t' u' H3 s3 hpp r1 r2 en => ?_⟩
  have s13 := s12.trans s3
  have hc3 := s3 _ _ hc
  have hi3 : ILs H3 as ps := hi.map fun a p z => s3 _ _ z
  obtain ⟨e1, e2, e3, bo, bb, ewin, elo, ehi⟩ := id en
  have pt1 : Pt o 0 (-b) t u := by unfold Pt; rw [Int.pow_zero, Int.mul_one, elo]; grind
  have pt2 : Pt o 0 (-b + 2 * b) t' u' := by unfold Pt; rw [Int.pow_zero, Int.mul_one, ehi]; grind
  obtain ⟨bt, bu⟩ := pt1.bits (by lia) r1.2.1 r1.2.2 bo bb (by rw [Int.pow_zero]; lia) (by rw [Int.pow_zero]; lia)
  obtain ⟨bt', bu'⟩ := pt2.bits (by lia) r2.2.1 r2.2.2 bo bb (by rw [Int.pow_zero]; lia) (by rw [Int.pow_zero]; lia)
  walk_at "sf"
  refine r_ixT (SqT.of hpp) rfl ?_
  walk_at "sf"
  refine ⟨c, g1, as, ps, t, u, 210, rfl, hc3, hi3, r1.1, ⟨chl.few, chl.cnt, bt, bu, by decide⟩, fun m1 H4 s4 hm1 => ?_⟩
  walk_at "sf"
  refine r_ixT (SqT.of (s4 _ _ hpp)) rfl ?_
  walk_at "sf"
  refine ⟨c, g2, as, ps, t', u', 210, rfl, s4 _ _ hc3, hi3.map fun a p z => s4 _ _ z, (r2.same s4).1, ⟨chl.few, chl.cnt, bt', bu', by decide⟩, fun m2 H5 s5 hm2 => ?_⟩
  walk_at "sf"
  intro s0 hs0
  have s6 := Same.new hs0 (.tup [.ref m1, .ref m2])
  have h0s : upd H5 s0 (.tup [.ref m1, .ref m2]) s0 = some (.tup [.ref m1, .ref m2]) := upd_same
  generalize upd H5 s0 (.tup [.ref m1, .ref m2]) = H6 at s6 h0s ⊢
  walk_at "sf"
  intro pw hpw
  walk_at "sf"
  intro pf hpf
  have s36 := s4.trans (s5.trans s6)
  have hpw3 : H3 pw = none := s36.free hpw
  have s7 := Same.new hpw (.lst [.ref s0])
  have hpf7 : H6 pf = none := s7.free hpf
  have hpf3 : H3 pf = none := s36.free hpf7
  have npw : pw ≠ pf := fun z => by
    rw [← z, upd_same] at hpf
    cases hpf
  have s8 := Same.new hpf (.lst [])
  let x0 : Sx := ⟨s0, m1, m2, g1, g2, 0, -b, t, u, t', u'⟩
  have X0 : Sx.Hx (upd (upd H6 pw (.lst [.ref s0])) pf (.lst [])) ps x0 :=
    ⟨s8 _ _ (s7 _ _ h0s), s8 _ _ (s7 _ _ (s6 _ _ (s5 _ _ hm1))), s8 _ _ (s7 _ _ (s6 _ _ hm2)), r1.same (s36.trans (s7.trans s8)), r2.same (s36.trans (s7.trans s8))⟩
  have hw8 : upd (upd H6 pw (.lst [.ref s0])) pf (.lst []) pw = some (.lst ([x0].map fun x => V.ref x.s)) := by rw [upd_ne npw, upd_same]; rfl
  have hf8 : upd (upd H6 pw (.lst [.ref s0])) pf (.lst []) pf = some (.lst (([] : List Fx).map fun x => V.ref x.p)) := upd_same
  have s38 := s36.trans (s7.trans s8)
  generalize upd (upd H6 pw (.lst [.ref s0])) pf (.lst []) = H8 at X0 hw8 hf8 s38 ⊢
  walk_at "sf"
  have hbz : ∀ k : Nat, b * 2 ^ (k + 1) = 2 * (b * 2 ^ k) := fun k => by rw [Int.pow_succ]; grind
  refine while_go (fun m σ H' => ∃ (ws : List Sx) (fs : List Fx) (z6 z7 z8 z9 z10 : Option V), m = wt ws ∧ σ = [some (.ref a), some (.ref p1), some (.ref c), some (.ref pp), some (.ref pw), some (.ref pf), z6, z7, z8, z9, z10] ∧
      Same H3 H' ∧ H' pw = some (.lst (ws.map fun x => V.ref x.s)) ∧ H' pf = some (.lst (fs.map fun x => V.ref x.p)) ∧ (∀ x ∈ ws, x.Hx H' ps) ∧ (∀ x ∈ ws, x.Px o b) ∧ (∀ f ∈ fs, f.Hx H') ∧ (∀ f ∈ fs, f.Px ys ps) ∧
      (∀ (i : Nat) (x : Sx), ws[i]? = some x → i ≤ x.k) ∧ fs.length + cnS ps ws + cg 0 (sgl t' u' ps) = cg 0 (sgl t u ps) ∧ Ris (fs.map Fx.iv ++ ws.reverse.map Sx.iv))
    ⟨_, [x0], [], _, _, _, _, _, rfl, rfl, s38, hw8, hf8, ?_, ?_, fun f hf => (nomatch hf), fun f hf => (nomatch hf), ?_, ?_, ?_⟩ ?_
  · intro x hx
    rw [List.mem_singleton.mp hx]; exact X0
  · intro x hx
    rw [List.mem_singleton.mp hx]
    exact ⟨pt1, pt2, by show -(b * 2 ^ 0) ≤ -b; rw [Int.pow_zero]; lia, by show -b + 2 * b ≤ b * 2 ^ 0; rw [Int.pow_zero]; lia, by show 0 ≤ 5700; lia⟩
  · intro i x hix
    have : i = 0 := by
      have := (List.getElem?_eq_some_iff.mp hix).1
      simp at this
      exact this
    rw [this]; exact Nat.zero_le _
  · have lt0 := Rat.le_of_lt (Sx.Px.lt (x := x0) (o := o) (b := b) ⟨pt1, pt2, by show -(b * 2 ^ 0) ≤ -b; rw [Int.pow_zero]; lia, by show -b + 2 * b ≤ b * 2 ^ 0; rw [Int.pow_zero]; lia, by show 0 ≤ 5700; lia⟩ (by lia) bb.1 r1.2.1 r2.2.1)
    have hm0 : cg 0 (sgl t' u' ps) ≤ cg 0 (sgl t u ps) := chl.mono prc r1.2.1 r2.2.1 lt0
    show 0 + ((cg 0 (sgl t u ps) - cg 0 (sgl t' u' ps)) + 0) + cg 0 (sgl t' u' ps) = cg 0 (sgl t u ps)
    generalize cg 0 (sgl t u ps) = q1 at hm0 ⊢
    generalize cg 0 (sgl t' u' ps) = q2 at hm0 ⊢
    lia
  · have lt0 := (Sx.Px.lt (x := x0) (o := o) (b := b) ⟨pt1, pt2, by show -(b * 2 ^ 0) ≤ -b; rw [Int.pow_zero]; lia, by show -b + 2 * b ≤ b * 2 ^ 0; rw [Int.pow_zero]; lia, by show 0 ≤ 5700; lia⟩ (by lia) bb.1 r1.2.1 r2.2.1)
    refine ⟨List.pairwise_singleton _ _, fun p hp => ?_⟩
    rw [List.mem_singleton.mp hp]
    exact lt0
  rintro m σ H' ⟨ws, fs, z6, z7, z8, z9, z10, rfl, rfl, sH, hw, hf, hX, pX, hF, pF, hidx, hcnt, hris⟩
  have hcn : cg 0 (sgl t u ps) ≤ 60 := by
    have h1 := cg_le (sgl t u ps) 0
    have h2 : (sgl t u ps).length = ps.length := List.length_map _
    have h3 := chl.cnt
    lia
  walk_at "sf"
  refine ⟨_, .inl ⟨_, SqL.of hw, rfl⟩, ?_⟩
  rcases List.eq_nil_or_concat ws with ew | ⟨ws', x, ew⟩
  · subst ew
    walk_at "sf"
    rw [if_neg (by decide)]
    walk_at "sf"
    subst hys
    refine q pf fs ps o b t u t' u' H' (s13.trans sH) hf hF ⟨prc, chl, en, r1.2.1, r2.2.1, pF, ?_, ?_⟩ ?_
    · have e : fs.map Fx.iv ++ ([] : List Sx).reverse.map Sx.iv = fs.map Fx.iv := by simp
      rw [e] at hris
      exact hris
    · have : cnS ps [] = 0 := rfl
      lia
    · have : cnS ps [] = 0 := rfl
      lia
  rw [List.concat_eq_append] at ew
  subst ew
  have hxm : x ∈ ws' ++ [x] := List.mem_append_right _ List.mem_cons_self
  have hx := hX x hxm
  have px := pX x hxm
  have hkx : ws'.length ≤ x.k := hidx ws'.length x (by rw [List.getElem?_append_right (Nat.le_refl _)]; simp)
  rw [wt_snoc]
  rw [cnS_snoc] at hcnt
  have ltx := px.lt (by lia) bb.1 hx.rl.2.1 hx.rh.2.1
  have hmono := chl.mono prc hx.rl.2.1 hx.rh.2.1 (Rat.le_of_lt ltx)
  have hk5 := px.few
  have hmx : x.m ≤ b * 2 ^ x.k := by have := px.hi; lia
  have hmx2 : -(b * 2 ^ x.k) ≤ x.m + 2 * b := by have := px.lo; lia
  obtain ⟨bxt, bxu⟩ := px.pl.bits (by lia) hx.rl.2.1 hx.rl.2.2 bo bb px.lo hmx
  obtain ⟨bxt', bxu'⟩ := px.ph.bits (by lia) hx.rh.2.1 hx.rh.2.2 bo bb hmx2 px.hi
  have wpos : 1 ≤ 2 ^ (5701 - x.k) - 1 := by
    have : 2 ^ 1 ≤ 2 ^ (5701 - x.k) := Nat.pow_le_pow_right (by decide) (by lia)
    lia
  rw [if_pos (by simp)]
  refine ⟨_, fun σ' H' h => h, ?_⟩
  walk_at "sf"
  have ewm : (ws' ++ [x]).map (fun x => V.ref x.s) = ws'.map (fun x => V.ref x.s) ++ [V.ref x.s] := by rw [List.map_append]; rfl
  refine ⟨_, rfl, .inl ⟨rfl, _, SqL.of hw⟩, pw, _, V.ref x.s, rfl, rfl, hw, by rw [ewm]; simp, ?_⟩
  have edl : ((ws' ++ [x]).map (fun x => V.ref x.s)).dropLast = ws'.map (fun x => V.ref x.s) := by rw [ewm]; simp
  have n1 := same_upd sH hpw3 (.lst ((ws' ++ [x]).map (fun x => V.ref x.s)).dropLast)
  have hw1 : upd H' pw (.lst ((ws' ++ [x]).map (fun x => V.ref x.s)).dropLast) pw = some (.lst (ws'.map (fun x => V.ref x.s))) := by rw [upd_same, edl]
  have hf1 : upd H' pw (.lst ((ws' ++ [x]).map (fun x => V.ref x.s)).dropLast) pf = some (.lst (fs.map fun x => V.ref x.p)) := by rw [upd_ne (Ne.symm npw)]; exact hf
  have hx1 := hx.upd hw (.lst ((ws' ++ [x]).map (fun x => V.ref x.s)).dropLast)
  have hX1 : ∀ y ∈ ws', y.Hx (upd H' pw (.lst ((ws' ++ [x]).map (fun x => V.ref x.s)).dropLast)) ps := fun y hy => (hX y (List.mem_append_left _ hy)).upd hw _
  have hF1 : ∀ y ∈ fs, y.Hx (upd H' pw (.lst ((ws' ++ [x]).map (fun x => V.ref x.s)).dropLast)) := fun y hy => (hF y hy).upd hw _
  generalize upd H' pw (.lst ((ws' ++ [x]).map (fun x => V.ref x.s)).dropLast) = H9 at n1 hw1 hf1 hx1 hX1 hF1 ⊢
  walk_at "sf"
  refine r_ixT (SqT.of hx1.hs) rfl ?_
  walk_at "sf"
  refine r_ixT (SqT.of hx1.hs) rfl ?_
  walk_at "sf"
  refine r_ixT (SqT.of hx1.hl) rfl ?_
  walk_at "sf"
  refine r_ixT (SqT.of hx1.hh) rfl ?_
  walk_at "sf"
  generalize hcl : cg 0 (sgl x.t x.u ps) = cl at *
  generalize hch : cg 0 (sgl x.t' x.u' ps) = ch at *
  have erev : (ws' ++ [x]).reverse.map Sx.iv = x.iv :: ws'.reverse.map Sx.iv := by rw [List.reverse_append]; rfl
  rw [erev] at hris
  refine ite2 (fun c1 => ?_) (fun c1 => ?_)
  · have h1 : (cl : Int) - ch = 1 := by simpa using c1
    walk_at "sf"
    refine ⟨_, rfl, .inl ⟨rfl, _, SqL.of hf1⟩, ?_⟩
    walk_at "sf"
    refine r_ixT (SqT.of hx1.hl) rfl ?_
    walk_at "sf"
    refine r_ixT (SqT.of hx1.hh) rfl ?_
    walk_at "sf"
    intro pn hpn
    have sn := Same.new hpn (.tup [.ref x.gl, .ref x.gh])
    have hn1 : upd H9 pn (.tup [.ref x.gl, .ref x.gh]) pn = some (.tup [.ref x.gl, .ref x.gh]) := upd_same
    have hf2 := sn _ _ hf1
    generalize upd H9 pn (.tup [.ref x.gl, .ref x.gh]) = H10 at sn hn1 hf2 ⊢
    walk_at "sf"
    have lfs : fs.length ≤ 60 := by lia
    refine ⟨pf, _, _, rfl, rfl, hf2, by rw [List.length_map]; exact small4 (by lia), ?_⟩
    let f0 : Fx := ⟨pn, x.gl, x.gh, x.t, x.u, x.t', x.u'⟩
    have F0 : Fx.Hx H10 f0 := ⟨hn1, hx1.rl.same sn, hx1.rh.same sn⟩
    have n2 := n1.trans sn
    have hw2 := sn _ _ hw1
    have hFa : ∀ y ∈ fs ++ [f0], y.Hx H10 := fun y hy => by
      rcases List.mem_append.mp hy with z | z
      · exact (hF1 y z).same sn
      · rw [List.mem_singleton.mp z]; exact F0
    have emp : fs.map (fun x => V.ref x.p) ++ [V.ref pn] = (fs ++ [f0]).map (fun x => V.ref x.p) := by rw [List.map_append]; rfl
    have n3 := same_upd n2 hpf3 (.lst (fs.map (fun x => V.ref x.p) ++ [V.ref pn]))
    have hw3 : upd H10 pf (.lst (fs.map (fun x => V.ref x.p) ++ [V.ref pn])) pw = some (.lst (ws'.map (fun x => V.ref x.s))) := by rw [upd_ne npw]; exact hw2
    have hf3 : upd H10 pf (.lst (fs.map (fun x => V.ref x.p) ++ [V.ref pn])) pf = some (.lst ((fs ++ [f0]).map fun x => V.ref x.p)) := by rw [upd_same, emp]
    have hF3 : ∀ y ∈ fs ++ [f0], y.Hx (upd H10 pf (.lst (fs.map (fun x => V.ref x.p) ++ [V.ref pn]))) := fun y hy => (hFa y hy).upd hf2 _
    have hX3 : ∀ y ∈ ws', y.Hx (upd H10 pf (.lst (fs.map (fun x => V.ref x.p) ++ [V.ref pn]))) ps := fun y hy => ((hX1 y hy).same sn).upd hf2 _
    generalize upd H10 pf (.lst (fs.map (fun x => V.ref x.p) ++ [V.ref pn])) = H11 at n3 hw3 hf3 hF3 hX3 ⊢
    walk_at "sf"
    rw [if_neg (by simp; lia)]
    walk_at "sf"
    have one : cg 0 (sgl x.t x.u ps) = cg 0 (sgl x.t' x.u' ps) + 1 := by rw [hcl, hch]; lia
    have nr1 : hv x.t x.u ys ≠ 0 := no_root yn hx.rl.2.2 (px.pl.odd e1) e3
    have nr2 : hv x.t' x.u' ys ≠ 0 := no_root yn hx.rh.2.2 (px.ph.odd e1) e3
    have hsg := chl.signs prc hx.rl.2.1 hx.rh.2.1 (Rat.le_of_lt ltx) nr1 nr2 one
    refine ⟨_, Nat.lt_of_lt_of_le (Nat.lt_succ_self _) (Nat.add_le_add_left wpos _), ws', fs ++ [f0], _, _, _, _, _, rfl, rfl, n3, hw3, hf3, hX3, fun y hy => pX y (List.mem_append_left _ hy), hF3, ?_, ?_, ?_, ?_⟩
    · intro y hy
      rcases List.mem_append.mp hy with z | z
      · exact pF y z
      · rw [List.mem_singleton.mp z]
        exact ⟨hsg, one, bxt.mono (by lia), bxu.mono (by lia), bxt'.mono (by lia), bxu'.mono (by lia)⟩
    · intro i y hy
      exact hidx i y (by rw [List.getElem?_append_left (List.getElem?_eq_some_iff.mp hy).1]; exact hy)
    · rw [List.length_append]
      show fs.length + 1 + cnS ps ws' + _ = _
      lia
    · have e : (fs ++ [f0]).map Fx.iv ++ ws'.reverse.map Sx.iv = fs.map Fx.iv ++ x.iv :: ws'.reverse.map Sx.iv := by rw [List.map_append, List.append_assoc]; rfl
      rw [e]; exact hris
  · have h1 : ¬ (cl : Int) - ch = 1 := by simpa using c1
    walk_at "sf"
    refine ite2 (fun c2 => ?_) (fun c2 => ?_)
    · have h2 : 1 < (cl : Int) - ch := by simpa using c2
      have hk57 : x.k < 5700 := by
        rcases Nat.lt_or_ge x.k 5700 with z | z
        · exact z
        · exfalso
          have := chl.short prc (by lia) bb hx.rl.2.1 hx.rh.2.1 px.pl px.ph px.lo px.hi z
          rw [hcl, hch] at this
          lia
      walk_at "sf"
      refine r_ixT (SqT.of hx1.hl) rfl ?_
      walk_at "sf"
      refine r_ixT (SqT.of hx1.hh) rfl ?_
      walk_at "sf"
      refine ⟨x.gl, x.gh, x.t, x.u, x.t', x.u', x.k + 210, rfl, hx1.rl.1, hx1.rh.1, ⟨bxt, bxu, bxt', bxu'⟩, by lia, hx1.rl.2.1, hx1.rh.2.1, fun gm tm um hgm hum hcm emid => ?_⟩
      have sg1 := Same.new hgm (.tup [.int tm, .int um])
      have hgm1 : upd H9 gm (.tup [.int tm, .int um]) gm = some (.tup [.int tm, .int um]) := upd_same
      generalize upd H9 gm (.tup [.int tm, .int um]) = H10 at sg1 hgm1 ⊢
      have n2 := n1.trans sg1
      have ptm : Pt o (x.k + 1) (x.m + (x.m + 2 * b)) tm um := px.pl.mid px.ph hx.rl.2.1 hx.rh.2.1 emid
      have hb1 := hbz x.k
      have plo := px.lo
      have phi := px.hi
      obtain ⟨bm1, bm2⟩ := ptm.bits (by lia) hum hcm bo bb (by lia) (by lia)
      walk_at "sf"
      refine ⟨c, gm, as, ps, tm, um, x.k + 1 + 210, rfl, n2 _ _ hc3, hi3.map fun a p z => n2 _ _ z, hgm1, ⟨chl.few, chl.cnt, bm1, bm2, by lia⟩, fun mm H11 sm hmm => ?_⟩
      have rgm : Rt H11 gm tm um := ⟨sm _ _ hgm1, hum, hcm⟩
      have s9_11 := sg1.trans sm
      have n3 := n2.trans sm
      have hw2 := s9_11 _ _ hw1
      have hf2 := s9_11 _ _ hf1
      have hx2 := hx1.same s9_11
      have hX2 : ∀ y ∈ ws', y.Hx H11 ps := fun y hy => (hX1 y hy).same s9_11
      have hF2 : ∀ y ∈ fs, y.Hx H11 := fun y hy => (hF1 y hy).same s9_11
      walk_at "sf"
      refine ⟨_, rfl, .inl ⟨rfl, _, SqL.of hw2⟩, ?_⟩
      walk_at "sf"
      intro sa hsa
      have sn := Same.new hsa (.tup [.ref mm, .ref x.mh])
      have hn1 : upd H11 sa (.tup [.ref mm, .ref x.mh]) sa = some (.tup [.ref mm, .ref x.mh]) := upd_same
      generalize upd H11 sa (.tup [.ref mm, .ref x.mh]) = H12 at sn hn1 ⊢
      walk_at "sf"
      have lws : ws'.length ≤ 5700 := by lia
      have hw3 := sn _ _ hw2
      refine ⟨pw, _, _, rfl, rfl, hw3, by rw [List.length_map]; exact lenOk (by lia), ?_⟩
      let xa : Sx := ⟨sa, mm, x.mh, gm, x.gh, x.k + 1, x.m + (x.m + 2 * b), tm, um, x.t', x.u'⟩
      have XA : xa.Hx H12 ps := ⟨hn1, sn _ _ hmm, sn _ _ hx2.hh, rgm.same sn, hx2.rh.same sn⟩
      have eup : x.m + (x.m + 2 * b) + 2 * b = 2 * (x.m + 2 * b) := by lia
      have eup2 : 2 * x.m + 2 * b = x.m + (x.m + 2 * b) := by lia
      have PA : xa.Px o b := ⟨ptm, by show Pt o (x.k + 1) (x.m + (x.m + 2 * b) + 2 * b) x.t' x.u'; rw [eup]; exact px.ph.up, by show -(b * 2 ^ (x.k + 1)) ≤ x.m + (x.m + 2 * b); lia, by show x.m + (x.m + 2 * b) + 2 * b ≤ b * 2 ^ (x.k + 1); lia, by show x.k + 1 ≤ 5700; lia⟩
      have n4 := n3.trans sn
      have emp : ws'.map (fun x => V.ref x.s) ++ [V.ref sa] = (ws' ++ [xa]).map (fun x => V.ref x.s) := by rw [List.map_append]; rfl
      have n5 := same_upd n4 hpw3 (.lst (ws'.map (fun x => V.ref x.s) ++ [V.ref sa]))
      have hw4 : upd H12 pw (.lst (ws'.map (fun x => V.ref x.s) ++ [V.ref sa])) pw = some (.lst ((ws' ++ [xa]).map (fun x => V.ref x.s))) := by rw [upd_same, emp]
      have hf4 : upd H12 pw (.lst (ws'.map (fun x => V.ref x.s) ++ [V.ref sa])) pf = some (.lst (fs.map fun x => V.ref x.p)) := by rw [upd_ne (Ne.symm npw)]; exact sn _ _ hf2
      have hF4 : ∀ y ∈ fs, y.Hx (upd H12 pw (.lst (ws'.map (fun x => V.ref x.s) ++ [V.ref sa]))) := fun y hy => ((hF2 y hy).same sn).upd hw3 _
      have hX4 : ∀ y ∈ ws' ++ [xa], y.Hx (upd H12 pw (.lst (ws'.map (fun x => V.ref x.s) ++ [V.ref sa]))) ps := fun y hy => by
        rcases List.mem_append.mp hy with z | z
        · exact ((hX2 y z).same sn).upd hw3 _
        · rw [List.mem_singleton.mp z]; exact XA.upd hw3 _
      have hx4 := (hx2.same sn).upd hw3 (.lst (ws'.map (fun x => V.ref x.s) ++ [V.ref sa]))
      have XA4 := XA.upd hw3 (.lst (ws'.map (fun x => V.ref x.s) ++ [V.ref sa]))
      generalize upd H12 pw (.lst (ws'.map (fun x => V.ref x.s) ++ [V.ref sa])) = H13 at n5 hw4 hf4 hF4 hX4 hx4 XA4 ⊢
      walk_at "sf"
      refine ⟨_, rfl, .inl ⟨rfl, _, SqL.of hw4⟩, ?_⟩
      walk_at "sf"
      intro sb hsb
      have so := Same.new hsb (.tup [.ref x.ml, .ref mm])
      have ho1 : upd H13 sb (.tup [.ref x.ml, .ref mm]) sb = some (.tup [.ref x.ml, .ref mm]) := upd_same
      generalize upd H13 sb (.tup [.ref x.ml, .ref mm]) = H14 at so ho1 ⊢
      walk_at "sf"
      have hw5 := so _ _ hw4
      refine ⟨pw, _, _, rfl, rfl, hw5, by rw [List.length_map, List.length_append]; exact lenOk (by show ws'.length + 1 + 1 ≤ 10000; lia), ?_⟩
      let xb : Sx := ⟨sb, x.ml, mm, x.gl, gm, x.k + 1, 2 * x.m, x.t, x.u, tm, um⟩
      have XB : xb.Hx H14 ps := ⟨ho1, so _ _ hx4.hl, so _ _ XA4.hl, hx4.rl.same so, XA4.rl.same so⟩
      have PB : xb.Px o b := ⟨px.pl.up, by show Pt o (x.k + 1) (2 * x.m + 2 * b) tm um; rw [eup2]; exact ptm, by show -(b * 2 ^ (x.k + 1)) ≤ 2 * x.m; lia, by show 2 * x.m + 2 * b ≤ b * 2 ^ (x.k + 1); lia, by show x.k + 1 ≤ 5700; lia⟩
      have emp2 : (ws' ++ [xa]).map (fun x => V.ref x.s) ++ [V.ref sb] = (ws' ++ [xa] ++ [xb]).map (fun x => V.ref x.s) := by rw [List.map_append (l₁ := ws' ++ [xa])]; rfl
      have n6 := same_upd (n5.trans so) hpw3 (.lst ((ws' ++ [xa]).map (fun x => V.ref x.s) ++ [V.ref sb]))
      have hw6 : upd H14 pw (.lst ((ws' ++ [xa]).map (fun x => V.ref x.s) ++ [V.ref sb])) pw = some (.lst ((ws' ++ [xa] ++ [xb]).map (fun x => V.ref x.s))) := by rw [upd_same, emp2]
      have hf6 : upd H14 pw (.lst ((ws' ++ [xa]).map (fun x => V.ref x.s) ++ [V.ref sb])) pf = some (.lst (fs.map fun x => V.ref x.p)) := by rw [upd_ne (Ne.symm npw)]; exact so _ _ hf4
      have hF6 : ∀ y ∈ fs, y.Hx (upd H14 pw (.lst ((ws' ++ [xa]).map (fun x => V.ref x.s) ++ [V.ref sb]))) := fun y hy => ((hF4 y hy).same so).upd hw5 _
      have hX6 : ∀ y ∈ ws' ++ [xa] ++ [xb], y.Hx (upd H14 pw (.lst ((ws' ++ [xa]).map (fun x => V.ref x.s) ++ [V.ref sb]))) ps := fun y hy => by
        rcases List.mem_append.mp hy with z | z
        · exact ((hX4 y z).same so).upd hw5 _
        · rw [List.mem_singleton.mp z]; exact XB.upd hw5 _
      generalize upd H14 pw (.lst ((ws' ++ [xa]).map (fun x => V.ref x.s) ++ [V.ref sb])) = H15 at n6 hw6 hf6 hF6 hX6 ⊢
      walk_at "sf"
      have ltb := PB.lt (by lia) bb.1 hx.rl.2.1 hum
      have lta := PA.lt (by lia) bb.1 hum hx.rh.2.1
      have mb : cg 0 (sgl tm um ps) ≤ cg 0 (sgl x.t x.u ps) := chl.mono prc hx.rl.2.1 hum (Rat.le_of_lt ltb)
      have ma : cg 0 (sgl x.t' x.u' ps) ≤ cg 0 (sgl tm um ps) := chl.mono prc hum hx.rh.2.1 (Rat.le_of_lt lta)
      refine ⟨_, ?_, ws' ++ [xa] ++ [xb], fs, _, _, _, _, _, rfl, rfl, n6, hw6, hf6, hX6, ?_, hF6, pF, ?_, ?_, ?_⟩
      · rw [wt_snoc, wt_snoc]
        show wt ws' + (2 ^ (5701 - (x.k + 1)) - 1) + (2 ^ (5701 - (x.k + 1)) - 1) < wt ws' + (2 ^ (5701 - x.k) - 1)
        obtain ⟨j, hj⟩ : ∃ j, 5701 - x.k = j + 1 := ⟨5700 - x.k, by lia⟩
        have hj2 : 5701 - (x.k + 1) = j := by lia
        rw [hj, hj2, Nat.pow_succ]
        have := Nat.two_pow_pos j
        lia
      · intro y hy
        rcases List.mem_append.mp hy with z | z
        · rcases List.mem_append.mp z with z | z
          · exact pX y (List.mem_append_left _ z)
          · rw [List.mem_singleton.mp z]; exact PA
        · rw [List.mem_singleton.mp z]; exact PB
      · intro i y hy
        rcases Nat.lt_trichotomy i ws'.length with z | z | z
        · refine hidx i y ?_
          rw [List.append_assoc, List.getElem?_append_left z] at hy
          rw [List.getElem?_append_left z]
          exact hy
        · rw [List.append_assoc, List.getElem?_append_right (by lia)] at hy
          have e0 : i - ws'.length = 0 := by lia
          rw [e0] at hy
          have : xa = y := Option.some.inj hy
          rw [← this]
          show i ≤ x.k + 1
          lia
        · rw [List.append_assoc, List.getElem?_append_right (by lia)] at hy
          have hl2 := (List.getElem?_eq_some_iff.mp hy).1
          have e0 : i - ws'.length = 1 := by
            simp at hl2
            lia
          rw [e0] at hy
          have : xb = y := Option.some.inj hy
          rw [← this]
          show i ≤ x.k + 1
          lia
      · rw [cnS_snoc, cnS_snoc]
        show fs.length + (cnS ps ws' + (cg 0 (sgl tm um ps) - cg 0 (sgl x.t' x.u' ps)) + (cg 0 (sgl x.t x.u ps) - cg 0 (sgl tm um ps))) + _ = _
        rw [hcl] at mb ⊢
        rw [hch] at ma ⊢
        lia
      · have erv : (ws' ++ [xa] ++ [xb]).reverse.map Sx.iv = xb.iv :: xa.iv :: ws'.reverse.map Sx.iv := by rw [List.reverse_append, List.reverse_append]; rfl
        rw [erv]
        obtain ⟨r1', r2'⟩ := hris
        rw [List.pairwise_append, List.pairwise_cons] at r1'
        obtain ⟨pa1, ⟨pa2, pa3⟩, pa4⟩ := r1'
        have ia : xa.iv.2 = x.iv.2 := rfl
        have ib : xb.iv.1 = x.iv.1 := rfl
        have iab : xb.iv.2 = xa.iv.1 := rfl
        have la : xa.iv.1 < xa.iv.2 := lta
        have lb : xb.iv.1 < xb.iv.2 := ltb
        refine ⟨?_, fun p hp => ?_⟩
        · rw [List.pairwise_append, List.pairwise_cons, List.pairwise_cons]
          refine ⟨pa1, ⟨fun y hy => ?_, fun y hy => ?_, pa3⟩, fun y hy z hz => ?_⟩
          · rcases List.mem_cons.mp hy with e | e
            · rw [e, iab]; grind
            · have := pa2 y e
              grind
          · rw [ia]; exact pa2 y hy
          · have hyx := pa4 y hy x.iv List.mem_cons_self
            rcases List.mem_cons.mp hz with e | e
            · rw [e, ib]; exact hyx
            · rcases List.mem_cons.mp e with e | e
              · rw [e]; grind
              · exact pa4 y hy z (List.mem_cons_of_mem _ e)
        · rcases List.mem_append.mp hp with z | z
          · exact r2' p (List.mem_append_left _ z)
          · rcases List.mem_cons.mp z with e | e
            · rw [e]; exact lb
            · rcases List.mem_cons.mp e with e | e
              · rw [e]; exact la
              · exact r2' p (List.mem_append_right _ (List.mem_cons_of_mem _ e))
    · have h2 : ¬ 1 < (cl : Int) - ch := by simpa using c2
      walk_at "sf"
      refine ⟨_, Nat.lt_of_lt_of_le (Nat.lt_succ_self _) (Nat.add_le_add_left wpos _), ws', fs, _, _, _, _, _, rfl, rfl, n1, hw1, hf1, hX1, fun y hy => pX y (List.mem_append_left _ hy), hF1, pF, ?_, ?_, ?_⟩
      · intro i y hy
        exact hidx i y (by rw [List.getElem?_append_left (List.getElem?_eq_some_iff.mp hy).1]; exact hy)
      · lia
      · refine ⟨hris.1.sublist (List.Sublist.append_left (List.sublist_cons_self _ _) _), fun p hp => hris.2 p ?_⟩
        rcases List.mem_append.mp hp with z | z
        · exact List.mem_append_left _ z
        · exact List.mem_append_right _ (List.mem_cons_of_mem _ z)
end
end K16
namespace K16
open PySem PyProof.Rows L2 SF SF.Po
noncomputable def vl (t u : Int) : Rat := (t : Rat) / (u : Rat)
theorem sg_vl {t u t' u' : Int} (hu : 0 < u) (hu' : 0 < u') (h : vl t u = vl t' u') (xs : List Int) : sg (hv t u xs) = sg (hv t' u' xs) := by
  have h' : (t : Rat) / (u : Rat) = (t' : Rat) / (u' : Rat) := h
  rw [sg_hv hu, sg_hv hu', h']
theorem vl_le {t u t' u' : Int} (hu : 0 < u) (hu' : 0 < u') : vl t u ≤ vl t' u' ↔ t * u' ≤ t' * u := rat_le hu hu'
theorem vl_eq {t u t' u' : Int} (hu : 0 < u) (hu' : 0 < u') : vl t u = vl t' u' ↔ t * u' = t' * u := by
  have h1 := vl_le (t := t) (t' := t') hu hu'
  have h2 := vl_le (t := t') (t' := t) hu' hu
  constructor
  · intro h
    have := h1.mp (by rw [h]; grind)
    have := h2.mp (by rw [h]; grind)
    lia
  · intro h
    have := h1.mpr (by lia)
    have := h2.mpr (by lia)
    grind
theorem vl_lt {t u t' u' : Int} (hu : 0 < u) (hu' : 0 < u') : vl t u < vl t' u' ↔ t * u' < t' * u := by
  have h2 := vl_le (t := t') (t' := t) hu' hu
  constructor
  · intro h
    rcases Int.lt_or_le (t * u') (t' * u) with z | z
    · exact z
    · have := h2.mpr z; grind
  · intro h
    by_cases z : vl t' u' ≤ vl t u
    · have := h2.mp z; lia
    · grind
theorem vl_scale {t u c : Int} (hu : 0 < u) (hc : 0 < c) : vl (t * c) (u * c) = vl t u := (vl_eq (Int.mul_pos hu hc) hu).mpr (by grind)
noncomputable def pbF (xs : List Int) (s0 u parts near far : Int) : Option (Int × Int) :=
  if hv near (u * parts) xs = 0 then some (near, near) else if hv far (u * parts) xs = 0 then some (far, far)
  else if sg (hv near (u * parts) xs) = sg (hv s0 u xs) ∧ sg (hv far (u * parts) xs) ≠ sg (hv s0 u xs) then some (near, far) else none
structure Gd (xs : List Int) (lo hi : Rat) (D s0 s1 u : Int) : Prop where
  pos : 0 < u
  lo : lo ≤ vl s0 u
  hi : vl s1 u ≤ hi
  alt : (s1 - s0 = D ∧ 0 < D ∧ sg (hv s0 u xs) * sg (hv s1 u xs) = -1) ∨ (s0 = s1 ∧ hv s0 u xs = 0)
theorem sg_vals (x : Int) : sg x = 0 ∨ sg x = 1 ∨ sg x = -1 := by
  unfold sg; split
  · exact .inr (.inr rfl)
  · split
    · exact .inr (.inl rfl)
    · exact .inl rfl
theorem sg_z {x : Int} : sg x = 0 ↔ x = 0 := by
  have := sg_ne (x := x)
  constructor
  · intro h
    exact Classical.byContradiction fun z => this.mpr z h
  · intro h
    exact Classical.byContradiction fun z => this.mp z h
theorem Gd.part {xs : List Int} {lo hi : Rat} {D s0 s1 u : Int} (h : Gd xs lo hi D s0 s1 u) (hD : s1 - s0 = D ∧ 0 < D ∧ sg (hv s0 u xs) * sg (hv s1 u xs) = -1) {parts j : Int} (hp : 0 < parts) (j0 : 0 ≤ j) (j1 : j < parts) {l r : Int}
    (e : pbF xs s0 u parts (s0 * parts + D * j) (s0 * parts + D * j + D) = some (l, r)) : Gd xs lo hi D l r (u * parts) ∧ (r - l = D ∨ l = r) := by
  obtain ⟨d1, d2, d3⟩ := hD
  have hup := Int.mul_pos h.pos hp
  have hDj := Int.mul_nonneg (Int.le_of_lt d2) j0
  have hDp : D * j + D ≤ D * parts := by
    have := Int.mul_le_mul_of_nonneg_left (show j + 1 ≤ parts by lia) (Int.le_of_lt d2)
    rw [Int.mul_add, Int.mul_one] at this
    exact this
  have es1 : s1 * parts = s0 * parts + D * parts := by rw [← d1]; grind
  have hlo : ∀ z : Int, s0 * parts ≤ z → lo ≤ vl z (u * parts) := fun z hz => by
    have := h.lo
    rw [← vl_scale (t := s0) h.pos hp] at this
    have g := (vl_le (t := s0 * parts) (t' := z) hup hup).mpr (Int.mul_le_mul_of_nonneg_right hz (Int.le_of_lt hup))
    grind
  have hhi : ∀ z : Int, z ≤ s1 * parts → vl z (u * parts) ≤ hi := fun z hz => by
    have := h.hi
    rw [← vl_scale (t := s1) h.pos hp] at this
    have g := (vl_le (t := z) (t' := s1 * parts) hup hup).mpr (Int.mul_le_mul_of_nonneg_right hz (Int.le_of_lt hup))
    grind
  unfold pbF at e
  split at e
  · rename_i c
    obtain ⟨rfl, rfl⟩ := Prod.mk.inj (Option.some.inj e)
    exact ⟨⟨hup, hlo _ (by lia), hhi _ (by lia), .inr ⟨rfl, c⟩⟩, .inr rfl⟩
  · split at e
    · rename_i c0 c
      obtain ⟨rfl, rfl⟩ := Prod.mk.inj (Option.some.inj e)
      exact ⟨⟨hup, hlo _ (by lia), hhi _ (by lia), .inr ⟨rfl, c⟩⟩, .inr rfl⟩
    · split at e
      · rename_i c0 c1 c
        obtain ⟨rfl, rfl⟩ := Prod.mk.inj (Option.some.inj e)
        refine ⟨⟨hup, hlo _ (by lia), hhi _ (by lia), .inl ⟨by lia, d2, ?_⟩⟩, .inl (by lia)⟩
        have g1 := sg_ne.mpr c0
        have g2 := sg_ne.mpr c1
        have g3 := sg_vals (hv (s0 * parts + D * j) (u * parts) xs)
        have g4 := sg_vals (hv (s0 * parts + D * j + D) (u * parts) xs)
        obtain ⟨c2, c3⟩ := c
        rw [← c2] at c3
        generalize sg (hv (s0 * parts + D * j) (u * parts) xs) = A at *
        generalize sg (hv (s0 * parts + D * j + D) (u * parts) xs) = B at *
        rcases g3 with z | z | z <;> rcases g4 with y | y | y <;> subst z <;> subst y <;> first | rfl | (exfalso; lia)
      · cases e
theorem Gd.upper {xs : List Int} {lo hi : Rat} {D s0 s1 u : Int} (h : Gd xs lo hi D s0 s1 u) (hD : s1 - s0 = D ∧ 0 < D ∧ sg (hv s0 u xs) * sg (hv s1 u xs) = -1) (e : pbF xs s0 u 2 (2 * s0) (s0 + s1) = none) : Gd xs lo hi D (s0 + s1) (2 * s1) (2 * u) := by
  obtain ⟨d1, d2, d3⟩ := hD
  have hu := h.pos
  have hup : 0 < u * 2 := by lia
  have e2 : 2 * u = u * 2 := by lia
  have v1 : vl (2 * s0) (u * 2) = vl s0 u := by rw [Int.mul_comm 2 s0]; exact vl_scale hu (by decide)
  have v2 : vl (2 * s1) (u * 2) = vl s1 u := by rw [Int.mul_comm 2 s1]; exact vl_scale hu (by decide)
  have g1 := sg_vl hup hu v1 xs
  have g2 := sg_vl hup hu v2 xs
  rw [e2]
  unfold pbF at e
  split at e
  · cases e
  · split at e
    · cases e
    · split at e
      · cases e
      · rename_i c0 c1 c
        refine ⟨hup, ?_, by rw [v2]; exact h.hi, .inl ⟨by lia, d2, ?_⟩⟩
        · have := h.lo
          rw [← v1] at this
          have g := (vl_le (t := 2 * s0) (t' := s0 + s1) hup hup).mpr (Int.mul_le_mul_of_nonneg_right (by lia) (Int.le_of_lt hup))
          grind
        · have c3 : sg (hv (s0 + s1) (u * 2) xs) = sg (hv s0 u xs) := Classical.byContradiction fun z => c ⟨g1, z⟩
          rw [c3, g2]
          exact d3
noncomputable def ndF (w0 w1 s0 s1 u : Int) : Int := ((s1 - s0) * w1 + w0 * u - 1).fdiv (w0 * u)
theorem ndF_spec {w0 w1 s0 s1 u : Int} (hw : 0 < w0) (hu : 0 < u) : (ndF w0 w1 s0 s1 u - 1) * (w0 * u) < (s1 - s0) * w1 ∧ (s1 - s0) * w1 ≤ ndF w0 w1 s0 s1 u * (w0 * u) := by
  have hr := Int.mul_pos hw hu
  unfold ndF
  generalize w0 * u = r at hr ⊢
  generalize (s1 - s0) * w1 = x
  rw [Int.fdiv_eq_ediv_of_nonneg _ (Int.le_of_lt hr)]
  have h1 := Int.mul_ediv_add_emod (x + r - 1) r
  have h2 := Int.emod_nonneg (x + r - 1) (Int.ne_of_gt hr)
  have h3 := Int.emod_lt_of_pos (x + r - 1) hr
  generalize (x + r - 1) / r = y at *
  generalize (x + r - 1) % r = z at *
  have e : (y - 1) * r = r * y - r := by grind
  have e2 : y * r = r * y := by grind
  rw [e, e2]
  constructor <;> lia
theorem nd_less {w0 w1 D u p nd nd' : Int} (hw : 0 < w0) (hu : 0 < u) (hp : 2 ≤ p) (h2 : D * w1 ≤ nd * (w0 * u)) (hn : 2 ≤ nd) (h1 : (nd' - 1) * (w0 * (u * p)) < D * w1) : nd' < nd ∧ (nd ≤ p → nd' ≤ 1) := by
  have hr := Int.mul_pos hw hu
  have e : (nd' - 1) * (w0 * (u * p)) = (nd' - 1) * p * (w0 * u) := by grind
  rw [e] at h1
  have h3 : (nd' - 1) * p * (w0 * u) < nd * (w0 * u) := by lia
  have h4 : (nd' - 1) * p < nd := Int.lt_of_mul_lt_mul_right h3 (Int.le_of_lt hr)
  constructor
  · rcases Int.lt_or_le nd' nd with z | z
    · exact z
    · exfalso
      have : (nd - 1) * 2 ≤ (nd' - 1) * p := by
        have a1 := Int.mul_le_mul_of_nonneg_right (show nd - 1 ≤ nd' - 1 by lia) (show (0 : Int) ≤ 2 by decide)
        have a2 := Int.mul_le_mul_of_nonneg_left hp (show 0 ≤ nd' - 1 by lia)
        lia
      lia
  · intro hle
    rcases Int.lt_or_le 1 nd' with z | z
    · exfalso
      have := Int.mul_le_mul_of_nonneg_right (show (1 : Int) ≤ nd' - 1 by lia) (show 0 ≤ p by lia)
      lia
    · exact z
theorem und_le {w0 w1 D u nd p : Int} (hw : 0 < w0) (hu : 0 < u) (h1 : (nd - 1) * (w0 * u) < D * w1) (hn : 2 ≤ nd) (hp : 0 < p) (hpn : p ≤ nd) : u * p ≤ 2 * (D * w1) := by
  have hr := Int.mul_pos hw hu
  have h2 : u ≤ w0 * u := by
    have := Int.mul_le_mul_of_nonneg_right (show (1 : Int) ≤ w0 by lia) (Int.le_of_lt hu)
    lia
  have h3 : u * p ≤ u * nd := Int.mul_le_mul_of_nonneg_left hpn (Int.le_of_lt hu)
  have h4 : u * nd ≤ u * (2 * (nd - 1)) := Int.mul_le_mul_of_nonneg_left (by lia) (Int.le_of_lt hu)
  have h5 : u * (nd - 1) ≤ w0 * u * (nd - 1) := Int.mul_le_mul_of_nonneg_right h2 (by lia)
  have e1 : u * (2 * (nd - 1)) = 2 * (u * (nd - 1)) := by grind
  have e2 : (nd - 1) * (w0 * u) = w0 * u * (nd - 1) := by grind
  lia
theorem Gd.bits {xs : List Int} {lo hi : Rat} {D s0 s1 u : Int} (h : Gd xs lo hi D s0 s1 u) {n k : Nat} (hlo : -(2 ^ n) ≤ lo) (hhi : hi ≤ 2 ^ n) (bu : Bd k u) : Bd (n + k + 1) s0 ∧ Bd (n + k + 1) s1 := by
  have hu := h.pos
  have hle : s0 ≤ s1 := by
    rcases h.alt with z | z
    · lia
    · lia
  have e1 : (vl (-(2 ^ n)) 1) = -(2 ^ n) := by
    unfold vl
    rw [Rat.intCast_neg, Rat.intCast_pow]
    show -(2 ^ n) / (1 : Rat) = _
    grind
  have e2 : (vl (2 ^ n) 1) = 2 ^ n := by
    unfold vl
    rw [Rat.intCast_pow]
    show (2 ^ n) / (1 : Rat) = _
    grind
  have a1 : vl (-(2 ^ n)) 1 ≤ vl s0 u := by rw [e1]; have := h.lo; grind
  have a2 : vl s1 u ≤ vl (2 ^ n) 1 := by rw [e2]; have := h.hi; grind
  have b1 := (vl_le (by decide) hu).mp a1
  have b2 := (vl_le hu (by decide)).mp a2
  have bz : Bd (n + 1) ((2 : Int) ^ n) := by
    unfold Bd
    rw [Int.natAbs_pow]
    exact Nat.pow_lt_pow_right (by decide) (by lia)
  have bp := bz.mul bu
  unfold Bd at *
  have e3 : n + 1 + k = n + k + 1 := by lia
  rw [e3] at bp
  have e4 : -(2 : Int) ^ n * u = -(2 ^ n * u) := by grind
  rw [e4] at b1
  constructor <;> lia
end K16
namespace K16
open PySem PyProof.Rows L2 SF SF.Po
noncomputable def tel (H : Hp) (Q : VK) (under : Int) : Option (Int × Int) → Prop
  | none => Q .non H
  | some (l, h) => ∀ p, H p = none → Q (.ref p) (upd H p (.tup [.int l, .int h, .int under]))
noncomputable def spStr : Sp := fun vs H Q _ => ∃ (p g h : Addr) (t u t' u' : Int) (n : Nat), vs = [.ref p] ∧ H p = some (.tup [.ref g, .ref h]) ∧ H g = some (.tup [.int t, .int u]) ∧ H h = some (.tup [.int t', .int u']) ∧ (Bd n t ∧ Bd n u ∧ Bd n t' ∧ Bd n u' ∧ n ≤ 1000000) ∧
  ∀ s, H s = none → Q (.ref s) (upd H s (.tup [.int (t * u'), .int (t' * u), .int (u * u')]))
noncomputable def spNeed : Sp := fun vs H Q _ => ∃ (s g : Addr) (s0 s1 u w0 w1 : Int) (n : Nat), vs = [.ref s, .ref g] ∧ H s = some (.tup [.int s0, .int s1, .int u]) ∧ H g = some (.tup [.int w0, .int w1]) ∧ (Bd n s0 ∧ Bd n s1 ∧ Bd n u ∧ Bd n w0 ∧ Bd n w1 ∧ n ≤ 1000000 ∧ 0 < u ∧ 0 < w0) ∧ Q (.int (ndF w0 w1 s0 s1 u)) H
noncomputable def spPart : Sp := fun vs H Q _ => ∃ (a s : Addr) (xs : List Int) (s0 s1 u parts near far : Int) (n : Nat), vs = [.ref a, .ref s, .int parts, .int near, .int far] ∧ IL H a xs ∧ H s = some (.tup [.int s0, .int s1, .int u]) ∧
  (xs.length ≤ 13 ∧ Ab 100 xs ∧ Bd n s0 ∧ Bd n u ∧ Bd n (u * parts) ∧ Bd n parts ∧ Bd n near ∧ Bd n far ∧ n ≤ 500000) ∧ tel H Q (u * parts) (pbF xs s0 u parts near far)
noncomputable def gj (xs : List Int) (s0 s1 u parts : Int) : Int := (parts * ab (hv s0 u xs)).fdiv (ab (hv s0 u xs) + ab (hv s1 u xs))
noncomputable def spGuess : Sp := fun vs H Q _ => ∃ (a s : Addr) (xs : List Int) (s0 s1 u parts : Int) (n : Nat), vs = [.ref a, .ref s, .int parts] ∧ IL H a xs ∧ H s = some (.tup [.int s0, .int s1, .int u]) ∧
  (xs.length ≤ 13 ∧ Ab 100 xs ∧ Bd n s0 ∧ Bd n s1 ∧ Bd n u ∧ Bd n (u * parts) ∧ Bd n parts ∧ n ≤ 240000) ∧ (hv s0 u xs ≠ 0 ∧ hv s1 u xs ≠ 0 ∧ 0 < parts) ∧
  (Bd (n + n + 4) (s0 * parts + (s1 - s0) * gj xs s0 s1 u parts) → tel H Q (u * parts) (pbF xs s0 u parts (s0 * parts + (s1 - s0) * gj xs s0 s1 u parts) (s0 * parts + (s1 - s0) * gj xs s0 s1 u parts + (s1 - s0))))
noncomputable def spHalf : Sp := fun vs H Q _ => ∃ (a s : Addr) (xs : List Int) (s0 s1 u : Int) (n : Nat), vs = [.ref a, .ref s] ∧ IL H a xs ∧ H s = some (.tup [.int s0, .int s1, .int u]) ∧
  (xs.length ≤ 13 ∧ Ab 100 xs ∧ Bd n s0 ∧ Bd n s1 ∧ Bd n u ∧ n ≤ 240000) ∧
  ∀ (l h un : Int) (p : Addr) (H' : Hp), (pbF xs s0 u 2 (2 * s0) (s0 + s1) = some (l, h) ∧ un = u * 2) ∨ (pbF xs s0 u 2 (2 * s0) (s0 + s1) = none ∧ l = s0 + s1 ∧ h = 2 * s1 ∧ un = 2 * u) → Same H H' → H' p = some (.tup [.int l, .int h, .int un]) → Q (.ref p) H'
theorem gj_in {xs : List Int} {s0 s1 u parts : Int} (h0 : hv s0 u xs ≠ 0) (h1 : hv s1 u xs ≠ 0) (hp : 0 < parts) : 0 ≤ gj xs s0 s1 u parts ∧ gj xs s0 s1 u parts < parts := by
  have a0 := ab_pos h0
  have a1 := ab_pos h1
  unfold gj
  generalize ab (hv s0 u xs) = x at *
  generalize ab (hv s1 u xs) = y at *
  rw [Int.fdiv_eq_ediv_of_nonneg _ (by lia)]
  constructor
  · exact Int.ediv_nonneg (Int.mul_nonneg (by lia) (by lia)) (by lia)
  · refine Int.ediv_lt_of_lt_mul (by lia) ?_
    rw [Int.mul_add]
    have := Int.mul_pos hp a1
    lia
section
variable {P : Program} {w : World} {K : PySem.W.Frag} {mg : Str → Option Value} {base : Heap}
theorem ok_stretch_of (D : DefB K mg "stretch_of" s_stretch_of ["pair"]) : FnB P w K mg base 1 "stretch_of" ["pair"] spStr := by
  refine D.ok sc_stretch_of (fun vs H Q E h => ?_) (fun f cdv A outer s H vs Q E hr h => ?_)
  · obtain ⟨p, g, h, t, u, t', u', n, rfl, _⟩ := h
    rfl
  obtain ⟨p, g, h, t, u, t', u', n, rfl, hp, hg, hh, ⟨b1, b2, b3, b4, hn⟩, q⟩ := h
  have hBig : Big = 60000000 := rfl
  refine ⟨_, (pss_cons (ps_set (i := 1) sc_stretch_of.nd rfl (Or.inl rfl) (pe_ix ix_tup (pv 0) pe_int (fun _ _ => rfl)))
    (pss_cons (ps_set (i := 2) sc_stretch_of.nd rfl (Or.inl rfl) (pe_ix ix_tup (pv 0) pe_int (fun _ _ => rfl)))
    (pss_one (ps_ret (pe_tup (pa_cons (pe_op op_mulL (pe_ix ix_tup (pv 1) pe_int (fun _ _ => rfl)) (pe_ix ix_tup (pv 2) pe_int (fun _ _ => rfl))) (pa_cons (pe_op op_mulL (pe_ix ix_tup (pv 2) pe_int (fun _ _ => rfl)) (pe_ix ix_tup (pv 1) pe_int (fun _ _ => rfl))) (pa_cons (pe_op op_mulL (pe_ix ix_tup (pv 1) pe_int (fun _ _ => rfl)) (pe_ix ix_tup (pv 2) pe_int (fun _ _ => rfl))) pa_nil)))))))), ?_⟩
  walk_at "sf"
  refine r_ixT (SqT.of hp) rfl ?_
  walk_at "sf"
  refine r_ixT (SqT.of hp) rfl ?_
  walk_at "sf"
  refine r_ixT (SqT.of hg) rfl ?_
  walk_at "sf"
  refine r_ixT (SqT.of hh) rfl ?_
  refine r_i (mulOk b1 b4 (by lia)) ?_
  walk_at "sf"
  refine r_ixT (SqT.of hh) rfl ?_
  walk_at "sf"
  refine r_ixT (SqT.of hg) rfl ?_
  refine r_i (mulOk b3 b2 (by lia)) ?_
  walk_at "sf"
  refine r_ixT (SqT.of hg) rfl ?_
  walk_at "sf"
  refine r_ixT (SqT.of hh) rfl ?_
  refine r_i (mulOk b2 b4 (by lia)) ?_
  walk_at "sf"
  exact q
theorem ok_parts_needed (hT : P.given.tree = none) (D : DefB K mg "parts_needed" s_parts_needed ["stretch", "width"]) : FnB P w K mg base 33 "parts_needed" ["stretch", "width"] spNeed := by
  refine D.ok sc_parts_needed (fun vs H Q E h => ?_) (fun f cdv A outer s H vs Q E hr h => ?_)
  · obtain ⟨s, g, s0, s1, u, w0, w1, n, rfl, _⟩ := h
    rfl
  obtain ⟨s, g, s0, s1, u, w0, w1, n, rfl, hs, hg, ⟨b1, b2, b3, b4, b5, hn, hu, hw⟩, q⟩ := h
  have hBig : Big = 60000000 := rfl
  refine ⟨_, (pss_cons (ps_set (i := 2) sc_parts_needed.nd rfl (Or.inl rfl) (pe_op op_mulL (pe_ix ix_tup (pv 1) pe_int (fun _ _ => rfl)) (pe_ix ix_tup (pv 0) pe_int (fun _ _ => rfl))))
    (pss_one (ps_ret (pe_op (op_fdivP ⟨hT, ⟨_, _, rfl, rfl, rfl, rfl, rfl⟩, hr.py⟩) (pe_op op_sub (pe_op op_add (pe_op op_mulL (pe_op op_sub (pe_ix ix_tup (pv 0) pe_int (fun _ _ => rfl)) (pe_ix ix_tup (pv 0) pe_int (fun _ _ => rfl))) (pe_ix ix_tup (pv 1) pe_int (fun _ _ => rfl))) (pv 2)) pe_int) (pv 2))))), ?_⟩
  walk_at "sf"
  refine r_ixT (SqT.of hg) rfl ?_
  walk_at "sf"
  refine r_ixT (SqT.of hs) rfl ?_
  refine r_i (mulOk b4 b3 (by lia)) ?_
  walk_at "sf"
  refine r_ixT (SqT.of hs) rfl ?_
  walk_at "sf"
  refine r_ixT (SqT.of hs) rfl ?_
  walk_at "sf"
  refine r_ixT (SqT.of hg) rfl ?_
  refine r_i (mulOk (b2.sub b1) b5 (by lia)) ?_
  walk_at "sf"
  refine r_i (Int.ne_of_gt (Int.mul_pos hw hu)) ?_
  walk_at "sf"
  exact q
theorem ok_part_between (g_sign : FnB P w K mg base 1 "sign" ["number"] spSign) (g_height_at : FnB P w K mg base 1 "height_at" ["poly", "top", "under"] spHeight) (D : DefB K mg "part_between" s_part_between ["free", "stretch", "parts", "near", "far"]) : FnB P w K mg base 2 "part_between" ["free", "stretch", "parts", "near", "far"] spPart := by
  refine D.ok sc_part_between (fun vs H Q E h => ?_) (fun f cdv A outer s H vs Q E hr h => ?_)
  · obtain ⟨a, s, xs, s0, s1, u, parts, near, far, n, rfl, _⟩ := h
    rfl
  obtain ⟨a, s, xs, s0, s1, u, parts, near, far, n, rfl, ha, hs, ⟨hx, bx, b1, b2, b3, b4, b5, b6, hn⟩, q⟩ := h
  have hBig : Big = 60000000 := rfl
  refine ⟨_, (pss_cons (ps_set (i := 5) sc_part_between.nd rfl (Or.inl rfl) (pe_op op_mulL (pe_ix ix_tup (pv 1) pe_int (fun _ _ => rfl)) (pv 2)))
    (pss_cons (ps_set (i := 6) sc_part_between.nd rfl (Or.inl rfl) (pe_fn g_sign hr (pa_cons (pe_fn g_height_at hr (pa_cons (pv 0) (pa_cons (pe_ix ix_tup (pv 1) pe_int (fun _ _ => rfl)) (pa_cons (pe_ix ix_tup (pv 1) pe_int (fun _ _ => rfl)) pa_nil)))) pa_nil)))
    (pss_cons (ps_set (i := 7) sc_part_between.nd rfl (Or.inl rfl) (pe_fn g_sign hr (pa_cons (pe_fn g_height_at hr (pa_cons (pv 0) (pa_cons (pv 3) (pa_cons (pv 5) pa_nil)))) pa_nil)))
    (pss_cons (ps_if (pt_cmpR op_eq (pv 7) pe_int (nomark _))
    (pss_one (ps_ret (pe_tup (pa_cons (pv 3) (pa_cons (pv 3) (pa_cons (pv 5) pa_nil))))))
    pss_nil)
    (pss_cons (ps_set (i := 8) sc_part_between.nd rfl (Or.inl rfl) (pe_fn g_sign hr (pa_cons (pe_fn g_height_at hr (pa_cons (pv 0) (pa_cons (pv 4) (pa_cons (pv 5) pa_nil)))) pa_nil)))
    (pss_cons (ps_if (pt_cmpR op_eq (pv 8) pe_int (nomark _))
    (pss_one (ps_ret (pe_tup (pa_cons (pv 4) (pa_cons (pv 4) (pa_cons (pv 5) pa_nil))))))
    pss_nil)
    (pss_one (ps_ret (pe_ifExp (PW.pt (pw_and (pt_cmpR op_eq (pv 7) (pv 6) (nomark _)) (pw_and1 (pt_cmpR op_ne (pv 8) (pv 6) (nomark _))))) (pe_tup (pa_cons (pv 3) (pa_cons (pv 4) (pa_cons (pv 5) pa_nil)))) pe_non))))))))), ?_⟩
  walk_at "sf"
  refine r_ixT (SqT.of hs) rfl ?_
  walk_at "sf"
  refine r_i (mulOk b2 b4 (by lia)) ?_
  walk_at "sf"
  refine r_ixT (SqT.of hs) rfl ?_
  walk_at "sf"
  refine r_ixT (SqT.of hs) rfl ?_
  walk_at "sf"
  refine ⟨a, xs, s0, u, 100, n, rfl, ha, ⟨by lia, bx, b1, b2, by lia⟩, ?_⟩
  walk_at "sf"
  refine ⟨_, rfl, ?_⟩
  walk_at "sf"
  refine ⟨a, xs, near, u * parts, 100, n, rfl, ha, ⟨by lia, bx, b5, b3, by lia⟩, ?_⟩
  walk_at "sf"
  refine ⟨_, rfl, ?_⟩
  walk_at "sf"
  unfold pbF at q
  refine ite2 (fun c => ?_) (fun c => ?_)
  · have h1 : hv near (u * parts) xs = 0 := sg_z.mp (by simpa using c)
    rw [if_pos h1] at q
    walk_at "sf"
    exact q
  · have h1 : ¬ hv near (u * parts) xs = 0 := fun z => by
      have : ¬ sg (hv near (u * parts) xs) = 0 := by simpa using c
      exact this (sg_z.mpr z)
    rw [if_neg h1] at q
    walk_at "sf"
    refine ⟨a, xs, far, u * parts, 100, n, rfl, ha, ⟨by lia, bx, b6, b3, by lia⟩, ?_⟩
    walk_at "sf"
    refine ⟨_, rfl, ?_⟩
    walk_at "sf"
    refine ite2 (fun c => ?_) (fun c => ?_)
    · have h2 : hv far (u * parts) xs = 0 := sg_z.mp (by simpa using c)
      rw [if_pos h2] at q
      walk_at "sf"
      exact q
    · have h2 : ¬ hv far (u * parts) xs = 0 := fun z => by
        have : ¬ sg (hv far (u * parts) xs) = 0 := by simpa using c
        exact this (sg_z.mpr z)
      rw [if_neg h2] at q
      walk_at "sf"
      refine ite2 (fun c1 => ?_) (fun c1 => ?_)
      · have h3 : sg (hv near (u * parts) xs) = sg (hv s0 u xs) := by simpa using c1
        walk_at "sf"
        refine ite2 (fun c2 => ?_) (fun c2 => ?_)
        · have h4 : sg (hv far (u * parts) xs) ≠ sg (hv s0 u xs) := by simpa using c2
          rw [if_pos ⟨h3, h4⟩] at q
          walk_at "sf"
          exact q
        · have h4 : sg (hv far (u * parts) xs) = sg (hv s0 u xs) := by simpa using c2
          rw [if_neg (fun z => z.2 h4)] at q
          walk_at "sf"
          exact q
      · have h3 : ¬ sg (hv near (u * parts) xs) = sg (hv s0 u xs) := by simpa using c1
        rw [if_neg (fun z => h3 z.1)] at q
        walk_at "sf"
        exact q
theorem ok_guessed (T : Nm mg) (hT : P.given.tree = none) (g_height_at : FnB P w K mg base 33 "height_at" ["poly", "top", "under"] spHeight) (g_part_between : FnB P w K mg base 33 "part_between" ["free", "stretch", "parts", "near", "far"] spPart) (D : DefB K mg "guessed" s_guessed ["free", "stretch", "parts"]) : FnB P w K mg base 34 "guessed" ["free", "stretch", "parts"] spGuess := by
  refine D.ok sc_guessed (fun vs H Q E h => ?_) (fun f cdv A outer s H vs Q E hr h => ?_)
  · obtain ⟨a, s, xs, s0, s1, u, parts, n, rfl, _⟩ := h
    rfl
  obtain ⟨a, s, xs, s0, s1, u, parts, n, rfl, ha, hs, ⟨hx, bx, b1, b2, b3, b4, b5, hn⟩, ⟨hz0, hz1, hp⟩, q⟩ := h
  have hBig : Big = 60000000 := rfl
  have gin := gj_in hz0 hz1 hp
  have eab : ∀ x : Int, (if x < 0 then -x else x) = ab x := fun x => by unfold ab; split <;> lia
  have bab : ∀ {k : Nat} {x : Int}, Bd k x → Bd k (ab x) := fun {k x} h => by
    unfold Bd at *
    unfold ab; lia
  have hv0 : Bd (100 + (n + 1) * 13 + 1) (hv s0 u xs) := by
    have := (hvp_bd b1 b3 bx (j := xs.length) (Nat.le_refl _)).1
    rw [hvp_full] at this
    exact this.mono (by have := Nat.mul_le_mul_left (n + 1) hx; lia)
  have hv1 : Bd (100 + (n + 1) * 13 + 1) (hv s1 u xs) := by
    have := (hvp_bd b2 b3 bx (j := xs.length) (Nat.le_refl _)).1
    rw [hvp_full] at this
    exact this.mono (by have := Nat.mul_le_mul_left (n + 1) hx; lia)
  have bg : Bd n (gj xs s0 s1 u parts) := by
    unfold Bd at *
    lia
  have bnear : Bd (n + n + 3) (s0 * parts + (s1 - s0) * gj xs s0 s1 u parts) := (((b1.mul b5).mono (n := n + n + 2) (by lia)).add (((b2.sub b1).mul bg).mono (n := n + n + 2) (by lia))).mono (by lia)
  refine ⟨_, (pss_cons (ps_set (i := 3) sc_guessed.nd rfl (Or.inl rfl) (pe_op op_sub (pe_ix ix_tup (pv 1) pe_int (fun _ _ => rfl)) (pe_ix ix_tup (pv 1) pe_int (fun _ _ => rfl))))
    (pss_cons (ps_set (i := 4) sc_guessed.nd rfl (Or.inl rfl) (pe_callB call_abs rfl T.n_abs boot_abs (pa_cons (pe_fn g_height_at hr (pa_cons (pv 0) (pa_cons (pe_ix ix_tup (pv 1) pe_int (fun _ _ => rfl)) (pa_cons (pe_ix ix_tup (pv 1) pe_int (fun _ _ => rfl)) pa_nil)))) pa_nil)))
    (pss_cons (ps_set (i := 5) sc_guessed.nd rfl (Or.inl rfl) (pe_callB call_abs rfl T.n_abs boot_abs (pa_cons (pe_fn g_height_at hr (pa_cons (pv 0) (pa_cons (pe_ix ix_tup (pv 1) pe_int (fun _ _ => rfl)) (pa_cons (pe_ix ix_tup (pv 1) pe_int (fun _ _ => rfl)) pa_nil)))) pa_nil)))
    (pss_cons (ps_set (i := 6) sc_guessed.nd rfl (Or.inl rfl) (pe_op (op_fdivP ⟨hT, ⟨_, _, rfl, rfl, rfl, rfl, rfl⟩, hr.py⟩) (pe_op op_mulL (pv 2) (pv 4)) (pe_op op_add (pv 4) (pv 5))))
    (pss_cons (ps_set (i := 7) sc_guessed.nd rfl (Or.inl rfl) (pe_op op_add (pe_op op_mulL (pe_ix ix_tup (pv 1) pe_int (fun _ _ => rfl)) (pv 2)) (pe_op op_mulL (pv 3) (pv 6))))
    (pss_one (ps_ret (pe_fn g_part_between hr (pa_cons (pv 0) (pa_cons (pv 1) (pa_cons (pv 2) (pa_cons (pv 7) (pa_cons (pe_op op_add (pv 7) (pv 3)) pa_nil))))))))))))), ?_⟩
  walk_at "sf"
  refine r_ixT (SqT.of hs) rfl ?_
  walk_at "sf"
  refine r_ixT (SqT.of hs) rfl ?_
  walk_at "sf"
  refine r_ixT (SqT.of hs) rfl ?_
  walk_at "sf"
  refine r_ixT (SqT.of hs) rfl ?_
  walk_at "sf"
  refine ⟨a, xs, s0, u, 100, n, rfl, ha, ⟨by lia, bx, b1, b3, by lia⟩, ?_⟩
  walk_at "sf"
  refine ⟨_, rfl, ?_⟩
  walk_at "sf"
  refine r_ixT (SqT.of hs) rfl ?_
  walk_at "sf"
  refine r_ixT (SqT.of hs) rfl ?_
  walk_at "sf"
  refine ⟨a, xs, s1, u, 100, n, rfl, ha, ⟨by lia, bx, b2, b3, by lia⟩, ?_⟩
  walk_at "sf"
  refine ⟨_, rfl, ?_⟩
  rw [eab, eab]
  walk_at "sf"
  refine r_i (mulOk b5 (bab hv0) (by lia)) ?_
  walk_at "sf"
  have a0 := ab_pos hz0
  have a1 := ab_pos hz1
  refine r_i (by lia) ?_
  walk_at "sf"
  have egj : (parts * ab (hv s0 u xs)).fdiv (ab (hv s0 u xs) + ab (hv s1 u xs)) = gj xs s0 s1 u parts := rfl
  rw [egj]
  refine r_ixT (SqT.of hs) rfl ?_
  walk_at "sf"
  refine r_i (mulOk b1 b5 (by lia)) ?_
  walk_at "sf"
  refine r_i (mulOk (b2.sub b1) bg (by lia)) ?_
  walk_at "sf"
  refine ⟨a, s, xs, s0, s1, u, parts, _, _, n + n + 4, rfl, ha, hs, ⟨hx, bx, b1.mono (by lia), b3.mono (by lia), b4.mono (by lia), b5.mono (by lia), bnear.mono (by lia), (bnear.add ((b2.sub b1).mono (by lia))).mono (by lia), by lia⟩, ?_⟩
  exact q (bnear.mono (by lia))
theorem ok_halved (g_part_between : FnB P w K mg base 33 "part_between" ["free", "stretch", "parts", "near", "far"] spPart) (D : DefB K mg "halved" s_halved ["free", "stretch"]) : FnB P w K mg base 34 "halved" ["free", "stretch"] spHalf := by
  refine D.ok sc_halved (fun vs H Q E h => ?_) (fun f cdv A outer s H vs Q E hr h => ?_)
  · obtain ⟨a, s, xs, s0, s1, u, n, rfl, _⟩ := h
    rfl
  obtain ⟨a, s, xs, s0, s1, u, n, rfl, ha, hs, ⟨hx, bx, b1, b2, b3, hn⟩, q⟩ := h
  have hBig : Big = 60000000 := rfl
  have b22 : Bd 3 (2 : Int) := Bd.of_two (by decide) (by decide)
  refine ⟨_, (pss_cons (ps_set (i := 2) sc_halved.nd rfl (Or.inl rfl) (pe_op op_add (pe_ix ix_tup (pv 1) pe_int (fun _ _ => rfl)) (pe_ix ix_tup (pv 1) pe_int (fun _ _ => rfl))))
    (pss_cons (ps_set (i := 3) sc_halved.nd rfl (Or.inl rfl) (pe_fn g_part_between hr (pa_cons (pv 0) (pa_cons (pv 1) (pa_cons pe_int (pa_cons (pe_op op_mulL pe_int (pe_ix ix_tup (pv 1) pe_int (fun _ _ => rfl))) (pa_cons (pv 2) pa_nil)))))))
    (pss_one (ps_ret (pe_ifExp (pt_cmpR op_isN (pv 3) pe_non (nomark _)) (pe_tup (pa_cons (pv 2) (pa_cons (pe_op op_mulL pe_int (pe_ix ix_tup (pv 1) pe_int (fun _ _ => rfl))) (pa_cons (pe_op op_mulL pe_int (pe_ix ix_tup (pv 1) pe_int (fun _ _ => rfl))) pa_nil)))) (pv 3)))))), ?_⟩
  walk_at "sf"
  refine r_ixT (SqT.of hs) rfl ?_
  walk_at "sf"
  refine r_ixT (SqT.of hs) rfl ?_
  walk_at "sf"
  refine r_ixT (SqT.of hs) rfl ?_
  refine r_i (mulOk b22 b1 (by lia)) ?_
  walk_at "sf"
  refine ⟨a, s, xs, s0, s1, u, 2, 2 * s0, s0 + s1, n + 4, rfl, ha, hs, ⟨hx, bx, b1.mono (by lia), b3.mono (by lia), (b3.mul b22).mono (by lia), b22.mono (by lia), (b22.mul b1).mono (by lia), (b1.add b2).mono (by lia), by lia⟩, ?_⟩
  cases e : pbF xs s0 u 2 (2 * s0) (s0 + s1) with
  | none =>
    show _
    walk_at "sf"
    refine ⟨_, rfl, ?_⟩
    refine (show _ ∧ _ from ⟨rfl, ?_⟩)
    refine ⟨_, rfl, ?_⟩
    show (if decide (V.non = V.non) = true then _ else _)
    rw [if_pos (by decide)]
    walk_at "sf"
    refine r_ixT (SqT.of hs) rfl ?_
    refine r_i (mulOk b22 b2 (by lia)) ?_
    walk_at "sf"
    refine r_ixT (SqT.of hs) rfl ?_
    refine r_i (mulOk b22 b3 (by lia)) ?_
    walk_at "sf"
    intro p hp
    exact q _ _ _ p _ (.inr ⟨e, rfl, rfl, rfl⟩) (Same.new hp _) upd_same
  | some r =>
    obtain ⟨l, h⟩ := r
    intro p hp
    have sp := Same.new hp (.tup [.int l, .int h, .int (u * 2)])
    have hp1 : upd H p (.tup [.int l, .int h, .int (u * 2)]) p = some (.tup [.int l, .int h, .int (u * 2)]) := upd_same
    generalize upd H p (.tup [.int l, .int h, .int (u * 2)]) = H1 at sp hp1 ⊢
    walk_at "sf"
    refine (show _ ∧ _ from ⟨rfl, ?_⟩)
    refine ⟨_, rfl, ?_⟩
    show (if decide (V.ref p = V.non) = true then _ else _)
    rw [if_neg (by simp)]
    walk_at "sf"
    exact q l h (u * 2) p H1 (.inl ⟨e, rfl⟩) sp hp1
end
end K16
namespace K16
open PySem PyProof.Rows L2 SF SF.Po
noncomputable def Abt (xs : List Int) (t u t' u' : Int) : Prop := (vl t u < vl t' u' ∧ sg (hv t u xs) * sg (hv t' u' xs) = -1) ∨ (vl t u = vl t' u' ∧ hv t u xs = 0)
structure Nw (xs : List Int) (t u t' u' w0 w1 c d c' d' : Int) (k : Nat) : Prop where
  lo : vl t u ≤ vl c d
  hi : vl c' d' ≤ vl t' u'
  wd : vl c' d' - vl c d ≤ vl w0 w1
  abt : Abt xs c d c' d'
  b1 : Bd k c
  b2 : Bd k d
  b3 : Bd k c'
  b4 : Bd k d'
noncomputable def spNarrow (Pre : List Int → Prop) (F : List Int → List Int) : Sp := fun vs H Q _ => ∃ (a pr g h wd : Addr) (xs : List Int) (t u t' u' w0 w1 : Int) (n : Nat), vs = [.ref a, .ref pr, .ref wd] ∧ IL H a xs ∧ H pr = some (.tup [.ref g, .ref h]) ∧ H g = some (.tup [.int t, .int u]) ∧ H h = some (.tup [.int t', .int u']) ∧ H wd = some (.tup [.int w0, .int w1]) ∧
  Pre xs ∧ ((F xs).length ≤ 13 ∧ Ab 100 (F xs)) ∧ (Bd n t ∧ Bd n u ∧ Bd n t' ∧ Bd n u' ∧ n ≤ 20000 ∧ Bd 1000 w0 ∧ Bd 1000 w1 ∧ 0 < u ∧ 0 < u' ∧ 0 < w0 ∧ 0 < w1) ∧ Abt (F xs) t u t' u' ∧
  ∀ (p g h : Addr) (c d c' d' : Int) (H' : Hp), Same H H' → H' p = some (.tup [.ref g, .ref h]) → Rt H' g c d → Rt H' h c' d' → Nw (F xs) t u t' u' w0 w1 c d c' d' (3 * n + 1020) → Q (.ref p) H'
theorem vl_sub (s0 s1 u : Int) : vl s1 u - vl s0 u = vl (s1 - s0) u := by
  unfold vl
  have : ((s1 - s0 : Int) : Rat) = (s1 : Rat) - (s0 : Rat) := by rw [Int.sub_eq_add_neg, Rat.intCast_add, Rat.intCast_neg]; grind
  rw [this, Rat.div_def, Rat.div_def, Rat.div_def]
  grind
theorem sg_ne_of {a b : Int} (h : sg a * sg b = -1) : a ≠ 0 ∧ b ≠ 0 := by
  constructor
  · rintro rfl
    have : sg 0 = 0 := rfl
    rw [this] at h; lia
  · rintro rfl
    have : sg 0 = 0 := rfl
    rw [this] at h; lia
theorem Abt.start {xs : List Int} {t u t' u' : Int} (h : Abt xs t u t' u') (hu : 0 < u) (hu' : 0 < u') : Gd xs (vl t u) (vl t' u') (t' * u - t * u') (t * u') (t' * u) (u * u') := by
  have hp := Int.mul_pos hu hu'
  have v1 : vl (t * u') (u * u') = vl t u := vl_scale hu hu'
  have v2 : vl (t' * u) (u * u') = vl t' u' := by rw [Int.mul_comm u u']; exact vl_scale hu' hu
  refine ⟨hp, by rw [v1]; grind, by rw [v2]; grind, ?_⟩
  rcases h with ⟨h1, h2⟩ | ⟨h1, h2⟩
  · have := (vl_lt hu hu').mp h1
    refine .inl ⟨rfl, by lia, ?_⟩
    rw [sg_vl hp hu v1, sg_vl hp hu' v2]; exact h2
  · have := (vl_eq hu hu').mp h1
    refine .inr ⟨by lia, sg_z.mp ?_⟩
    rw [sg_vl hp hu v1]; exact sg_z.mpr h2
theorem bd_of_le {k : Nat} {x y : Int} (h0 : 0 ≤ x) (h : x ≤ y) (b : Bd k y) : Bd k x := by
  unfold Bd at *
  lia
section
variable {P : Program} {w : World} {K : PySem.W.Frag} {mg : Str → Option Value} {base : Heap}
theorem ok_narrowed (T : Nm mg) (g_stretch_of : FnB P w K mg base 35 "stretch_of" ["pair"] spStr) (g_parts_needed : FnB P w K mg base 35 "parts_needed" ["stretch", "width"] spNeed) (g_guessed : FnB P w K mg base 35 "guessed" ["free", "stretch", "parts"] spGuess) (g_halved : FnB P w K mg base 35 "halved" ["free", "stretch"] spHalf)
    (g_ratio : FnB P w K mg base 35 "ratio" ["top", "under"] spRat) (D : DefB K mg "narrowed" s_narrowed ["free", "pair", "width"]) : FnB P w K mg base 36 "narrowed" ["free", "pair", "width"] (spNarrow (fun _ => True) id) := by
  refine D.ok sc_narrowed (fun vs H Q E h => ?_) (fun f cdv A outer s H vs Q E hr h => ?_)
  · obtain ⟨a, pr, g, h, wd, xs, t, u, t', u', w0, w1, n, rfl, _⟩ := h
    rfl
  obtain ⟨a, pr, g, h, wd, xs, t, u, t', u', w0, w1, n, rfl, ha, hpr, hg, hh, hwd, _, ⟨hx, bx⟩, ⟨b1, b2, b3, b4, hn, bw0, bw1, hu, hu', hw0, hw1⟩, abt, q⟩ := h
  have hBig : Big = 60000000 := rfl
  have gd0 := abt.start hu hu'
  have hlo : -(2 ^ n) ≤ vl t u := by
    have e1 : (vl (-(2 ^ n)) 1) = -(2 ^ n) := by
      unfold vl
      rw [Rat.intCast_neg, Rat.intCast_pow]
      show -(2 ^ n) / (1 : Rat) = _
      grind
    rw [← e1]
    refine (vl_le (by decide) hu).mpr ?_
    have e2 : (2 : Int) ^ n = ((2 ^ n : Nat) : Int) := by rw [Int.natCast_pow]; rfl
    unfold Bd at b1
    have h3 : (((2 ^ n : Nat) : Int)) ≤ ((2 ^ n : Nat) : Int) * u := by
      have := Int.mul_le_mul_of_nonneg_left (show (1 : Int) ≤ u by lia) (show (0 : Int) ≤ ((2 ^ n : Nat) : Int) by lia)
      lia
    rw [e2, Int.neg_mul]
    lia
  have hhi : vl t' u' ≤ 2 ^ n := by
    have e1 : (vl (2 ^ n) 1) = 2 ^ n := by
      unfold vl
      rw [Rat.intCast_pow]
      show (2 ^ n) / (1 : Rat) = _
      grind
    rw [← e1]
    refine (vl_le hu' (by decide)).mpr ?_
    have e2 : (2 : Int) ^ n = ((2 ^ n : Nat) : Int) := by rw [Int.natCast_pow]; rfl
    unfold Bd at b3
    have h3 : (((2 ^ n : Nat) : Int)) ≤ ((2 ^ n : Nat) : Int) * u' := by
      have := Int.mul_le_mul_of_nonneg_left (show (1 : Int) ≤ u' by lia) (show (0 : Int) ≤ ((2 ^ n : Nat) : Int) by lia)
      lia
    rw [e2]
    lia
  have bD : Bd (n + n + 1) (t' * u - t * u') := ((b3.mul b2).sub (b1.mul b4)).mono (by lia)
  have bDw : Bd (n + n + 1004) (2 * ((t' * u - t * u') * w1)) := ((Bd.of_two (n := 2) (x := 2) (by decide) (by decide)).mul (bD.mul bw1)).mono (by lia)
  have bu0 := b2.mul b4
  generalize hD : t' * u - t * u' = DD at gd0 bD bDw
  refine ⟨_, (pss_cons (ps_set (i := 3) sc_narrowed.nd rfl (Or.inl rfl) (pe_fn g_stretch_of hr (pa_cons (pv 1) pa_nil)))
    (pss_cons (ps_set (i := 4) sc_narrowed.nd rfl (Or.inl rfl) pe_int)
    (pss_cons (ps_set (i := 5) sc_narrowed.nd rfl (Or.inl rfl) (pe_fn g_parts_needed hr (pa_cons (pv 3) (pa_cons (pv 2) pa_nil))))
    (pss_cons (ps_while PassesOwn.never (pt_cmpR op_gt (pv 5) pe_int (nomark _))
    (pss_cons (ps_set (i := 6) sc_narrowed.nd rfl (Or.inl rfl) (pe_fn g_guessed hr (pa_cons (pv 0) (pa_cons (pv 3) (pa_cons (pe_callB (call_min2 rfl) rfl T.n_min boot_min (pa_cons (pv 4) (pa_cons (pv 5) pa_nil))) pa_nil)))))
    (pss_cons (ps_set (i := 4) sc_narrowed.nd rfl (Or.inl rfl) (pe_ifExp (pt_cmpR op_isN (pv 6) pe_non (nomark _)) pe_int (pe_op op_mulL (pv 4) (pv 4))))
    (pss_cons (ps_set (i := 3) sc_narrowed.nd rfl (Or.inl rfl) (pe_ifExp (pt_cmpR op_isN (pv 6) pe_non (nomark _)) (pe_fn g_halved hr (pa_cons (pv 0) (pa_cons (pv 3) pa_nil))) (pv 6)))
    (pss_one (ps_set (i := 5) sc_narrowed.nd rfl (Or.inl rfl) (pe_fn g_parts_needed hr (pa_cons (pv 3) (pa_cons (pv 2) pa_nil)))))))))
    (pss_one (ps_ret (pe_tup (pa_cons (pe_fn g_ratio hr (pa_cons (pe_ix ix_tup (pv 3) pe_int (fun _ _ => rfl)) (pa_cons (pe_ix ix_tup (pv 3) pe_int (fun _ _ => rfl)) pa_nil))) (pa_cons (pe_fn g_ratio hr (pa_cons (pe_ix ix_tup (pv 3) pe_int (fun _ _ => rfl)) (pa_cons (pe_ix ix_tup (pv 3) pe_int (fun _ _ => rfl)) pa_nil))) pa_nil))))))))), ?_⟩
  walk_at "sf"
  refine ⟨pr, g, h, t, u, t', u', n, rfl, hpr, hg, hh, ⟨b1, b2, b3, b4, by lia⟩, fun s0p hs0p => ?_⟩
  have s1 := Same.new hs0p (.tup [.int (t * u'), .int (t' * u), .int (u * u')])
  have hs1 : upd H s0p (.tup [.int (t * u'), .int (t' * u), .int (u * u')]) s0p = some (.tup [.int (t * u'), .int (t' * u), .int (u * u')]) := upd_same
  generalize upd H s0p (.tup [.int (t * u'), .int (t' * u), .int (u * u')]) = H1 at s1 hs1 ⊢
  walk_at "sf"
  refine ⟨s0p, wd, _, _, _, w0, w1, n + n + 1000, rfl, hs1, s1 _ _ hwd, ⟨(b1.mul b4).mono (by lia), (b3.mul b2).mono (by lia), bu0.mono (by lia), bw0.mono (by lia), bw1.mono (by lia), by lia, Int.mul_pos hu hu', hw0⟩, ?_⟩
  walk_at "sf"
  have four : Bd 4 (4 : Int) := Bd.of_two (by decide) (by decide)
  refine while_go (fun m σ H' => ∃ (sp : Addr) (s0 s1 uu parts : Int) (z : Option V), m = (ndF w0 w1 s0 s1 uu).toNat ∧ σ = [some (.ref a), some (.ref pr), some (.ref wd), some (.ref sp), some (.int parts), some (.int (ndF w0 w1 s0 s1 uu)), z] ∧ Same H H' ∧
      H' sp = some (.tup [.int s0, .int s1, .int uu]) ∧ Gd xs (vl t u) (vl t' u') DD s0 s1 uu ∧ Bd (n + n + 1010) uu ∧ 4 ≤ parts ∧ (ndF w0 w1 s0 s1 uu ≤ 1 ∨ Bd (4 * n + 2100) parts))
    ⟨_, s0p, _, _, _, 4, _, rfl, rfl, s1, hs1, gd0, bu0.mono (by lia), by decide, .inr (four.mono (by lia))⟩ ?_
  rintro m σ H2 ⟨sp, s0, s1', uu, parts, z, rfl, rfl, s2, hsp, gd, buu, hp4, hpb⟩
  obtain ⟨nb1, nb2⟩ := gd.bits hlo hhi buu
  obtain ⟨nd1, nd2⟩ := ndF_spec (w0 := w0) (w1 := w1) (s0 := s0) (s1 := s1') (u := uu) hw0 gd.pos
  generalize hnd : ndF w0 w1 s0 s1' uu = nd at nd1 nd2 hpb ⊢
  have hr := Int.mul_pos hw0 gd.pos
  walk_at "sf"
  refine ite2 (fun c => ?_) (fun c => ?_)
  · have hn2 : 1 < nd := by simpa using c
    have alt : s1' - s0 = DD ∧ 0 < DD ∧ sg (hv s0 uu xs) * sg (hv s1' uu xs) = -1 := by
      rcases gd.alt with z | z
      · exact z
      · exfalso
        rw [z.1, Int.sub_self, Int.zero_mul] at nd1
        have := Int.mul_pos (show 0 < nd - 1 by lia) hr
        lia
    have bparts : Bd (4 * n + 2100) parts := by
      rcases hpb with z | z
      · lia
      · exact z
    rw [alt.1] at nd1 nd2
    refine ⟨_, fun σ' H' h => h, ?_⟩
    walk_at "sf"
    refine ⟨_, _, rfl, ?_⟩
    walk_at "sf"
    obtain ⟨p, hp, hp2, hpn, hpp, hpor⟩ : ∃ p : Int, (if nd < parts then nd else parts) = p ∧ 2 ≤ p ∧ p ≤ nd ∧ p ≤ parts ∧ (p = parts ∨ nd ≤ p) := by
      by_cases hc : nd < parts
      · exact ⟨nd, if_pos hc, by lia, by lia, by lia, .inr (by lia)⟩
      · exact ⟨parts, if_neg hc, by lia, by lia, by lia, .inl rfl⟩
    rw [hp]
    have und := und_le hw0 gd.pos nd1 (by lia) (show 0 < p by lia) hpn
    have hup : 0 < uu * p := Int.mul_pos gd.pos (by lia)
    have bup : Bd (n + n + 1004) (uu * p) := bd_of_le (Int.le_of_lt hup) und bDw
    have und2 := und_le hw0 gd.pos nd1 (by lia) (show (0 : Int) < 2 by decide) (show 2 ≤ nd by lia)
    have bu2 : Bd (n + n + 1004) (uu * 2) := bd_of_le (by have := gd.pos; lia) und2 bDw
    have hz := sg_ne_of alt.2.2
    have bp : Bd (4 * n + 2100) p := bd_of_le (by lia) hpp bparts
    refine ⟨a, sp, xs, s0, s1', uu, p, 4 * n + 2200, rfl, s2 _ _ ha, hsp, ⟨hx, bx, nb1.mono (by lia), nb2.mono (by lia), buu.mono (by lia), bup.mono (by lia), bp.mono (by lia), by lia⟩, ⟨hz.1, hz.2, by lia⟩, fun _ => ?_⟩
    rw [alt.1]
    have gin := gj_in hz.1 hz.2 (show 0 < p by lia)
    cases e : pbF xs s0 uu p (s0 * p + DD * gj xs s0 s1' uu p) (s0 * p + DD * gj xs s0 s1' uu p + DD) with
    | none =>
      unfold tel
      show _
      walk_at "sf"
      refine (show _ ∧ _ from ⟨rfl, ?_⟩)
      refine ⟨_, rfl, ?_⟩
      show (if decide (V.non = V.non) = true then _ else _)
      rw [if_pos (by decide)]
      walk_at "sf"
      refine (show _ ∧ _ from ⟨rfl, ?_⟩)
      refine ⟨_, rfl, ?_⟩
      show (if decide (V.non = V.non) = true then _ else _)
      rw [if_pos (by decide)]
      walk_at "sf"
      refine ⟨a, sp, xs, s0, s1', uu, 3 * n + 1020, rfl, s2 _ _ ha, hsp, ⟨hx, bx, nb1.mono (by lia), nb2.mono (by lia), buu.mono (by lia), by lia⟩, fun l r un sq H3 hcase hs3 hq3 => ?_⟩
      obtain ⟨gd', hlr, hun⟩ : Gd xs (vl t u) (vl t' u') DD l r un ∧ (r - l = DD ∨ l = r) ∧ un = uu * 2 := by
        rcases hcase with ⟨e2, hu2⟩ | ⟨e2, rfl, rfl, hu2⟩
        · have ee : pbF xs s0 uu 2 (s0 * 2 + DD * 0) (s0 * 2 + DD * 0 + DD) = some (l, r) := by
            have x1 : s0 * 2 + DD * 0 = 2 * s0 := by lia
            have x2 : 2 * s0 + DD = s0 + s1' := by lia
            rw [x1, x2]; exact e2
          obtain ⟨y1, y2⟩ := gd.part alt (show (0 : Int) < 2 by decide) (Int.le_refl 0) (by decide) ee
          rw [hu2]
          exact ⟨y1, y2, rfl⟩
        · have := gd.upper alt e2
          rw [hu2]
          exact ⟨this, .inl (by lia), by lia⟩
      subst hun
      walk_at "sf"
      obtain ⟨mb1, mb2⟩ := gd'.bits hlo hhi bu2
      refine ⟨sq, wd, _, _, _, w0, w1, 3 * n + 1020, rfl, hq3, (s2.trans hs3) _ _ hwd, ⟨mb1.mono (by lia), mb2.mono (by lia), bu2.mono (by lia), bw0.mono (by lia), bw1.mono (by lia), by lia, gd'.pos, hw0⟩, ?_⟩
      walk_at "sf"
      obtain ⟨nd3, nd4⟩ := ndF_spec (w0 := w0) (w1 := w1) (s0 := l) (s1 := r) (u := uu * 2) hw0 gd'.pos
      have hless : ndF w0 w1 l r (uu * 2) < nd := by
        rcases hlr with z | z
        · rw [z] at nd3
          exact (nd_less hw0 gd.pos (Int.le_refl 2) nd2 (by lia) nd3).1
        · rw [z, Int.sub_self, Int.zero_mul] at nd3
          rcases Int.lt_or_le (ndF w0 w1 l r (uu * 2)) nd with y | y
          · exact y
          · exfalso
            rw [z] at y
            have hr2 := Int.mul_pos hw0 gd'.pos
            have := Int.mul_nonneg (show 0 ≤ ndF w0 w1 r r (uu * 2) - 1 by lia) (Int.le_of_lt hr2)
            lia
      exact ⟨_, by lia, sq, l, r, uu * 2, 4, _, rfl, rfl, s2.trans hs3, hq3, gd', bu2.mono (by lia), by decide, .inr (four.mono (by lia))⟩
    | some r =>
      obtain ⟨l, r⟩ := r
      intro sq hsq
      have hs3 := Same.new hsq (.tup [.int l, .int r, .int (uu * p)])
      have hq3 : upd H2 sq (.tup [.int l, .int r, .int (uu * p)]) sq = some (.tup [.int l, .int r, .int (uu * p)]) := upd_same
      generalize upd H2 sq (.tup [.int l, .int r, .int (uu * p)]) = H3 at hs3 hq3 ⊢
      obtain ⟨gd', hlr⟩ := gd.part alt (show 0 < p by lia) gin.1 gin.2 e
      walk_at "sf"
      refine (show _ ∧ _ from ⟨rfl, ?_⟩)
      refine ⟨_, rfl, ?_⟩
      show (if decide (V.ref sq = V.non) = true then _ else _)
      rw [if_neg (by simp)]
      walk_at "sf"
      refine r_i (mulOk bparts bparts (by lia)) ?_
      walk_at "sf"
      refine (show _ ∧ _ from ⟨rfl, ?_⟩)
      refine ⟨_, rfl, ?_⟩
      show (if decide (V.ref sq = V.non) = true then _ else _)
      rw [if_neg (by simp)]
      walk_at "sf"
      obtain ⟨mb1, mb2⟩ := gd'.bits hlo hhi bup
      refine ⟨sq, wd, _, _, _, w0, w1, 3 * n + 1020, rfl, hq3, (s2.trans hs3) _ _ hwd, ⟨mb1.mono (by lia), mb2.mono (by lia), bup.mono (by lia), bw0.mono (by lia), bw1.mono (by lia), by lia, gd'.pos, hw0⟩, ?_⟩
      walk_at "sf"
      obtain ⟨nd3, nd4⟩ := ndF_spec (w0 := w0) (w1 := w1) (s0 := l) (s1 := r) (u := uu * p) hw0 gd'.pos
      have hless : ndF w0 w1 l r (uu * p) < nd ∧ (nd ≤ p → ndF w0 w1 l r (uu * p) ≤ 1) := by
        rcases hlr with z | z
        · rw [z] at nd3
          exact nd_less hw0 gd.pos hp2 nd2 (by lia) nd3
        · rw [z, Int.sub_self, Int.zero_mul] at nd3
          have key : ndF w0 w1 l r (uu * p) ≤ 0 := by
            rcases Int.lt_or_le 0 (ndF w0 w1 l r (uu * p)) with y | y
            · exfalso
              rw [z] at y
              have hr2 := Int.mul_pos hw0 gd'.pos
              have := Int.mul_nonneg (show 0 ≤ ndF w0 w1 r r (uu * p) - 1 by lia) (Int.le_of_lt hr2)
              lia
            · exact y
          exact ⟨by lia, fun _ => by lia⟩
      refine ⟨_, by lia, sq, l, r, uu * p, parts * parts, _, rfl, rfl, s2.trans hs3, hq3, gd', bup.mono (by lia), ?_, ?_⟩
      · have := Int.mul_le_mul_of_nonneg_left (show (1 : Int) ≤ parts by lia) (show 0 ≤ parts by lia)
        lia
      · rcases hpor with z | z
        · rw [z] at hpn
          have bnd : Bd (n + n + 1004) parts := by
            refine bd_of_le (by lia) ?_ bDw
            have h1 : parts ≤ uu * p := by
              have := Int.mul_le_mul_of_nonneg_right (show (1 : Int) ≤ uu by have := gd.pos; lia) (show 0 ≤ p by lia)
              lia
            lia
          exact .inr ((bnd.mul bnd).mono (by lia))
        · exact .inl (hless.2 z)
  · have hn2 : ¬ 1 < nd := by simpa using c
    walk_at "sf"
    refine r_ixT (SqT.of hsp) rfl ?_
    walk_at "sf"
    refine r_ixT (SqT.of hsp) rfl ?_
    walk_at "sf"
    refine ⟨_, _, 3 * n + 1020, rfl, nb1.mono (by lia), buu.mono (by lia), by lia, gd.pos, fun g1 c1 d1 hg1 bc1 bd1 hd1 gc1 e1 => ?_⟩
    have sa := Same.new hg1 (.tup [.int c1, .int d1])
    have hg1' : upd H2 g1 (.tup [.int c1, .int d1]) g1 = some (.tup [.int c1, .int d1]) := upd_same
    generalize upd H2 g1 (.tup [.int c1, .int d1]) = H3 at sa hg1' ⊢
    have hsp3 := sa _ _ hsp
    walk_at "sf"
    refine r_ixT (SqT.of hsp3) rfl ?_
    walk_at "sf"
    refine r_ixT (SqT.of hsp3) rfl ?_
    walk_at "sf"
    refine ⟨_, _, 3 * n + 1020, rfl, nb2.mono (by lia), buu.mono (by lia), by lia, gd.pos, fun g2 c2 d2 hg2 bc2 bd2 hd2 gc2 e2 => ?_⟩
    have sb := Same.new hg2 (.tup [.int c2, .int d2])
    have hg2' : upd H3 g2 (.tup [.int c2, .int d2]) g2 = some (.tup [.int c2, .int d2]) := upd_same
    generalize upd H3 g2 (.tup [.int c2, .int d2]) = H4 at sb hg2' ⊢
    walk_at "sf"
    intro pp hpp
    have sc := Same.new hpp (.tup [.ref g1, .ref g2])
    have v1 : vl c1 d1 = vl s0 uu := (vl_eq hd1 gd.pos).mpr e1
    have v2 : vl c2 d2 = vl s1' uu := (vl_eq hd2 gd.pos).mpr e2
    refine q pp g1 g2 c1 d1 c2 d2 _ (s2.trans (sa.trans (sb.trans sc))) upd_same ⟨sc _ _ (sb _ _ hg1'), hd1, gc1⟩ ⟨sc _ _ hg2', hd2, gc2⟩ ⟨by rw [v1]; exact gd.lo, by rw [v2]; exact gd.hi, ?_, ?_, bc1, bd1, bc2, bd2⟩
    · rw [v1, v2, vl_sub]
      refine (vl_le gd.pos hw1).mpr ?_
      have : nd * (w0 * uu) ≤ 1 * (w0 * uu) := Int.mul_le_mul_of_nonneg_right (by lia) (Int.le_of_lt hr)
      lia
    · unfold Abt
      rw [v1, v2, sg_vl hd1 gd.pos v1, sg_vl hd2 gd.pos v2]
      rcases gd.alt with z | z
      · exact .inl ⟨(vl_lt gd.pos gd.pos).mpr (Int.mul_lt_mul_of_pos_right (by lia) gd.pos), z.2.2⟩
      · refine .inr ⟨by rw [z.1], sg_z.mp ?_⟩
        show sg (hv c1 d1 xs) = 0
        rw [sg_vl hd1 gd.pos v1]; exact sg_z.mpr z.2
theorem ok_refined (g_square_free : FnB P w K mg base 36 "square_free" ["poly"] (spL sfL PreS)) (g_narrowed : FnB P w K mg base 36 "narrowed" ["free", "pair", "width"] (spNarrow (fun _ => True) id)) (D : DefB K mg "refined" s_refined ["poly", "pair", "width"]) : FnB P w K mg base 37 "refined" ["poly", "pair", "width"] (spNarrow PreS sfL) := by
  refine D.ok sc_refined (fun vs H Q E h => ?_) (fun f cdv A outer s H vs Q E hr h => ?_)
  · obtain ⟨a, pr, g, h, wd, xs, t, u, t', u', w0, w1, n, rfl, _⟩ := h
    rfl
  obtain ⟨a, pr, g, h, wd, xs, t, u, t', u', w0, w1, n, rfl, ha, hpr, hg, hh, hwd, pre, hx, hb, abt, q⟩ := h
  refine ⟨_, (pss_one (ps_ret (pe_fn g_narrowed hr (pa_cons (pe_fn g_square_free hr (pa_cons (pv 0) pa_nil)) (pa_cons (pv 1) (pa_cons (pv 2) pa_nil)))))), ?_⟩
  walk_at "sf"
  refine ⟨a, xs, rfl, ha, pre, fun p1 H1 s1 h1 => ?_⟩
  walk_at "sf"
  refine ⟨p1, pr, g, h, wd, sfL xs, t, u, t', u', w0, w1, n, rfl, h1, s1 _ _ hpr, s1 _ _ hg, s1 _ _ hh, s1 _ _ hwd, trivial, hx, hb, abt, fun p g h c d c' d' H' s' hp r1 r2 nw => ?_⟩
  walk_at "sf"
  exact q p g h c d c' d' H' (s1.trans s') hp r1 r2 nw
end
end K16
namespace K16
open PySem PyProof.Rows L2 SF SF.Po
noncomputable def spLaw (K : PySem.W.Frag) : Sp := fun vs H Q _ => ∃ (a : Addr) (ns : List Int), vs = [.ref a] ∧ SqL K H a (ns.map V.int) ∧ ns.length ≤ 63 ∧ ∀ H', Q (.bl true) H'
theorem comp_rangeP {own : List Str} {fr : List Nat} {g : TG} {te : TE} {σ : L2.St} {H1 : Hp} {Q : VK} {lo : Int} {n : Nat} (Pv : List V → Prop) (hz : n ≤ sizeLine) (p0 : Pv [])
    (hs : ∀ (i : Nat) (r : L2.St) (ys : List V) (H2 : Hp), i < n → r.length = own.length → ys.length = i → Pv ys → Same H1 H2 → ∀ Z : V → L2.St → Hp → Prop, (∀ y σ4 H5, Same H2 H5 → Pv (ys ++ [y]) → (∃ r' : L2.St, r'.length = own.length ∧ σ4 = r' ++ cap fr σ) → Z y σ4 H5) → g (.int (lo + i)) (r ++ cap fr σ) H2 fun σ4 H4 => te σ4 H4 fun y H5 => Z y σ4 H5)
    (hq : ∀ D H2 ys, H1 D = none → Same H1 H2 → H2 D = some (.lst ys) → ys.length = n → Pv ys → Q (.ref D) H2) : CompGo (Itr lo n) own fr σ g te H1 Q := comp_range Pv hz p0 hs hq
theorem ite_keep {c : Bool} {A B : Prop} (h1 : c = true → B → A) (h : B) : if c = true then A else B := by
  cases c with
  | true => rw [if_pos rfl]; exact h1 rfl h
  | false => rw [if_neg (by decide)]; exact h
theorem vl_cross {c d c' d' : Int} (hd : 0 < d) (hd' : 0 < d') : vl c' d' - vl c d = vl (c' * d - c * d') (d * d') := by
  have e1 : vl c' d' = vl (c' * d) (d * d') := by rw [Int.mul_comm d d']; exact (vl_scale hd' hd).symm
  have e2 : vl c d = vl (c * d') (d * d') := (vl_scale hd hd').symm
  rw [e1, e2, vl_sub]
theorem low_eq {c d c' d' : Int} (hd : 0 < d) (hd' : 0 < d') (g : Int.gcd c d = 1) (g' : Int.gcd c' d' = 1) (h : vl c d = vl c' d') : c = c' ∧ d = d' := by
  have e := (vl_eq hd hd').mp h
  have d1 : d ∣ d' := by
    have : d ∣ c * d' := ⟨c', by rw [e]; grind⟩
    exact cop_dvd this (by rw [Int.gcd_comm]; exact g)
  have d2 : d' ∣ d := by
    have : d' ∣ c' * d := ⟨c, by rw [← e]; grind⟩
    exact cop_dvd this (by rw [Int.gcd_comm]; exact g')
  have ed : d = d' := Int.le_antisymm (Int.le_of_dvd hd' d1) (Int.le_of_dvd hd d2)
  subst ed
  exact ⟨Int.eq_of_mul_eq_mul_right (Int.ne_of_gt hd) e, rfl⟩
theorem sg_nonneg {x : Int} (h : 0 ≤ x) : ¬ sg x < 0 := by
  unfold sg; rw [if_neg (by lia)]; split <;> lia
theorem sg_nonpos {x : Int} (h : x ≤ 0) : ¬ 0 < sg x := by
  unfold sg; split
  · lia
  · rw [if_neg (by lia)]; lia
theorem Abt.tell {xs : List Int} {c d c' d' : Int} (h : Abt xs c d c' d') (hd : 0 < d) (hd' : 0 < d') (g : Int.gcd c d = 1) (g' : Int.gcd c' d' = 1) :
    ((c == c' && d == d') = true → sg (hv c d xs) = 0) ∧ ((c == c' && d == d') = false → sg (hv c d xs) * sg (hv c' d' xs) = -1) ∧ ((c == c' && d == d') = true → sg (hv c d xs) * sg (hv c' d' xs) = 0) := by
  rcases h with ⟨h1, h2⟩ | ⟨h1, h2⟩
  · have hne : (c == c' && d == d') = false := by
      rw [Bool.and_eq_false_iff]
      by_cases z : c = c'
      · right
        rw [beq_eq_false_iff_ne]
        rintro rfl
        subst z
        grind
      · left
        rw [beq_eq_false_iff_ne]
        exact z
    rw [hne]
    exact ⟨fun z => (nomatch z), fun _ => h2, fun z => (nomatch z)⟩
  · obtain ⟨rfl, rfl⟩ := low_eq hd hd' g g' h1
    have e : (c == c && d == d) = true := by simp
    rw [e, h2]
    exact ⟨fun _ => rfl, fun z => (nomatch z), fun _ => rfl⟩
section
variable {P : Program} {w : World} {K : PySem.W.Frag} {mg : Str → Option Value} {base : Heap}
theorem ok_law {f : Addr} {fd : FuncData} (T : Nm mg) (F : Fun K "law" "law" s_law f fd)
    (g_law_cell : FnB P w K mg base 37 "_law_cell" ["_law_script", "_law_k"] (spCell K)) (g_law_drawn : FnB P w K mg base 37 "_law_drawn" ["_law_cell_here", "_law_k"] spDrawn) (g_law_factors : FnB P w K mg base 37 "_law_factors" ["_law_script", "_law_k", "_law_many_here"] (spFactors K))
    (g_law_all : FnB P w K mg base 37 "_law_all" ["_law_factors_here", "_law_powers"] spAllL) (g_law_ratio : FnB P w K mg base 37 "_law_ratio" ["_law_top", "_law_under"] spRatL) (g_law_order : FnB P w K mg base 37 "_law_order" ["_law_one", "_law_other"] spOrdL)
    (g_law_value : FnB P w K mg base 37 "_law_value" ["_law_poly", "_law_given"] spAtL) (g_isolated : FnB P w K mg base 37 "isolated" ["poly"] spIso) (g_refined : FnB P w K mg base 37 "refined" ["poly", "pair", "width"] (spNarrow PreS sfL)) :
    FnOk P w K mg base CX0 38 f fd ["_law_script"] (spLaw K) := by
  refine F.ok sc_law (fun vs H Q E h => ?_) (fun cdv A outer s H vs Q E hr h => ?_)
  · obtain ⟨a, ns, rfl, _⟩ := h
    rfl
  obtain ⟨sa, ns, rfl, hS, hl, q⟩ := h
  refine ⟨_, (pss_cons (ps_set (i := 1) sc_law.nd rfl (Or.inl rfl) (pe_fn g_law_factors hr (pa_cons (pv 0) (pa_cons pe_int (pa_cons (pe_op op_add pe_int (pe_op op_modN (pe_fn g_law_drawn hr (pa_cons (pe_fn g_law_cell hr (pa_cons (pv 0) (pa_cons pe_int pa_nil))) (pa_cons pe_int pa_nil))) pe_int)) pa_nil)))))
    (pss_cons (ps_comp (i := 2) sc_law.nd rfl rfl rfl (compOk (own := ["_law_k"]) (fr := [0]) (fs := ["_law_script"]) (by with_unfolding_all rfl) rfl (by decide +kernel) (by decide +kernel) (by exact ⟨rfl, trivial⟩) (by with_unfolding_all rfl) (by exact ⟨⟨rfl, rfl, rfl, Or.inl rfl⟩, trivial⟩)) (pi_range1 rfl T.n_range (pa_cons (pe_callB call_len_seq rfl T.n_len boot_len (pa_cons (pv 1) pa_nil)) pa_nil)) (fun _ _ _ _ _ => (pg_name (i := 0) (show List.Nodup (["_law_k", "_law_script"] : List Str) by decide +kernel) rfl (Or.inl rfl) (Or.inr rfl))) (fun _ _ _ _ _ => (pe_op op_add pe_int (pe_op op_modN (pe_fn g_law_drawn hr (pa_cons (pe_fn g_law_cell hr (pa_cons (pv 1) (pa_cons (pv 0) pa_nil))) (pa_cons (pe_op op_add (pv 0) pe_int) pa_nil))) pe_int))) rfl)
    (pss_cons (ps_set (i := 3) sc_law.nd rfl (Or.inl rfl) (pe_fn g_law_all hr (pa_cons (pv 1) (pa_cons (pv 2) pa_nil))))
    (pss_cons (ps_set (i := 4) sc_law.nd rfl (Or.inl rfl) (pe_fn g_law_all hr (pa_cons (pv 1) (pa_cons (pe_op op_rep (pe_lst (pa_cons pe_int pa_nil)) (pe_callB call_len_seq rfl T.n_len boot_len (pa_cons (pv 1) pa_nil))) pa_nil))))
    (pss_cons (ps_if (pt_cmpR op_gt (pe_callB call_len_seq rfl T.n_len boot_len (pa_cons (pv 3) pa_nil)) pe_int (nomark _))
    (pss_one (ps_set (i := 3) sc_law.nd rfl (Or.inl rfl) (pv 4)))
    pss_nil)
    (pss_cons (ps_set (i := 5) sc_law.nd rfl (Or.inl rfl) (pe_fn g_isolated hr (pa_cons (pv 3) pa_nil)))
    (pss_cons (ps_for PassesOwn.never rfl (pi_range1 rfl T.n_range (pa_cons (pe_callB call_len_seq rfl T.n_len boot_len (pa_cons (pv 5) pa_nil)) pa_nil)) (pg_name (i := 6) sc_law.nd rfl (Or.inl rfl))
    (pss_cons (ps_set (i := 7) sc_law.nd rfl (Or.inl rfl) (pe_fn g_law_drawn hr (pa_cons (pe_fn g_law_cell hr (pa_cons (pv 0) (pa_cons (pv 6) pa_nil))) (pa_cons (pe_op op_add (pv 6) pe_int) pa_nil))))
    (pss_cons (ps_set (i := 8) sc_law.nd rfl (Or.inl rfl) (pe_ix ix_list (pe_lst (pa_cons (pe_tup (pa_cons pe_int (pa_cons (pe_op op_shl pe_int (pe_op op_modN (pe_op op_fdivL (pv 7) pe_int) pe_int)) pa_nil))) (pa_cons (pe_tup (pa_cons (pe_op op_add pe_int (pe_op op_modN (pe_op op_fdivL (pv 7) pe_int) pe_int)) (pa_cons (pe_op op_add pe_int (pe_op op_modN (pe_op op_fdivL (pv 7) pe_int) pe_int)) pa_nil))) pa_nil))) (pe_op op_modN (pv 7) pe_int) (fun _ _ => rfl)))
    (pss_cons (ps_set (i := 8) sc_law.nd rfl (Or.inl rfl) (pe_fn g_law_ratio hr (pa_cons (pe_ix ix_tup (pv 8) pe_int (fun _ _ => rfl)) (pa_cons (pe_ix ix_tup (pv 8) pe_int (fun _ _ => rfl)) pa_nil))))
    (pss_cons (ps_asg (pe_fn g_refined hr (pa_cons (pv 3) (pa_cons (pe_ix ix_list (pv 5) (pv 6) (fun _ _ => rfl)) (pa_cons (pv 8) pa_nil)))) (pg_tup rfl (pgs_cons (pg_name (i := 9) sc_law.nd rfl (Or.inl rfl)) (pgs_cons (pg_name (i := 10) sc_law.nd rfl (Or.inl rfl)) pgs_nil))))
    (pss_cons (ps_if (PW.pt (pw_or (pt_cmpR op_lt (pe_fn g_law_order hr (pa_cons (pv 9) (pa_cons (pe_ix ix_tup (pe_ix ix_list (pv 5) (pv 6) (fun _ _ => rfl)) pe_int (fun _ _ => rfl)) pa_nil))) pe_int (nomark _)) (pw_or (pt_cmpR op_gt (pe_fn g_law_order hr (pa_cons (pv 10) (pa_cons (pe_ix ix_tup (pe_ix ix_list (pv 5) (pv 6) (fun _ _ => rfl)) pe_int (fun _ _ => rfl)) pa_nil))) pe_int (nomark _)) (pw_or1 (pt_cmpR op_gt (pe_fn g_law_order hr (pa_cons (pv 9) (pa_cons (pv 10) pa_nil))) pe_int (nomark _))))))
    (pss_one (ps_ret pe_bl))
    pss_nil)
    (pss_cons (ps_if (pt_cmpR op_gt (pe_fn g_law_order hr (pa_cons (pe_tup (pa_cons (pe_op op_sub (pe_op op_mulL (pe_ix ix_tup (pv 10) pe_int (fun _ _ => rfl)) (pe_ix ix_tup (pv 9) pe_int (fun _ _ => rfl))) (pe_op op_mulL (pe_ix ix_tup (pv 9) pe_int (fun _ _ => rfl)) (pe_ix ix_tup (pv 10) pe_int (fun _ _ => rfl)))) (pa_cons (pe_op op_mulL (pe_ix ix_tup (pv 9) pe_int (fun _ _ => rfl)) (pe_ix ix_tup (pv 10) pe_int (fun _ _ => rfl))) pa_nil))) (pa_cons (pv 8) pa_nil))) pe_int (nomark _))
    (pss_one (ps_ret pe_bl))
    pss_nil)
    (pss_cons (ps_if (PW.pt (pw_and (pt_cmpR (op_eq2 hr.units0) (pv 9) (pv 10) (nomark _)) (pw_and1 (pt_cmpR op_ne (pe_fn g_law_value hr (pa_cons (pv 4) (pa_cons (pv 9) pa_nil))) pe_int (nomark _)))))
    (pss_one (ps_ret pe_bl))
    pss_nil)
    (pss_cons (ps_if (PW.pt (pw_and (pt_cmpR (op_ne2 hr.units0) (pv 9) (pv 10) (nomark _)) (pw_and1 (pt_cmpR op_ne (pe_op op_mulL (pe_fn g_law_value hr (pa_cons (pv 4) (pa_cons (pv 9) pa_nil))) (pe_fn g_law_value hr (pa_cons (pv 4) (pa_cons (pv 10) pa_nil)))) (pe_un un_neg pe_int) (nomark _)))))
    (pss_one (ps_ret pe_bl))
    pss_nil)
    (pss_cons (ps_set (i := 11) sc_law.nd rfl (Or.inl rfl) (pe_fn g_refined hr (pa_cons (pv 3) (pa_cons (pe_tup (pa_cons (pv 9) (pa_cons (pv 10) pa_nil))) (pa_cons (pv 8) pa_nil)))))
    (pss_cons (ps_if (PW.pt (pw_or (pt_cmpR op_lt (pe_fn g_law_order hr (pa_cons (pe_ix ix_tup (pv 11) pe_int (fun _ _ => rfl)) (pa_cons (pv 9) pa_nil))) pe_int (nomark _)) (pw_or1 (pt_cmpR op_gt (pe_fn g_law_order hr (pa_cons (pe_ix ix_tup (pv 11) pe_int (fun _ _ => rfl)) (pa_cons (pv 10) pa_nil))) pe_int (nomark _)))))
    (pss_one (ps_ret pe_bl))
    pss_nil)
    (pss_one (ps_if (pt_cmpR op_ne (pe_op op_mulL (pe_fn g_law_value hr (pa_cons (pv 4) (pa_cons (pe_ix ix_tup (pv 11) pe_int (fun _ _ => rfl)) pa_nil))) (pe_fn g_law_value hr (pa_cons (pv 4) (pa_cons (pe_ix ix_tup (pv 11) pe_int (fun _ _ => rfl)) pa_nil)))) (pe_op op_sub pe_int (pe_callTy call_int1 rfl T.n_int boot_int (pa_cons (pe_cmpR (op_ne2 hr.units0) (pe_ix ix_tup (pv 11) pe_int (fun _ _ => rfl)) (pe_ix ix_tup (pv 11) pe_int (fun _ _ => rfl)) (nomark _)) pa_nil))) (nomark _))
    (pss_one (ps_ret pe_bl))
    pss_nil)))))))))))))
    (pss_one (ps_ret pe_bl))))))))), ?_⟩
  walk_at "sf"
  refine ⟨sa, ns, _, rfl, hS, hl, by decide, fun c H1 s1 => ?_⟩
  walk_at "sf"
  refine ⟨_, _, rfl, fun m m0 mz => ?_⟩
  walk_at "sf"
  refine r_i (by decide) ?_
  obtain ⟨a1, a2, a3⟩ := fm (x := m) (m := 3) (by decide)
  rw [a1]
  walk_at "sf"
  obtain ⟨mn, emn⟩ := Int.eq_ofNat_of_zero_le (show 0 ≤ 1 + m % 3 by lia)
  rw [emn]
  refine ⟨sa, ns, _, mn, rfl, s1.seq hS, hl, by decide, by lia, by lia, fun fc as gs H2 s2 hfc ils fac nd gne glen => ?_⟩
  walk_at "sf"
  have hlen := ils.len
  refine r_comp1 (H1 := H2) (Itr 0 as.length) (fun R hR => ?_) (comp_rangeP (n := as.length) (fun ys => ∃ es : List Int, ys = es.map V.int ∧ ∀ x ∈ es, x = 1 ∨ x = 2) (small4 (by lia)) ⟨[], rfl, (fun x hx => nomatch hx)⟩ ?_ ?_)
  · walk_at "sf"
    refine ⟨fc, _, rfl, .inl (SqL.of hfc), ?_⟩
    walk_at "sf"
    rw [List.length_map]
    refine ⟨_, rfl, by lia, by lia, ?_⟩
    exact hR
  · rintro i r ys H3 hi hr2 hl2 ⟨es, rfl, hes⟩ s23 Z hZ
    obtain ⟨x0, rfl⟩ := len1 hr2
    walk_at "sf"
    refine ⟨sa, ns, _, rfl, (s1.trans (s2.trans s23)).seq hS, hl, by lia, fun c' H4 s34 => ?_⟩
    walk_at "sf"
    refine ⟨_, _, rfl, fun m' _ _ => ?_⟩
    walk_at "sf"
    refine r_i (by decide) ?_
    obtain ⟨b1, b2, b3⟩ := fm (x := m') (m := 2) (by decide)
    rw [b1]
    walk_at "sf"
    refine hZ _ _ _ s34 ⟨es ++ [1 + m' % 2], by rw [List.map_append]; rfl, fun x hx => ?_⟩ ⟨[_], rfl, rfl⟩
    rcases List.mem_append.mp hx with hx | hx
    · exact hes x hx
    · rw [List.mem_singleton.mp hx]; lia
  rintro D H3 ys hD s23 hD3 hlD ⟨es, rfl, hes⟩
  rw [List.length_map] at hlD
  have s3 := s1.trans (s2.trans s23)
  have hfc3 := s23 _ _ hfc
  have ils3 : ILs H3 as gs := ils.map fun a p z => s23 _ _ z
  clear s1 s2 s23 hfc ils
  walk_at "sf"
  refine ⟨fc, D, as, gs, es, rfl, hfc3, ils3, fac, glen, hD3, by lia, hes, fun p1 xs H4 s4 h4 tx xne lx bx dv _ => ?_⟩
  have ofx : Of gs xs := ⟨fac, nd, glen, tx, xne, dv⟩
  have hfc4 := s4 _ _ hfc3
  have ils4 : ILs H4 as gs := ils3.map fun a p z => s4 _ _ z
  walk_at "sf"
  intro po hpo
  walk_at "sf"
  have so := Same.new hpo (.lst [V.int 1])
  refine ⟨fc, _, rfl, .inl (SqL.of (so _ _ hfc4)), ?_⟩
  walk_at "sf"
  rw [List.length_map]
  refine ⟨po, _, _, rfl, rfl, upd_same, by lia, by lia, by show 1 * ((as.length : Int)).toNat ≤ sizeLine; exact small4 (by lia), fun pr hpr => ?_⟩
  have er : (List.replicate ((as.length : Int)).toNat [V.int 1]).flatten = (List.replicate as.length (1 : Int)).map V.int := by
    rw [map_rep, rep_flat]; rfl
  have sr := so.trans (Same.new hpr (.lst (List.replicate ((as.length : Int)).toNat [V.int 1]).flatten))
  have hr1 : upd (upd H4 po (.lst [V.int 1])) pr (.lst (List.replicate ((as.length : Int)).toNat [V.int 1]).flatten) pr = some (.lst ((List.replicate as.length (1 : Int)).map V.int)) := by rw [upd_same, er]
  generalize upd (upd H4 po (.lst [V.int 1])) pr (.lst (List.replicate ((as.length : Int)).toNat [V.int 1]).flatten) = H5 at sr hr1 ⊢
  walk_at "sf"
  refine ⟨fc, pr, as, gs, List.replicate as.length 1, rfl, sr _ _ hfc4, ils4.map fun a p z => sr _ _ z, fac, glen, hr1, by rw [List.length_replicate]; lia, fun x hx => .inl (List.eq_of_mem_replicate hx), fun p2 ys H6 s6 h6 ty yne ly bye _ exact1 => ?_⟩
  have eys : ys = prodL gs := by
    obtain ⟨a1, a2, a3, a4, a5⟩ := prodL_ok fac
    refine ofL_inj ty a1 ?_
    rw [a5]
    exact exact1 fun x hx => List.eq_of_mem_replicate hx
  walk_at "sf"
  refine ⟨p1, _, rfl, .inl (SqL.of ((sr.trans s6) _ _ h4)), ?_⟩
  walk_at "sf"
  refine if_asg rfl rfl fun xv hxv => ?_
  have s46 := sr.trans s6
  have ofy : Of gs ys := ⟨fac, nd, glen, ty, yne, fun π hπ => by rw [exact1 fun x hx => List.eq_of_mem_replicate hx]⟩
  obtain ⟨a1, a2, a3, a4, a5⟩ := prodL_ok fac
  have lys : ys.length ≤ 13 := by rw [eys]; lia
  have bys : Ab 100 ys := by rw [eys]; exact a4.mono (by lia)
  obtain ⟨pl, zs, rfl, hzl, ofz, lzs, bzs⟩ : ∃ (pl : Addr) (zs : List Int), xv = .ref pl ∧ IL H6 pl zs ∧ Of gs zs ∧ zs.length ≤ 13 ∧ Ab 300 zs := by
    rcases hxv with ⟨c1, rfl⟩ | ⟨c1, rfl⟩
    · exact ⟨p2, ys, rfl, h6, ofy, by lia, bye⟩
    · refine ⟨p1, xs, rfl, s46 _ _ h4, ofx, ?_, bx⟩
      rw [List.length_map] at c1
      have : ¬ (13 : Int) < (xs.length : Int) := by simpa using c1
      lia
  have esf : sfL zs = ys := by rw [ofz.sf, eys]
  have s06 := s3.trans (s4.trans s46)
  clear hxv s3 s4 so sr s46 s6 hr1 hfc4 ils4 hfc3 ils3 hD3 h4
  walk_at "sf"
  have pres : PreS zs := ⟨ofz.tr, ofz.ne, by lia, 300, by decide, bzs⟩
  refine ⟨pl, zs, rfl, hzl, ⟨pres, ofz.pre, lzs⟩, fun r fs ps o b t u t' u' H7 s7 hr7 hF iso lfs => ?_⟩
  rw [esf] at iso
  walk_at "sf"
  refine ⟨r, _, rfl, .inl (SqL.of hr7), ?_⟩
  walk_at "sf"
  rw [List.length_map]
  refine ⟨_, rfl, by lia, by lia, ?_⟩
  rw [Int.toNat_natCast]
  have s07 := s06.trans s7
  have hzl7 := s7 _ _ hzl
  have hy7 := s7 _ _ h6
  refine for_range (fun k σ H' => ∃ (r6 r7 r8 r9 r10 r11 : Option V), σ = [some (.ref sa), some (.ref fc), some (.ref D), some (.ref pl), some (.ref p2), some (.ref r), r6, r7, r8, r9, r10, r11] ∧ Same H7 H') ⟨_, _, _, _, _, _, rfl, Same.refl _⟩ ?_ ?_
  · rintro k σ H8 hk ⟨r6, r7, r8, r9, r10, r11, rfl, s8⟩
    have e0 : (0 : Int) + (k : Int) = (k : Int) := by lia
    rw [e0]
    have hk' : k < fs.length := by lia
    have hfk : fs[k] ∈ fs := List.getElem_mem hk'
    have hFk := (hF _ hfk).same s8
    have pFk := iso.px _ hfk
    have rix : ∀ {H' : Hp}, Same H7 H' → H' r = some (.lst (fs.map fun f => V.ref f.p)) := fun {H'} z => z _ _ hr7
    have hat : atI (fs.map fun f => V.ref f.p) (k : Int) = some (V.ref fs[k].p) := atI_nat (by rw [List.getElem?_map, List.getElem?_eq_getElem hk']; rfl)
    have lt1 : vl fs[k].t fs[k].u < vl fs[k].t' fs[k].u' := iso.ris.2 _ (List.mem_map.mpr ⟨_, hfk, rfl⟩)
    generalize fs[k] = fk at hFk pFk hat lt1
    clear hfk
    walk_at "sf"
    refine ⟨sa, ns, _, rfl, (s07.trans s8).seq hS, hl, by lia, fun c' H9 s9 => ?_⟩
    walk_at "sf"
    refine ⟨_, _, rfl, fun mo mo0 moz => ?_⟩
    walk_at "sf"
    refine r_i (d64 8 (by decide) (by decide)) ?_
    walk_at "sf"
    refine r_i (by decide) ?_
    obtain ⟨b1, b2, b3⟩ := fm (x := mo.fdiv 8) (m := 61) (by decide)
    rw [b1]
    refine r_i ⟨b2, by lia, by decide⟩ ?_
    have bwp : Bd 62 (1 * 2 ^ (mo.fdiv 8 % 61).toNat) ∧ 0 < 1 * (2 : Int) ^ (mo.fdiv 8 % 61).toNat := by
      rw [Int.one_mul]
      refine ⟨?_, Int.pow_pos (by decide)⟩
      unfold Bd
      rw [Int.natAbs_pow]
      exact Nat.pow_lt_pow_right (by decide) (by lia)
    generalize 1 * (2 : Int) ^ (mo.fdiv 8 % 61).toNat = wp at bwp
    walk_at "sf"
    intro pA hpA
    have sA := Same.new hpA (.tup [.int 1, .int wp])
    have hA : upd H9 pA (.tup [.int 1, .int wp]) pA = some (.tup [.int 1, .int wp]) := upd_same
    generalize upd H9 pA (.tup [.int 1, .int wp]) = H10 at sA hA ⊢
    walk_at "sf"
    refine r_i (d64 8 (by decide) (by decide)) ?_
    walk_at "sf"
    refine r_i (by decide) ?_
    obtain ⟨c1, c2, c3⟩ := fm (x := mo.fdiv 8) (m := 5) (by decide)
    rw [c1]
    walk_at "sf"
    refine r_i (d64 64 (by decide) (by decide)) ?_
    walk_at "sf"
    refine r_i (by decide) ?_
    obtain ⟨d1, d2, d3⟩ := fm (x := mo.fdiv 64) (m := 1000) (by decide)
    rw [d1]
    walk_at "sf"
    intro pB hpB
    have sB := Same.new hpB (.tup [.int (1 + mo.fdiv 8 % 5), .int (1 + mo.fdiv 64 % 1000)])
    have hB : upd H10 pB (.tup [.int (1 + mo.fdiv 8 % 5), .int (1 + mo.fdiv 64 % 1000)]) pB = some (.tup [.int (1 + mo.fdiv 8 % 5), .int (1 + mo.fdiv 64 % 1000)]) := upd_same
    generalize upd H10 pB (.tup [.int (1 + mo.fdiv 8 % 5), .int (1 + mo.fdiv 64 % 1000)]) = H11 at sB hB ⊢
    walk_at "sf"
    intro pC hpC
    have sC := Same.new hpC (.lst [.ref pA, .ref pB])
    have hC : upd H11 pC (.lst [.ref pA, .ref pB]) pC = some (.lst [.ref pA, .ref pB]) := upd_same
    generalize upd H11 pC (.lst [.ref pA, .ref pB]) = H12 at sC hC ⊢
    walk_at "sf"
    refine r_i (by decide) ?_
    obtain ⟨f1, f2, f3⟩ := fm (x := mo) (m := 2) (by decide)
    rw [f1]
    obtain ⟨pw, w0, w1, hpick, hw, hw0, hw1, bw0, bw1⟩ : ∃ (pw : Addr) (w0 w1 : Int), atI [V.ref pA, V.ref pB] (mo % 2) = some (.ref pw) ∧ H12 pw = some (.tup [.int w0, .int w1]) ∧ 0 < w0 ∧ 0 < w1 ∧ Bd 70 w0 ∧ Bd 70 w1 := by
      have : mo % 2 = 0 ∨ mo % 2 = 1 := by lia
      rcases this with e | e
      · exact ⟨pA, 1, wp, by rw [e]; rfl, sC _ _ (sB _ _ hA), by decide, bwp.2, Bd.of_two (by decide) (by decide), bwp.1.mono (by decide)⟩
      · exact ⟨pB, _, _, by rw [e]; rfl, sC _ _ hB, by lia, by lia, (Bd.of_two (n := 12) (by lia) (by lia)).mono (by decide), (Bd.of_two (n := 12) (by lia) (by lia)).mono (by decide)⟩
    refine r_ixL (SqL.of hC) hpick ?_
    walk_at "sf"
    refine r_ixT (SqT.of hw) rfl ?_
    walk_at "sf"
    refine r_ixT (SqT.of hw) rfl ?_
    walk_at "sf"
    have s812 := s9.trans (sA.trans (sB.trans sC))
    refine ⟨w0, w1, 70, rfl, bw0, bw1, by decide, hw1, fun pv v0 v1 hpv bv0 bv1 hv1 hgv ev => ?_⟩
    have hv0 : 0 < v0 := by
      rcases Int.lt_or_le 0 v0 with z | z
      · exact z
      · exfalso
        have a1 := Int.mul_pos hw0 hv1
        have a2 := Int.mul_nonpos_of_nonpos_of_nonneg z (Int.le_of_lt hw1)
        lia
    have sV := Same.new hpv (.tup [.int v0, .int v1])
    have hV : upd H12 pv (.tup [.int v0, .int v1]) pv = some (.tup [.int v0, .int v1]) := upd_same
    generalize upd H12 pv (.tup [.int v0, .int v1]) = H13 at sV hV ⊢
    have s813 := s812.trans sV
    have s713 := s8.trans s813
    have hF13 := hFk.same s813
    clear sA hA sB hB sC hC hpick hw s812 sV s9
    walk_at "sf"
    refine r_ixL (SqL.of (rix s713)) hat ?_
    walk_at "sf"
    refine ⟨pl, fk.p, fk.gl, fk.gh, pv, zs, fk.t, fk.u, fk.t', fk.u', v0, v1, 6000, rfl, s713 _ _ hzl7, hF13.hp, hF13.rl.1, hF13.rh.1, hV, pres, ⟨by rw [esf]; exact lys, by rw [esf]; exact bys⟩, ⟨pFk.bt, pFk.bu, pFk.bt', pFk.bu', by decide, bv0.mono (by decide), bv1.mono (by decide), hF13.rl.2.1, hF13.rh.2.1, hv0, hv1⟩, .inl ⟨lt1, by rw [esf]; exact pFk.sgn⟩, fun pq g h c d c' d' H14 s14 hpq rg rh nw => ?_⟩
    rw [esf] at nw
    have s714 := s713.trans s14
    have hF14 := hF13.same s14
    have hV14 := s14 _ _ hV
    walk_at "sf"
    refine r_gtup (SqT.of hpq) rfl ?_
    walk_at "sf"
    have hd := rg.2.1
    have hd' := rh.2.1
    have nb1 : Bd 19020 c := nw.b1
    have nb2 : Bd 19020 d := nw.b2
    have nb3 : Bd 19020 c' := nw.b3
    have nb4 : Bd 19020 d' := nw.b4
    refine r_ixL (SqL.of (rix s714)) hat ?_
    walk_at "sf"
    refine r_ixT (SqT.of hF14.hp) rfl ?_
    walk_at "sf"
    refine ⟨g, fk.gl, c, d, fk.t, fk.u, rfl, rg.1, hF14.rl.1, ⟨nb1.mono (by decide), nb2.mono (by decide), pFk.bt.mono (by decide), pFk.bu.mono (by decide)⟩, ?_⟩
    walk_at "sf"
    have o1 : ¬ sg (c * fk.u - fk.t * d) < 0 := sg_nonneg (by have := (vl_le hF14.rl.2.1 hd).mp nw.lo; lia)
    rw [if_neg (by simpa using o1)]
    walk_at "sf"
    refine r_ixL (SqL.of (rix s714)) hat ?_
    walk_at "sf"
    refine r_ixT (SqT.of hF14.hp) rfl ?_
    walk_at "sf"
    refine ⟨h, fk.gh, c', d', fk.t', fk.u', rfl, rh.1, hF14.rh.1, ⟨nb3.mono (by decide), nb4.mono (by decide), pFk.bt'.mono (by decide), pFk.bu'.mono (by decide)⟩, ?_⟩
    walk_at "sf"
    have o2 : ¬ 0 < sg (c' * fk.u' - fk.t' * d') := sg_nonpos (by have := (vl_le hd' hF14.rh.2.1).mp nw.hi; lia)
    rw [if_neg (by simpa using o2)]
    walk_at "sf"
    refine ⟨g, h, c, d, c', d', rfl, rg.1, rh.1, ⟨nb1.mono (by decide), nb2.mono (by decide), nb3.mono (by decide), nb4.mono (by decide)⟩, ?_⟩
    walk_at "sf"
    have hcd : vl c d ≤ vl c' d' := by
      rcases nw.abt with z | z
      · exact Rat.le_of_lt z.1
      · rw [z.1]; grind
    have o3 : ¬ 0 < sg (c * d' - c' * d) := sg_nonpos (by have := (vl_le hd hd').mp hcd; lia)
    rw [if_neg (by simpa using o3)]
    walk_at "sf"
    refine r_ixT (SqT.of rh.1) rfl ?_
    walk_at "sf"
    refine r_ixT (SqT.of rg.1) rfl ?_
    refine r_i (mulOk nb3 nb2 (by decide)) ?_
    walk_at "sf"
    refine r_ixT (SqT.of rg.1) rfl ?_
    walk_at "sf"
    refine r_ixT (SqT.of rh.1) rfl ?_
    refine r_i (mulOk nb1 nb4 (by decide)) ?_
    walk_at "sf"
    refine r_ixT (SqT.of rg.1) rfl ?_
    walk_at "sf"
    refine r_ixT (SqT.of rh.1) rfl ?_
    refine r_i (mulOk nb2 nb4 (by decide)) ?_
    walk_at "sf"
    intro pD hpD
    have sD := Same.new hpD (.tup [.int (c' * d - c * d'), .int (d * d')])
    have hDD : upd H14 pD (.tup [.int (c' * d - c * d'), .int (d * d')]) pD = some (.tup [.int (c' * d - c * d'), .int (d * d')]) := upd_same
    generalize upd H14 pD (.tup [.int (c' * d - c * d'), .int (d * d')]) = H15 at sD hDD ⊢
    walk_at "sf"
    refine ⟨pD, pv, _, _, v0, v1, rfl, hDD, sD _ _ hV14, ⟨((nb3.mul nb2).sub (nb1.mul nb4)).mono (by decide), (nb2.mul nb4).mono (by decide), bv0.mono (by decide), bv1.mono (by decide)⟩, ?_⟩
    walk_at "sf"
    have o4 : ¬ 0 < sg ((c' * d - c * d') * v1 - v0 * (d * d')) := sg_nonpos (by
      have hw := nw.wd
      rw [vl_cross hd hd'] at hw
      have := (vl_le (Int.mul_pos hd hd') hv1).mp hw
      lia)
    rw [if_neg (by simpa using o4)]
    walk_at "sf"
    have s715 := s714.trans sD
    have rg5 := rg.same sD
    have rh5 := rh.same sD
    have hV15 := sD _ _ hV14
    have hy15 := s715 _ _ hy7
    obtain ⟨t1, t2, t3⟩ := nw.abt.tell hd hd' rg.2.2 rh.2.2
    clear hDD sD s714 hF14 hV14 hF13 s713 hV
    refine ⟨g, h, c, d, c', d', rfl, rfl, SqT.of rg5.1, SqT.of rh5.1, ?_⟩
    walk_at "sf"
    refine ite_keep (fun cc hB => ?_) ?_
    · walk_at "sf"
      refine ⟨p2, g, ys, c, d, 19020, rfl, hy15, rg5.1, ⟨by lia, bys, nb1, nb2, by decide⟩, ?_⟩
      walk_at "sf"
      rw [t1 cc]
      exact hB
    show (if false = true then _ else _)
    rw [if_neg (by decide)]
    walk_at "sf"
    refine ⟨g, h, c, d, c', d', rfl, rfl, SqT.of rg5.1, SqT.of rh5.1, ?_⟩
    walk_at "sf"
    refine ite_keep (fun cc hB => ?_) ?_
    · walk_at "sf"
      refine ⟨p2, g, ys, c, d, 19020, rfl, hy15, rg5.1, ⟨by lia, bys, nb1, nb2, by decide⟩, ?_⟩
      walk_at "sf"
      refine ⟨p2, h, ys, c', d', 19020, rfl, hy15, rh5.1, ⟨by lia, bys, nb3, nb4, by decide⟩, ?_⟩
      refine r_i (mulOk (sg_bd _) (sg_bd _) (by decide)) ?_
      walk_at "sf"
      have cf : (c == c' && d == d') = false := by
        cases hcc : (c == c' && d == d') with
        | true => rw [hcc] at cc; cases cc
        | false => rfl
      rw [t2 cf]
      exact hB
    show (if false = true then _ else _)
    rw [if_neg (by decide)]
    walk_at "sf"
    intro pE hpE
    have sE := Same.new hpE (.tup [.ref g, .ref h])
    have hEE : upd H15 pE (.tup [.ref g, .ref h]) pE = some (.tup [.ref g, .ref h]) := upd_same
    generalize upd H15 pE (.tup [.ref g, .ref h]) = H16 at sE hEE ⊢
    have s716 := s715.trans sE
    walk_at "sf"
    refine ⟨pl, pE, g, h, pv, zs, c, d, c', d', v0, v1, 19020, rfl, s716 _ _ hzl7, hEE, (rg5.same sE).1, (rh5.same sE).1, sE _ _ hV15, pres, ⟨by rw [esf]; exact lys, by rw [esf]; exact bys⟩, ⟨nb1, nb2, nb3, nb4, by decide, bv0.mono (by decide), bv1.mono (by decide), hd, hd', hv0, hv1⟩, by rw [esf]; exact nw.abt, fun pq2 g2 h2 x y x' y' H17 s17 hpq2 rg2 rh2 nw2 => ?_⟩
    rw [esf] at nw2
    have s717 := s716.trans s17
    have rg7 := (rg5.same sE).same s17
    have rh7 := (rh5.same sE).same s17
    have hy17 := s717 _ _ hy7
    have hy := rg2.2.1
    have hy' := rh2.2.1
    have mb1 : Bd 58080 x := nw2.b1
    have mb2 : Bd 58080 y := nw2.b2
    have mb3 : Bd 58080 x' := nw2.b3
    have mb4 : Bd 58080 y' := nw2.b4
    obtain ⟨t4, t5, t6⟩ := nw2.abt.tell hy hy' rg2.2.2 rh2.2.2
    clear hEE sE s716 s715 hV15 hy15 t1 t2 t3
    walk_at "sf"
    refine r_ixT (SqT.of hpq2) rfl ?_
    walk_at "sf"
    refine ⟨g2, g, x, y, c, d, rfl, rg2.1, rg7.1, ⟨mb1.mono (by decide), mb2.mono (by decide), nb1.mono (by decide), nb2.mono (by decide)⟩, ?_⟩
    walk_at "sf"
    have o5 : ¬ sg (x * d - c * y) < 0 := sg_nonneg (by have := (vl_le hd hy).mp nw2.lo; lia)
    rw [if_neg (by simpa using o5)]
    walk_at "sf"
    refine r_ixT (SqT.of hpq2) rfl ?_
    walk_at "sf"
    refine ⟨h2, h, x', y', c', d', rfl, rh2.1, rh7.1, ⟨mb3.mono (by decide), mb4.mono (by decide), nb3.mono (by decide), nb4.mono (by decide)⟩, ?_⟩
    walk_at "sf"
    have o6 : ¬ 0 < sg (x' * d' - c' * y') := sg_nonpos (by have := (vl_le hy' hd').mp nw2.hi; lia)
    rw [if_neg (by simpa using o6)]
    walk_at "sf"
    refine r_ixT (SqT.of hpq2) rfl ?_
    walk_at "sf"
    refine ⟨p2, g2, ys, x, y, 58080, rfl, hy17, rg2.1, ⟨by lia, bys, mb1, mb2, by decide⟩, ?_⟩
    walk_at "sf"
    refine r_ixT (SqT.of hpq2) rfl ?_
    walk_at "sf"
    refine ⟨p2, h2, ys, x', y', 58080, rfl, hy17, rh2.1, ⟨by lia, bys, mb3, mb4, by decide⟩, ?_⟩
    refine r_i (mulOk (sg_bd _) (sg_bd _) (by decide)) ?_
    walk_at "sf"
    refine r_ixT (SqT.of hpq2) rfl ?_
    walk_at "sf"
    refine r_ixT (SqT.of hpq2) rfl ?_
    refine ⟨g2, h2, x, y, x', y', rfl, rfl, SqT.of rg2.1, SqT.of rh2.1, ?_⟩
    walk_at "sf"
    refine .inr ⟨_, rfl, ?_⟩
    walk_at "sf"
    have o7 : sg (hv x y ys) * sg (hv x' y' ys) = 0 - (if (!(x == x' && y == y')) = true then 1 else 0) := by
      cases hcc : (x == x' && y == y') with
      | true => rw [t6 hcc]; rfl
      | false => rw [t5 hcc]; rfl
    rw [o7, if_neg (by simp)]
    walk_at "sf"
    exact ⟨_, _, _, _, _, _, rfl, s717⟩
  · rintro σ H8 ⟨r6, r7, r8, r9, r10, r11, rfl, s8⟩
    walk_at "sf"
    exact q _
end
end K16
namespace K16
open PySem PyProof.Rows L2 SF SF.Po
theorem all_law {P : Program} {w : World} {K : PySem.W.Frag} {mg : Str → Option Value} {base : Heap} {f : Addr} {fd : FuncData} {uG : Value} (T : Nm mg) (hT : P.given.tree = none) (hG : mg "GREATEST_DEGREE" = some uG ∧ RelV (.int 12) uG) (F : Fun K "law" "law" s_law f fd)
    (d_common_divisor : DefB K mg "common_divisor" s_common_divisor ["one", "other"])
    (d_sign : DefB K mg "sign" s_sign ["number"])
    (d_power : DefB K mg "power" s_power ["number", "many"])
    (d_ratio : DefB K mg "ratio" s_ratio ["top", "under"])
    (d_middle : DefB K mg "middle" s_middle ["one", "other"])
    (d_trimmed : DefB K mg "trimmed" s_trimmed ["row"])
    (d_degree : DefB K mg "degree" s_degree ["poly"])
    (d_derivative : DefB K mg "derivative" s_derivative ["poly"])
    (d_content : DefB K mg "content" s_content ["poly"])
    (d_primitive : DefB K mg "primitive" s_primitive ["poly"])
    (d_value_at : DefB K mg "value_at" s_value_at ["poly", "point"])
    (d_spread : DefB K mg "spread" s_spread ["value", "point"])
    (d_divided : DefB K mg "divided" s_divided ["poly", "divisor"])
    (d_largest : DefB K mg "largest" s_largest ["poly"])
    (d_divisor_of : DefB K mg "divisor_of" s_divisor_of ["one", "other"])
    (d_quotient : DefB K mg "quotient" s_quotient ["one", "other"])
    (d_square_free : DefB K mg "square_free" s_square_free ["poly"])
    (d_height_at : DefB K mg "height_at" s_height_at ["poly", "top", "under"])
    (d_sign_at : DefB K mg "sign_at" s_sign_at ["poly", "given"])
    (d_changes_in : DefB K mg "changes_in" s_changes_in ["row"])
    (d_remainder : DefB K mg "remainder" s_remainder ["one", "other"])
    (d_chain_of : DefB K mg "chain_of" s_chain_of ["free"])
    (d_changes_at : DefB K mg "changes_at" s_changes_at ["chain", "given"])
    (d_is_within : DefB K mg "is_within" s_is_within ["free", "reach"])
    (d_bound_of : DefB K mg "bound_of" s_bound_of ["free"])
    (d_pair_around_all : DefB K mg "pair_around_all" s_pair_around_all ["free"])
    (d_marked : DefB K mg "marked" s_marked ["chain", "given"])
    (d_isolated : DefB K mg "isolated" s_isolated ["poly"])
    (d_stretch_of : DefB K mg "stretch_of" s_stretch_of ["pair"])
    (d_parts_needed : DefB K mg "parts_needed" s_parts_needed ["stretch", "width"])
    (d_part_between : DefB K mg "part_between" s_part_between ["free", "stretch", "parts", "near", "far"])
    (d_guessed : DefB K mg "guessed" s_guessed ["free", "stretch", "parts"])
    (d_halved : DefB K mg "halved" s_halved ["free", "stretch"])
    (d_narrowed : DefB K mg "narrowed" s_narrowed ["free", "pair", "width"])
    (d_refined : DefB K mg "refined" s_refined ["poly", "pair", "width"])
    (d_law_cell : DefB K mg "_law_cell" s_law_cell ["_law_script", "_law_k"])
    (d_law_drawn : DefB K mg "_law_drawn" s_law_drawn ["_law_cell_here", "_law_k"])
    (d_law_common : DefB K mg "_law_common" s_law_common ["_law_one", "_law_other"])
    (d_law_ratio : DefB K mg "_law_ratio" s_law_ratio ["_law_top", "_law_under"])
    (d_law_order : DefB K mg "_law_order" s_law_order ["_law_one", "_law_other"])
    (d_law_product : DefB K mg "_law_product" s_law_product ["_law_one", "_law_other"])
    (d_law_value : DefB K mg "_law_value" s_law_value ["_law_poly", "_law_given"])
    (d_law_factors : DefB K mg "_law_factors" s_law_factors ["_law_script", "_law_k", "_law_many_here"])
    (d_law_all : DefB K mg "_law_all" s_law_all ["_law_factors_here", "_law_powers"]) : FnOk P w K mg base CX0 38 f fd ["_law_script"] (spLaw K) := by
  have c_gcd := ok_common_divisor (P := P) (w := w) (base := base) T d_common_divisor
  have c_sign := ok_sign (P := P) (w := w) (base := base) d_sign
  have c_trimmed := ok_trimmed (P := P) (w := w) (base := base) T d_trimmed
  have c_degree := ok_degree (P := P) (w := w) (base := base) T d_degree
  have c_derivative := ok_derivative (P := P) (w := w) (base := base) T d_derivative
  have c_content := ok_content c_gcd d_content
  have c_primitive := ok_primitive hT (c_content.mono (by decide)) d_primitive
  have c_value := ok_value_at (P := P) (w := w) (base := base) T d_value_at
  have c_spread := ok_spread (P := P) (w := w) (base := base) hT d_spread
  have c_largest := ok_largest (P := P) (w := w) (base := base) T d_largest
  have c_divided := ok_divided (P := P) (w := w) (base := base) T hT d_divided
  have c_divisor := ok_divisor_of T (c_gcd.mono (by decide)) c_primitive (c_value.mono (by decide)) (c_spread.mono (by decide)) (c_largest.mono (by decide)) (c_divided.mono (by decide)) d_divisor_of
  have c_quotient := ok_quotient c_primitive (c_divided.mono (by decide)) d_quotient
  have c_sf := ok_square_free c_quotient c_divisor (c_derivative.mono (by decide)) d_square_free
  have c_height := ok_height_at (P := P) (w := w) (base := base) T d_height_at
  have c_sign_at := ok_sign_at c_sign c_height d_sign_at
  have c_power := ok_power (P := P) (w := w) (base := base) T d_power
  have c_rem := ok_remainder T c_sign c_trimmed d_remainder
  have c_chain := ok_chain_of T hT (c_derivative.mono (by decide)) (c_power.mono (by decide)) (c_rem.mono (by decide)) d_chain_of
  have c_chgin := ok_changes_in c_sign d_changes_in
  have c_chg := ok_changes_at c_chgin c_sign_at d_changes_at
  have c_ratio := ok_ratio hT (c_gcd.mono (by decide)) d_ratio
  have c_middle := ok_middle c_ratio d_middle
  have c_within := ok_is_within (P := P) (w := w) (base := base) T d_is_within
  have c_bound := ok_bound_of c_within d_bound_of
  have c_around := ok_pair_around_all T (c_bound.mono (by decide)) c_ratio d_pair_around_all
  have c_marked := ok_marked c_chg d_marked
  have c_iso := ok_isolated T hG (c_degree.mono (by decide)) (c_sf.mono (by decide)) (c_chain.mono (by decide)) (c_around.mono (by decide)) (c_marked.mono (by decide)) (c_middle.mono (by decide)) d_isolated
  have c_str := ok_stretch_of (P := P) (w := w) (base := base) d_stretch_of
  have c_need := ok_parts_needed (P := P) (w := w) (base := base) hT d_parts_needed
  have c_part := ok_part_between c_sign c_height d_part_between
  have c_guess := ok_guessed T hT (c_height.mono (by decide)) (c_part.mono (by decide)) d_guessed
  have c_half := ok_halved (c_part.mono (by decide)) d_halved
  have c_narrow := ok_narrowed T (c_str.mono (by decide)) (c_need.mono (by decide)) (c_guess.mono (by decide)) (c_half.mono (by decide)) (c_ratio.mono (by decide)) d_narrowed
  have c_refined := ok_refined (c_sf.mono (by decide)) c_narrow d_refined
  have c_cell := ok_law_cell (P := P) (w := w) (base := base) T d_law_cell
  have c_drawn := ok_law_drawn (P := P) (w := w) (base := base) d_law_drawn
  have c_product := ok_law_product (P := P) (w := w) (base := base) T d_law_product
  have c_common := ok_law_common (P := P) (w := w) (base := base) T d_law_common
  have c_lratio := ok_law_ratio c_common d_law_ratio
  have c_order := ok_law_order (P := P) (w := w) (base := base) T d_law_order
  have c_at := ok_law_value (P := P) (w := w) (base := base) T d_law_value
  have c_factors := ok_law_factors T (c_cell.mono (by decide)) (c_drawn.mono (by decide)) (c_lratio.mono (by decide)) d_law_factors
  have c_all := ok_law_all T (c_product.mono (by decide)) d_law_all
  exact ok_law T F (c_cell.mono (by decide)) (c_drawn.mono (by decide)) (c_factors.mono (by decide)) (c_all.mono (by decide)) (c_lratio.mono (by decide)) (c_order.mono (by decide)) (c_at.mono (by decide)) c_iso c_refined
end K16
namespace K16
open PySem PyProof.Rows L2 SF
theorem walk {l : PySem.W.OpenLaw} {q : Program} {loose : List Str} {XP : (Str → Option Value) → Heap → Prop} {YP : World → Heap → Prop} {d : DefRec} {K : Params → PySem.W.Frag} (hn : l.most = some 63) (hdf : d.params.defaults = [])
    (hY : ∀ (w : World) (h : Heap), YP w h → (K w.params).In h)
    (F : ∀ (w : World) (mg : Str → Option Value) (fa : Addr) (h : Heap), (K w.params).In h → h.Ns mainGlobals mg → mg d.name = some (.ref fa) →
      ∃ fd : FuncData, (∀ (s : Shared) (u : Value), BindsTo s fd ⟨[u], []⟩ [("_law_script", u)]) ∧ ∀ base : Heap, (K w.params).In base → base.Ns mainGlobals mg → FnOk l.prog w (K w.params) mg base CX0 38 fa fd ["_law_script"] (spLaw (K w.params))) (hi : importsNone q = true) :
    PySem.W.WalkO q loose XP YP l.row.toRowW d [] (fun f vs => PySem.call f vs) :=
  L2.walk_of (n := 63) (k := 38) (x := "_law_script") (CX := fun _ => CX0) (sp := fun w => spLaw (K w.params)) hn (by decide) hdf ⟨rfl, by decide, by decide⟩ hY F (fun _ _ a ns hl _ hS => ⟨a, ns, rfl, hS, hl, fun _ => rfl⟩) (fun _ _ _ _ _ z => z) hi
theorem law_mk {K : PySem.W.Frag} {h : Heap} {mg : Str → Option Value} {fa f : Addr} {od an : Option Addr} {sl : Array (Option Value)} {oc kV doc pm cd ct : Value} (X : K.In h) (G : h.Ns mainGlobals mg) (hfa : mg "law" = some (.ref fa))
    (a : PySem.W.nsIn K mainGlobals "law" = some (some (.ref f))) (l : K.lookup f = some ⟨oc, od, .func (PySem.W.fnOf "law" "law" (defArgs s_law) (defBody s_law) (defScope s_law) .none kV doc pm an cd ct), sl⟩)
    (c : PySem.W.codeIn K cd "law" = true) (k : PySem.W.keepIn K (.ref f) = true) : ∃ fd : FuncData, (∀ (s : Shared) (v : Value), BindsTo s fd ⟨[v], []⟩ [("_law_script", v)]) ∧ Fun K "law" "law" s_law fa fd := by
  have e := hfa.symm.trans (PySem.W.mg_of X G a)
  cases e
  exact ⟨_, fun s v => .of_eq rfl, fun_mk (st := s_law) l c k⟩
end K16
def PySem.W.Fast.tw1678185389695269347 : Unit := ()
def PySem.W.Fast.tw4028981163689597965 : Unit := ()
def PySem.W.Fast.tw15358462931640484280 : Unit := ()
def PySem.W.Fast.tw16411916491073301192 : Unit := ()
def PySem.W.Fast.tw14892364068460649147 : Unit := ()
def PySem.W.Fast.tw11596035529169233585 : Unit := ()
def PySem.W.Fast.tw9047225237970990432 : Unit := ()
def PySem.W.Fast.tw1055837666356127271 : Unit := ()
def PySem.W.Fast.tw11279253512214162201 : Unit := ()
def PySem.W.Fast.tw10151104656320307845 : Unit := ()
def PySem.W.Fast.tw16804573197992065396 : Unit := ()
def PySem.W.Fast.tw7471599749602463387 : Unit := ()
def PySem.W.Fast.tw16399848948852879847 : Unit := ()
def PySem.W.Fast.tw5602347825281131294 : Unit := ()
open PySem PySem.W PyProof.Rows
set_option maxRecDepth 100000 in
set_option maxHeartbeats 0 in
theorem PySem.Challenge.cw_surefoot_k16_whole_drawn_together_holds : PySem.Challenge.rw_surefoot_k16_whole_drawn_together.Holds := by
  w_on; o_law; k_head; (case hw => w_witness2)
  k_fill
  refine K16.walk (l := PySem.Challenge.rw_surefoot_k16_whole_drawn_together) rfl rfl (fun w h Y => PySem.W.kIn_of Y) ?F ?I
  case I => decide +kernel
  case F =>
    intro w mg fa h KX G hmg
    have T : K16.Nm mg := by
      refine' ⟨PySem.W.mg_none_of KX G ?t1, PySem.W.mg_none_of KX G ?t2, PySem.W.mg_none_of KX G ?t3, PySem.W.mg_none_of KX G ?t4, PySem.W.mg_none_of KX G ?t5, PySem.W.mg_none_of KX G ?t6, PySem.W.mg_none_of KX G ?t7, PySem.W.mg_none_of KX G ?t8, PySem.W.mg_none_of KX G ?t9, PySem.W.mg_none_of KX G ?t10, PySem.W.mg_none_of KX G ?t11, PySem.W.mg_none_of KX G ?t12⟩
      all_goals k_is
    have L := by
      refine' K16.law_mk KX G hmg ?a ?l ?c ?k
      (case a => k_is); (case l => k_is); (case c => k_is); (case k => k_is)
    obtain ⟨fd, hb, F⟩ := L
    refine ⟨fd, hb, fun base _ _ => ?_⟩
    refine' K16.all_law T (by rfl) ⟨PySem.W.mg_of KX G ?g1, ?h1⟩ F (L2.def_of KX G ?a1 ?l1 ?c1 ?k1 ?b1) (L2.def_of KX G ?a2 ?l2 ?c2 ?k2 ?b2) (L2.def_of KX G ?a3 ?l3 ?c3 ?k3 ?b3) (L2.def_of KX G ?a4 ?l4 ?c4 ?k4 ?b4) (L2.def_of KX G ?a5 ?l5 ?c5 ?k5 ?b5) (L2.def_of KX G ?a6 ?l6 ?c6 ?k6 ?b6) (L2.def_of KX G ?a7 ?l7 ?c7 ?k7 ?b7) (L2.def_of KX G ?a8 ?l8 ?c8 ?k8 ?b8) (L2.def_of KX G ?a9 ?l9 ?c9 ?k9 ?b9) (L2.def_of KX G ?a10 ?l10 ?c10 ?k10 ?b10) (L2.def_of KX G ?a11 ?l11 ?c11 ?k11 ?b11) (L2.def_of KX G ?a12 ?l12 ?c12 ?k12 ?b12) (L2.def_of KX G ?a13 ?l13 ?c13 ?k13 ?b13) (L2.def_of KX G ?a14 ?l14 ?c14 ?k14 ?b14) (L2.def_of KX G ?a15 ?l15 ?c15 ?k15 ?b15) (L2.def_of KX G ?a16 ?l16 ?c16 ?k16 ?b16) (L2.def_of KX G ?a17 ?l17 ?c17 ?k17 ?b17) (L2.def_of KX G ?a18 ?l18 ?c18 ?k18 ?b18) (L2.def_of KX G ?a19 ?l19 ?c19 ?k19 ?b19) (L2.def_of KX G ?a20 ?l20 ?c20 ?k20 ?b20) (L2.def_of KX G ?a21 ?l21 ?c21 ?k21 ?b21) (L2.def_of KX G ?a22 ?l22 ?c22 ?k22 ?b22) (L2.def_of KX G ?a23 ?l23 ?c23 ?k23 ?b23) (L2.def_of KX G ?a24 ?l24 ?c24 ?k24 ?b24) (L2.def_of KX G ?a25 ?l25 ?c25 ?k25 ?b25) (L2.def_of KX G ?a26 ?l26 ?c26 ?k26 ?b26) (L2.def_of KX G ?a27 ?l27 ?c27 ?k27 ?b27) (L2.def_of KX G ?a28 ?l28 ?c28 ?k28 ?b28) (L2.def_of KX G ?a29 ?l29 ?c29 ?k29 ?b29) (L2.def_of KX G ?a30 ?l30 ?c30 ?k30 ?b30) (L2.def_of KX G ?a31 ?l31 ?c31 ?k31 ?b31) (L2.def_of KX G ?a32 ?l32 ?c32 ?k32 ?b32) (L2.def_of KX G ?a33 ?l33 ?c33 ?k33 ?b33) (L2.def_of KX G ?a34 ?l34 ?c34 ?k34 ?b34) (L2.def_of KX G ?a35 ?l35 ?c35 ?k35 ?b35) (L2.def_of KX G ?a36 ?l36 ?c36 ?k36 ?b36) (L2.def_of KX G ?a37 ?l37 ?c37 ?k37 ?b37) (L2.def_of KX G ?a38 ?l38 ?c38 ?k38 ?b38) (L2.def_of KX G ?a39 ?l39 ?c39 ?k39 ?b39) (L2.def_of KX G ?a40 ?l40 ?c40 ?k40 ?b40) (L2.def_of KX G ?a41 ?l41 ?c41 ?k41 ?b41) (L2.def_of KX G ?a42 ?l42 ?c42 ?k42 ?b42) (L2.def_of KX G ?a43 ?l43 ?c43 ?k43 ?b43) (L2.def_of KX G ?a44 ?l44 ?c44 ?k44 ?b44)
    (case a1 => k_is); (case l1 => k_is); (case c1 => k_is); (case k1 => k_is); (case b1 => exact fun _ _ _ _ _ _ us hl => match us, hl with | [_, _], _ => rfl)
    (case a2 => k_is); (case l2 => k_is); (case c2 => k_is); (case k2 => k_is); (case b2 => exact fun _ _ _ _ _ _ us hl => match us, hl with | [_], _ => rfl)
    (case a3 => k_is); (case l3 => k_is); (case c3 => k_is); (case k3 => k_is); (case b3 => exact fun _ _ _ _ _ _ us hl => match us, hl with | [_, _], _ => rfl)
    (case a4 => k_is); (case l4 => k_is); (case c4 => k_is); (case k4 => k_is); (case b4 => exact fun _ _ _ _ _ _ us hl => match us, hl with | [_, _], _ => rfl)
    (case a5 => k_is); (case l5 => k_is); (case c5 => k_is); (case k5 => k_is); (case b5 => exact fun _ _ _ _ _ _ us hl => match us, hl with | [_, _], _ => rfl)
    (case a6 => k_is); (case l6 => k_is); (case c6 => k_is); (case k6 => k_is); (case b6 => exact fun _ _ _ _ _ _ us hl => match us, hl with | [_], _ => rfl)
    (case a7 => k_is); (case l7 => k_is); (case c7 => k_is); (case k7 => k_is); (case b7 => exact fun _ _ _ _ _ _ us hl => match us, hl with | [_], _ => rfl)
    (case a8 => k_is); (case l8 => k_is); (case c8 => k_is); (case k8 => k_is); (case b8 => exact fun _ _ _ _ _ _ us hl => match us, hl with | [_], _ => rfl)
    (case a9 => k_is); (case l9 => k_is); (case c9 => k_is); (case k9 => k_is); (case b9 => exact fun _ _ _ _ _ _ us hl => match us, hl with | [_], _ => rfl)
    (case a10 => k_is); (case l10 => k_is); (case c10 => k_is); (case k10 => k_is); (case b10 => exact fun _ _ _ _ _ _ us hl => match us, hl with | [_], _ => rfl)
    (case a11 => k_is); (case l11 => k_is); (case c11 => k_is); (case k11 => k_is); (case b11 => exact fun _ _ _ _ _ _ us hl => match us, hl with | [_, _], _ => rfl)
    (case a12 => k_is); (case l12 => k_is); (case c12 => k_is); (case k12 => k_is); (case b12 => exact fun _ _ _ _ _ _ us hl => match us, hl with | [_, _], _ => rfl)
    (case a13 => k_is); (case l13 => k_is); (case c13 => k_is); (case k13 => k_is); (case b13 => exact fun _ _ _ _ _ _ us hl => match us, hl with | [_, _], _ => rfl)
    (case a14 => k_is); (case l14 => k_is); (case c14 => k_is); (case k14 => k_is); (case b14 => exact fun _ _ _ _ _ _ us hl => match us, hl with | [_], _ => rfl)
    (case a15 => k_is); (case l15 => k_is); (case c15 => k_is); (case k15 => k_is); (case b15 => exact fun _ _ _ _ _ _ us hl => match us, hl with | [_, _], _ => rfl)
    (case a16 => k_is); (case l16 => k_is); (case c16 => k_is); (case k16 => k_is); (case b16 => exact fun _ _ _ _ _ _ us hl => match us, hl with | [_, _], _ => rfl)
    (case a17 => k_is); (case l17 => k_is); (case c17 => k_is); (case k17 => k_is); (case b17 => exact fun _ _ _ _ _ _ us hl => match us, hl with | [_], _ => rfl)
    (case a18 => k_is); (case l18 => k_is); (case c18 => k_is); (case k18 => k_is); (case b18 => exact fun _ _ _ _ _ _ us hl => match us, hl with | [_, _, _], _ => rfl)
    (case a19 => k_is); (case l19 => k_is); (case c19 => k_is); (case k19 => k_is); (case b19 => exact fun _ _ _ _ _ _ us hl => match us, hl with | [_, _], _ => rfl)
    (case a20 => k_is); (case l20 => k_is); (case c20 => k_is); (case k20 => k_is); (case b20 => exact fun _ _ _ _ _ _ us hl => match us, hl with | [_], _ => rfl)
    (case a21 => k_is); (case l21 => k_is); (case c21 => k_is); (case k21 => k_is); (case b21 => exact fun _ _ _ _ _ _ us hl => match us, hl with | [_, _], _ => rfl)
    (case a22 => k_is); (case l22 => k_is); (case c22 => k_is); (case k22 => k_is); (case b22 => exact fun _ _ _ _ _ _ us hl => match us, hl with | [_], _ => rfl)
    (case a23 => k_is); (case l23 => k_is); (case c23 => k_is); (case k23 => k_is); (case b23 => exact fun _ _ _ _ _ _ us hl => match us, hl with | [_, _], _ => rfl)
    (case a24 => k_is); (case l24 => k_is); (case c24 => k_is); (case k24 => k_is); (case b24 => exact fun _ _ _ _ _ _ us hl => match us, hl with | [_, _], _ => rfl)
    (case a25 => k_is); (case l25 => k_is); (case c25 => k_is); (case k25 => k_is); (case b25 => exact fun _ _ _ _ _ _ us hl => match us, hl with | [_], _ => rfl)
    (case a26 => k_is); (case l26 => k_is); (case c26 => k_is); (case k26 => k_is); (case b26 => exact fun _ _ _ _ _ _ us hl => match us, hl with | [_], _ => rfl)
    (case a27 => k_is); (case l27 => k_is); (case c27 => k_is); (case k27 => k_is); (case b27 => exact fun _ _ _ _ _ _ us hl => match us, hl with | [_, _], _ => rfl)
    (case a28 => k_is); (case l28 => k_is); (case c28 => k_is); (case k28 => k_is); (case b28 => exact fun _ _ _ _ _ _ us hl => match us, hl with | [_], _ => rfl)
    (case a29 => k_is); (case l29 => k_is); (case c29 => k_is); (case k29 => k_is); (case b29 => exact fun _ _ _ _ _ _ us hl => match us, hl with | [_], _ => rfl)
    (case a30 => k_is); (case l30 => k_is); (case c30 => k_is); (case k30 => k_is); (case b30 => exact fun _ _ _ _ _ _ us hl => match us, hl with | [_, _], _ => rfl)
    (case a31 => k_is); (case l31 => k_is); (case c31 => k_is); (case k31 => k_is); (case b31 => exact fun _ _ _ _ _ _ us hl => match us, hl with | [_, _, _, _, _], _ => rfl)
    (case a32 => k_is); (case l32 => k_is); (case c32 => k_is); (case k32 => k_is); (case b32 => exact fun _ _ _ _ _ _ us hl => match us, hl with | [_, _, _], _ => rfl)
    (case a33 => k_is); (case l33 => k_is); (case c33 => k_is); (case k33 => k_is); (case b33 => exact fun _ _ _ _ _ _ us hl => match us, hl with | [_, _], _ => rfl)
    (case a34 => k_is); (case l34 => k_is); (case c34 => k_is); (case k34 => k_is); (case b34 => exact fun _ _ _ _ _ _ us hl => match us, hl with | [_, _, _], _ => rfl)
    (case a35 => k_is); (case l35 => k_is); (case c35 => k_is); (case k35 => k_is); (case b35 => exact fun _ _ _ _ _ _ us hl => match us, hl with | [_, _, _], _ => rfl)
    (case a36 => k_is); (case l36 => k_is); (case c36 => k_is); (case k36 => k_is); (case b36 => exact fun _ _ _ _ _ _ us hl => match us, hl with | [_, _], _ => rfl)
    (case a37 => k_is); (case l37 => k_is); (case c37 => k_is); (case k37 => k_is); (case b37 => exact fun _ _ _ _ _ _ us hl => match us, hl with | [_, _], _ => rfl)
    (case a38 => k_is); (case l38 => k_is); (case c38 => k_is); (case k38 => k_is); (case b38 => exact fun _ _ _ _ _ _ us hl => match us, hl with | [_, _], _ => rfl)
    (case a39 => k_is); (case l39 => k_is); (case c39 => k_is); (case k39 => k_is); (case b39 => exact fun _ _ _ _ _ _ us hl => match us, hl with | [_, _], _ => rfl)
    (case a40 => k_is); (case l40 => k_is); (case c40 => k_is); (case k40 => k_is); (case b40 => exact fun _ _ _ _ _ _ us hl => match us, hl with | [_, _], _ => rfl)
    (case a41 => k_is); (case l41 => k_is); (case c41 => k_is); (case k41 => k_is); (case b41 => exact fun _ _ _ _ _ _ us hl => match us, hl with | [_, _], _ => rfl)
    (case a42 => k_is); (case l42 => k_is); (case c42 => k_is); (case k42 => k_is); (case b42 => exact fun _ _ _ _ _ _ us hl => match us, hl with | [_, _], _ => rfl)
    (case a43 => k_is); (case l43 => k_is); (case c43 => k_is); (case k43 => k_is); (case b43 => exact fun _ _ _ _ _ _ us hl => match us, hl with | [_, _, _], _ => rfl)
    (case a44 => k_is); (case l44 => k_is); (case c44 => k_is); (case k44 => k_is); (case b44 => exact fun _ _ _ _ _ _ us hl => match us, hl with | [_, _], _ => rfl)
    (case g1 => k_is)
    (case h1 => exact ⟨_, rfl⟩)
#print axioms PySem.Challenge.cw_surefoot_k16_whole_drawn_together_holds
