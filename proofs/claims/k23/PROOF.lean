import PyProof.Rows.All
import Wide.All
import OpenK.AllK
import Wide.FinOn
import Lean
import PyProof.EqAt
import PyProof.EqKinds
import PyProof.TupleCall
import KE.KIntText
import PySem.Challenge.RW_surefoot_k23_whole_texts_there_and_back
set_option Elab.async false
set_option linter.all false
set_option maxRecDepth 100000
namespace L2
open PySem PySem.Spec PyProof.Rows
noncomputable abbrev Key := Sum Int Str
noncomputable def keyIs : Key → Value → Bool
  | .inl k, v => Value.isInt k v
  | .inr x, v => Value.isStrOf x v
noncomputable def keyH (w : World) : Key → Int
  | .inl k => hashInt k
  | .inr x => hashStr w x
theorem keyIs_shape : ∀ {k : Key} {v : Value}, keyIs k v = true → (∃ i t, k = Sum.inl i ∧ v = Value.int i t) ∨ (∃ x t, k = Sum.inr x ∧ v = Value.str x t)
  | .inl i, v, h => by
    obtain ⟨t, e⟩ := Value.isInt_shape (k := i) (v := v) h
    exact .inl ⟨i, t, rfl, e⟩
  | .inr x, v, h => by
    obtain ⟨t, e⟩ := Value.isStrOf_shape (x := x) (v := v) h
    exact .inr ⟨x, t, rfl, e⟩
theorem key_ll (a b : Int) : decide ((Sum.inl a : Key) = Sum.inl b) = (a == b) := by
  by_cases e : a = b
  · subst e; simp
  · have h : ¬ (Sum.inl a : Key) = Sum.inl b := fun q => e (Sum.inl.inj q)
    rw [decide_eq_false h]
    exact (beq_eq_false_iff_ne.mpr e).symm
theorem key_rr (a b : Str) : decide ((Sum.inr a : Key) = Sum.inr b) = decide (a = b) := by
  by_cases e : a = b
  · subst e; simp
  · have h : ¬ (Sum.inr a : Key) = Sum.inr b := fun q => e (Sum.inr.inj q)
    rw [decide_eq_false h, decide_eq_false e]
theorem key_lr (a : Int) (b : Str) : decide ((Sum.inl a : Key) = Sum.inr b) = false := decide_eq_false (fun q => nomatch q)
theorem key_rl (a : Str) (b : Int) : decide ((Sum.inr a : Key) = Sum.inl b) = false := decide_eq_false (fun q => nomatch q)
noncomputable def mixKind (prog : Program) (w : World) : PySem.KeyKind prog w Key where
  is := keyIs
  hash := keyH w
  inj := fun v a b ha hb => by
    rcases keyIs_shape ha with ⟨i, t, rfl, rfl⟩ | ⟨x, t, rfl, rfl⟩
    · rcases keyIs_shape hb with ⟨j, u, rfl, e⟩ | ⟨y, u, rfl, e⟩
      · injection e with e1 _; rw [e1]
      · exact nomatch e
    · rcases keyIs_shape hb with ⟨j, u, rfl, e⟩ | ⟨y, u, rfl, e⟩
      · exact nomatch e
      · injection e with e1 _; rw [e1]
  byValue := fun k v h => by
    rcases keyIs_shape h with ⟨i, t, rfl, rfl⟩ | ⟨x, t, rfl, rfl⟩ <;> rfl
  pyHash := fun hv h => by
    rcases keyIs_shape hv with ⟨i, t, rfl, rfl⟩ | ⟨x, t, rfl, rfl⟩
    · exact wpAny_pyHash_int h
    · exact wpAny_pyHash_str h
  eqBool := fun hu hv h => by
    rcases keyIs_shape hu with ⟨i, t, rfl, rfl⟩ | ⟨x, t, rfl, rfl⟩
    · rcases keyIs_shape hv with ⟨j, u, rfl, rfl⟩ | ⟨y, u, rfl, rfl⟩
      · rw [key_ll] at h; exact wpAny_eqBool_int h
      · rw [key_lr] at h; exact SeqAt.EqAt.int_str i t y u _ _ _ _ h
    · rcases keyIs_shape hv with ⟨j, u, rfl, rfl⟩ | ⟨y, u, rfl, rfl⟩
      · rw [key_rl] at h; exact SeqAt.EqAt.str_int x t j u _ _ _ _ h
      · rw [key_rr] at h; exact wpAny_eqBool_str h
  «strs» := fun k x t v h => by
    rcases keyIs_shape h with ⟨i, u, rfl, e⟩ | ⟨y, u, rfl, e⟩
    · exact nomatch e
    · injection e with e1 _
      subst e1
      cases v <;> rfl
end L2
namespace L2
open PySem PySem.Spec PyProof.Rows
inductive V where
  | non | bl (b : Bool) | int (i : Int) | str (x : Str) | byt (b : Array UInt8) | flt (b : UInt64) | ref (a : Addr) | ty (n : String)
  deriving DecidableEq
noncomputable def RelV : V → Value → Prop
  | .non, u => u = Value.none
  | .bl b, u => u = Value.bool b
  | .int i, u => ∃ t, u = Value.int i t
  | .str x, u => ∃ t, u = Value.str x t
  | .byt b, u => ∃ t, u = Value.bytes b t
  | .flt b, u => ∃ t, u = Value.float b t
  | .ref a, u => u = Value.ref a
  | .ty n, u => u = Value.type n
noncomputable abbrev Vals : List V → List Value → Prop := Paired RelV
theorem Vals.length {xs : List V} {us : List Value} (r : Vals xs us) : xs.length = us.length := Paired.length r
theorem Vals.get : ∀ {xs : List V} {us : List Value} {i : Nat} {x : V}, Vals xs us → xs[i]? = some x → ∃ u, us[i]? = some u ∧ RelV x u
  | _, _, _, _, .nil, e => by simp at e
  | _, _, 0, _, .cons r _, e => by simp at e; subst e; exact ⟨_, rfl, r⟩
  | _, _, i + 1, x, .cons _ t, e => by
    obtain ⟨u, h1, h2⟩ := Vals.get (i := i) (x := x) t (by simpa using e)
    exact ⟨u, by simpa using h1, h2⟩
theorem Vals.set {x : V} {u : Value} (r : RelV x u) : ∀ {xs : List V} {us : List Value} (i : Nat), Vals xs us → Vals (xs.set i x) (us.set i u)
  | _, _, _, .nil => .nil
  | _, _, 0, .cons _ t => .cons r t
  | _, _, i + 1, .cons q t => .cons q (Vals.set r i t)
theorem Vals.append : ∀ {xs ys : List V} {us ws : List Value}, Vals xs us → Vals ys ws → Vals (xs ++ ys) (us ++ ws)
  | _, _, _, _, .nil, s => s
  | _, _, _, _, .cons r t, s => .cons r (Vals.append t s)
theorem Vals.take : ∀ {xs : List V} {us : List Value} (n : Nat), Vals xs us → Vals (xs.take n) (us.take n)
  | _, _, 0, _ => .nil
  | _, _, _ + 1, .nil => .nil
  | _, _, n + 1, .cons r t => .cons r (Vals.take n t)
theorem Vals.drop : ∀ {xs : List V} {us : List Value} (n : Nat), Vals xs us → Vals (xs.drop n) (us.drop n)
  | _, _, 0, r => r
  | _, _, _ + 1, .nil => .nil
  | _, _, n + 1, .cons _ t => Vals.drop n t
noncomputable def RelO : Option V → Option Value → Prop
  | some v, some u => RelV v u
  | none, none => True
  | _, _ => False
noncomputable def KV {κ : Type} : List (κ × V) → List (κ × Value) → Prop := Paired fun (p : κ × V) (q : κ × Value) => p.1 = q.1 ∧ RelV p.2 q.2
noncomputable def kV : Key → V
  | .inl i => .int i
  | .inr x => .str x
inductive HO where
    | lst (xs : List V)
    | tup (xs : List V)
    | dK (kvs : List (Key × V)) | dT (kvs : List (List Key × V))
    | set (S : Int → Bool) (n : Nat)
    | ins (C dx : Addr) (fs : List (Str × V))
    | own (x : Addr)
    | xd (fs : List (Str × V))
    | met (f x : Addr)
    | rng (lo hi : Int)
    | frz (o : Obj) (u : HO)
    | tbl (ps : Array Value)
    | ext (φ : Heap → Prop)
noncomputable abbrev Hp := Addr → Option HO
noncomputable def upd (H : Hp) (a : Addr) (o : HO) : Hp := fun b => if b = a then some o else H b
theorem upd_same {H : Hp} {a : Addr} {o : HO} : upd H a o a = some o := by unfold upd; rw [if_pos rfl]
theorem upd_ne {H : Hp} {a b : Addr} {o : HO} (h : b ≠ a) : upd H a o b = H b := by unfold upd; rw [if_neg h]
theorem ne_of_none {H : Hp} {a b : Addr} {o : HO} (h : H a = some o) (h' : H b = none) : a ≠ b := by
  intro e; subst e; rw [h] at h'; cases h'
section
variable (P : Program) (w : World)
noncomputable def ObjOk (H : Hp) (h : Heap) (a : Addr) : HO → Prop
  | .lst xs => xs.length ≤ sizeLine ∧ ∃ (its : List Value) (n : Nat), Vals xs its ∧ h.get? a = some { cls := .type "list", data := .seq its.toArray n }
  | .tup xs => xs.length ≤ sizeLine ∧ ∃ its : List Value, Vals xs its ∧ IsTup h a its.toArray
  | .dK kvs => kvs.length ≤ sizeLine ∧ (a == sysModules) = false ∧ ∃ vs, KV kvs vs ∧ h.DictOf (mixKind P w) a vs
  | .dT kvs => kvs.length ≤ sizeLine ∧ (a == sysModules) = false ∧ ∃ xs : List (List Key × Addr × Value),
      Paired (fun (p : List Key × V) (q : List Key × Addr × Value) => p.1 = q.1 ∧ H q.2.1 = some (.tup (p.1.map kV)) ∧ RelV p.2 q.2.2) kvs xs ∧
      ∃ o es ep, h.get? a = some o ∧ o.ExactDict ∧ o.data = .dict es ep ∧ es.toList = xs.map (entryOfKey (tupleKind (mixKind P w))) ∧ (xs.map (·.1)).Nodup
  | .set S n => h.SetOf (intKind P w) a S n
  | .ins C dx fs => H dx = some (.own a) ∧ fs.length ≤ 1000 ∧ dx ≠ a ∧ h.get? a = some (PySem.W.instObj C dx) ∧
      ∃ mA, h.Ns1 dx mA ∧ (∀ f, RelO (fs.lookup f) (mA f)) ∧ PySem.Within mA (fs.map (·.1))
  | .own _ => ∃ o, h.get? a = some o
  | .xd fs => ∃ mA, h.Ns1 a mA ∧ ∀ f, RelO (fs.lookup f) (mA f)
  | .rng lo hi => ∃ t u v, h.get? a = some { cls := .type "range", data := .fields #[.int lo t, .int hi u, .int 1 v] }
  | .frz o u => h.get? a = some o ∧ ObjOk H h a u
  | .tbl ps => h.get? a = some { cls := .none, data := .fields ps }
  | .met f x => h.get? a = some (PySem.W.methodObj (.ref f) (.ref x))
  | .ext φ => φ h ∧ (∃ o, h.get? a = some o) ∧ ∀ h1 h2 : Heap, φ h1 → (∀ o, h1.get? a = some o → h2.get? a = some o) → φ h2
noncomputable def HOk (H : Hp) (h : Heap) : Prop := ∀ a o, H a = some o → ObjOk P w H h a o
end
section
variable {P : Program} {w : World} {H H' : Hp} {h h' : Heap} {a : Addr} {o : HO}
theorem ObjOk.lt (x : ObjOk P w H h a o) : a < h.objs.size := by
  cases o with
  | lst xs => obtain ⟨_, _, _, _, e⟩ := x; exact Heap.lt_size e
  | tup xs => obtain ⟨_, _, _, p⟩ := x; exact p.lt
  | dK kvs => obtain ⟨_, _, _, _, o, _, _, e, _⟩ := x; exact Heap.lt_size e
  | dT kvs => obtain ⟨_, _, _, _, o, _, _, e, _⟩ := x; exact Heap.lt_size e
  | set S n => obtain ⟨o, _, _, _, e, _⟩ := x; exact Heap.lt_size e
  | ins C dx fs => obtain ⟨_, _, _, e, _⟩ := x; exact Heap.lt_size e
  | own y => obtain ⟨_, e⟩ := x; exact Heap.lt_size e
  | xd fs => obtain ⟨_, ⟨_, _, _, e, _⟩, _⟩ := x; exact Heap.lt_size e
  | rng lo hi => obtain ⟨_, _, _, e⟩ := x; exact Heap.lt_size e
  | frz ob u => obtain ⟨e, _⟩ := x; exact Heap.lt_size e
  | tbl ps => exact Heap.lt_size (show h.get? a = some _ from x)
  | met f y => exact Heap.lt_size (show h.get? a = some _ from x)
  | ext φ => obtain ⟨_, ⟨_, e⟩, _⟩ := x; exact Heap.lt_size e
theorem Paired.mapP {α β : Type} {F G : α → β → Prop} : ∀ {l₁ : List α} {l₂ : List β}, Paired F l₁ l₂ → (∀ a b, F a b → G a b) → Paired G l₁ l₂
  | _, _, .nil, _ => .nil
  | _, _, .cons r t, f => .cons (f _ _ r) (Paired.mapP t f)
theorem ObjOk.stay (x : ObjOk P w H h a o) (k : ∀ b u, (b = a ∨ H b = some (.own a)) → h.get? b = some u → h'.get? b = some u)
    (ho : ∀ b, H b = some (.own a) → H' b = some (.own a)) (ht : ∀ b xs, H b = some (.tup xs) → H' b = some (.tup xs)) : ObjOk P w H' h' a o := by
  induction o with
  | lst xs => obtain ⟨z, its, n, r, e⟩ := x; exact ⟨z, its, n, r, k _ _ (.inl rfl) e⟩
  | tup xs => obtain ⟨z, its, r, ob, e, c⟩ := x; exact ⟨z, its, r, ob, k _ _ (.inl rfl) e, c⟩
  | dK kvs => obtain ⟨z, y, vs, r, ob, es, ep, e, c⟩ := x; exact ⟨z, y, vs, r, ob, es, ep, k _ _ (.inl rfl) e, c⟩
  | dT kvs =>
    obtain ⟨z, y, xs, r, ob, es, ep, e, c⟩ := x
    exact ⟨z, y, xs, Paired.mapP r fun p q z => ⟨z.1, ht _ _ z.2.1, z.2.2⟩, ob, es, ep, k _ _ (.inl rfl) e, c⟩
  | set S n => obtain ⟨ob, es, ep, t, e, c⟩ := x; exact ⟨ob, es, ep, t, k _ _ (.inl rfl) e, c⟩
  | ins C dx fs =>
    obtain ⟨d, z, ne, e, mA, ⟨od, es, ep, e2, c⟩, r⟩ := x
    exact ⟨ho _ d, z, ne, k _ _ (.inl rfl) e, mA, ⟨od, es, ep, k _ _ (.inr d) e2, c⟩, r⟩
  | own y => obtain ⟨ob, e⟩ := x; exact ⟨ob, k _ _ (.inl rfl) e⟩
  | xd fs => obtain ⟨mA, ⟨od, es, ep, e, c⟩, r⟩ := x; exact ⟨mA, ⟨od, es, ep, k _ _ (.inl rfl) e, c⟩, r⟩
  | rng lo hi => obtain ⟨t, u, v, e⟩ := x; exact ⟨t, u, v, k _ _ (.inl rfl) e⟩
  | frz ob u ih => obtain ⟨e, q⟩ := x; exact ⟨k _ _ (.inl rfl) e, ih q⟩
  | tbl ps =>
    have e : h.get? a = some { cls := .none, data := .fields ps } := x
    show h'.get? a = some { cls := .none, data := .fields ps }
    exact k a _ (.inl rfl) e
  | met f y =>
    have e : h.get? a = some (PySem.W.methodObj (.ref f) (.ref y)) := x
    show h'.get? a = some (PySem.W.methodObj (.ref f) (.ref y))
    exact k a _ (.inl rfl) e
  | ext φ => obtain ⟨p, ⟨o, e⟩, st⟩ := x; exact ⟨st _ _ p fun o q => k _ _ (.inl rfl) q, ⟨o, k _ _ (.inl rfl) e⟩, st⟩
theorem HOk.lt (x : HOk P w H h) (e : H a = some o) : a < h.objs.size := (x a o e).lt
theorem HOk.fresh (x : HOk P w H h) (e : h.objs.size ≤ a) : H a = none := by
  cases q : H a with
  | none => rfl
  | some u => exact absurd (Nat.lt_of_lt_of_le (x.lt q) e) (Nat.lt_irrefl _)
theorem HOk.kept (x : HOk P w H h) (k : ∀ b u, h.get? b = some u → h'.get? b = some u) : HOk P w H h' := fun a o e =>
  (x a o e).stay (fun b u _ q => k b u q) (fun _ q => q) fun _ _ q => q
theorem HOk.laid (x : HOk P w H h) (k : ∀ b u, h.get? b = some u → h'.get? b = some u) (hp : h.objs.size ≤ a) (new : ObjOk P w (upd H a o) h' a o) : HOk P w (upd H a o) h' := fun b u e => by
  have hn := x.fresh hp
  by_cases hb : b = a
  · subst hb; rw [upd_same] at e; cases e; exact new
  · rw [upd_ne hb] at e
    exact (x b u e).stay (fun c v _ q => k c v q) (fun c q => by rw [upd_ne (ne_of_none q hn)]; exact q) fun c xs q => by rw [upd_ne (ne_of_none q hn)]; exact q
end
noncomputable def Rd (H : Hp) (a : Addr) (u : HO) : Prop := H a = some u ∨ ∃ o, H a = some (.frz o u)
theorem Rd.ok {P : Program} {w : World} {H : Hp} {h : Heap} {a : Addr} {u : HO} (r : Rd H a u) (x : HOk P w H h) : ObjOk P w H h a u := by
  rcases r with r | ⟨o, r⟩
  · exact x a u r
  · obtain ⟨_, q⟩ := x a _ r
    exact q
noncomputable def Mut : Option HO → Prop
  | some (.lst _) => True
  | some (.dK _) => True
  | some (.dT _) => True
  | some (.set _ _) => True
  | some (.ins _ _ _) => True
  | some (.ext _) => True
  | _ => False
section
variable {P : Program} {w : World} {H : Hp} {h h' : Heap} {x e : Addr} {o' : HO}
theorem HOk.write (ok : HOk P w H h) (mu : Mut (H x)) (he : e = x ∨ H e = some (.own x)) (k : ∀ b u, b ≠ e → h.get? b = some u → h'.get? b = some u) (heo : ∃ u, h'.get? e = some u)
    (new : ObjOk P w (upd H x o') h' x o') : HOk P w (upd H x o') h' := fun b u q => by
  have nown : ∀ c y, H c = some (.own y) → c ≠ x := fun c y r z => by subst z; rw [r] at mu; exact mu
  have ntup : ∀ c xs, H c = some (.tup xs) → c ≠ x := fun c xs r z => by subst z; rw [r] at mu; exact mu
  by_cases hb : b = x
  · subst hb; rw [upd_same] at q; cases q; exact new
  · rw [upd_ne hb] at q
    by_cases hbe : b = e
    · have q' : H b = some (.own x) := by
        rcases he with z | z
        · exact absurd (hbe.trans z) hb
        · rw [hbe]; exact z
      rw [q] at q'; cases q'
      obtain ⟨v, hv⟩ := heo
      exact ⟨v, by rw [hbe]; exact hv⟩
    · refine (ok b u q).stay (fun c v hc r => k c v ?_ r) (fun c r => by rw [upd_ne (nown c b r)]; exact r) fun c xs r => by rw [upd_ne (ntup c xs r)]; exact r
      rcases hc with rfl | hc
      · exact hbe
      · rintro rfl
        rcases he with z | z
        · exact nown c b hc z
        · rw [hc] at z; cases z; exact hb rfl
end
structure Un (fs ex : List Addr) (H H' : Hp) (h h' : Heap) : Prop where
  keep : ∀ b o, h.get? b = some o → H b = none → b ∉ fs → b ∉ ex → h'.get? b = some o
  slot : ∀ b o, h.get? b = some o → H b = none → b ∈ fs → b ∉ ex → ∃ sl, h'.get? b = some { o with slots := sl }
  free : ∀ b o, h.get? b = some o → H b = none → b ∉ ex → H' b = none
  there : ∀ b o, h.get? b = some o → b ∉ ex → ∃ o', h'.get? b = some o'
  tups : ∀ b xs, H b = some (.tup xs) → H' b = some (.tup xs)
  frzs : ∀ b o u, H b = some (.frz o u) → H' b = some (.frz o u)
  tbls : ∀ b ps, H b = some (.tbl ps) → ∃ more, H' b = some (.tbl (ps ++ more))
section
variable {fs fs' ex ex' : List Addr} {H H1 H2 : Hp} {h h1 h2 h' : Heap} {a x e : Addr} {o : HO}
theorem Un.any (u : Un fs ex H H1 h h1) {b : Addr} {ob : Obj} (q : h.get? b = some ob) (n : H b = none) (hx : b ∉ ex) : ∃ sl, h1.get? b = some { ob with slots := sl } := by
  by_cases hb : b ∈ fs
  · exact u.slot b ob q n hb hx
  · exact ⟨ob.slots, u.keep b ob q n hb hx⟩
theorem Un.kept (k : ∀ b u, h.get? b = some u → h'.get? b = some u) : Un fs ex H H h h' :=
  ⟨fun b ob q _ _ _ => k b ob q, fun b ob q _ _ _ => ⟨ob.slots, k b ob q⟩, fun _ _ _ n _ => n, fun b ob q _ => ⟨ob, k b ob q⟩, fun _ _ q => q, fun _ _ _ q => q, fun _ ps q => ⟨#[], by rw [q]; simp⟩⟩
theorem Un.refl : Un fs ex H H h h := Un.kept fun _ _ q => q
theorem Un.laid (k : ∀ b u, h.get? b = some u → h'.get? b = some u) (hp : h.objs.size ≤ a) (hn : H a = none) : Un fs ex H (upd H a o) h h' where
  keep := fun b u q _ _ _ => k b u q
  slot := fun b u q _ _ _ => ⟨u.slots, k b u q⟩
  free := fun b u q n _ => by rw [upd_ne (Nat.ne_of_lt (Nat.lt_of_lt_of_le (Heap.lt_size q) hp))]; exact n
  there := fun b u q _ => ⟨u, k b u q⟩
  tups := fun b xs q => by rw [upd_ne (ne_of_none q hn)]; exact q
  frzs := fun b u xs q => by rw [upd_ne (ne_of_none q hn)]; exact q
  tbls := fun b ps q => ⟨#[], by rw [upd_ne (ne_of_none q hn), q]; simp⟩
theorem Un.write (mu : Mut (H x)) (he : e = x ∨ H e = some (.own x)) (k : ∀ b u, b ≠ e → h.get? b = some u → h'.get? b = some u) (heo : ∃ u, h'.get? e = some u) : Un fs ex H (upd H x o) h h' := by
  have hx : ∀ b, H b = none → b ≠ x := fun b n z => by subst z; rw [n] at mu; exact mu
  have hb : ∀ b, H b = none → b ≠ e := fun b n z => by
    subst z
    rcases he with r | r
    · exact hx b n r
    · rw [n] at r; cases r
  have hm : ∀ b u, H b = some u → ¬ Mut (some u) → b ≠ x := fun b u q nm z => by subst z; rw [q] at mu; exact nm mu
  refine ⟨fun b u q n _ _ => k b u (hb b n) q, fun b u q n _ _ => ⟨u.slots, k b u (hb b n) q⟩, fun b u q n _ => by rw [upd_ne (hx b n)]; exact n, fun b u q _ => ?_,
    fun b xs q => by rw [upd_ne (hm b _ q fun z => z)]; exact q, fun b u xs q => by rw [upd_ne (hm b _ q fun z => z)]; exact q, fun b ps q => ⟨#[], by rw [upd_ne (hm b _ q fun z => z), q]; simp⟩⟩
  by_cases hbe : b = e
  · subst hbe; exact heo
  · exact ⟨u, k b u hbe q⟩
end
noncomputable def trk (h : Heap) (H : Hp) : List Addr := (List.range h.objs.size).filter fun a => (H a).isSome
noncomputable def hidT (h : Heap) (H : Hp) : Heap := PySem.W.hideAll h (trk h H)
theorem hidT_size (h : Heap) (H : Hp) : (hidT h H).objs.size = h.objs.size := PySem.W.hideAll_size _ _
theorem hidT_get {h : Heap} {H : Hp} {b : Addr} {o : Obj} (e : h.get? b = some o) (n : H b = none) : (hidT h H).get? b = some o :=
  PySem.W.hideAll_get _ e fun hm => by
    have q : (H b).isSome = true := (List.mem_filter.mp hm).2
    rw [n] at q; simp at q
theorem of_hidT {h : Heap} {H : Hp} {b : Addr} {o : Obj} (e : (hidT h H).get? b = some o) : h.get? b = some o ∧ H b = none := by
  have e' : h.get? b = some o := PySem.W.of_hideAll (trk h H) e
  refine ⟨e', ?_⟩
  cases q : H b with
  | none => rfl
  | some x =>
    have hm : b ∈ trk h H := List.mem_filter.mpr ⟨List.mem_range.mpr (Heap.lt_size e'), by simp [q]⟩
    have z : (hidT h H).get? b = none := PySem.W.hideAll_none (trk h H) hm
    rw [z] at e; cases e
noncomputable def allNews (g h : Heap) (L : Addr) : List (Addr × Obj) := (List.range h.objs.size).filterMap fun a => if a = L ∨ (g.get? a).isSome = true then none else (h.get? a).map fun o => (a, o)
noncomputable def rest (g h : Heap) (L d : Addr) : List (Addr × Obj) := (allNews g h L).filter fun p => decide (p.1 ≠ d)
end L2
namespace L2
open PySem PySem.Spec PyProof.Rows
structure Mod (K : PySem.W.Frag) (mg : Str → Option Value) (base : Heap) : Prop where
  kin : K.In base
  glob : base.Ns mainGlobals mg
  blt : ∃ mb, base.Ns builtinsNs mb ∧ ∀ x : Str, x ≠ "__name__" → mb x = bootBuiltins x
  nolimit : base.NoLimit
  seer : base.NoSeer
structure Cx where
  prog : Program
  w : World
  K : PySem.W.Frag
  mg : Str → Option Value
  base : Heap
  A : Around
  N : List Str
  s₀ : Shared
  H₀ : Hp
  env : Env
  outer : List Env
  stack : List Env
  ex : List Addr
  fn : Str → Bool
  calm : Bool
  pn : List (Addr × Obj)
  xe : Value → Shared → Prop
noncomputable def frs (l : List Env) : List Addr := l.filterMap (·.frame)
noncomputable abbrev Cx.fs (X : Cx) : List Addr := frs X.outer
noncomputable def Vis (sc : Scope) (x : Str) : Prop := sc.names.lookup x = some .local ∨ sc.names.lookup x = some .cell ∨ sc.names.lookup x = some .free
noncomputable def Loc (sc : Scope) (x : Str) : Prop := sc.names.lookup x = some .local ∨ sc.names.lookup x = some .cell
noncomputable def Look (env : Env) (h : Heap) (m : Str → Option Value) (x : Str) (u : Value) : Prop :=
  (env.kindOf x = some .local ∧ m x = some u) ∨ ((env.kindOf x = some .cell ∨ env.kindOf x = some .free) ∧ ∃ c, env.cells.lookup x = some c ∧ h.IsCell c (some u))
structure Cx.Ok (X : Cx) : Prop where
  mod : Mod X.K X.mg X.base
  kind : X.env.scope.kind = .function
  glob : X.env.globals = mainGlobals
  blt : X.env.builtins = builtinsNs
  above : X.s₀.heap.objs.size ≤ X.env.locals
  inj : ∀ x y c, X.env.cells.lookup x = some c → X.env.cells.lookup y = some c → x = y
  has : ∀ x, (X.env.kindOf x = some .cell ∨ X.env.kindOf x = some .free) → ∃ c, X.env.cells.lookup x = some c
  cab : ∀ x c, X.fn x = true → X.env.cells.lookup x = some c → X.s₀.heap.objs.size ≤ c
  hd : X.calm = true → X.A.handled = none
  frames : X.A.frames = some X.stack
  stk : X.stack = X.outer ∨ (X.stack = X.env :: X.outer ∧ X.env.frame = some X.env.locals)
  exf : ∀ b ∈ X.ex, b ≠ X.env.locals ∧ ∀ x c, X.env.cells.lookup x = some c → c ≠ b
  bs : ∀ b o, X.base.get? b = some o → X.s₀.heap.get? b = some o ∧ X.H₀ b = none
  bsz : X.base.objs.size ≤ X.s₀.heap.objs.size
  noex : ∀ b o, X.base.get? b = some o → b ∉ X.ex
  exfs : ∀ b ∈ X.ex, b ∉ X.fs
  funs : X.s₀.heap.FunFrames X.base X.outer
  frf : ∀ b ∈ X.fs, X.H₀ b = none
structure Inv (X : Cx) (pins : List (Addr × Obj)) (σ : List (Option V)) (H : Hp) (s : Shared) : Prop where
  ok : X.Ok
  os : s.os = X.s₀.os
  bare : AllBare s.gens
  base : Un X.fs X.ex X.H₀ H X.s₀.heap s.heap
  loc : ∃ m, s.heap.Ns X.env.locals m ∧ ∀ (i : Nat) (x : Str) (v : V), X.N[i]? = some x → σ[i]? = some (some v) → Vis X.env.scope x → ∃ u, RelV v u ∧ Look X.env s.heap m x u
  cell : ∀ x c, X.env.cells.lookup x = some c → ∃ v, s.heap.IsCell c v
  free : H X.env.locals = none
  freeC : ∀ x c, X.env.cells.lookup x = some c → H c = none
  pin : ∀ p ∈ X.pn ++ pins, s.heap.get? p.1 = some p.2 ∧ H p.1 = none ∧ p.1 ≠ X.env.locals ∧ p.1 ∉ X.fs ∧ ∀ v, p.2.data ≠ .cell v
  hok : HOk X.prog X.w H s.heap
  len : σ.length = X.N.length
section
variable {X : Cx} {pins : List (Addr × Obj)} {σ : List (Option V)} {H H' : Hp} {s : Shared} {h' : Heap}
theorem Cx.Ok.nofr (ok : X.Ok) {b : Addr} {o : Obj} (e : X.base.get? b = some o) : b ∉ X.fs := fun hb => by
  have := (ok.funs.mem hb).1
  rw [e] at this; cases this
theorem Inv.bs (I : Inv X pins σ H s) : ∀ b o, X.base.get? b = some o → s.heap.get? b = some o ∧ H b = none := fun b o e =>
  ⟨I.base.keep b o (I.ok.bs b o e).1 (I.ok.bs b o e).2 (I.ok.nofr e) (I.ok.noex b o e), I.base.free b o (I.ok.bs b o e).1 (I.ok.bs b o e).2 (I.ok.noex b o e)⟩
theorem Inv.bk (I : Inv X pins σ H s) : ∀ b o, X.base.get? b = some o → s.heap.get? b = some o := fun b o e => (I.bs b o e).1
theorem Inv.mod (I : Inv X pins σ H s) : Mod X.K X.mg X.base := I.ok.mod
theorem Inv.kIn (I : Inv X pins σ H s) : X.K.In s.heap := I.ok.mod.kin.keeps I.bk
theorem Inv.lt (I : Inv X pins σ H s) : X.env.locals < s.heap.objs.size := let ⟨_, hn, _⟩ := I.loc; hn.lt
theorem Inv.sz (I : Inv X pins σ H s) : X.s₀.heap.objs.size ≤ s.heap.objs.size := Nat.le_trans I.ok.above (Nat.le_of_lt I.lt)
theorem Inv.nofs (I : Inv X pins σ H s) {a : Addr} (h : s.heap.objs.size ≤ a) : a ∉ X.fs := fun hb => by
  obtain ⟨_, o, ho, _⟩ := I.ok.funs.mem hb
  exact absurd (Nat.lt_of_lt_of_le (Heap.lt_size ho) (Nat.le_trans I.sz h)) (Nat.lt_irrefl _)
theorem Inv.cne (I : Inv X pins σ H s) : ∀ x c, X.env.cells.lookup x = some c → c ≠ X.env.locals := fun x c e z => by
  obtain ⟨v, o, ho, hd⟩ := I.cell x c e
  obtain ⟨m, ⟨o', es, ep, ho', hd', _⟩, _⟩ := I.loc
  rw [z, ho'] at ho; cases ho; rw [hd'] at hd; cases hd
theorem Inv.funs (I : Inv X pins σ H s) : s.heap.FunFrames X.base X.outer := by
  have all : ∀ (l : List Env), (∀ b ∈ frs l, b ∈ X.fs) → X.s₀.heap.FunFrames X.base l → s.heap.FunFrames X.base l := by
    intro l
    induction l with
    | nil => intro _ _; trivial
    | cons env r ih =>
      intro hs hl
      obtain ⟨hk, ⟨L, o, hf, hn, ho, hd⟩, hr⟩ := hl
      have hL : L ∈ X.fs := hs L (by unfold frs; rw [List.filterMap_cons, hf]; exact List.mem_cons_self)
      obtain ⟨sl, e⟩ := I.base.slot L o ho (I.ok.frf L hL) hL fun z => I.ok.exfs L z hL
      exact ⟨hk, ⟨L, _, hf, hn, e, hd⟩, ih (fun b hb => hs b (by unfold frs; rw [List.filterMap_cons, hf]; exact List.mem_cons_of_mem _ hb)) hr⟩
  exact all X.outer (fun _ hb => hb) I.ok.funs
theorem Inv.stack (I : Inv X pins σ H s) : s.heap.FunFrames X.base X.stack := by
  rcases I.ok.stk with e | ⟨e, hf⟩
  · rw [e]; exact I.funs
  · rw [e]
    obtain ⟨m, hn, _⟩ := I.loc
    refine .cons (by rw [I.ok.kind]; decide) hf hn ?_ I.funs
    exact Heap.get?_none_of_le (Nat.le_trans I.ok.bsz I.ok.above)
theorem Inv.stkSub (I : Inv X pins σ H s) : ∀ b ∈ frs X.stack, b ∈ X.env.locals :: X.fs := fun b hb => by
  rcases I.ok.stk with e | ⟨e, hf⟩
  · rw [e] at hb; exact List.mem_cons_of_mem _ hb
  · rw [e] at hb
    unfold frs at hb
    rw [List.filterMap_cons, hf] at hb
    exact hb
theorem Inv.stkFree (I : Inv X pins σ H s) : ∀ b ∈ frs X.stack, H b = none := fun b hb => by
  rcases List.mem_cons.mp (I.stkSub b hb) with e | hb
  · rw [e]; exact I.free
  · obtain ⟨_, o, ho, _⟩ := I.ok.funs.mem hb
    exact I.base.free b o ho (I.ok.frf b hb) fun z => I.ok.exfs b z hb
theorem Inv.step {g' : Array GenState} {t' : Nat} {d' : Drawn} {ch : List Addr} (I : Inv X pins σ H s)
    (hch : ∀ b ∈ ch, (b ∈ X.ex ∨ X.s₀.heap.objs.size ≤ b) ∧ b ≠ X.env.locals ∧ (∀ x c, X.env.cells.lookup x = some c → c ≠ b) ∧ ∀ p ∈ X.pn ++ pins, p.1 ≠ b)
    (keep : ∀ b o, b ≠ X.env.locals → b ∉ X.fs → b ∉ ch → s.heap.get? b = some o → H b = none → h'.get? b = some o)
    (slot : ∀ b o, b ≠ X.env.locals → b ∈ X.fs → b ∉ ch → s.heap.get? b = some o → H b = none → ∃ sl, h'.get? b = some { o with slots := sl }) (free : ∀ b o, b ∉ ch → s.heap.get? b = some o → H b = none → H' b = none)
    (there : ∀ b o, b ∉ ch → s.heap.get? b = some o → ∃ o', h'.get? b = some o')
    (tups : ∀ b xs, H b = some (.tup xs) → H' b = some (.tup xs)) (frzs : ∀ b o u, H b = some (.frz o u) → H' b = some (.frz o u)) (tbls : ∀ b ps, H b = some (.tbl ps) → ∃ more, H' b = some (.tbl (ps ++ more)))
    (ns : ∀ m, s.heap.Ns X.env.locals m → h'.Ns X.env.locals m) (hok : HOk X.prog X.w H' h') (hg : AllBare g') :
    Inv X pins σ H' { s with heap := h', gens := g', drawn := d', toks := t' } := by
  have neL : ∀ b o, X.s₀.heap.get? b = some o → b ≠ X.env.locals := fun b o e => Nat.ne_of_lt (Nat.lt_of_lt_of_le (Heap.lt_size e) I.ok.above)
  have neC : ∀ b o, X.s₀.heap.get? b = some o → b ∉ X.ex → b ∉ ch := fun b o e hx hb => by
    rcases (hch b hb).1 with z | z
    · exact hx z
    · exact absurd (Nat.lt_of_lt_of_le (Heap.lt_size e) z) (Nat.lt_irrefl _)
  have cellK : ∀ x c, X.env.cells.lookup x = some c → ∀ v, s.heap.IsCell c v → h'.IsCell c v := fun x c e v ⟨o, ho, hd⟩ => by
    have nch : c ∉ ch := fun z => (hch c z).2.2.1 x c e rfl
    by_cases hc : c ∈ X.fs
    · obtain ⟨sl, q⟩ := slot c o (I.cne x c e) hc nch ho (I.freeC x c e)
      exact ⟨_, q, hd⟩
    · exact ⟨o, keep c o (I.cne x c e) hc nch ho (I.freeC x c e), hd⟩
  refine ⟨I.ok, I.os, hg, ⟨fun b o e n hb hx => ?_, fun b o e n hb hx => ?_, fun b o e n hx => ?_, fun b o e hx => ?_, fun b xs e => tups b xs (I.base.tups b xs e), fun b o xs e => frzs b o xs (I.base.frzs b o xs e), fun b ps e => ?_⟩, ?_, fun x c e => ?_, ?_, fun x c e => ?_, fun p hp => ?_, hok, I.len⟩
  · exact keep b o (neL b o e) hb (neC b o e hx) (I.base.keep b o e n hb hx) (I.base.free b o e n hx)
  · obtain ⟨sl, e1⟩ := I.base.slot b o e n hb hx
    obtain ⟨sl', e2⟩ := slot b _ (neL b o e) hb (neC b o e hx) e1 (I.base.free b o e n hx)
    exact ⟨sl', e2⟩
  · obtain ⟨o', e1⟩ := I.base.there b o e hx
    exact free b o' (neC b o e hx) e1 (I.base.free b o e n hx)
  · obtain ⟨o', e1⟩ := I.base.there b o e hx
    exact there b o' (neC b o e hx) e1
  · obtain ⟨m1, e1⟩ := I.base.tbls b ps e
    obtain ⟨m2, e2⟩ := tbls b _ e1
    exact ⟨m1 ++ m2, by rw [e2, Array.append_assoc]⟩
  · obtain ⟨m, hn, hl⟩ := I.loc
    refine ⟨m, ns m hn, fun i x v e1 e2 e3 => ?_⟩
    obtain ⟨u, r, l⟩ := hl i x v e1 e2 e3
    refine ⟨u, r, ?_⟩
    rcases l with l | ⟨k, c, e, z⟩
    · exact .inl l
    · exact .inr ⟨k, c, e, cellK x c e _ z⟩
  · obtain ⟨v, z⟩ := I.cell x c e
    exact ⟨v, cellK x c e v z⟩
  · obtain ⟨m, ⟨o, _, _, ho, _⟩, _⟩ := I.loc
    exact free _ o (fun z => (hch _ z).2.1 rfl) ho I.free
  · obtain ⟨v, o, ho, hd⟩ := I.cell x c e
    exact free c o (fun z => (hch c z).2.2.1 x c e rfl) ho (I.freeC x c e)
  · obtain ⟨e, n, ne, nf, d⟩ := I.pin p hp
    have nch : p.1 ∉ ch := fun z => (hch p.1 z).2.2.2 p hp rfl
    exact ⟨keep p.1 p.2 ne nf nch e n, free p.1 p.2 nch e n, ne, nf, d⟩
theorem Inv.un {t' : Nat} (I : Inv X pins σ H s) (u : Un X.fs [] H H' s.heap h') (hok : HOk X.prog X.w H' h') : Inv X pins σ H' { s with heap := h', toks := t' } := by
  obtain ⟨m, ⟨o, es, ep, ho, r⟩, _⟩ := id I.loc
  obtain ⟨sl, hL⟩ := u.any ho I.free (by simp)
  exact I.step (g' := s.gens) (d' := s.drawn) (ch := []) (fun _ z => nomatch z) (fun b o _ hb _ e n => u.keep b o e n hb (by simp)) (fun b o _ hb _ e n => u.slot b o e n hb (by simp)) (fun b o _ e n => u.free b o e n (by simp)) (fun b o _ e => u.there b o e (by simp)) u.tups u.frzs u.tbls (fun m' hm => by
    obtain ⟨o', es', ep', ho', r'⟩ := hm
    rw [ho] at ho'; cases ho'
    exact ⟨_, es', ep', hL, r'⟩) hok I.bare
theorem Inv.call {g' : Array GenState} {t' : Nat} {d' : Drawn} {ch : List Addr} (I : Inv X pins σ H s) (u : Un (frs X.stack) ch H H' s.heap h') (hok : HOk X.prog X.w H' h') (hg : AllBare g')
    (hch : ∀ b ∈ ch, (b ∈ X.ex ∨ X.s₀.heap.objs.size ≤ b) ∧ b ≠ X.env.locals ∧ (∀ x c, X.env.cells.lookup x = some c → c ≠ b) ∧ ∀ p ∈ X.pn ++ pins, p.1 ≠ b) :
    Inv X pins σ H' { s with heap := h', gens := g', drawn := d', toks := t' } := by
  obtain ⟨m, ⟨o, es, ep, ho, r⟩, _⟩ := id I.loc
  obtain ⟨sl, hL⟩ := u.any ho I.free fun z => (hch _ z).2.1 rfl
  exact I.step (ch := ch) hch (fun b o hL hb hc e n => u.keep b o e n (fun z => (List.mem_cons.mp (I.stkSub b z)).elim hL hb) hc) (fun b o _ _ hc e n => u.any e n hc) (fun b o hc e n => u.free b o e n hc) (fun b o hc e => u.there b o e hc) u.tups u.frzs u.tbls (fun m' hm => by
    obtain ⟨o', es', ep', ho', r'⟩ := hm
    rw [ho] at ho'; cases ho'
    exact ⟨_, es', ep', hL, r'⟩) hok hg
theorem Inv.turned {t' : Nat} {it : Addr} (I : Inv X pins σ H s) (k : ∀ b o, b ≠ it → s.heap.get? b = some o → h'.get? b = some o) (hn : H it = none) (hL : it ≠ X.env.locals)
    (h1 : it ∈ X.ex ∨ X.s₀.heap.objs.size ≤ it) (h2 : ∀ x c, X.env.cells.lookup x = some c → c ≠ it) (h3 : ∀ p ∈ X.pn ++ pins, p.1 ≠ it) : Inv X pins σ H { s with heap := h', toks := t' } := by
  have nit : ∀ b u, H b = some u → b ≠ it := fun b u e z => by rw [z, hn] at e; cases e
  refine I.step (g' := s.gens) (d' := s.drawn) (ch := [it]) (fun b hb => ?_) (fun b o _ _ hc e _ => k b o (fun z => hc (by simp [z])) e) (fun b o _ _ hc e _ => ⟨o.slots, k b o (fun z => hc (by simp [z])) e⟩) (fun _ _ _ _ n => n)
    (fun b o hc e => ⟨o, k b o (fun z => hc (by simp [z])) e⟩) (fun _ _ e => e) (fun _ _ _ e => e) (fun b ps e => ⟨#[], by rw [e]; simp⟩) (fun m hm => ?_) (fun b u e => ?_) I.bare
  · have e : b = it := by simpa using hb
    subst e
    exact ⟨h1, hL, h2, h3⟩
  · obtain ⟨o, es, ep, ho, r⟩ := hm
    exact ⟨o, es, ep, k _ o (Ne.symm hL) ho, r⟩
  · refine (I.hok b u e).stay (fun c v hc q => k c v ?_ q) (fun _ q => q) fun _ _ q => q
    rcases hc with z | z
    · rw [z]; exact nit b u e
    · exact nit c _ z
theorem Inv.tok (I : Inv X pins σ H s) (t : Nat) : Inv X pins σ H { s with toks := t } := I.un (h' := s.heap) (t' := t) Un.refl I.hok
theorem Inv.kept {t' : Nat} (I : Inv X pins σ H s) (k : ∀ b u, s.heap.get? b = some u → h'.get? b = some u) : Inv X pins σ H { s with heap := h', toks := t' } := I.un (Un.kept k) (I.hok.kept k)
theorem Inv.laid {a : Addr} {o : HO} {t' : Nat} (I : Inv X pins σ H s) (k : ∀ b u, s.heap.get? b = some u → h'.get? b = some u) (hp : s.heap.objs.size ≤ a) (new : ObjOk X.prog X.w (upd H a o) h' a o) :
    Inv X pins σ (upd H a o) { s with heap := h', toks := t' } := I.un (Un.laid k hp (I.hok.fresh hp)) (I.hok.laid k hp new)
theorem Inv.write {x e : Addr} {o : HO} {t' : Nat} (I : Inv X pins σ H s) (mu : Mut (H x)) (he : e = x ∨ H e = some (.own x)) (k : ∀ b u, b ≠ e → s.heap.get? b = some u → h'.get? b = some u) (heo : ∃ u, h'.get? e = some u)
    (new : ObjOk X.prog X.w (upd H x o) h' x o) : Inv X pins σ (upd H x o) { s with heap := h', toks := t' } := I.un (Un.write mu he k heo) (I.hok.write mu he k heo new)
theorem Inv.pins_of {pins' : List (Addr × Obj)} (I : Inv X pins σ H s) (h : ∀ p ∈ pins', s.heap.get? p.1 = some p.2 ∧ H p.1 = none ∧ p.1 ≠ X.env.locals ∧ p.1 ∉ X.fs ∧ ∀ v, p.2.data ≠ .cell v) : Inv X pins' σ H s :=
  ⟨I.ok, I.os, I.bare, I.base, I.loc, I.cell, I.free, I.freeC, fun p hp => (List.mem_append.mp hp).elim (fun z => I.pin p (List.mem_append_left _ z)) (h p), I.hok, I.len⟩
theorem nodup_ix {N : List Str} (hN : N.Nodup) {i j : Nat} {x : Str} (a : N[i]? = some x) (b : N[j]? = some x) : i = j := by
  obtain ⟨h1, e1⟩ := List.getElem?_eq_some_iff.mp a
  obtain ⟨h2, e2⟩ := List.getElem?_eq_some_iff.mp b
  exact (List.getElem_inj hN).mp (e1.trans e2.symm)
theorem store_ok2 {M : Model} {A : Around} {E : Value → Shared → Prop} {i : Nat} {x : Str} {v : V} {u : Value} {Q : Unit → Shared → Prop} (I : Inv X pins σ H s) (hN : X.N.Nodup) (hi : X.N[i]? = some x) (hx : Loc X.env.scope x) (r : RelV v u)
    (h : ∀ s', Inv X pins (σ.set i (some v)) H s' → (∃ a, Heap.SameBut a s.heap s'.heap ∧ (a = X.env.locals ∨ X.env.cells.lookup x = some a)) → Q () s') (hf : X.fn x = true ∨ X.env.scope.names.lookup x = some .local := by first | exact .inl rfl | exact .inr rfl | assumption) : wpAny M A (storeName X.env x u) Q E s := by
  obtain ⟨m, hn, hl⟩ := id I.loc
  have hcls : (X.env.scope.kind == .class || (X.env.scope.kind == .module && X.env.locals != X.env.globals)) = false := by rw [I.ok.kind]; rfl
  have hiσ : i < σ.length := by rw [I.len]; exact (List.getElem?_eq_some_iff.mp hi).1
  have cne := I.cne
  have tracked : ∀ {a : Addr} {h' : Heap}, (∃ o, s.heap.get? a = some o ∧ H a = none) → Heap.SameBut a s.heap h' → HOk X.prog X.w H h' := fun {a h'} ha hs b ob e => by
    obtain ⟨_, _, hfree⟩ := ha
    refine (I.hok b ob e).stay (fun c w' hc q => (hs.2 c ?_).trans q) (fun _ q => q) fun _ _ q => q
    rintro rfl
    rcases hc with rfl | hc
    · rw [hfree] at e; cases e
    · rw [hfree] at hc; cases hc
  rcases hx with hk | hk
  · refine wpAny_storeName_local hk hn (fun h' hn' hs => ?_) hcls
    obtain ⟨oL, _, _, hoL, _⟩ := id hn
    refine h _ ⟨I.ok, I.os, I.bare, ⟨fun b o e n hb hx => ?_, fun b o e n hb hx => ?_, I.base.free, fun b o e hx => ?_, I.base.tups, I.base.frzs, I.base.tbls⟩, ⟨_, hn', fun j y v' e1 e2 e3 => ?_⟩, fun y c e => ?_, I.free, I.freeC, fun p hp => ?_, tracked ⟨oL, hoL, I.free⟩ hs, by simpa using I.len⟩ ⟨_, hs, .inl rfl⟩
    · exact (hs.2 b (Nat.ne_of_lt (Nat.lt_of_lt_of_le (Heap.lt_size e) I.ok.above))).trans (I.base.keep b o e n hb hx)
    · obtain ⟨sl, e1⟩ := I.base.slot b o e n hb hx
      exact ⟨sl, (hs.2 b (Nat.ne_of_lt (Nat.lt_of_lt_of_le (Heap.lt_size e) I.ok.above))).trans e1⟩
    · obtain ⟨o', e1⟩ := I.base.there b o e hx
      exact ⟨o', (hs.2 b (Nat.ne_of_lt (Nat.lt_of_lt_of_le (Heap.lt_size e) I.ok.above))).trans e1⟩
    · by_cases hj : j = i
      · subst hj
        rw [hi] at e1; cases e1
        rw [List.getElem?_set_self hiσ] at e2
        cases e2
        exact ⟨u, r, .inl ⟨hk, by simp⟩⟩
      · rw [List.getElem?_set_ne (Ne.symm hj)] at e2
        obtain ⟨u', r', q⟩ := hl j y v' e1 e2 e3
        refine ⟨u', r', ?_⟩
        rcases q with ⟨k, e⟩ | ⟨k, c, e, z⟩
        · refine .inl ⟨k, ?_⟩
          have : y ≠ x := fun e => hj (nodup_ix hN e1 (e ▸ hi))
          simp [this, e]
        · exact .inr ⟨k, c, e, z.sameBut hs (cne y c e)⟩
    · obtain ⟨w', z⟩ := I.cell y c e
      exact ⟨w', z.sameBut hs (cne y c e)⟩
    · obtain ⟨e, n, ne, nf, d⟩ := I.pin p hp
      exact ⟨(hs.2 p.1 ne).trans e, n, ne, nf, d⟩
  · have hfn : X.fn x = true := by
      rcases hf with z | z
      · exact z
      · rw [z] at hk; cases hk
    obtain ⟨c, hc⟩ := I.ok.has x (.inl hk)
    obtain ⟨w', z⟩ := I.cell x c hc
    refine wpAny_storeName_cell I.ok.kind hk hc z (fun h' hc' hs => ?_)
    obtain ⟨oc, hoc, hocd⟩ := id z
    refine h { s with heap := h' } ⟨I.ok, I.os, I.bare, ⟨fun b o e n hb hx => ?_, fun b o e n hb hx => ?_, I.base.free, fun b o e hx => ?_, I.base.tups, I.base.frzs, I.base.tbls⟩, ⟨m, hn.sameBut hs (Ne.symm (cne x c hc)), fun j y v' e1 e2 e3 => ?_⟩, fun y c' e => ?_, I.free, I.freeC, fun p hp => ?_, tracked ⟨oc, hoc, I.freeC x c hc⟩ hs, by simpa using I.len⟩ ⟨c, hs, .inr hc⟩
    · exact (hs.2 b (Nat.ne_of_lt (Nat.lt_of_lt_of_le (Heap.lt_size e) (I.ok.cab x c hfn hc)))).trans (I.base.keep b o e n hb hx)
    · obtain ⟨sl, e1⟩ := I.base.slot b o e n hb hx
      exact ⟨sl, (hs.2 b (Nat.ne_of_lt (Nat.lt_of_lt_of_le (Heap.lt_size e) (I.ok.cab x c hfn hc)))).trans e1⟩
    · obtain ⟨o', e1⟩ := I.base.there b o e hx
      exact ⟨o', (hs.2 b (Nat.ne_of_lt (Nat.lt_of_lt_of_le (Heap.lt_size e) (I.ok.cab x c hfn hc)))).trans e1⟩
    · by_cases hj : j = i
      · subst hj
        rw [hi] at e1; cases e1
        rw [List.getElem?_set_self hiσ] at e2
        cases e2
        exact ⟨u, r, .inr ⟨.inl hk, c, hc, hc'⟩⟩
      · rw [List.getElem?_set_ne (Ne.symm hj)] at e2
        obtain ⟨u', r', q⟩ := hl j y v' e1 e2 e3
        refine ⟨u', r', ?_⟩
        rcases q with q | ⟨k, c', e, z'⟩
        · exact .inl q
        · refine .inr ⟨k, c', e, z'.sameBut hs ?_⟩
          rintro rfl
          exact hj (nodup_ix hN e1 (I.ok.inj _ _ _ e hc ▸ hi))
    · by_cases hcc : c' = c
      · subst hcc; exact ⟨_, hc'⟩
      · obtain ⟨w2, z2⟩ := I.cell y c' e
        exact ⟨w2, z2.sameBut hs hcc⟩
    · obtain ⟨e, n, ne, nf, d⟩ := I.pin p hp
      refine ⟨(hs.2 p.1 ?_).trans e, n, ne, nf, d⟩
      intro q
      rw [q, hoc] at e
      have q' : oc = p.2 := Option.some.inj e
      exact d w' (by rw [← q']; exact hocd)
theorem store_ok {M : Model} {A : Around} {E : Value → Shared → Prop} {i : Nat} {x : Str} {v : V} {u : Value} {Q : Unit → Shared → Prop} (I : Inv X pins σ H s) (hN : X.N.Nodup) (hi : X.N[i]? = some x) (hx : Loc X.env.scope x) (r : RelV v u)
    (h : ∀ s', Inv X pins (σ.set i (some v)) H s' → Q () s') (hf : X.fn x = true ∨ X.env.scope.names.lookup x = some .local := by first | exact .inl rfl | exact .inr rfl | assumption) : wpAny M A (storeName X.env x u) Q E s :=
  store_ok2 I hN hi hx r (fun s' I' _ => h s' I') hf
end
noncomputable abbrev XK := Value → Option Addr → Hp → Prop
noncomputable abbrev St := List (Option V)
noncomputable abbrev VK := V → Hp → Prop
noncomputable abbrev TE := St → Hp → VK → Prop
noncomputable abbrev TT := St → Hp → (Bool → Hp → Prop) → Prop
noncomputable abbrev TA := St → Hp → (List V → Hp → Prop) → Prop
structure Ends where
  nx : St → Hp → Prop
  rt : VK
  bk : St → Hp → Prop := fun _ _ => False
  ct : St → Hp → Prop := fun _ _ => False
noncomputable abbrev TS := Ends → St → Hp → Prop
noncomputable def EP (X : Cx) (pins : List (Addr × Obj)) (σ : St) (Q : VK) (u : Value) (s' : Shared) : Prop := ∃ v H', Inv X pins σ H' s' ∧ RelV v u ∧ Q v H'
noncomputable def TP (X : Cx) (pins : List (Addr × Obj)) (σ : St) (Q : Bool → Hp → Prop) (b : Bool) (s' : Shared) : Prop := ∃ H', Inv X pins σ H' s' ∧ Q b H'
noncomputable def AP (X : Cx) (pins : List (Addr × Obj)) (σ : St) (Q : List V → Hp → Prop) (us : List Value) (s' : Shared) : Prop := ∃ vs H', Inv X pins σ H' s' ∧ Vals vs us ∧ Q vs H'
noncomputable def SP (X : Cx) (pins : List (Addr × Obj)) (D : Ends) (f : Flow) (s' : Shared) : Prop :=
  match f with
  | .next => ∃ σ' H', Inv X pins σ' H' s' ∧ D.nx σ' H'
  | .brk => ∃ σ' H', Inv X pins σ' H' s' ∧ D.bk σ' H'
  | .cont => ∃ σ' H', Inv X pins σ' H' s' ∧ D.ct σ' H'
  | .ret u => ∃ v σ' H', Inv X pins σ' H' s' ∧ RelV v u ∧ D.rt v H'
noncomputable def PE (X : Cx) (e : Expr) (t : TE) : Prop :=
  ∀ (pins : List (Addr × Obj)) (s : Shared) (σ : St) (H : Hp) (Q : VK), Inv X pins σ H s → t σ H Q → wpAny (model X.prog X.w) X.A (eval e X.env) (EP X pins σ Q) X.xe s
noncomputable def PT (X : Cx) (e : Expr) (t : TT) : Prop :=
  ∀ (pins : List (Addr × Obj)) (s : Shared) (σ : St) (H : Hp) (Q : Bool → Hp → Prop), Inv X pins σ H s → t σ H Q → wpAny (model X.prog X.w) X.A (isTrue e X.env (eval e X.env)) (TP X pins σ Q) X.xe s
noncomputable def PW (X : Cx) (e : Expr) (t : TT) : Prop :=
  ∀ (whole : Sem Value) (pins : List (Addr × Obj)) (s : Shared) (σ : St) (H : Hp) (Q : Bool → Hp → Prop), Inv X pins σ H s → t σ H Q → wpAny (model X.prog X.w) X.A (isTrue e X.env whole) (TP X pins σ Q) X.xe s
theorem PW.pt {X : Cx} {e : Expr} {t : TT} (h : PW X e t) : PT X e t := h _
noncomputable def PA (X : Cx) (es : List Expr) (t : TA) : Prop :=
  ∀ (pos : Pos) (pins : List (Addr × Obj)) (s : Shared) (σ : St) (H : Hp) (Q : List V → Hp → Prop), Inv X pins σ H s → t σ H Q → wpAny (model X.prog X.w) X.A (spliced (backTo pos (starEach es X.env))) (AP X pins σ Q) X.xe s
noncomputable def PS (X : Cx) (st : Stmt) (t : TS) : Prop :=
  ∀ (pins : List (Addr × Obj)) (s : Shared) (σ : St) (H : Hp) (D : Ends), Inv X pins σ H s → t D σ H → wpAny (model X.prog X.w) X.A (exec st X.env) (SP X pins D) X.xe s
noncomputable def PSs (X : Cx) (st : List Stmt) (t : TS) : Prop :=
  ∀ (pins : List (Addr × Obj)) (s : Shared) (σ : St) (H : Hp) (D : Ends), Inv X pins σ H s → t D σ H → wpAny (model X.prog X.w) X.A (execs st X.env) (SP X pins D) X.xe s
theorem thn {α : Type} {t : Sem α} {Q Q' : α → Shared → Prop} {M : Model} {A : Around} {E : Value → Shared → Prop} {s : Shared} (h : wpAny M A t Q E s) (hQ : ∀ a s, Q a s → Q' a s) : wpAny M A t Q' E s := wpAny_mono h hQ fun _ _ x => x
end L2
namespace L2
open PySem PySem.Spec PyProof.Rows
section
variable {X : Cx}
noncomputable def tVar (i : Nat) : TE := fun σ H Q => ∃ v, σ[i]? = some (some v) ∧ Q v H
noncomputable def tC (v : V) : TE := fun _ H Q => Q v H
theorem pe_var {i : Nat} {x : Str} {pos : Pos} (hN : X.N[i]? = some x) (hv : Vis X.env.scope x) (hd : (x == ("__debug__" : Str)) = false := by decide) (hcd : (x == ("__classdict__" : Str)) = false := by decide) : PE X (.Name x pos) (tVar i) := by
  intro pins s σ H Q I h
  obtain ⟨v, e, h⟩ := h
  obtain ⟨m, hn, hl⟩ := I.loc
  obtain ⟨u, r, l⟩ := hl i x v hN e hv
  have fin : EP X pins σ Q u s := ⟨v, H, I, r, h⟩
  rcases l with ⟨hk, hm⟩ | ⟨hk, c, hc, hcell⟩
  · exact wpAny_Name (wpAny_loadName_local I.ok.kind hk hn hm fin) hd
  · rcases hk with hk | hk
    · exact wpAny_Name (wpAny_loadName_cell I.ok.kind hk hc hcell fin) hd
    · exact wpAny_Name (wpAny_loadName_free I.ok.kind hk hc hcell fin hcd) hd
theorem pe_int {i j pos} : PE X (.Constant (.int i) j pos) (tC (.int i)) := fun _ _ _ H _ I h => wpAny_Constant_int ⟨.int i, H, I.tok _, ⟨_, rfl⟩, h⟩
theorem pe_bl {b j pos} : PE X (.Constant (.bool b) j pos) (tC (.bl b)) := fun _ _ _ H _ I h => Constant_bool ⟨.bl b, H, I, rfl, h⟩
theorem pe_str {x j pos} : PE X (.Constant (.str x) j pos) (tC (.str x)) := fun _ _ _ H _ I h => Calls.Constant_str ⟨.str x, H, I.tok _, ⟨_, rfl⟩, h⟩
noncomputable def Gl (X : Cx) (x : Str) : Prop := X.env.kindOf x = some .globalImplicit
theorem ld_glob {E : Value → Shared → Prop} {pins : List (Addr × Obj)} {s : Shared} {σ : St} {H : Hp} {x : Str} {u : Value} {pos : Pos} {Q : Value → Shared → Prop} (I : Inv X pins σ H s) (hg : Gl X x) (hm : X.mg x = some u) (h : Q u s)
    (hd : (x == ("__debug__" : Str)) = false := by decide) : wpAny (model X.prog X.w) X.A (eval (.Name x pos) X.env) Q E s :=
  Calls.Name_function_global I.ok.kind hg (Calls.loadGlobal_global (by rw [I.ok.glob]; exact I.mod.glob.keeps I.bk) hm h) hd
theorem ld_blt {E : Value → Shared → Prop} {pins : List (Addr × Obj)} {s : Shared} {σ : St} {H : Hp} {x : Str} {u : Value} {pos : Pos} {Q : Value → Shared → Prop} (I : Inv X pins σ H s) (hg : Gl X x) (hm : X.mg x = none) (hv : bootBuiltins x = some u) (h : Q u s)
    (hn : x ≠ "__name__" := by decide) (hd : (x == ("__debug__" : Str)) = false := by decide) : wpAny (model X.prog X.w) X.A (eval (.Name x pos) X.env) Q E s := by
  obtain ⟨mb, h1, h2⟩ := I.mod.blt
  exact Calls.Name_function_global I.ok.kind hg (Calls.loadGlobal_builtin (by rw [I.ok.glob]; exact I.mod.glob.keeps I.bk) hm (by rw [I.ok.blt]; exact h1.keeps I.bk) ((h2 x hn).trans hv) h) hd
theorem pe_glob {x : Str} {v : V} {u : Value} {pos : Pos} (hg : Gl X x) (hm : X.mg x = some u) (r : RelV v u) (hd : (x == ("__debug__" : Str)) = false := by decide) : PE X (.Name x pos) (tC v) :=
  fun _ _ _ H _ I h => ld_glob I hg hm ⟨v, H, I, r, h⟩ hd
variable {a b : Expr} {ta tb : TE} {pos : Pos}
noncomputable def tB (t : TE) : TT := fun σ H Q => t σ H fun x H1 => ∃ c, x = .bl c ∧ Q c H1
theorem pt_val {e : Expr} {t : TE} (h : PE X e t) (he : ∀ whole, isTrue e X.env whole = (do let v ← whole; standAt e.pos; holding [v] (truthy v)) := by intro _; rfl) : PT X e (tB t) := by
  intro pins s σ H Q I hw
  refine isTrue_plain (thn (h pins s σ H _ I hw) fun v s1 ⟨x, H1, I1, r1, q1⟩ => ?_) (he _)
  obtain ⟨d, rfl, q⟩ := q1
  cases r1
  exact wpAny_truthy_bool ⟨H1, I1, q⟩
variable {tA tB' : TT} {rest : List Expr}
noncomputable def tAnd (t u : TT) : TT := fun σ H Q => t σ H fun c H1 => if c = true then u σ H1 Q else Q false H1
noncomputable def tOr (t u : TT) : TT := fun σ H Q => t σ H fun c H1 => if c = true then Q true H1 else u σ H1 Q
noncomputable def tNot (t : TT) : TT := fun σ H Q => t σ H fun c H1 => Q (!c) H1
theorem pw_and1 (ha : PT X a tA) : PW X (.BoolOp .And [a] pos) tA := by
  intro wh pins s σ H Q I h
  refine isTrue_and (thn (ha pins s σ H Q I h) fun c s1 e => ?_)
  cases c with
  | true => exact isTrue_and_nil e
  | false => exact e
theorem pw_or1 (ha : PT X a tA) : PW X (.BoolOp .Or [a] pos) tA := by
  intro wh pins s σ H Q I h
  refine isTrue_or (thn (ha pins s σ H Q I h) fun c s1 e => ?_)
  cases c with
  | false => exact isTrue_or_nil e
  | true => exact e
theorem pw_and (ha : PT X a tA) (hb : PW X (.BoolOp .And (b :: rest) pos) tB') : PW X (.BoolOp .And (a :: b :: rest) pos) (tAnd tA tB') := by
  intro wh pins s σ H Q I h
  refine isTrue_and (thn (ha pins s σ H _ I h) fun c s1 ⟨H1, I1, q1⟩ => ?_)
  cases c with
  | true => exact hb wh pins s1 σ H1 Q I1 q1
  | false => exact ⟨H1, I1, q1⟩
theorem pw_or (ha : PT X a tA) (hb : PW X (.BoolOp .Or (b :: rest) pos) tB') : PW X (.BoolOp .Or (a :: b :: rest) pos) (tOr tA tB') := by
  intro wh pins s σ H Q I h
  refine isTrue_or (thn (ha pins s σ H _ I h) fun c s1 ⟨H1, I1, q1⟩ => ?_)
  cases c with
  | true => exact ⟨H1, I1, q1⟩
  | false => exact hb wh pins s1 σ H1 Q I1 q1
theorem pt_not (ha : PT X a tA) : PT X (.UnaryOp .Not a pos) (tNot tA) := by
  intro pins s σ H Q I h
  exact isTrue_not (ha pins s σ H (fun c H1 => Q (!c) H1) I h)
noncomputable def tAndV (ta tb : TE) : TE := fun σ H Q => ta σ H fun x H1 => ∃ c, x = .bl c ∧ if c = true then tb σ H1 Q else Q (.bl false) H1
noncomputable def tOrV (ta tb : TE) : TE := fun σ H Q => ta σ H fun x H1 => ∃ c, x = .bl c ∧ if c = true then Q (.bl true) H1 else tb σ H1 Q
noncomputable def tNotV (ta : TE) : TE := fun σ H Q => ta σ H fun x H1 => ∃ c, x = .bl c ∧ Q (.bl (!c)) H1
theorem pe_one {op} {t : TE} (h : PE X a t) : PE X (.BoolOp op [a] pos) t := fun pins s σ H Q I hw => BoolOp_one (h pins s σ H Q I hw)
theorem pe_and (ha : PE X a ta) (hb : PE X (.BoolOp .And (b :: rest) pos) tb) : PE X (.BoolOp .And (a :: b :: rest) pos) (tAndV ta tb) := by
  intro pins s σ H Q I h
  refine BoolOp_and (thn (ha pins s σ H _ I h) fun v s1 ⟨x, H1, I1, r1, q1⟩ => ?_)
  obtain ⟨c, rfl, q1⟩ := q1
  cases r1
  refine wpAny_truthy_bool ?_
  cases c with
  | true => exact hb pins s1 σ H1 Q I1 q1
  | false => exact ⟨.bl false, H1, I1, rfl, q1⟩
noncomputable def tIf (t : TT) (ta tb : TE) : TE := fun σ H Q => t σ H fun c H1 => if c = true then ta σ H1 Q else tb σ H1 Q
theorem pe_ifExp {c : Expr} (hc : PT X c tA) (ha : PE X a ta) (hb : PE X b tb) : PE X (.IfExp c a b pos) (tIf tA ta tb) := by
  intro pins s σ H Q I h
  refine wpAny_IfExp (thn (hc pins s σ H _ I h) fun d s1 ⟨H1, I1, q1⟩ => ?_)
  cases d with
  | true => exact ha pins s1 σ H1 Q I1 q1
  | false => exact hb pins s1 σ H1 Q I1 q1
end
end L2
namespace L2
open PySem PySem.Spec PyProof.Rows
noncomputable def SqL (K : PySem.W.Frag) (H : Hp) (a : Addr) (xs : List V) : Prop :=
  Rd H a (.lst xs) ∨
    ∃ (o : Obj) (its : Array Value) (n : Nat), K.lookup a = some o ∧ o.cls = .type "list" ∧ o.dict = none ∧ o.data = .seq its n ∧ its.size ≤ sizeLine ∧ Vals xs its.toList
noncomputable def SqT (K : PySem.W.Frag) (H : Hp) (a : Addr) (xs : List V) : Prop :=
  Rd H a (.tup xs) ∨
    ∃ (o : Obj) (its : Array Value) (n : Nat), K.lookup a = some o ∧ o.cls = .type "tuple" ∧ o.data = .seq its n ∧ its.size ≤ sizeLine ∧ Vals xs its.toList
section
variable {X : Cx} {pins : List (Addr × Obj)} {σ : St} {H : Hp} {s : Shared} {a : Addr} {xs ys : List V}
theorem SqL.of {K : PySem.W.Frag} (h : H a = some (.lst xs)) : SqL K H a xs := .inl (.inl h)
theorem SqT.of {K : PySem.W.Frag} (h : H a = some (.tup xs)) : SqT K H a xs := .inl (.inl h)
theorem Inv.list (I : Inv X pins σ H s) (h : SqL X.K H a xs) : ∃ its : List Value, Vals xs its ∧ PlainL s.heap a its.toArray ∧ xs.length ≤ sizeLine := by
  rcases h with h | ⟨o, its, n, hk, hc, hd, hs, hz, r⟩
  · obtain ⟨z, its, n, r, e⟩ := h.ok I.hok
    exact ⟨its, r, ⟨_, n, e, rfl, rfl, rfl⟩, z⟩
  · refine ⟨its.toList, r, ⟨o, n, I.kIn a o hk, hc, hd, by simpa using hs⟩, ?_⟩
    have e := r.length
    simp only [Array.length_toList] at e
    lia
theorem Inv.tuple (I : Inv X pins σ H s) (h : SqT X.K H a xs) : ∃ its : List Value, Vals xs its ∧ IsTup s.heap a its.toArray ∧ xs.length ≤ sizeLine := by
  rcases h with h | ⟨o, its, n, hk, hc, hs, hz, r⟩
  · obtain ⟨z, its, r, p⟩ := h.ok I.hok
    exact ⟨its, r, p, z⟩
  · refine ⟨its.toList, r, ⟨o, I.kIn a o hk, hc, n, by simpa using hs⟩, ?_⟩
    have e := r.length
    simp only [Array.length_toList] at e
    lia
end
noncomputable abbrev Cx.wish (X : Cx) (E : Value → Shared → Prop) : Cx := { X with xe := E }
noncomputable abbrev Cx.nox (X : Cx) : Cx := X.wish fun _ _ => False
theorem Cx.Ok.wish {X : Cx} (ok : X.Ok) (E : Value → Shared → Prop) : (X.wish E).Ok :=
  ⟨ok.mod, ok.kind, ok.glob, ok.blt, ok.above, ok.inj, ok.has, ok.cab, ok.hd, ok.frames, ok.stk, ok.exf, ok.bs, ok.bsz, ok.noex, ok.exfs, ok.funs, ok.frf⟩
theorem Cx.Ok.unwish {X : Cx} {E : Value → Shared → Prop} (ok : (X.wish E).Ok) : X.Ok :=
  ⟨ok.mod, ok.kind, ok.glob, ok.blt, ok.above, ok.inj, ok.has, ok.cab, ok.hd, ok.frames, ok.stk, ok.exf, ok.bs, ok.bsz, ok.noex, ok.exfs, ok.funs, ok.frf⟩
section
variable {X : Cx} {pins : List (Addr × Obj)} {σ : St} {H : Hp} {s : Shared} {E : Value → Shared → Prop}
theorem Inv.wish (I : Inv X pins σ H s) (E : Value → Shared → Prop) : Inv (X.wish E) pins σ H s := ⟨I.ok.wish E, I.os, I.bare, I.base, I.loc, I.cell, I.free, I.freeC, I.pin, I.hok, I.len⟩
theorem Inv.unwish (I : Inv (X.wish E) pins σ H s) : Inv X pins σ H s := ⟨I.ok.unwish, I.os, I.bare, I.base, I.loc, I.cell, I.free, I.freeC, I.pin, I.hok, I.len⟩
theorem SP.unwish {D : Ends} {f : Flow} {s' : Shared} (h : SP (X.wish E) pins D f s') : SP X pins D f s' := by
  cases f with
  | next => obtain ⟨σ', H', I, q⟩ := h; exact ⟨σ', H', I.unwish, q⟩
  | brk => obtain ⟨σ', H', I, q⟩ := h; exact ⟨σ', H', I.unwish, q⟩
  | cont => obtain ⟨σ', H', I, q⟩ := h; exact ⟨σ', H', I.unwish, q⟩
  | ret u => obtain ⟨v, σ', H', I, r, q⟩ := h; exact ⟨v, σ', H', I.unwish, r, q⟩
theorem PSs.nox {st : List Stmt} {t : TS} (h : PSs X.nox st t) : PSs X st t := fun pins s σ H D I hw =>
  wpAny_mono (h pins s σ H D (I.wish _) hw) (fun _ _ q => q.unwish) fun _ _ z => False.elim z
end
section
variable {X : Cx} {st : Stmt} {rest : List Stmt} {t u : TS} {e : Expr} {te : TE} {pos : Pos}
noncomputable def tNext : TS := fun D σ H => D.nx σ H
noncomputable def tSeq (t u : TS) : TS := fun D σ H => t { D with nx := u D } σ H
theorem pss_nil : PSs X [] tNext := fun _ _ σ H _ I h => wpAny_execs_nil ⟨σ, H, I, h⟩
theorem pss_cons (h1 : PS X st t) (h2 : PSs X rest u) : PSs X (st :: rest) (tSeq t u) := by
  intro pins s σ H D I h
  refine wpAny_execs_cons (thn (h1 pins s σ H { D with nx := u D } I h) fun f s1 q => ?_)
  cases f with
  | next =>
    obtain ⟨σ', H', I', q⟩ := q
    exact h2 pins s1 σ' H' D I' q
  | ret v => exact q
  | brk => exact q
  | cont => exact q
theorem pss_one (h1 : PS X st t) : PSs X [st] t := by
  intro pins s σ H D I h
  refine wpAny_execs_cons (thn (h1 pins s σ H D I h) fun f s1 q => ?_)
  cases f with
  | next => exact wpAny_execs_nil q
  | ret v => exact q
  | brk => exact q
  | cont => exact q
noncomputable def tCont : TS := fun D σ H => D.ct σ H
theorem ps_continue : PS X (.Continue pos) tCont := fun _ _ σ H _ I h => wpAny_Continue ⟨σ, H, I, h⟩
theorem Inv.quiet {pins : List (Addr × Obj)} {σ : St} {H : Hp} {s : Shared} (I : Inv X pins σ H s) : interactive X.env = false := by simp [interactive, I.ok.kind]
noncomputable def tDrop (te : TE) : TS := fun D σ H => te σ H fun _ H1 => D.nx σ H1
theorem ps_expr (he : PE X e te) (hs : swapsWith e none pos.line X.env = pure false := by rfl) : PS X (.Expr e pos) (tDrop te) := by
  intro pins s σ H D I h
  exact wpAny_Expr_any (thn (he pins s σ H _ I h) fun v s1 ⟨x, H1, I1, r1, q1⟩ => ⟨σ, H1, I1, q1⟩) I.quiet hs
noncomputable def tRet (te : TE) : TS := fun D σ H => te σ H D.rt
theorem ps_ret (he : PE X e te) : PS X (.Return (some e) pos) (tRet te) := by
  intro pins s σ H D I h
  exact wpAny_Return_some (thn (he pins s σ H _ I h) fun v s1 ⟨x, H1, I1, r1, q1⟩ => ⟨x, σ, H1, I1, r1, q1⟩)
noncomputable def tIfS (c : TT) (t u : TS) : TS := fun D σ H => c σ H fun b H1 => if b = true then t D σ H1 else u D σ H1
theorem ps_if {c : Expr} {a b : List Stmt} {tc : TT} (hc : PT X c tc) (ha : PSs X a t) (hb : PSs X b u) : PS X (.If c a b pos) (tIfS tc t u) := by
  intro pins s σ H D I h
  refine wpAny_If (thn (hc pins s σ H _ I h) fun d s1 ⟨H1, I1, q1⟩ => ?_)
  cases d with
  | true => exact ha pins s1 σ H1 D I1 q1
  | false => exact hb pins s1 σ H1 D I1 q1
noncomputable def tNever : TS := fun _ _ _ => False
theorem ps_never : PS X st tNever := fun _ _ _ _ _ _ h => h.elim
theorem pss_never {sts : List Stmt} : PSs X sts tNever := fun _ _ _ _ _ _ h => h.elim
end
noncomputable abbrev TG := V → St → Hp → (St → Hp → Prop) → Prop
noncomputable abbrev TGs := List V → St → Hp → (St → Hp → Prop) → Prop
noncomputable def PG (X : Cx) (target : Expr) (t : TG) : Prop :=
  ∀ (pins : List (Addr × Obj)) (s : Shared) (σ : St) (H : Hp) (v : V) (u : Value) (Q : St → Hp → Prop), Inv X pins σ H s → RelV v u → t v σ H Q →
    wpAny (model X.prog X.w) X.A (assign target X.env u) (fun _ s' => ∃ σ' H', Inv X pins σ' H' s' ∧ Q σ' H') X.xe s
noncomputable abbrev TSet := V → V → V → Hp → (Hp → Prop) → Prop
noncomputable def PSet (X : Cx) (t : TSet) : Prop :=
  ∀ (pins : List (Addr × Obj)) (s : Shared) (σ : St) (H : Hp) (o i v : V) (ov iv u : Value) (Q : Hp → Prop), Inv X pins σ H s → RelV o ov → RelV i iv → RelV v u → t o i v H Q →
    wpAny (model X.prog X.w) X.A (setItem ov iv u) (fun _ s' => ∃ H', Inv X pins σ H' s' ∧ Q H') X.xe s
section
variable {X : Cx} {pos : Pos}
noncomputable def gName (i : Nat) : TG := fun v σ H Q => Q (σ.set i (some v)) H
theorem pg_name {i : Nat} {x : Str} (hN : X.N.Nodup) (hi : X.N[i]? = some x) (hx : Loc X.env.scope x) (hf : X.fn x = true ∨ X.env.scope.names.lookup x = some .local := by first | exact .inl rfl | exact .inr rfl | assumption) : PG X (.Name x pos) (gName i) := by
  intro pins s σ H v u Q I r h
  exact wpAny_assign_Name (store_ok I hN hi hx r (fun s' I' => ⟨_, H, I', h⟩) hf)
noncomputable def gNil : TGs := fun vs σ H Q => vs = [] ∧ Q σ H
noncomputable def gCons (t : TG) (u : TGs) : TGs := fun vs σ H Q => ∃ v r, vs = v :: r ∧ t v σ H fun σ' H' => u r σ' H' Q
noncomputable def gSub (to ti : TE) (t : TSet) : TG := fun v σ H Q => to σ H fun o H1 => ti σ H1 fun i H2 => t o i v H2 fun H3 => Q σ H3
theorem pg_sub {o i : Expr} {to ti : TE} {t : TSet} (ho : PE X o to) (hi : PE X i ti) (hs : PSet X t)
    (ha : ∀ v, assign (.Subscript o i pos) X.env v = (do
      let ov ← holding [v] (eval o X.env)
      let iv ← holding [v, ov] (eval i X.env)
      standAt pos
      holding [v, ov, iv] (setItem ov iv v)
      release [v, ov, iv] []) := by intro _; rfl) : PG X (.Subscript o i pos) (gSub to ti t) := by
  intro pins s σ H v u Q I r h
  rw [ha]
  refine wpAny_bind (wpAny_holding (thn (ho pins s σ H _ I h) fun ov s1 ⟨x, H1, I1, r1, q1⟩ => ?_))
  refine wpAny_bind (wpAny_holding (thn (hi pins s1 σ H1 _ I1 q1) fun iv s2 ⟨y, H2, I2, r2, q2⟩ => ?_))
  refine wpAny_bind (wpAny_standAt (wpAny_bind (wpAny_holding (thn (hs pins s2 σ H2 x y v ov iv u _ I2 r1 r2 r q2) fun _ s3 ⟨H3, I3, q3⟩ => ?_))))
  exact wpAny_release ⟨σ, H3, I3, q3⟩
noncomputable def tAsg (te : TE) (g : TG) : TS := fun D σ H => te σ H fun x H1 => g x σ H1 D.nx
theorem ps_asg {tg e : Expr} {te : TE} {g : TG} (he : PE X e te) (hg : PG X tg g) (hs : swapsWithSole [tg] e pos.line X.env = pure false := by rfl) (hw : swappedStores [tg] e X.env = pure none := by rfl)
    (h1 : (assignEach [tg] X.env).map (·.2) = [assign tg X.env] := by rfl) : PS X (.Assign [tg] e pos) (tAsg te g) := by
  intro pins s σ H D I h
  refine wpAny_Assign_stores (thn (he pins s σ H _ I h) fun v s1 ⟨x, H1, I1, r1, q1⟩ => ?_) hs hw
  rw [h1]
  exact thn (hg pins s1 σ H1 x v _ I1 r1 q1) fun _ s2 q => q
theorem ps_set {i : Nat} {x : Str} {e : Expr} {te : TE} {pos' : Pos} (hN : X.N.Nodup) (hi : X.N[i]? = some x) (hx : Loc X.env.scope x) (he : PE X e te) (hs : swapsWith e (some (.Name x pos')) pos.line X.env = pure false := by rfl) (hf : X.fn x = true ∨ X.env.scope.names.lookup x = some .local := by first | exact .inl rfl | exact .inr rfl | assumption) :
    PS X (.Assign [.Name x pos'] e pos) (tAsg te (gName i)) := by
  intro pins s σ H D I h
  refine wpAny_Assign_Name (thn (he pins s σ H _ I h) fun v s1 ⟨y, H1, I1, r1, q1⟩ => ?_) hs
  exact store_ok I1 hN hi hx r1 (fun s2 I2 => ⟨_, H1, I2, q1⟩) hf
end
section
variable {X : Cx} {pos : Pos}
noncomputable def tWhile (c : TT) (tb : TS) : TS := fun D σ H => ∃ W : Nat → St → Hp → Prop, (∃ m, W m σ H) ∧ ∀ m σ H, W m σ H →
  c σ H fun b H1 => if b = true then ∃ N : St → Hp → Prop, (∀ σ' H', N σ' H' → ∃ m', m' < m ∧ W m' σ' H') ∧ tb { D with nx := N, ct := N, bk := D.nx } σ H1 else D.nx σ H1
theorem ps_while {c : Expr} {body : List Stmt} {tc : TT} {tb : TS} (hp : PassesOwn (model X.prog X.w) X.A X.env X.xe) (hc : PT X c tc) (hb : PSs X body tb) : PS X (.While c body [] pos) (tWhile tc tb) := by
  intro pins s σ H D I h
  obtain ⟨W, ⟨m0, w0⟩, turn⟩ := h
  refine wpAny_While (codeAny_whileLoop (fun n s' => ∃ σ' H', Inv X pins σ' H' s' ∧ W n σ' H') ?_ m0 ⟨σ, H, I, w0⟩)
  rintro n s1 ⟨σ1, H1, I1, w1⟩
  refine wpAny_passesOwn hp (thn (hc pins s1 σ1 H1 _ I1 (turn n σ1 H1 w1)) fun b s2 ⟨H2, I2, q2⟩ => ?_)
  cases b with
  | true =>
    obtain ⟨N, hN, q2⟩ := q2
    rw [if_pos rfl]
    refine wpAny_passesOwn hp (thn (hb pins s2 σ1 H2 _ I2 q2) fun f s3 q3 => ?_)
    cases f with
    | next =>
      obtain ⟨σ3, H3, I3, n3⟩ := q3
      obtain ⟨m', hm, w3⟩ := hN σ3 H3 n3
      exact ⟨m', hm, σ3, H3, I3, w3⟩
    | cont =>
      obtain ⟨σ3, H3, I3, n3⟩ := q3
      obtain ⟨m', hm, w3⟩ := hN σ3 H3 n3
      exact ⟨m', hm, σ3, H3, I3, w3⟩
    | brk => exact q3
    | ret v => exact q3
  | false =>
    rw [if_neg Bool.false_ne_true]
    exact wpAny_execs_nil ⟨σ1, H2, I2, q2⟩
end
structure It where
  go : Nat → Hp → Prop
  yld : Nat → Hp → V → Hp → Prop
  stop : Nat → Hp → Prop
noncomputable def FpOk (X : Cx) (pins : List (Addr × Obj)) (H : Hp) (b : Addr) : Prop :=
  H b = none ∧ b ≠ X.env.locals ∧ b ∉ X.fs ∧ (b ∈ X.ex ∨ X.s₀.heap.objs.size ≤ b) ∧ (∀ x c, X.env.cells.lookup x = some c → c ≠ b) ∧ ∀ p ∈ X.pn ++ pins, p.1 ≠ b
theorem Inv.fpOk {X : Cx} {pins : List (Addr × Obj)} {σ : St} {H H' : Hp} {s : Shared} {b : Addr} (I : Inv X pins σ H s) (hb : s.heap.objs.size ≤ b) (hn : H' b = none) : FpOk X pins H' b := by
  refine ⟨hn, Nat.ne_of_gt (Nat.lt_of_lt_of_le I.lt hb), I.nofs hb, .inr (Nat.le_trans I.sz hb), fun x c e z => ?_, fun p hp z => ?_⟩
  · obtain ⟨v, q⟩ := I.cell x c e
    exact absurd (Nat.lt_of_lt_of_le q.lt (by rw [z]; exact hb)) (Nat.lt_irrefl _)
  · exact absurd (Nat.lt_of_lt_of_le (Heap.lt_size (I.pin p hp).1) (by rw [z]; exact hb)) (Nat.lt_irrefl _)
structure Turn (P : Program) (w : World) (K : PySem.W.Frag) (tg : Expr) (J : It) (fp : List Addr) (it : Addr) (tn : Nat → Heap → Prop) : Prop where
  mem : it ∈ fp
  obj : ∀ i h, tn i h → ∀ b ∈ fp, ∃ o, h.get? b = some o ∧ ∀ v, o.data ≠ .cell v
  keep : ∀ i h h', tn i h → (∀ b ∈ fp, ∀ o, h.get? b = some o → h'.get? b = some o) → tn i h'
  item : ∀ (X : Cx), X.prog = P → X.w = w → X.K = K → X.calm = true → ∀ (i : Nat) (pins : List (Addr × Obj)) (s : Shared) (σ : St) (H : Hp) (E : Value → Shared → Prop), Inv X pins σ H s → (∀ b ∈ fp, FpOk X pins H b) → tn i s.heap → J.go i H →
    wpAny (model P w) X.A (pyNext (.ref it)) (fun r s1 => ∃ u, r = some u ∧
      wpAny (model P w) X.A (letOwnedTupleGo tg (.ref it) u) (fun _ s2 => ∃ x H', Inv X pins σ H' s2 ∧ RelV x u ∧ J.yld i H x H' ∧ tn (i + 1) s2.heap ∧ ∀ b ∈ fp, H' b = none) E s1) E s
  done : ∀ (X : Cx), X.prog = P → X.w = w → X.K = K → X.calm = true → ∀ (i : Nat) (pins : List (Addr × Obj)) (s : Shared) (σ : St) (H : Hp) (E : Value → Shared → Prop), Inv X pins σ H s → (∀ b ∈ fp, FpOk X pins H b) → tn i s.heap → J.stop i H →
    wpAny (model P w) X.A (pyNext (.ref it)) (fun r s1 => r = none ∧ Inv X pins σ H s1) E s
  self : ∀ (A : Around) (i : Nat) (s : Shared) (Q : Value → Shared → Prop) (E : Value → Shared → Prop), tn i s.heap → Q (.ref it) s → wpAny (model P w) A (pyIter (.ref it)) Q E s
noncomputable abbrev TI := St → Hp → (It → Hp → Prop) → Prop
noncomputable def PIE (X : Cx) (pins : List (Addr × Obj)) (σ : St) (tg : Expr) (R : It → Hp → Prop) (itv : Value) (s2 : Shared) : Prop :=
  ∃ (it : Addr) (fp : List Addr) (tn : Nat → Heap → Prop) (J : It) (H' : Hp), itv = .ref it ∧ Inv X pins σ H' s2 ∧ Turn X.prog X.w X.K tg J fp it tn ∧ tn 0 s2.heap ∧ (∀ b ∈ fp, FpOk X pins H' b) ∧ R J H'
noncomputable def PI (X : Cx) (tg iter : Expr) (wi : TI) : Prop :=
  ∀ (pins : List (Addr × Obj)) (s : Shared) (σ : St) (H : Hp) (R : It → Hp → Prop), Inv X pins σ H s → wi σ H R →
    wpAny (model X.prog X.w) X.A (eval iter X.env) (fun v s1 => wpAny (model X.prog X.w) X.A (pyIter v) (PIE X pins σ tg R) X.xe s1) X.xe s
theorem go_of {M : Model} {A : Around} {E : Value → Shared → Prop} {s : Shared} {tg : Expr} {it : Addr} {u : Value} {o : Obj} {n : String} {vs : Array Value} {Q : Unit → Shared → Prop} (ho : s.heap.get? it = some o) (hc : o.cls = .type n) (hd : o.data = .fields vs)
    (hn : ["enumerate", "zip", "dict_itemiterator", "dict_reverseitemiterator", "odict_iterator", "itertools.zip_longest", "itertools.pairwise"].contains n = false) (hQ : Q () s) : wpAny M A (letOwnedTupleGo tg (.ref it) u) Q E s := by
  unfold letOwnedTupleGo
  cases tg <;> first
    | exact wpAny_pure hQ
    | (cases u <;> first
        | exact wpAny_pure hQ
        | (refine wpAny_bind (wpAny_load ho ?_)
           rw [hc, hd]
           show wpAny M A (if (["enumerate", "zip", "dict_itemiterator", "dict_reverseitemiterator", "odict_iterator", "itertools.zip_longest", "itertools.pairwise"].contains n && vs[0]? == some (rawInt _)) = true then _ else _) Q E s
           rw [if_neg (by intro h; rw [hn, Bool.false_and] at h; cases h)]
           exact wpAny_pure hQ))
noncomputable def Itl (K : PySem.W.Frag) (a : Addr) : It :=
  ⟨fun i H => ∃ xs x, SqL K H a xs ∧ xs[i]? = some x, fun i H x H' => H' = H ∧ ∀ xs, SqL K H a xs → xs[i]? = some x, fun i H => ∃ xs, SqL K H a xs ∧ xs.length ≤ i⟩
noncomputable def Itr (lo : Int) (n : Nat) : It := ⟨fun i _ => i < n, fun i H x H' => H' = H ∧ x = .int (lo + i), fun i _ => n ≤ i⟩
theorem turn_range {P : Program} {w : World} {K : PySem.W.Frag} {tg : Expr} (it : Addr) (lo : Int) (n : Nat) : Turn P w K tg (Itr lo n) [it] it (fun i h => IsRangeIter h it (lo + (i : Nat) * 1) ((n : Int) - (i : Nat)) 1) where
  mem := by simp
  obj := fun i h st b hb => by
    have e : b = it := by simpa using hb
    subst e
    exact ⟨_, st, fun v z => by
      have z' : Data.fields _ = Data.cell v := z
      cases z'⟩
  keep := fun i h h' st k => k it (by simp) _ st
  item := by
    intro X hP hw hK hc i pins s σ H E I hf st hg
    subst hP hw hK
    obtain ⟨f0, f1, f2, f3, f4, f5⟩ := hf it (by simp)
    have W := Walks.range (prog := X.prog) (w := X.w) (I.ok.hd hc) it lo 1 n
    refine W.item i s _ _ hg st fun v h' tk hv st' kk => ?_
    obtain ⟨t, rfl⟩ := hv
    have I1 : Inv X pins σ H { s with heap := h', toks := tk } := I.turned (fun b o hb e => kk b o (by simpa using hb) e) f0 f1 f3 f4 f5
    refine ⟨_, rfl, go_of (s := { s with heap := h', toks := tk }) (n := "range_iterator") st' rfl rfl (by decide) ⟨.int (lo + i), H, I1, ⟨t, ?_⟩, ⟨rfl, rfl⟩, st', fun b hb => (hf b hb).1⟩⟩
    rw [Int.mul_one]
  done := by
    intro X hP hw hK hc i pins s σ H E I hf st hg
    subst hP hw hK
    obtain ⟨f0, f1, f2, f3, f4, f5⟩ := hf it (by simp)
    exact wpAny_pyNext_range_end (I.ok.hd hc) st (by have : n ≤ i := hg; lia) fun h' eb => ⟨rfl, I.turned (t' := s.toks) (fun b o hb e => eb b o hb e) f0 f1 f3 f4 f5⟩
  self := fun _ _ _ _ _ st h => wpAny_pyIter_rangeiter st h
end L2
namespace L2
open PySem PySem.Spec PyProof.Rows
section
variable {X : Cx} {tg : Expr}
noncomputable def iList (K : PySem.W.Frag) (tl : TE) : TI := fun σ H R => tl σ H fun x H1 => ∃ a, x = .ref a ∧ (∃ xs, SqL K H1 a xs) ∧ R (Itl K a) H1
theorem range_it {pins : List (Addr × Obj)} {σ : St} {H : Hp} {s : Shared} {R : It → Hp → Prop} {E : Value → Shared → Prop} {lo hi : Int} {t u v : Tok} {tk : Nat} (I : Inv X pins σ H s) (h1 : -(2 ^ 62) ≤ lo) (h2 : lo < 2 ^ 62) (h3 : -(2 ^ 62) ≤ hi) (h4 : hi < 2 ^ 62)
    (q : R (Itr lo (hi - lo).toNat) H) : wpAny (model X.prog X.w) X.A (pyIter (.ref s.heap.objs.size)) (PIE X pins σ tg R) E { s with heap := s.heap.push { cls := .type "range", data := .fields #[.int lo t, .int hi u, .int 1 v] }, toks := tk } := by
  refine wpAny_pyIter_range (IsRange.new ..) (small_one h1 h2 h3 h4) ?_
  have I1 : Inv X pins σ H { s with heap := s.heap.push { cls := .type "range", data := .fields #[.int lo t, .int hi u, .int 1 v] }, toks := tk } := I.kept fun b o e => Heap.get?_push_of_some _ e
  refine ⟨(s.heap.push { cls := .type "range", data := .fields #[.int lo t, .int hi u, .int 1 v] }).objs.size, [(s.heap.push { cls := .type "range", data := .fields #[.int lo t, .int hi u, .int 1 v] }).objs.size], _, _, H, rfl,
    I1.kept (t' := tk) fun b o e => Heap.get?_push_of_some _ e, turn_range _ lo (hi - lo).toNat, ?_, fun b hb => ?_, q⟩
  · have e1 : lo + ((0 : Nat) : Int) * 1 = lo := by simp
    have e2 : (((hi - lo).toNat : Nat) : Int) - ((0 : Nat) : Int) = Builtin.Range.rangeSize lo hi 1 := by rw [rangeSize_one]; split <;> lia
    show IsRangeIter _ _ (lo + ((0 : Nat) : Int) * 1) ((((hi - lo).toNat : Nat) : Int) - ((0 : Nat) : Int)) 1
    rw [e1, e2]
    exact Heap.get?_push_size _ rfl
  · have e : b = (s.heap.push { cls := .type "range", data := .fields #[.int lo t, .int hi u, .int 1 v] }).objs.size := by simpa using hb
    subst e
    exact I1.fpOk (Nat.le_refl _) (I1.hok.fresh (Nat.le_refl _))
noncomputable def iRng1 (ta : TA) : TI := fun σ H R => ta σ H fun vs H1 => ∃ j : Int, vs = [.int j] ∧ -(2 ^ 62) ≤ j ∧ j < 2 ^ 62 ∧ R (Itr 0 j.toNat) H1
noncomputable def iRng2 (ta : TA) : TI := fun σ H R => ta σ H fun vs H1 => ∃ i j : Int, vs = [.int i, .int j] ∧ (-(2 ^ 62) ≤ i ∧ i < 2 ^ 62 ∧ -(2 ^ 62) ≤ j ∧ j < 2 ^ 62) ∧ R (Itr i (j - i).toNat) H1
theorem pi_range1 {a : Expr} {ta : TA} {p pos : Pos} (hg : Gl X "range") (hm : X.mg "range" = none) (ha : PA X [a] ta) (hs : starEach [a] X.env = [(false, eval a X.env)] := by rfl) : PI X tg (.Call (.Name "range" p) [a] [] pos) (iRng1 ta) := by
  intro pins s σ H R I h
  refine Call_ (ld_blt I hg hm boot_range (PyProof.Rows.callWith_type1 (thn (ha pos pins s σ H _ I h) fun us s1 ⟨vs, H1, I1, r1, q1⟩ => ?_) hs rfl))
  obtain ⟨j, e, q1, q2, q⟩ := q1
  subst e
  cases r1 with
  | cons r rr =>
    cases rr
    obtain ⟨t, rfl⟩ := r
    exact call_range_1 (range_it I1 (by lia) (by lia) q1 q2 (by simpa using q))
noncomputable def tFor (wi : TI) (g : TG) (tb : TS) : TS := fun D σ H => wi σ H fun J H1 => ∃ W : Nat → Nat → St → Hp → Prop, (∃ m, W 0 m σ H1) ∧ ∀ i m σ H, W i m σ H →
  (J.stop i H ∧ D.nx σ H) ∨ (J.go i H ∧ ∃ N : St → Hp → Prop, (∀ σ' H', N σ' H' → ∃ m', m' < m ∧ W (i + 1) m' σ' H') ∧ ∀ x H', J.yld i H x H' → g x σ H' fun σ2 H2 => tb { D with nx := N, ct := N, bk := D.nx } σ2 H2)
noncomputable def pinsAt (fp : List Addr) (h : Heap) : List (Addr × Obj) := fp.filterMap fun b => (h.get? b).map fun o => (b, o)
theorem mem_pinsAt {fp : List Addr} {h : Heap} {b : Addr} {o : Obj} (hb : b ∈ fp) (e : h.get? b = some o) : (b, o) ∈ pinsAt fp h := List.mem_filterMap.mpr ⟨b, hb, by rw [e]; rfl⟩
theorem of_pinsAt {fp : List Addr} {h : Heap} {p : Addr × Obj} (hp : p ∈ pinsAt fp h) : p.1 ∈ fp ∧ h.get? p.1 = some p.2 := by
  obtain ⟨b, hb, e⟩ := List.mem_filterMap.mp hp
  cases q : h.get? b with
  | none => rw [q] at e; cases e
  | some o =>
    rw [q] at e
    have e' : (b, o) = p := Option.some.inj e
    subst e'
    exact ⟨hb, q⟩
theorem Inv.pinned {pins : List (Addr × Obj)} {σ : St} {H : Hp} {s : Shared} {fp : List Addr} (I : Inv X pins σ H s) (hf : ∀ b ∈ fp, FpOk X pins H b) (ho : ∀ b ∈ fp, ∃ o, s.heap.get? b = some o ∧ ∀ v, o.data ≠ .cell v) : Inv X (pins ++ pinsAt fp s.heap) σ H s :=
  I.pins_of fun p hp => (List.mem_append.mp hp).elim (fun z => I.pin p (List.mem_append_right _ z)) fun z => by
    obtain ⟨hb, e⟩ := of_pinsAt z
    obtain ⟨f0, f1, f2, _⟩ := hf p.1 hb
    obtain ⟨o, e', d⟩ := ho p.1 hb
    rw [e] at e'; cases e'
    exact ⟨e, f0, f1, f2, d⟩
theorem Inv.unpinned {pins pl : List (Addr × Obj)} {σ : St} {H : Hp} {s : Shared} (I : Inv X (pins ++ pl) σ H s) : Inv X pins σ H s := I.pins_of fun p hp => I.pin p (List.mem_append_right _ (List.mem_append_left _ hp))
theorem ps_for {iter : Expr} {body : List Stmt} {wi : TI} {g : TG} {tb : TS} {pos : Pos} (hp : PassesOwn (model X.prog X.w) X.A X.env X.xe) (hc : X.calm = true) (hi : PI X tg iter wi) (hg : PG X tg g) (hb : PSs X body tb)
    (hs : ∀ x, foldedSetIterable iter X.env x = pure x := by intro _; rfl) : PS X (.For tg iter body [] pos) (tFor wi g tb) := by
  intro pins s σ H D I h
  refine wpAny_For (thn (hi pins s σ H _ I h) fun v s1 h1 => thn h1 fun itv s2 h2 => ?_) hs
  obtain ⟨it, fp, tn, J, H2, e, I2, T, st2, f2, W, ⟨m0, w0⟩, turn⟩ := h2
  subst e
  have stat : ∀ {H' : Hp}, (∀ b ∈ fp, H' b = none) → ∀ b ∈ fp, FpOk X pins H' b := fun hn b hb => ⟨hn b hb, (f2 b hb).2⟩
  refine codeAny_forLoop_any (fun n s' => ∃ i σ' H', Inv X pins σ' H' s' ∧ tn i s'.heap ∧ (∀ b ∈ fp, H' b = none) ∧ W i n σ' H') ?_ m0 ⟨0, σ, H2, I2, st2, fun b hb => (f2 b hb).1, w0⟩
  rintro n s3 ⟨i, σ3, H3, I3, st3, fr3, w3⟩
  rcases turn i n σ3 H3 w3 with ⟨stop, qn⟩ | ⟨go, N, hN, step⟩
  · refine wpAny_passesOwn hp (thn (T.done X rfl rfl rfl hc i pins s3 σ3 H3 X.xe I3 (stat fr3) st3 stop) fun r s4 ⟨hr, I4⟩ => ?_)
    subst hr
    exact wpAny_execs_nil ⟨σ3, H3, I4, qn⟩
  · refine wpAny_passesOwn hp (thn (T.item X rfl rfl rfl hc i pins s3 σ3 H3 X.xe I3 (stat fr3) st3 go) fun r s4 ⟨u, hr, h4⟩ => ?_)
    subst hr
    refine wpAny_passesOwn hp (thn h4 fun _ s5 ⟨x, H5, I5, r5, y5, st5, fr5⟩ => ?_)
    have I5' := I5.pinned (stat fr5) (T.obj _ _ st5)
    refine wpAny_passesOwn hp (thn (hg _ s5 σ3 H5 x u _ I5' r5 (step x H5 y5)) fun _ s6 ⟨σ6, H6, I6, q6⟩ => ?_)
    refine wpAny_passesOwn hp (thn (hb _ s6 σ6 H6 _ I6 q6) fun f s7 q7 => ?_)
    have again : ∀ {σ7 : St} {H7 : Hp}, Inv X (pins ++ pinsAt fp s5.heap) σ7 H7 s7 → N σ7 H7 → ∃ m, m < n ∧ ∃ i σ' H', Inv X pins σ' H' s7 ∧ tn i s7.heap ∧ (∀ b ∈ fp, H' b = none) ∧ W i m σ' H' := fun {σ7 H7} I7 n7 => by
      obtain ⟨m', hm, w7⟩ := hN σ7 H7 n7
      refine ⟨m', hm, i + 1, σ7, H7, I7.unpinned, T.keep _ _ _ st5 fun b hb o e => (I7.pin (b, o) (List.mem_append_right _ (List.mem_append_right _ (mem_pinsAt hb e)))).1, fun b hb => ?_, w7⟩
      obtain ⟨o, e, d⟩ := T.obj _ _ st5 b hb
      exact (I7.pin (b, o) (List.mem_append_right _ (List.mem_append_right _ (mem_pinsAt hb e)))).2.1
    cases f with
    | next => obtain ⟨σ7, H7, I7, n7⟩ := q7; exact again I7 n7
    | cont => obtain ⟨σ7, H7, I7, n7⟩ := q7; exact again I7 n7
    | brk => obtain ⟨σ7, H7, I7, q7⟩ := q7; exact ⟨σ7, H7, I7.unpinned, q7⟩
    | ret v => obtain ⟨x7, σ7, H7, I7, r7, q7⟩ := q7; exact ⟨x7, σ7, H7, I7.unpinned, r7, q7⟩
end
theorem for_range {lo : Int} {n : Nat} {g : TG} {tb : TS} {D : Ends} {σ : St} {H : Hp} (Pv : Nat → St → Hp → Prop) (h0 : Pv 0 σ H)
    (hs : ∀ i σ H, i < n → Pv i σ H → g (.int (lo + i)) σ H fun σ2 H2 => tb { D with nx := Pv (i + 1), ct := Pv (i + 1), bk := D.nx } σ2 H2) (hd : ∀ σ H, Pv n σ H → D.nx σ H) :
    ∃ W : Nat → Nat → St → Hp → Prop, (∃ m, W 0 m σ H) ∧ ∀ i m σ H, W i m σ H →
      ((Itr lo n).stop i H ∧ D.nx σ H) ∨ ((Itr lo n).go i H ∧ ∃ N : St → Hp → Prop, (∀ σ' H', N σ' H' → ∃ m', m' < m ∧ W (i + 1) m' σ' H') ∧ ∀ x H', (Itr lo n).yld i H x H' → g x σ H' fun σ2 H2 => tb { D with nx := N, ct := N, bk := D.nx } σ2 H2) := by
  refine ⟨fun i m σ H => m = n - i ∧ i ≤ n ∧ Pv i σ H, ⟨n, by simp, Nat.zero_le _, h0⟩, ?_⟩
  rintro i m σ H ⟨rfl, hi, p⟩
  by_cases hlt : i < n
  · refine .inr ⟨hlt, Pv (i + 1), fun σ' H' p' => ⟨n - (i + 1), by lia, rfl, hlt, p'⟩, fun x H' y => ?_⟩
    obtain ⟨e, y⟩ := y
    subst e y
    exact hs i σ _ hlt p
  · have e : i = n := by lia
    subst e
    exact .inl ⟨Nat.le_refl _, hd σ H p⟩
end L2
namespace L2
open PySem PySem.Spec PyProof.Rows
noncomputable abbrev R2 := V → V → Hp → VK → Prop
noncomputable def OpR (X : Cx) (f : Value → Value → Sem Value) (r : R2) : Prop :=
  ∀ (pins : List (Addr × Obj)) (s : Shared) (σ : St) (H : Hp) (x y : V) (v u : Value) (Q : VK), Inv X pins σ H s → RelV x v → RelV y u → r x y H Q →
    wpAny (model X.prog X.w) X.A (f v u) (EP X pins σ Q) X.xe s
noncomputable def UnR (X : Cx) (f : Value → Sem Value) (r : V → Hp → VK → Prop) : Prop :=
  ∀ (pins : List (Addr × Obj)) (s : Shared) (σ : St) (H : Hp) (x : V) (v : Value) (Q : VK), Inv X pins σ H s → RelV x v → r x H Q →
    wpAny (model X.prog X.w) X.A (f v) (EP X pins σ Q) X.xe s
noncomputable def CallR (X : Cx) (f : Value) (r : List V → Hp → VK → Prop) : Prop :=
  ∀ (pins : List (Addr × Obj)) (s : Shared) (σ : St) (H : Hp) (xs : List V) (us : List Value) (Q : VK), Inv X pins σ H s → Vals xs us → r xs H Q →
    wpAny (model X.prog X.w) X.A (call f us) (EP X pins σ Q) X.xe s
noncomputable def TruR (X : Cx) (r : V → Hp → (Bool → Hp → Prop) → Prop) : Prop :=
  ∀ (pins : List (Addr × Obj)) (s : Shared) (σ : St) (H : Hp) (x : V) (v : Value) (Q : Bool → Hp → Prop), Inv X pins σ H s → RelV x v → r x H Q →
    wpAny (model X.prog X.w) X.A (truthy v) (TP X pins σ Q) X.xe s
noncomputable def tOp (r : R2) (ta tb : TE) : TE := fun σ H Q => ta σ H fun x H1 => tb σ H1 fun y H2 => r x y H2 Q
noncomputable def tUn (r : V → Hp → VK → Prop) (ta : TE) : TE := fun σ H Q => ta σ H fun x H1 => r x H1 Q
noncomputable def rI (C : Int → Int → Prop) (g : Int → Int → V) : R2 := fun x y H Q => ∃ i j, x = .int i ∧ y = .int j ∧ C i j ∧ Q (g i j) H
noncomputable def rI0 (g : Int → Int → V) : R2 := fun x y H Q => ∃ i j, x = .int i ∧ y = .int j ∧ Q (g i j) H
noncomputable def rU (g : Int → V) : V → Hp → VK → Prop := fun x H Q => ∃ i, x = .int i ∧ Q (g i) H
section
variable {X : Cx} {a b c : Expr} {ta tb tc : TE} {pos : Pos}
theorem binT (ha : PE X a ta) (hb : PE X b tb) {pins : List (Addr × Obj)} {s : Shared} {σ : St} {H : Hp} {R : V → V → Hp → Prop} (I : Inv X pins σ H s)
    (h : ta σ H fun x H1 => tb σ H1 fun y H2 => R x y H2) {Q : Value → Shared → Prop} {f : Value → Value → Sem Value}
    (hf : ∀ v u s2 x y H2, Inv X pins σ H2 s2 → RelV x v → RelV y u → R x y H2 → wpAny (model X.prog X.w) X.A (f v u) Q X.xe s2) :
    wpAny (model X.prog X.w) X.A (eval a X.env) (fun v s₁ => wpAny (model X.prog X.w) X.A (eval b X.env) (fun u s₂ => wpAny (model X.prog X.w) X.A (f v u) Q X.xe s₂) X.xe s₁) X.xe s := by
  refine thn (ha pins s σ H _ I h) fun v s1 ⟨x, H1, I1, r1, q1⟩ => ?_
  refine thn (hb pins s1 σ H1 _ I1 q1) fun u s2 ⟨y, H2, I2, r2, q2⟩ => ?_
  exact hf v u s2 x y H2 I2 r1 r2 q2
theorem pe_op {op : Operator} {r : R2} (ho : OpR X (binaryOp op) r) (ha : PE X a ta) (hb : PE X b tb) : PE X (.BinOp a op b pos) (tOp r ta tb) := by
  intro pins s σ H Q I h
  exact wpAny_BinOp (binT ha hb I h fun v u s2 x y H2 I2 rx ry q => ho pins s2 σ H2 x y v u Q I2 rx ry q)
theorem pe_un {op : UnaryOp} {r : V → Hp → VK → Prop} (ho : UnR X (unaryOp op) r) (ha : PE X a ta) : PE X (.UnaryOp op a pos) (tUn r ta) := by
  intro pins s σ H Q I h
  exact UnaryOp_ (thn (ha pins s σ H _ I h) fun v s1 ⟨x, H1, I1, r1, q1⟩ => ho pins s1 σ H1 x v Q I1 r1 q1)
theorem opI {f : Value → Value → Sem Value} {C : Int → Int → Prop} {g : Int → Int → Int}
    (rule : ∀ (i j : Int) (t u : Tok) (s : Shared) (Q : Value → Shared → Prop) (E : Value → Shared → Prop), C i j → Q (.int (g i j) s.toks) { s with toks := s.toks + 1 } → wpAny (model X.prog X.w) X.A (f (.int i t) (.int j u)) Q E s) :
    OpR X f (rI C fun i j => .int (g i j)) := by
  intro pins s σ H x y v u Q I rx ry h
  obtain ⟨i, j, rfl, rfl, hc, q⟩ := h
  obtain ⟨t, rfl⟩ := rx
  obtain ⟨t', rfl⟩ := ry
  exact rule i j t t' s _ _ hc ⟨.int (g i j), H, I.tok _, ⟨_, rfl⟩, q⟩
theorem opI0 {f : Value → Value → Sem Value} {g : Int → Int → Int}
    (rule : ∀ (i j : Int) (t u : Tok) (s : Shared) (Q : Value → Shared → Prop) (E : Value → Shared → Prop), Q (.int (g i j) s.toks) { s with toks := s.toks + 1 } → wpAny (model X.prog X.w) X.A (f (.int i t) (.int j u)) Q E s) :
    OpR X f (rI0 fun i j => .int (g i j)) := by
  intro pins s σ H x y v u Q I rx ry h
  obtain ⟨i, j, rfl, rfl, q⟩ := h
  obtain ⟨t, rfl⟩ := rx
  obtain ⟨t', rfl⟩ := ry
  exact rule i j t t' s _ _ ⟨.int (g i j), H, I.tok _, ⟨_, rfl⟩, q⟩
theorem opB0 {f : Value → Value → Sem Value} {g : Int → Int → Bool}
    (rule : ∀ (i j : Int) (t u : Tok) (s : Shared) (Q : Value → Shared → Prop) (E : Value → Shared → Prop), Q (.bool (g i j)) s → wpAny (model X.prog X.w) X.A (f (.int i t) (.int j u)) Q E s) :
    OpR X f (rI0 fun i j => .bl (g i j)) := by
  intro pins s σ H x y v u Q I rx ry h
  obtain ⟨i, j, rfl, rfl, q⟩ := h
  obtain ⟨t, rfl⟩ := rx
  obtain ⟨t', rfl⟩ := ry
  exact rule i j t t' s _ _ ⟨.bl (g i j), H, I, rfl, q⟩
noncomputable def CPow (i j : Int) : Prop := 0 ≤ j ∧ j ≤ 1000000 ∧ i.natAbs < 2 ^ 64
theorem op_add : OpR X (binaryOp .Add) (rI0 fun i j => .int (i + j)) := opI0 fun _ _ _ _ _ _ _ q => add_int q
theorem op_sub : OpR X (binaryOp .Sub) (rI0 fun i j => .int (i - j)) := opI0 fun _ _ _ _ _ _ _ q => sub_int q
theorem op_modN : OpR X (binaryOp .Mod) (rI (fun _ j => j ≠ 0) fun i j => .int (i.fmod j)) := opI fun _ _ _ _ _ _ _ hc q => mod_int' hc q
theorem op_pow : OpR X (binaryOp .Pow) (rI CPow fun i j => .int (i ^ j.toNat)) := opI fun _ _ _ _ _ _ _ hc q => pow_int_small hc.1 hc.2.1 hc.2.2 q
theorem unI {f : Value → Sem Value} {g : Int → Int}
    (rule : ∀ (i : Int) (t : Tok) (s : Shared) (Q : Value → Shared → Prop) (E : Value → Shared → Prop), Q (.int (g i) s.toks) { s with toks := s.toks + 1 } → wpAny (model X.prog X.w) X.A (f (.int i t)) Q E s) :
    UnR X f (rU fun i => .int (g i)) := by
  intro pins s σ H x v Q I rx h
  obtain ⟨i, rfl, q⟩ := h
  obtain ⟨t, rfl⟩ := rx
  exact rule i t s _ _ ⟨.int (g i), H, I.tok _, ⟨_, rfl⟩, q⟩
theorem un_neg : UnR X (unaryOp .USub) (rU fun i => .int (-i)) := unI fun _ _ _ _ _ q => neg_int q
end
noncomputable def scal : V → V → Bool
  | .non, .non => true | .non, .int _ => true | .int _, .non => true | .non, .bl _ => true | .bl _, .non => true | .non, .str _ => true | .str _, .non => true
  | .int _, .int _ => true | .bl _, .bl _ => true | .str _, .str _ => true | .byt _, .byt _ => true
  | .int _, .str _ => true | .str _, .int _ => true | .bl _, .str _ => true | .str _, .bl _ => true
  | _, _ => false
noncomputable def rEq : R2 := fun x y H Q => scal x y = true ∧ Q (.bl (decide (x = y))) H
noncomputable def rNe : R2 := fun x y H Q => scal x y = true ∧ Q (.bl (!decide (x = y))) H
theorem dec_int {i j : Int} : decide (V.int i = V.int j) = (i == j) := by
  rw [Bool.eq_iff_iff]
  simp
theorem dec_bl {i j : Bool} : decide (V.bl i = V.bl j) = (i == j) := by
  rw [Bool.eq_iff_iff]
  simp
theorem dec_str {i j : Str} : decide (V.str i = V.str j) = (i == j) := by
  rw [Bool.eq_iff_iff]
  simp
theorem dec_byt {i j : Array UInt8} : decide (V.byt i = V.byt j) = (i.toList == j.toList) := by
  rw [Bool.eq_iff_iff]
  cases i
  cases j
  simp
section
variable {X : Cx} {a b c : Expr} {ta tb tc : TE} {pos : Pos}
theorem fin_bl {pins : List (Addr × Obj)} {σ : St} {H : Hp} {s : Shared} {Q : VK} {k k' : Bool} (I : Inv X pins σ H s) (q : Q (.bl k) H) (e : k = k') : EP X pins σ Q (.bool k') s := by
  subst e
  exact ⟨.bl k, H, I, rfl, q⟩
theorem op_eq : OpR X (compareOp .Eq) rEq := by
  intro pins s σ H x y v u Q I rx ry h
  obtain ⟨hs, q⟩ := h
  cases x with
  | non =>
    cases rx
    cases y with
    | non => cases ry; exact PySem.EqNone.eq_none_none (fin_bl I q (by simp))
    | bl j => cases ry; exact PySem.EqNone.eq_none_bool (fin_bl I q (by simp))
    | int j => obtain ⟨t', rfl⟩ := ry; exact PySem.EqNone.eq_none_int (fin_bl I q (by simp))
    | str j => obtain ⟨t', rfl⟩ := ry; exact PySem.EqNone.eq_none_str (fin_bl I q (by simp))
    | _ => exact absurd (show false = true from hs) Bool.false_ne_true
  | bl i =>
    cases rx
    cases y with
    | non => cases ry; exact PySem.EqNone.eq_bool_none (fin_bl I q (by simp))
    | bl j => cases ry; exact eq_bool (fin_bl I q dec_bl)
    | str j => obtain ⟨t', rfl⟩ := ry; exact PySem.EqMixed.eq_bool_str (fin_bl I q (by simp))
    | _ => exact absurd (show false = true from hs) Bool.false_ne_true
  | int i =>
    obtain ⟨t, rfl⟩ := rx
    cases y with
    | non => cases ry; exact PySem.EqNone.eq_int_none (fin_bl I q (by simp))
    | int j => obtain ⟨t', rfl⟩ := ry; exact eq_int (fin_bl I q dec_int)
    | str j => obtain ⟨t', rfl⟩ := ry; exact PySem.EqMixed.eq_int_str (fin_bl I q (by simp))
    | _ => exact absurd (show false = true from hs) Bool.false_ne_true
  | str i =>
    obtain ⟨t, rfl⟩ := rx
    cases y with
    | non => cases ry; exact PySem.EqNone.eq_str_none (fin_bl I q (by simp))
    | bl j => cases ry; exact PySem.EqMixed.eq_str_bool (fin_bl I q (by simp))
    | int j => obtain ⟨t', rfl⟩ := ry; exact PySem.EqMixed.eq_str_int (fin_bl I q (by simp))
    | str j => obtain ⟨t', rfl⟩ := ry; exact eq_str (fin_bl I q dec_str)
    | _ => exact absurd (show false = true from hs) Bool.false_ne_true
  | byt i =>
    obtain ⟨t, rfl⟩ := rx
    cases y with
    | byt j => obtain ⟨t', rfl⟩ := ry; exact PySem.W.eq_bytes (fin_bl I q dec_byt)
    | _ => exact absurd (show false = true from hs) Bool.false_ne_true
  | _ => cases y <;> exact absurd (show false = true from hs) Bool.false_ne_true
theorem op_ne : OpR X (compareOp .NotEq) rNe := by
  intro pins s σ H x y v u Q I rx ry h
  obtain ⟨hs, q⟩ := h
  cases x with
  | non =>
    cases rx
    cases y with
    | non => cases ry; exact PySem.EqNone.ne_none_none (fin_bl I q (by simp))
    | bl j => cases ry; exact PySem.EqNone.ne_none_bool (fin_bl I q (by simp))
    | int j => obtain ⟨t', rfl⟩ := ry; exact PySem.EqNone.ne_none_int (fin_bl I q (by simp))
    | str j => obtain ⟨t', rfl⟩ := ry; exact PySem.EqNone.ne_none_str (fin_bl I q (by simp))
    | _ => exact absurd (show false = true from hs) Bool.false_ne_true
  | bl i =>
    cases rx
    cases y with
    | non => cases ry; exact PySem.EqNone.ne_bool_none (fin_bl I q (by simp))
    | bl j => cases ry; exact ne_bool (fin_bl I q (congrArg not dec_bl))
    | str j => obtain ⟨t', rfl⟩ := ry; exact PySem.EqMixed.ne_bool_str (fin_bl I q (by simp))
    | _ => exact absurd (show false = true from hs) Bool.false_ne_true
  | int i =>
    obtain ⟨t, rfl⟩ := rx
    cases y with
    | non => cases ry; exact PySem.EqNone.ne_int_none (fin_bl I q (by simp))
    | int j => obtain ⟨t', rfl⟩ := ry; exact ne_int (fin_bl I q (congrArg not dec_int))
    | str j => obtain ⟨t', rfl⟩ := ry; exact PySem.EqMixed.ne_int_str (fin_bl I q (by simp))
    | _ => exact absurd (show false = true from hs) Bool.false_ne_true
  | str i =>
    obtain ⟨t, rfl⟩ := rx
    cases y with
    | non => cases ry; exact PySem.EqNone.ne_str_none (fin_bl I q (by simp))
    | bl j => cases ry; exact PySem.EqMixed.ne_str_bool (fin_bl I q (by simp))
    | int j => obtain ⟨t', rfl⟩ := ry; exact PySem.EqMixed.ne_str_int (fin_bl I q (by simp))
    | str j => obtain ⟨t', rfl⟩ := ry; exact ne_str (fin_bl I q (congrArg not dec_str))
    | _ => exact absurd (show false = true from hs) Bool.false_ne_true
  | byt i =>
    obtain ⟨t, rfl⟩ := rx
    cases y with
    | byt j => obtain ⟨t', rfl⟩ := ry; exact PySem.W.ne_bytes (fin_bl I q (congrArg not dec_byt))
    | _ => exact absurd (show false = true from hs) Bool.false_ne_true
  | _ => cases y <;> exact absurd (show false = true from hs) Bool.false_ne_true
theorem op_lt : OpR X (compareOp .Lt) (rI0 fun i j => .bl (decide (i < j))) := opB0 fun _ _ _ _ _ _ _ q => lt_int q
theorem op_gt : OpR X (compareOp .Gt) (rI0 fun i j => .bl (decide (j < i))) := opB0 fun _ _ _ _ _ _ _ q => gt_int q
theorem op_ge : OpR X (compareOp .GtE) (rI0 fun i j => .bl (decide (j ≤ i))) := opB0 fun _ _ _ _ _ _ _ q => ge_int q
theorem nomark (b : Expr) {op : CmpOp} (h : op ≠ .In := by decide) (h2 : op ≠ .NotIn := by decide) : behindInMarks op b = false := by
  have e1 : (op == CmpOp.In) = false := by cases op <;> first | rfl | exact absurd rfl h
  have e2 : (op == CmpOp.NotIn) = false := by cases op <;> first | rfl | exact absurd rfl h2
  cases b <;> simp [behindInMarks, e1, e2]
theorem pe_cmpR {op : CmpOp} {r : R2} (ho : OpR X (compareOp op) r) (ha : PE X a ta) (hb : PE X b tb) (hm : behindInMarks op b = false) : PE X (.Compare a [op] [b] pos) (tOp r ta tb) := by
  intro pins s σ H Q I h
  exact wpAny_Compare1 (binT ha hb I h fun v u s2 x y H2 I2 rx ry q => ho pins s2 σ H2 x y v u Q I2 rx ry q) hm
noncomputable def tTest (t : TE) : TT := fun σ H Q => t σ H fun x H' => ∃ k, x = .bl k ∧ Q k H'
theorem pt_cmpR {op : CmpOp} {r : R2} (ho : OpR X (compareOp op) r) (ha : PE X a ta) (hb : PE X b tb) (hm : behindInMarks op b = false) : PT X (.Compare a [op] [b] pos) (tTest (tOp r ta tb)) := by
  intro pins s σ H Q I h
  refine wpAny_isTrue_Compare1 (thn (ha pins s σ H _ I h) fun v s1 ⟨x, H1, I1, r1, q1⟩ => thn (hb pins s1 σ H1 _ I1 q1) fun u s2 ⟨y, H2, I2, r2, q2⟩ =>
    thn (ho pins s2 σ H2 x y v u _ I2 r1 r2 q2) fun c s3 ⟨z, H3, I3, r3, k, e, q3⟩ => ?_) hm
  subst e
  cases r3
  exact wpAny_truthy_bool ⟨H3, I3, q3⟩
noncomputable def TruV (K : PySem.W.Frag) (x : V) (H : Hp) (k : Bool) : Prop :=
  match x with
  | .non => k = false
  | .bl b => k = b
  | .int i => k = (i != 0)
  | .str y => y.length ≤ sizeLine ∧ k = ((y.length : Int) != 0)
  | .byt y => y.size ≤ sizeLine ∧ k = ((y.size : Int) != 0)
  | .ref p => (∃ xs, SqL K H p xs ∧ k = !xs.isEmpty) ∨ (∃ xs, SqT K H p xs ∧ k = !xs.isEmpty) ∨ ∃ kvs, H p = some (.dK kvs) ∧ k = !kvs.isEmpty
  | _ => False
theorem isEmpty_kv {κ : Type} {kvs : List (κ × V)} {vs : List (κ × Value)} (r : KV kvs vs) : (!vs.isEmpty) = !kvs.isEmpty := by
  cases r <;> rfl
theorem isEmpty_of {xs : List V} {its : List Value} (r : Vals xs its) : (!its.toArray.isEmpty) = !xs.isEmpty := by
  cases r <;> simp
theorem line63 : (sizeLine : Nat) < 2 ^ 63 := by rw [sizeLine_eq]; decide
theorem tru_ok : TruR X (fun x H Q => ∃ k, TruV X.K x H k ∧ Q k H) := by
  intro pins s σ H x v Q I rx h
  obtain ⟨k, e, q⟩ := h
  have hl := line63
  have hs : sizeLine = 16777216 := sizeLine_eq
  cases x with
  | non =>
    cases rx
    have e' : k = false := e
    subst e'
    exact truthy_none ⟨H, I, q⟩
  | bl b =>
    cases rx
    have e' : k = b := e
    subst e'
    exact wpAny_truthy_bool ⟨H, I, q⟩
  | int i =>
    obtain ⟨t, rfl⟩ := rx
    have e' : k = (i != 0) := e
    subst e'
    exact PySem.P.truthy_int ⟨H, I, q⟩
  | str y =>
    obtain ⟨t, rfl⟩ := rx
    obtain ⟨hy, e'⟩ : y.length ≤ sizeLine ∧ k = ((y.length : Int) != 0) := e
    subst e'
    exact PySem.P.truthy_str (by lia) ⟨H, I.tok _, q⟩
  | byt y =>
    obtain ⟨t, rfl⟩ := rx
    obtain ⟨hy, e'⟩ : y.size ≤ sizeLine ∧ k = ((y.size : Int) != 0) := e
    subst e'
    exact PySem.W.truthy_bytes (by lia) ⟨H, I.tok _, q⟩
  | ref p =>
    cases rx
    have e' : (∃ xs, SqL X.K H p xs ∧ k = !xs.isEmpty) ∨ (∃ xs, SqT X.K H p xs ∧ k = !xs.isEmpty) ∨ ∃ kvs, H p = some (.dK kvs) ∧ k = !kvs.isEmpty := e
    rcases e' with ⟨xs, hx, e'⟩ | ⟨xs, hx, e'⟩ | ⟨kvs, hx, e'⟩
    · subst e'
      obtain ⟨its, r, pl, hz⟩ := I.list hx
      have hlen := r.length
      exact wpAny_truthy_list pl.isList (by simp only [List.size_toArray]; lia) ⟨H, I.tok _, by rw [isEmpty_of r]; exact q⟩
    · subst e'
      obtain ⟨its, r, pl, hz⟩ := I.tuple hx
      have hlen := r.length
      exact truthy_tuple pl (by simp only [List.size_toArray]; lia) ⟨H, I.tok _, by rw [isEmpty_of r]; exact q⟩
    · subst e'
      obtain ⟨hz, hS, vs, r, m⟩ : kvs.length ≤ sizeLine ∧ (p == sysModules) = false ∧ ∃ vs, KV kvs vs ∧ s.heap.DictOf (mixKind X.prog X.w) p vs := I.hok p _ hx
      have hlen : kvs.length = vs.length := Paired.length r
      exact wpAny_truthy_dict hS m (by lia) ⟨H, I.tok _, by rw [isEmpty_kv r]; exact q⟩
  | _ => exact (show False from e).elim
theorem pt_truth (ha : PE X a ta) (he : ∀ whole, isTrue a X.env whole = (do let v ← whole; standAt a.pos; holding [v] (truthy v))) :
    PT X a (fun σ H Q => ta σ H fun x H' => ∃ k, TruV X.K x H' k ∧ Q k H') := by
  intro pins s σ H Q I h
  exact isTrue_plain (thn (ha pins s σ H _ I h) fun v s1 ⟨x, H1, I1, r1, q1⟩ => tru_ok pins s1 σ H1 x v Q I1 r1 q1) (he _)
theorem op_add_str : OpR X (binaryOp .Add) (fun x y H Q => ∃ i j, x = .str i ∧ y = .str j ∧ i.length + j.length ≤ sizeLine ∧ Q (.str (i ++ j)) H) := by
  intro pins s σ H x y v u Q I rx ry h
  obtain ⟨i, j, rfl, rfl, hz, q⟩ := h
  obtain ⟨t, rfl⟩ := rx
  obtain ⟨t', rfl⟩ := ry
  exact add_str (fun t' tk => ⟨.str (i ++ j), H, I.tok _, ⟨_, rfl⟩, q⟩) hz
theorem vals1 {x : V} {us : List Value} (r : Vals [x] us) : ∃ u, us = [u] ∧ RelV x u := by
  cases r with
  | cons r1 r2 => cases r2; exact ⟨_, rfl, r1⟩
theorem vals2 {x y : V} {us : List Value} (r : Vals [x, y] us) : ∃ u w', us = [u, w'] ∧ RelV x u ∧ RelV y w' := by
  cases r with
  | cons r1 r2 =>
    cases r2 with
    | cons r3 r4 => cases r4; exact ⟨_, _, rfl, r1, r3⟩
theorem call_abs : CallR X (.builtin "abs") (fun xs H Q => ∃ i, xs = [.int i] ∧ Q (.int (if i < 0 then -i else i)) H) := by
  intro pins s σ H xs us Q I r h
  obtain ⟨i, rfl, q⟩ := h
  obtain ⟨u, rfl, t, rfl⟩ := vals1 r
  exact call_abs_int fun u tk => ⟨.int (if i < 0 then -i else i), H, I.tok _, ⟨_, rfl⟩, q⟩
theorem call_max2 (hc : X.calm = true) : CallR X (.builtin "max") (fun xs H Q => ∃ i j, xs = [.int i, .int j] ∧ Q (.int (if j > i then j else i)) H) := by
  intro pins s σ H xs us Q I r h
  obtain ⟨i, j, rfl, q⟩ := h
  obtain ⟨u, w', rfl, ⟨t, rfl⟩, ⟨t', rfl⟩⟩ := vals2 r
  refine max_two_ints (I.ok.hd hc) fun h' tk k => ⟨_, H, I.kept k, ?_, q⟩
  by_cases hj : j > i
  · rw [if_pos hj, if_pos hj]; exact ⟨_, rfl⟩
  · rw [if_neg hj, if_neg hj]; exact ⟨_, rfl⟩
theorem call_min2 (hc : X.calm = true) : CallR X (.builtin "min") (fun xs H Q => ∃ i j, xs = [.int i, .int j] ∧ Q (.int (if j < i then j else i)) H) := by
  intro pins s σ H xs us Q I r h
  obtain ⟨i, j, rfl, q⟩ := h
  obtain ⟨u, w', rfl, ⟨t, rfl⟩, ⟨t', rfl⟩⟩ := vals2 r
  refine min_two_ints (I.ok.hd hc) fun h' tk k => ⟨_, H, I.kept k, ?_, q⟩
  by_cases hj : j < i
  · rw [if_pos hj, if_pos hj]; exact ⟨_, rfl⟩
  · rw [if_neg hj, if_neg hj]; exact ⟨_, rfl⟩
theorem call_int1 : CallR X (.type "int") (fun xs H Q => (∃ i, xs = [.int i] ∧ Q (.int i) H) ∨ ∃ k, xs = [.bl k] ∧ Q (.int (if k then 1 else 0)) H) := by
  intro pins s σ H xs us Q I r h
  rcases h with ⟨i, rfl, q⟩ | ⟨k, rfl, q⟩
  · obtain ⟨u, rfl, t, rfl⟩ := vals1 r
    exact call_int_int ⟨.int i, H, I, ⟨_, rfl⟩, q⟩
  · obtain ⟨u, rfl, r1⟩ := vals1 r
    cases r1
    exact call_int_bool ⟨.int (if k then 1 else 0), H, I.tok _, ⟨_, rfl⟩, q⟩
theorem call_str_int : CallR X (.type "str") (fun xs H Q => ∃ i, xs = [.int i] ∧ i.natAbs.log2 < 1920 ∧ Q (.str (toString i)) H) := by
  intro pins s σ H xs us Q I r h
  obtain ⟨i, rfl, hz, q⟩ := h
  obtain ⟨u, rfl, t, rfl⟩ := vals1 r
  exact PySem.P.str_of_int hz ⟨.str _, H, I.tok _, ⟨_, rfl⟩, q⟩
end
end L2
namespace L2
open PySem PySem.Spec PyProof.Rows
structure ObjM (h : Heap) (x dx C : Addr) (mA : Str → Option Value) : Prop where
  obj : h.get? x = some (PySem.W.instObj C dx)
  ns : h.Ns1 dx mA
  ne : dx ≠ x
section
variable {prog : Program} {w : World} {A : Around} {E : Value → Shared → Prop} {s : Shared} {K : PySem.W.Frag} {x dx C f : Addr} {mA : Str → Option Value} {name : Str} {v : Value}
end
section
variable {P : Program} {w : World} {H H' : Hp} {h h' : Heap} {a C dx : Addr} {fs fs' : List (Str × V)}
end
structure Cls (K : PySem.W.Frag) (C : Addr) : Prop where
  pg : PySem.W.plainGet K C Str.empty = true
  hd : PySem.W.hasDictIn K C = true
  po : PySem.W.plainOver K C = true
  sa : PySem.W.findIn K (.ref C) "__setattr__" = some (some (.builtin "object.__setattr__"))
structure Con (K : PySem.W.Frag) (C : Addr) (f : Str) (v : V) (u : Value) : Prop where
  at_ : PySem.W.findIn K (.ref C) f = some (some u)
  rel : RelV v u
  get : PySem.W.specialIn K u "__get__" = some none
  cp : PySem.W.copiedNames.contains f = false
structure Meth (K : PySem.W.Frag) (C : Addr) (m : Str) (f : Addr) : Prop where
  at_ : PySem.W.findIn K (.ref C) m = some (some (.ref f))
  fn : PySem.W.isFn K (.ref f) = true
  kp : PySem.W.keepIn K (.ref f) = true
section
variable {X : Cx} {pins : List (Addr × Obj)} {σ : St} {H : Hp} {s : Shared} {a C dx : Addr} {fs : List (Str × V)} {f : Str} {v : V} {A : Around} {E : Value → Shared → Prop}
end
section
variable {X : Cx} {o e value : Expr} {f : Str} {pos pos' tpos : Pos} {ta tv : TE}
end
section
variable {X : Cx} {pins : List (Addr × Obj)} {σ : St} {H : Hp} {s : Shared} {A : Around} {E : Value → Shared → Prop} {Q : Value → Shared → Prop} {c : Value} {b : Bool}
inductive TyOf (K : PySem.W.Frag) (H : Hp) : V → Value → Prop where
  | non : TyOf K H .non (.type "NoneType")
  | bl (x : Bool) : TyOf K H (.bl x) (.type "bool")
  | int (i : Int) : TyOf K H (.int i) (.type "int")
  | str (x : Str) : TyOf K H (.str x) (.type "str")
  | flt (x : UInt64) : TyOf K H (.flt x) (.type "float")
  | lst {a : Addr} {xs : List V} (e : H a = some (.lst xs)) : TyOf K H (.ref a) (.type "list")
  | frz {a : Addr} {o : Obj} {xs : List V} (e : H a = some (.frz o (.lst xs))) : TyOf K H (.ref a) (.type "list")
  | tup {a : Addr} {xs : List V} (e : H a = some (.tup xs)) : TyOf K H (.ref a) (.type "tuple")
  | dK {a : Addr} {kvs : List (Key × V)} (e : H a = some (.dK kvs)) : TyOf K H (.ref a) (.type "dict")
  | dT {a : Addr} {kvs : List (List Key × V)} (e : H a = some (.dT kvs)) : TyOf K H (.ref a) (.type "dict")
  | ins {a C dx : Addr} {fs : List (Str × V)} (e : H a = some (.ins C dx fs)) (cl : Cls K C) (ha : PySem.W.findIn K (.ref C) "__class__" = some (some (.builtin "object.__class__")))
      (hn : PySem.W.specialIn K (.builtin "object.__class__") "__get__" = some (some (.builtin "getset_descriptor.__get__"))) (htk : PySem.W.takesIn K (.builtin "object.__class__") = some true)
      (hm : PySem.W.mroIn K C (.type "object") = some true) : TyOf K H (.ref a) (.ref C)
end
end L2
namespace L2
open PySem PySem.Spec PyProof.Rows
structure Room (k : Nat) (A : Around) : Prop where
  hd : A.handled = none
  dp : A.depth + 3 * k + 5 < recursionLimit
  un : A.units + 16 * k + 200 < cLine
theorem Room.mono {j k : Nat} {A : Around} (r : Room k A) (h : j ≤ k) : Room j A := ⟨r.hd, by have := r.dp; lia, by have := r.un; lia⟩
theorem Room.deeper {k : Nat} {A : Around} (r : Room (k + 1) A) (env : Env) : Room k (A.deeper env) :=
  ⟨r.hd, by have := r.dp; show A.depth + 1 + 3 * k + 5 < _; lia, by have := r.un; show A.units + 3 + 16 * k + 200 < _; lia⟩
theorem Room.depth {k : Nat} {A : Around} (r : Room k A) : A.depth < recursionLimit := by have := r.dp; lia
theorem Room.units {k : Nat} {A : Around} (r : Room k A) : A.units + 64 < cLine := by have := r.un; lia
theorem Room.units0 {k : Nat} {A : Around} (r : Room k A) : A.units < cLine := by have := r.un; lia
noncomputable def tNil : TA := fun _ H Q => Q [] H
noncomputable def tCons (ta : TE) (tr : TA) : TA := fun σ H Q => ta σ H fun x H1 => tr σ H1 fun xs H2 => Q (x :: xs) H2
section
variable {X : Cx} {e : Expr} {es : List Expr} {te : TE} {t : TA} {pos : Pos}
theorem pa_nil : PA X [] tNil := fun _ _ _ _ H Q I h => Calls.spliced_nil ⟨[], H, I, .nil, h⟩
theorem pa_cons (ha : PE X e te) (hr : PA X es t) (hs : starEach (e :: es) X.env = (false, eval e X.env) :: starEach es X.env := by rfl) : PA X (e :: es) (tCons te t) := by
  intro pos pins s σ H Q I h
  rw [hs]
  show wpAny _ _ (spliced ((false, eval e X.env) :: backTo pos (starEach es X.env))) _ _ s
  refine Calls.spliced_cons (thn (ha pins s σ H _ I h) fun u s1 ⟨x, H1, I1, r1, q1⟩ => ?_)
  exact thn (hr pos pins s1 σ H1 _ I1 q1) fun us s2 ⟨xs, H2, I2, r2, q2⟩ => ⟨x :: xs, H2, I2, .cons r1 r2, q2⟩
noncomputable def tTup (t : TA) : TE := fun σ H Q => t σ H fun xs H1 => xs.length ≤ sizeLine ∧ ∀ p, H1 p = none → Q (.ref p) (upd H1 p (.tup xs))
noncomputable def tLst (t : TA) : TE := fun σ H Q => t σ H fun xs H1 => xs.length ≤ sizeLine ∧ ∀ p, H1 p = none → Q (.ref p) (upd H1 p (.lst xs))
theorem pe_tup {x1} (h : PA X es t) : PE X (.Tuple es x1 pos) (tTup t) := by
  intro pins s σ H Q I hq
  refine wpAny_Tuple_spliced (thn (h pos pins s σ H _ I hq) fun us s1 ⟨xs, H1, I1, r, z, q⟩ => ⟨by rw [← r.length]; exact z, ?_⟩)
  have hf : H1 s1.heap.objs.size = none := I1.hok.fresh (Nat.le_refl _)
  refine ⟨.ref s1.heap.objs.size, upd H1 s1.heap.objs.size (.tup xs), I1.laid (t' := s1.toks) (fun b u e => Heap.get?_push_of_some _ e) (Nat.le_refl _) ?_, rfl, q _ hf⟩
  exact ⟨z, us, r, ⟨_, Heap.get?_push_size _ rfl, rfl, _, rfl⟩⟩
theorem pe_lst (h : PA X es t) : PE X (.List es pos) (tLst t) := by
  intro pins s σ H Q I hq
  refine wpAny_List_spliced (thn (h pos pins s σ H _ I hq) fun us s1 ⟨xs, H1, I1, r, z, q⟩ => ⟨by rw [← r.length]; exact z, ?_⟩)
  have hf : H1 s1.heap.objs.size = none := I1.hok.fresh (Nat.le_refl _)
  refine ⟨.ref s1.heap.objs.size, upd H1 s1.heap.objs.size (.lst xs), I1.laid (t' := s1.toks) (fun b u e => Heap.get?_push_of_some _ e) (Nat.le_refl _) ?_, rfl, q _ hf⟩
  exact ⟨z, us, 0, r, Heap.get?_push_size _ rfl⟩
end
noncomputable abbrev Sp := List V → Hp → VK → XK → Prop
noncomputable abbrev CXT := List Env → Hp → Shared → XK → Value → Shared → Prop
structure Env0 (P : Program) (w : World) (K : PySem.W.Frag) (mg : Str → Option Value) (base : Heap) (A : Around) (outer : List Env) (s : Shared) (H : Hp) : Prop where
  frames : A.frames = some outer
  mod : Mod K mg base
  bs : ∀ b o, base.get? b = some o → s.heap.get? b = some o ∧ H b = none
  bsz : base.objs.size ≤ s.heap.objs.size
  funs : s.heap.FunFrames base outer
  frf : ∀ b ∈ frs outer, H b = none
  hok : HOk P w H s.heap
  bare : AllBare s.gens
noncomputable def CE (outer : List Env) (P : Program) (w : World) (H : Hp) (s : Shared) (Q : VK) (u : Value) (s' : Shared) : Prop :=
  ∃ v H', s'.os = s.os ∧ AllBare s'.gens ∧ Un (frs outer) [] H H' s.heap s'.heap ∧ HOk P w H' s'.heap ∧ RelV v u ∧ Q v H'
noncomputable def CR (CX : CXT) (outer : List Env) (P : Program) (w : World) (H : Hp) (s : Shared) (Q : VK) (E : XK) (r : Result) (s' : Shared) : Prop :=
  match r with
  | .ok (.ret u) => CE outer P w H s Q u s'
  | .ok _ => False
  | .error e => CX outer H s E e s'
structure FnOk (P : Program) (w : World) (K : PySem.W.Frag) (mg : Str → Option Value) (base : Heap) (CX : CXT) (k : Nat) (f : Addr) (fd : FuncData) (ps : List Str) (sp : Sp) : Prop where
  len : ∀ vs H Q E, sp vs H Q E → vs.length = ps.length
  run : ∀ (A : Around) (outer : List Env) (s : Shared) (H : Hp) (args : Args) (us : List Value) (vs : List V) (Q : VK) (E : XK), Room k A → Env0 P w K mg base A outer s H → BindsTo s fd args (ps.zip us) → Vals vs us → sp vs H Q E →
    codeAny (model P w) A (.call (.ref f) args) (CR CX outer P w H s Q E) s
theorem FnOk.mono {P : Program} {w : World} {K : PySem.W.Frag} {mg : Str → Option Value} {base : Heap} {CX : CXT} {j k : Nat} {f : Addr} {fd : FuncData} {ps : List Str} {sp : Sp} (F : FnOk P w K mg base CX j f fd ps sp) (h : j ≤ k) :
    FnOk P w K mg base CX k f fd ps sp := ⟨F.len, fun A outer s H args us vs Q E hr => F.run A outer s H args us vs Q E (hr.mono h)⟩
section
variable {X : Cx} {pins : List (Addr × Obj)} {σ : St} {H : Hp} {s s' : Shared}
theorem Inv.env0 (I : Inv X pins σ H s) : Env0 X.prog X.w X.K X.mg X.base X.A X.stack s H :=
  ⟨I.ok.frames, I.ok.mod, I.bs, Nat.le_trans I.ok.bsz I.sz, I.stack, I.stkFree, I.hok, I.bare⟩
theorem Inv.after {Q : VK} {u : Value} (I : Inv X pins σ H s) (h : CE X.stack X.prog X.w H s Q u s') : EP X pins σ Q u s' := by
  obtain ⟨v, H', os, bare, un, hok, r, q⟩ := h
  obtain ⟨hh, g, d, t, os'⟩ := s'
  obtain rfl : os' = s.os := os
  exact ⟨v, H', I.call (h' := hh) (g' := g) (d' := d) (t' := t) (ch := []) un hok bare (fun b z => absurd z (by simp)), r, q⟩
end
noncomputable def tCall (sp : Sp) (dvs : List V) (E : XK) (t : TA) : TE := fun σ H Q => t σ H fun vs H1 => sp (vs ++ dvs) H1 Q E
noncomputable def Binds (K : PySem.W.Frag) (fd : FuncData) (ps : List Str) (ds : List Value) : Prop :=
  ∀ (s : Shared) (us : List Value), K.In s.heap → (us ++ ds).length = ps.length → BindsTo s fd ⟨us, []⟩ (ps.zip (us ++ ds))
theorem Binds.all {K : PySem.W.Frag} {fd : FuncData} {ps : List Str} (h : ∀ us : List Value, us.length = ps.length → bindArgs fd ⟨us, []⟩ = pure (ps.zip us)) : Binds K fd ps [] := fun s us _ hl => by
  rw [List.append_nil] at hl ⊢
  exact .of_eq (h us hl)
noncomputable def Passes (CX : CXT) (X : Cx) (E : XK) : Prop := ∀ (pins : List (Addr × Obj)) (σ : St) (H : Hp) (s : Shared) (e : Value) (s' : Shared), Inv X pins σ H s → CX X.stack H s E e s' → X.xe e s'
section
variable {X : Cx} {CX : CXT} {k : Nat} {f C : Addr} {fd : FuncData} {ps : List Str} {sp : Sp} {dvs : List V} {ds : List Value} {E : XK} {x m : Str} {p pos apos : Pos} {e o : Expr} {es : List Expr} {ta : TE} {t : TA}
theorem run_fn {pins : List (Addr × Obj)} {σ : St} {H : Hp} {s : Shared} {Q : VK} {us : List Value} {vs : List V} (F : FnOk X.prog X.w X.K X.mg X.base CX k f fd ps sp) (hr : Room k X.A) (hb : Binds X.K fd ps ds) (hd : Vals dvs ds) (hx : Passes CX X E)
    (I : Inv X pins σ H s) (r : Vals vs us) (h : sp (vs ++ dvs) H Q E) : wpAny (model X.prog X.w) X.A (call (.ref f) us) (EP X pins σ Q) X.xe s := by
  have r2 : Vals (vs ++ dvs) (us ++ ds) := r.append hd
  have hl : (us ++ ds).length = ps.length := by rw [← r2.length]; exact F.len _ _ _ _ h
  refine wpAny_call (codeAny_mono (F.run X.A X.stack s H ⟨us, []⟩ (us ++ ds) (vs ++ dvs) Q E hr I.env0 (hb s us I.kIn hl) r2 h) fun r s' hq => ?_)
  cases r with
  | error e => exact hx pins σ H s e s' I hq
  | ok fl =>
    cases fl with
    | ret u => exact I.after hq
    | next => exact False.elim hq
    | brk => exact False.elim hq
    | cont => exact False.elim hq
theorem pe_call (F : FnOk X.prog X.w X.K X.mg X.base CX k f fd ps sp) (hr : Room k X.A) (hg : Gl X x) (hm : X.mg x = some (.ref f)) (hk : PySem.W.keepIn X.K (.ref f) = true) (hb : Binds X.K fd ps ds) (hd : Vals dvs ds) (hx : Passes CX X E)
    (ha : PA X (e :: es) t) (hdb : (x == ("__debug__" : Str)) = false := by decide) (he : starEach (e :: es) X.env = (false, eval e X.env) :: starEach es X.env := by rfl) (hpl : (backTo pos (starEach es X.env)).any (·.1) = false := by rfl) :
    PE X (.Call (.Name x p) (e :: es) [] pos) (tCall sp dvs E t) := by
  intro pins s σ H Q I h
  refine wpAny_Call_Name_kw (ld_glob I hg hm ?_ hdb)
  refine PySem.W.callWith_K (h₀ := X.base) I.ok.mod.kin hk (thn (ha pos pins s σ H _ I h) fun us s1 ⟨vs, H1, I1, r, q⟩ => ⟨I1.kIn, ?_⟩) he hpl
  exact run_fn F hr hb hd hx I1 r q
structure Mk (K : PySem.W.Frag) (C f : Addr) : Prop where
  makes : PySem.W.makesIn K C = true
  init : PySem.W.findIn K (.ref C) "__init__" = some (some (.ref f))
  fn : PySem.W.isFn K (.ref f) = true
  kp : PySem.W.keepIn K (.ref C) = true
end
section
variable {X : Cx} {CX : CXT} {k : Nat} {f C : Addr} {fd : FuncData} {ps ks : List Str} {sp : Sp} {E : XK} {x m : Str} {p pos apos kpos : Pos} {e o : Expr} {es : List Expr} {kws : List Keyword} {te ta : TE} {t tk : TA} {nm : Option Str}
structure KBinds (K : PySem.W.Frag) (fd : FuncData) (ps ks : List Str) (g : List Value → List Value → List Value) (gV : List V → List V → List V) : Prop where
  to : ∀ (s : Shared) (us ws : List Value), K.In s.heap → (g us ws).length = ps.length → BindsTo s fd ⟨us, ks.zip ws⟩ (ps.zip (g us ws))
  rel : ∀ {vs : List V} {us : List Value} {zs : List V} {ws : List Value}, Vals vs us → Vals zs ws → Vals (gV vs zs) (g us ws)
variable {g : List Value → List Value → List Value} {gV : List V → List V → List V}
end
structure FnScope (N P : List Str) (sc : Scope) : Prop where
  kind : sc.kind = .function
  co : sc.isCoroutine = false
  gen : sc.isGenerator = false
  nd : N.Nodup
  pre : N.take P.length = P
  par : ∀ x ∈ P, sc.names.lookup x = some .local ∨ sc.names.lookup x = some .cell
  nofree : ∀ y ∈ sc.names, y.2 ≠ .free
theorem bindL_out {kindOf : Str → Option NameKind} {x : Str} : ∀ {binds : List (Str × Value)} {m : Str → Option Value}, (∀ v, (x, v) ∉ binds) → bindL kindOf binds m x = m x
  | [], _, _ => rfl
  | (n, v) :: r, m, h => by
    unfold bindL
    rw [bindL_out fun w hw => h w (List.mem_cons_of_mem _ hw)]
    split
    · have : x ≠ n := by rintro rfl; exact h v List.mem_cons_self
      simp [this]
    · rfl
theorem bindC_out {kindOf : Str → Option NameKind} {x : Str} : ∀ {binds : List (Str × Value)} {m : Str → Option Value}, (∀ v, (x, v) ∉ binds) → bindC kindOf binds m x = m x
  | [], _, _ => rfl
  | (n, v) :: r, m, h => by
    unfold bindC
    rw [bindC_out fun w hw => h w (List.mem_cons_of_mem _ hw)]
    split
    · rfl
    · have : x ≠ n := by rintro rfl; exact h v List.mem_cons_self
      simp [this]
theorem bindL_get {kindOf : Str → Option NameKind} {x : Str} {v : Value} : ∀ {P : List Str} {vs : List Value} {i : Nat} {m : Str → Option Value}, P.Nodup → P[i]? = some x → vs[i]? = some v → kindOf x = some .local →
    bindL kindOf (P.zip vs) m x = some v
  | [], _, _, _, _, h, _, _ => by simp at h
  | _ :: _, [], _, _, _, _, h, _ => by simp at h
  | p :: P, w :: vs, 0, m, nd, h1, h2, hk => by
    simp at h1 h2; subst h1; subst h2
    show bindL kindOf ((p, w) :: P.zip vs) m p = _
    unfold bindL
    rw [bindL_out fun v hv => (List.nodup_cons.mp nd).1 (List.of_mem_zip hv).1, if_pos hk]
    simp
  | p :: P, w :: vs, i + 1, m, nd, h1, h2, hk => by
    show bindL kindOf ((p, w) :: P.zip vs) m x = _
    unfold bindL
    exact bindL_get (i := i) (List.nodup_cons.mp nd).2 (by simpa using h1) (by simpa using h2) hk
theorem bindC_get {kindOf : Str → Option NameKind} {x : Str} {v : Value} : ∀ {P : List Str} {vs : List Value} {i : Nat} {m : Str → Option Value}, P.Nodup → P[i]? = some x → vs[i]? = some v → kindOf x ≠ some .local →
    bindC kindOf (P.zip vs) m x = some v
  | [], _, _, _, _, h, _, _ => by simp at h
  | _ :: _, [], _, _, _, _, h, _ => by simp at h
  | p :: P, w :: vs, 0, m, nd, h1, h2, hk => by
    simp at h1 h2; subst h1; subst h2
    show bindC kindOf ((p, w) :: P.zip vs) m p = _
    unfold bindC
    rw [bindC_out fun v hv => (List.nodup_cons.mp nd).1 (List.of_mem_zip hv).1, if_neg hk]
    simp
  | p :: P, w :: vs, i + 1, m, nd, h1, h2, hk => by
    show bindC kindOf ((p, w) :: P.zip vs) m x = _
    unfold bindC
    exact bindC_get (i := i) (List.nodup_cons.mp nd).2 (by simpa using h1) (by simpa using h2) hk
noncomputable def start (N : List Str) (vs : List V) : St := vs.map some ++ List.replicate (N.length - vs.length) none
noncomputable def cxOf (CX : CXT) (P : Program) (w : World) (K : PySem.W.Frag) (mg : Str → Option Value) (base : Heap) (N : List Str) (qual : Str) (scope : Scope) (f : Addr) (cd : Value) (A : Around) (outer : List Env) (s : Shared) (H : Hp) (E : XK) : Cx where
  prog := P
  w := w
  K := K
  mg := mg
  base := base
  A := A.deeper (envOfC qual scope s.heap.objs.size f cd)
  N := N
  s₀ := s
  H₀ := H
  env := envOfC qual scope s.heap.objs.size f cd
  outer := outer
  stack := envOfC qual scope s.heap.objs.size f cd :: outer
  ex := []
  calm := true
  fn := fun _ => true
  pn := []
  xe := fun e s' => wpAny (model P w) (A.deeper (envOfC qual scope s.heap.objs.size f cd)) (leaving (envOfC qual scope s.heap.objs.size f cd) e) (fun _ s'' => CX outer H s E e s'') (fun e' s'' => CX outer H s E e' s'') s'
theorem cell_has {sc : Scope} {n : Nat} {x : Str} (h : sc.names.lookup x = some .cell) : ∃ c, (cellsFrom n sc.names []).lookup x = some c := by
  have q := PySem.W.cellsFrom_some sc.names n [] (.inl h)
  exact Option.isSome_iff_exists.mp q
theorem inv_start {CX : CXT} {P : Program} {w : World} {K : PySem.W.Frag} {mg : Str → Option Value} {base : Heap} {N ps : List Str} {qual : Str} {scope : Scope} {f : Addr} {cd : Value} {A : Around} {outer : List Env} {s s1 : Shared} {H : Hp} {E : XK} {us : List Value} {vs : List V}
    (S : FnScope N ps scope) (hd : A.handled = none) (e0 : Env0 P w K mg base A outer s H) (hl : vs.length = ps.length) (r : Vals vs us)
    (x : InCallC s s.heap.objs.size (bindL (envOfC qual scope s.heap.objs.size f cd).kindOf (ps.zip us) fun _ => none) (cellsFrom (s.heap.objs.size + 1) scope.names []) (bindC (envOfC qual scope s.heap.objs.size f cd).kindOf (ps.zip us) fun _ => none) s1) :
    Inv (cxOf CX P w K mg base N qual scope f cd A outer s H E) [] (start N vs) H s1 := by
  have hpl : ps.length ≤ N.length := by have := congrArg List.length S.pre; rw [List.length_take] at this; lia
  obtain ⟨h1, tk, rfl, hk⟩ := x.done
  have noA : ∀ b : Addr, b ∉ (cxOf CX P w K mg base N qual scope f cd A outer s H E).ex := fun b z => absurd (show b ∈ ([] : List Addr) from z) (by simp)
  refine ⟨⟨e0.mod, S.kind, rfl, rfl, Nat.le_refl _, fun y z c h1 h2 => ?_, fun y hy => ?_, fun y c _ h => ?_, fun _ => hd, Around.frames_deeper e0.frames, .inr ⟨rfl, rfl⟩, fun b z => absurd z (noA b), e0.bs, e0.bsz, fun b _ _ => noA b, fun b z => absurd z (noA b), e0.funs, e0.frf⟩,
    rfl, e0.bare, Un.kept hk, ⟨_, x.toInCall.ns, fun i y v h1 h2 h3 => ?_⟩, fun y c h => ⟨_, x.cell y c h⟩, e0.hok.fresh (Nat.le_refl _), fun y c h => ?_, fun p hp => absurd (show p ∈ ([] : List (Addr × Obj)) from hp) (by simp), e0.hok.kept hk, ?_⟩
  · exact name_of_addr x.apart (PySem.mem_of_lookup h1) (PySem.mem_of_lookup h2)
  · have hy : scope.names.lookup y = some .cell ∨ scope.names.lookup y = some .free := hy
    rcases hy with hy | hy
    · exact cell_has hy
    · exact absurd rfl (S.nofree _ (PySem.mem_of_lookup hy))
  · exact Nat.le_of_lt (x.above y c (PySem.mem_of_lookup h))
  · have hi : i < vs.length := by
      unfold start at h2
      by_cases hi : i < vs.length
      · exact hi
      · rw [List.getElem?_append_right (by simpa using hi)] at h2
        rw [List.getElem?_replicate] at h2
        split at h2 <;> cases h2
    have ha : vs[i]? = some v := by
      unfold start at h2
      rw [List.getElem?_append_left (by simpa using hi), List.getElem?_map] at h2
      cases e : vs[i]? with
      | none => rw [e] at h2; cases h2
      | some a => rw [e] at h2; cases h2; rfl
    obtain ⟨u, hu, rv⟩ := r.get ha
    have hp : ps[i]? = some y := by
      rw [← S.pre, List.getElem?_take_of_lt (by lia)]; exact h1
    have ndP : ps.Nodup := by rw [← S.pre]; exact S.nd.sublist (List.take_sublist _ _)
    refine ⟨u, rv, ?_⟩
    rcases S.par y (List.mem_of_getElem? hp) with k | k
    · exact .inl ⟨k, bindL_get ndP hp hu k⟩
    · obtain ⟨c, e⟩ := cell_has (n := s.heap.objs.size + 1) k
      refine .inr ⟨.inl k, c, e, ?_⟩
      have q := x.cell y c e
      rw [bindC_get ndP hp hu (by show scope.names.lookup y ≠ _; rw [k]; decide)] at q
      exact q
  · exact e0.hok.fresh (Nat.le_of_lt (x.above y c (PySem.mem_of_lookup h)))
  · unfold start
    show _ = N.length
    rw [List.length_append, List.length_map, List.length_replicate]
    lia
theorem fn_of {CX : CXT} {P : Program} {w : World} {K : PySem.W.Frag} {mg : Str → Option Value} {base : Heap} {k : Nat} {f : Addr} {name qual : Str} {params : Arguments} {body : List Stmt} {scope : Scope} {dV kV doc pm cdv ct oc : Value} {an od : Option Addr}
    {osl : Array (Option Value)} {N ps : List Str} {sp : Sp} (lk : K.lookup f = some ⟨oc, od, .func (PySem.W.fnOf name qual params body scope dV kV doc pm an cdv ct), osl⟩) (hcd : PySem.W.codeIn K cdv qual = true) (S : FnScope N ps scope)
    (len : ∀ vs H Q E, sp vs H Q E → vs.length = ps.length)
    (hbody : ∀ (A : Around) (outer : List Env) (s : Shared) (H : Hp) (vs : List V) (Q : VK) (E : XK), Room k (A.deeper (envOfC qual scope s.heap.objs.size f cdv)) → sp vs H Q E →
      ∃ t, PSs (cxOf CX P w K mg base N qual scope f cdv A outer s H E) body t ∧ t { nx := fun _ H' => Q .non H', rt := Q } (start N vs) H) :
    FnOk P w K mg base CX (k + 1) f (PySem.W.fnOf name qual params body scope dV kV doc pm an cdv ct) ps sp := by
  refine ⟨len, fun A outer s H args us vs Q E hr e0 hb r hsp => ?_⟩
  have hl := len _ _ _ _ hsp
  have KX : K.In s.heap := e0.mod.kin.keeps fun b o e => (e0.bs b o e).1
  have lim : s.heap.NoLimit := e0.mod.nolimit.keeps fun b o e => (e0.bs b o e).1
  have hkind : ∀ y ∈ ps.zip us, scope.names.lookup y.1 = some .local ∨ (scope.names.lookup y.1 = some .cell ∧ ((cellsFrom (s.heap.objs.size + 1) scope.names []).lookup y.1).isSome = true) := fun ⟨n, v⟩ hy => by
    rcases S.par n (List.of_mem_zip hy).1 with q | q
    · exact .inl q
    · exact .inr ⟨q, PySem.W.cellsFrom_some _ _ _ (.inl q)⟩
  refine codeAny_call_function hr.depth (KX _ _ lk) rfl S.co S.gen rfl (PySem.W.codeRec_of KX hcd) (hb _ _ _ _ ?_)
  refine wpAny_newFunctionEnv_cells S.kind hkind fun env he s1 x => ?_
  subst he
  refine ⟨lim.keeps x.toInCall.keep, codeAny_func ?_⟩
  obtain ⟨t, ht, hq⟩ := hbody A outer s H vs Q E (hr.deeper _) hsp
  have I : Inv (cxOf CX P w K mg base N qual scope f cdv A outer s H E) [] (start N vs) H s1 := inv_start S hr.hd e0 hl r x
  refine wpAny_mono (ht [] s1 (start N vs) H _ I hq) (fun fl s' hs => ?_) fun e s' hs => hs
  have fin : ∀ {σ' : St} {H' : Hp} {v : V} {u : Value}, Inv (cxOf CX P w K mg base N qual scope f cdv A outer s H E) [] σ' H' s' → RelV v u → Q v H' → CE outer P w H s Q u s' :=
    fun {σ' H' v u} J rv q => ⟨v, H', J.os, J.bare, J.base, J.hok, rv, q⟩
  cases fl with
  | ret u =>
    obtain ⟨v, σ', H', J, rv, q⟩ := hs
    exact fin J rv q
  | next =>
    obtain ⟨σ', H', J, q⟩ := hs
    exact fin (v := V.non) (u := Value.none) J rfl q
  | brk =>
    obtain ⟨_, _, _, q⟩ := hs
    exact False.elim q
  | cont =>
    obtain ⟨_, _, _, q⟩ := hs
    exact False.elim q
end L2
namespace L2
open PySem PySem.Spec PyProof.Rows
section
variable {X : Cx} {x : Str} {p pos : Pos} {e : Expr} {es : List Expr} {t : TA} {id T : String} {r : List V → Hp → VK → Prop}
noncomputable def tCB (r : List V → Hp → VK → Prop) (t : TA) : TE := fun σ H Q => t σ H fun vs H1 => r vs H1 Q
theorem pe_callB (hc : CallR X (.builtin id) r) (hg : Gl X x) (hm : X.mg x = none) (hv : bootBuiltins x = some (.builtin id)) (ha : PA X (e :: es) t) (hn : x ≠ "__name__" := by decide) (hdb : (x == ("__debug__" : Str)) = false := by decide)
    (he : starEach (e :: es) X.env = (false, eval e X.env) :: starEach es X.env := by rfl) (hpl : (backTo pos (starEach es X.env)).any (·.1) = false := by rfl) : PE X (.Call (.Name x p) (e :: es) [] pos) (tCB r t) := by
  intro pins s σ H Q I h
  refine wpAny_Call_Name_kw (ld_blt I hg hm hv ?_ hn hdb)
  exact PyProof.Rows.callWith_builtin1 (thn (ha pos pins s σ H _ I h) fun us s1 ⟨vs, H1, I1, r1, q1⟩ => hc pins s1 σ H1 vs us Q I1 r1 q1) he hpl
theorem pe_callTy (hc : CallR X (.type T) r) (hg : Gl X x) (hm : X.mg x = none) (hv : bootBuiltins x = some (.type T)) (ha : PA X (e :: es) t) (hn : x ≠ "__name__" := by decide) (hdb : (x == ("__debug__" : Str)) = false := by decide)
    (he : starEach (e :: es) X.env = (false, eval e X.env) :: starEach es X.env := by rfl) (hpl : (backTo pos (starEach es X.env)).any (·.1) = false := by rfl) : PE X (.Call (.Name x p) (e :: es) [] pos) (tCB r t) := by
  intro pins s σ H Q I h
  refine wpAny_Call_Name_kw (ld_blt I hg hm hv ?_ hn hdb)
  exact PyProof.Rows.callWith_type1 (thn (ha pos pins s σ H _ I h) fun us s1 ⟨vs, H1, I1, r1, q1⟩ => hc pins s1 σ H1 vs us Q I1 r1 q1) he hpl
end
end L2
namespace HT
open PySem PyProof.Rows
section
open PySem.SeqAt
open PySem.AutoSeq1 (wpAny_loadPart')
open PySem.MeetsSeq PySem.MeetsSeq2 PySem.MeetsSeq3
end
section
variable {prog : Program} {w : World} {A : Around} {E : Value → Shared → Prop} {s : Shared}
noncomputable def sIx (n d : Nat) : Option Int → Nat
  | none => d
  | some v => if v < 0 then (v + (n : Int)).toNat else min v.toNat n
theorem sIx_none (n d : Nat) : sIx n d none = d := rfl
theorem sIx_nat (n d k : Nat) : sIx n d (some (k : Int)) = min k n := by
  show (if (k : Int) < 0 then ((k : Int) + (n : Int)).toNat else min (k : Int).toNat n) = min k n
  rw [if_neg (by lia), Int.toNat_natCast]
end
end HT
namespace L2
open PySem PySem.Spec PyProof.Rows
noncomputable abbrev TO := St → Hp → (Option Int → Hp → Prop) → Prop
noncomputable def PO (X : Cx) (e : Option Expr) (t : TO) : Prop :=
  ∀ (pins : List (Addr × Obj)) (s : Shared) (σ : St) (H : Hp) (Q : Option Int → Hp → Prop), Inv X pins σ H s → t σ H Q →
    wpAny (model X.prog X.w) X.A (evalPart e X.env) (fun u s' => ∃ o H', Inv X pins σ H' s' ∧ IsPart u o ∧ Q o H') X.xe s
noncomputable def tNoPart : TO := fun _ H Q => Q none H
noncomputable def tPart (t : TE) : TO := fun σ H Q => t σ H fun x H1 => ∃ i, x = .int i ∧ Q (some i) H1
theorem intsAre_of {ns : List Int} : ∀ {us : List Value}, Vals (ns.map V.int) us → IntsAre us ns := by
  induction ns with
  | nil => intro us r; rw [List.map_nil] at r; cases r; exact .nil
  | cons n ns ih =>
    intro us r
    rw [List.map_cons] at r
    cases r with
    | cons r1 r2 =>
      obtain ⟨t, e⟩ := r1
      subst e
      exact .cons n t (ih r2)
section
variable {X : Cx} {e : Expr} {te : TE} {lo hi : Option Expr} {tl th : TO} {pos p2 : Pos}
theorem po_none : PO X none tNoPart := by
  intro pins s σ H Q I h
  rw [evalPart_none]
  exact wpAny_pure ⟨none, H, I, .none, h⟩
theorem po_some (h : PE X e te) : PO X (some e) (tPart te) := by
  intro pins s σ H Q I hw
  rw [evalPart_some]
  refine thn (h pins s σ H _ I hw) fun u s1 ⟨x, H1, I1, r1, q1⟩ => ?_
  obtain ⟨i, rfl, q⟩ := q1
  obtain ⟨t, rfl⟩ := r1
  exact ⟨some i, H1, I1, .int i t, q⟩
noncomputable def SlR (X : Cx) (r : V → Option Int → Option Int → Hp → VK → Prop) : Prop :=
  ∀ (pins : List (Addr × Obj)) (s : Shared) (σ : St) (H : Hp) (x : V) (v vl vu : Value) (lo hi : Option Int) (sl : Addr) (Q : VK), Inv X pins σ H s → RelV x v → s.heap.IsSliceOf sl vl vu .none → IsPart vl lo → IsPart vu hi → r x lo hi H Q →
    ∃ T id, typeLookup (.type T) "__getitem__" = pure (some (.builtin id)) ∧ s.TypeIs v T ∧ wpAny (model X.prog X.w) X.A (getItem v (.ref sl)) (EP X pins σ Q) X.xe s
noncomputable def tSl (r : V → Option Int → Option Int → Hp → VK → Prop) (te : TE) (tl th : TO) : TE := fun σ H Q => te σ H fun x H1 => tl σ H1 fun l H2 => th σ H2 fun u H3 => r x l u H3 Q
theorem pe_slice {r : V → Option Int → Option Int → Hp → VK → Prop} (hr : SlR X r) (he : PE X e te) (hl : PO X lo tl) (hu : PO X hi th) : PE X (.Subscript e (.Slice lo hi none p2) pos) (tSl r te tl th) := by
  intro pins s σ H Q I h
  refine Subscript_ (thn (he pins s σ H _ I h) fun v s1 ⟨x, H1, I1, r1, q1⟩ => ?_)
  refine wpAny_Slice (thn (hl pins s1 σ H1 _ I1 q1) fun vl s2 ⟨l, H2, I2, pl, q2⟩ => thn (hu pins s2 σ H2 _ I2 q2) fun vu s3 ⟨u, H3, I3, pu, q3⟩ => ?_)
  rw [evalPart_none]
  refine wpAny_pure ?_
  have I4 : Inv X pins σ H3 { s3 with heap := s3.heap.push { cls := .type "slice", data := .fields #[vl, vu, .none] } } := I3.kept (t' := s3.toks) fun b ob q => Heap.get?_push_of_some _ q
  obtain ⟨T, id, hT, ht, hg⟩ := hr pins { s3 with heap := s3.heap.push { cls := .type "slice", data := .fields #[vl, vu, .none] } } σ H3 x v vl vu l u s3.heap.objs.size Q I4 r1 (Heap.IsSliceOf.new ..) pl pu q3
  show wpAny (model X.prog X.w) X.A (subscriptTail e (.Slice lo hi none p2) v (.ref s3.heap.objs.size)) (EP X pins σ Q) X.xe { s3 with heap := s3.heap.push { cls := .type "slice", data := .fields #[vl, vu, .none] } }
  exact tail_any (ops := [.ref s3.heap.objs.size, v]) ht hT hg (by with_unfolding_all rfl)
noncomputable def cutV (xs : List V) (lo hi : Option Int) : List V := (xs.drop (HT.sIx xs.length 0 lo)).take (HT.sIx xs.length xs.length hi - HT.sIx xs.length 0 lo)
theorem cutV_length (xs : List V) (lo hi : Option Int) : (cutV xs lo hi).length ≤ xs.length := by
  unfold cutV
  rw [List.length_take, List.length_drop]
  lia
end
end L2
namespace L2
open PySem PySem.Spec PyProof.Rows
noncomputable def ixN (n : Nat) (i : Int) : Option Nat := if 0 ≤ i then (if i < n then some i.toNat else none) else if -(n : Int) ≤ i then some (i + n).toNat else none
noncomputable def atI {α : Type} (xs : List α) (i : Int) : Option α := (ixN xs.length i).bind fun j => xs[j]?
theorem ixN_seq {n : Nat} {i : Int} {j : Nat} (h : ixN n i = some j) : seqIndex? i n = some j ∧ j < n ∧ -(n : Int) ≤ i ∧ i < n := by
  unfold ixN at h
  by_cases h0 : 0 ≤ i
  · rw [if_pos h0] at h
    by_cases h1 : i < n
    · rw [if_pos h1] at h
      have e : i.toNat = j := Option.some.inj h
      exact ⟨by rw [seqIndex_of h0 h1, e], by lia, by lia, h1⟩
    · rw [if_neg h1] at h; cases h
  · rw [if_neg h0] at h
    by_cases h1 : -(n : Int) ≤ i
    · rw [if_pos h1] at h
      have e : (i + n).toNat = j := Option.some.inj h
      exact ⟨by rw [seqIndex_neg (by lia) h1, e], by lia, h1, by lia⟩
    · rw [if_neg h1] at h; cases h
theorem atI_get {α : Type} {xs : List α} {i : Int} {v : α} (h : atI xs i = some v) : ∃ j, seqIndex? i xs.length = some j ∧ xs[j]? = some v ∧ j < xs.length ∧ -(xs.length : Int) ≤ i ∧ i < xs.length := by
  unfold atI at h
  cases e : ixN xs.length i with
  | none => rw [e] at h; cases h
  | some j =>
    rw [e] at h
    obtain ⟨h1, h2, h3, h4⟩ := ixN_seq e
    exact ⟨j, h1, h, h2, h3, h4⟩
theorem atI_nat {α : Type} {xs : List α} {j : Nat} {v : α} (h : xs[j]? = some v) : atI xs (j : Int) = some v := by
  have hj : j < xs.length := (List.getElem?_eq_some_iff.mp h).1
  have e : ixN xs.length (j : Int) = some j := by
    unfold ixN
    rw [if_pos (by lia), if_pos (by lia)]; simp
  unfold atI; rw [e]; exact h
noncomputable def PlainIx (b : Expr) : Prop := ∀ o i, subscripted b false o i = operate [o, i] (getItem o i)
noncomputable def IxR (X : Cx) (r : R2) : Prop :=
  ∀ (value slice : Expr) (pins : List (Addr × Obj)) (s : Shared) (σ : St) (H : Hp) (x y : V) (v u : Value) (Q : VK), Inv X pins σ H s → RelV x v → RelV y u → r x y H Q →
    subscripted slice false v u = operate [v, u] (getItem v u) → wpAny (model X.prog X.w) X.A (subscriptTail value slice v u) (EP X pins σ Q) X.xe s
noncomputable def MtR (X : Cx) (id : String) (r : V → List V → Hp → VK → Prop) : Prop :=
  ∀ (pins : List (Addr × Obj)) (s : Shared) (σ : St) (H : Hp) (x : V) (xs : List V) (v : Value) (us : List Value) (Q : VK), Inv X pins σ H s → RelV x v → Vals xs us → r x xs H Q →
    wpAny (model X.prog X.w) X.A (call (.builtin id) (v :: us)) (EP X pins σ Q) X.xe s
section
variable {X : Cx} {a b : Expr} {ta tb : TE} {pos : Pos}
theorem pe_ix {r : R2} (hr : IxR X r) (ha : PE X a ta) (hb : PE X b tb) (hs : PlainIx b) : PE X (.Subscript a b pos) (tOp r ta tb) := by
  intro pins s σ H Q I h
  exact Subscript_ (binT ha hb I h fun v u s2 x y H2 I2 rx ry q => hr a b pins s2 σ H2 x y v u Q I2 rx ry q (hs _ _))
noncomputable def rIxL (K : PySem.W.Frag) : R2 := fun x y H Q => ∃ p xs i v, x = .ref p ∧ y = .int i ∧ SqL K H p xs ∧ atI xs i = some v ∧ Q v H
noncomputable def rIxT (K : PySem.W.Frag) : R2 := fun x y H Q => ∃ p xs i v, x = .ref p ∧ y = .int i ∧ SqT K H p xs ∧ atI xs i = some v ∧ Q v H
noncomputable def rIxS : R2 := fun x y H Q => ∃ z i c, x = .str z ∧ y = .int i ∧ z.length ≤ sizeLine ∧ atI z.cps.toList i = some c ∧ Q (.str ⟨#[c]⟩) H
theorem ix_list : IxR X (rIxL X.K) := by
  intro value slice pins s σ H x y v u Q I rx ry h hs
  obtain ⟨p, xs, i, z, rfl, rfl, hq, he, q⟩ := h
  cases rx
  obtain ⟨t, rfl⟩ := ry
  obtain ⟨its, r, pl, hz⟩ := I.list hq
  obtain ⟨j, h1, h2, h3, h4, h5⟩ := atI_get he
  obtain ⟨w, ew, rw'⟩ := r.get h2
  have hl := r.length
  have hn := line63
  have fin : EP X pins σ Q w s := ⟨z, H, I, rw', q⟩
  by_cases h0 : 0 ≤ i
  · have hj : i.toNat = j := by
      rw [seqIndex_of h0 h5] at h1
      exact Option.some.inj h1
    exact item_listR pl.isList h0 (by lia) (by rw [hj]; simpa using ew) fin hs
  · have hj : (i + (its.toArray.size : Int)).toNat = j := by
      rw [seqIndex_neg (by lia) h4] at h1
      rw [List.size_toArray, ← hl]
      exact Option.some.inj h1
    exact subscriptTail_builtinR (x := w) pl.isList.typeIs slot_list_getitem.lookup
      (wpAny_getItem_list_neg (Q := fun r s' => r = w ∧ EP X pins σ Q r s') pl.isList (by lia) (by rw [List.size_toArray] <;> lia) (by lia) (by rw [hj]; simpa using ew) ⟨rfl, fin⟩) hs
theorem ix_tup : IxR X (rIxT X.K) := by
  intro value slice pins s σ H x y v u Q I rx ry h hs
  obtain ⟨p, xs, i, z, rfl, rfl, hq, he, q⟩ := h
  cases rx
  obtain ⟨t, rfl⟩ := ry
  obtain ⟨its, r, pl, hz⟩ := I.tuple hq
  obtain ⟨j, h1, h2, h3, h4, h5⟩ := atI_get he
  obtain ⟨w, ew, rw'⟩ := r.get h2
  have hl := r.length
  have hn := line63
  have fin : EP X pins σ Q w s := ⟨z, H, I, rw', q⟩
  exact subscriptTail_builtinR (x := w) pl.typeIs slot_tuple_getitem.lookup
    (getItem_tuple (j := j) (Q := fun r s' => r = w ∧ EP X pins σ Q r s') pl (by lia) (by lia) (by rw [List.size_toArray, ← hl]; exact h1) (by simpa using ew) ⟨rfl, fin⟩) hs
theorem ix_str : IxR X rIxS := by
  intro value slice pins s σ H x y v u Q I rx ry h hs
  obtain ⟨z, i, c, rfl, rfl, hz, he, q⟩ := h
  obtain ⟨t, rfl⟩ := rx
  obtain ⟨t', rfl⟩ := ry
  obtain ⟨j, h1, h2, h3, h4, h5⟩ := atI_get he
  have hl : z.cps.toList.length = z.length := by simp [Str.length]
  rw [hl] at h1 h4 h5
  have hn := line63
  exact tail_any (typeIs_str s z t) slot_str_getitem.lookup (getItem_str (c := c) (by
    have e1 : decide (i < -(2 ^ 63 : Int)) = false := decide_eq_false (by lia)
    have e2 : decide (i ≥ 2 ^ 63) = false := decide_eq_false (by lia)
    rw [e1, e2, Bool.or_false]) (by rw [h1]; simpa using h2) ⟨.str ⟨#[c]⟩, H, I.tok _, ⟨_, rfl⟩, q⟩) hs
theorem mapSeq_set (its : List Value) (n j : Nat) (u : Value) : Obj.mapSeq (·.setIfInBounds j u) { cls := .type "list", data := .seq its.toArray n } = { cls := .type "list", data := .seq (its.set j u).toArray n } := by
  simp [Obj.mapSeq]
theorem Inv.lst {pins : List (Addr × Obj)} {σ : St} {H : Hp} {s : Shared} {p : Addr} {xs : List V} (I : Inv X pins σ H s) (h : H p = some (.lst xs)) :
    ∃ (its : List Value) (n : Nat), Vals xs its ∧ s.heap.get? p = some { cls := .type "list", data := .seq its.toArray n } ∧ xs.length ≤ sizeLine := by
  obtain ⟨z, its, n, r, e⟩ := I.hok p _ h
  exact ⟨its, n, r, e, z⟩
theorem Inv.lstUpd {pins : List (Addr × Obj)} {σ : St} {H : Hp} {s : Shared} {p : Addr} {xs ys : List V} {its its' : List Value} {n n' : Nat} {f : Obj → Obj} (I : Inv X pins σ H s) (h : H p = some (.lst xs))
    (ho : s.heap.get? p = some { cls := .type "list", data := .seq its.toArray n }) (hf : f { cls := .type "list", data := .seq its.toArray n } = { cls := .type "list", data := .seq its'.toArray n' }) (r : Vals ys its') (hz : ys.length ≤ sizeLine) (t : Nat) :
    Inv X pins σ (upd H p (.lst ys)) { s with heap := s.heap.update p f, toks := t } := by
  have e : (s.heap.update p f).get? p = some { cls := .type "list", data := .seq its'.toArray n' } := by
    rw [Heap.get?_update_self f ho (by rw [hf] <;> rfl), hf]
  refine I.write (x := p) (e := p) (by rw [h]; trivial) (.inl rfl) (fun b u hb q => (Heap.get?_update_other _ _ (Ne.symm hb)).trans q) ⟨_, e⟩ ?_
  exact ⟨hz, its', n', r, e⟩
noncomputable def rSetL : V → V → V → Hp → (Hp → Prop) → Prop := fun o i v H Q => ∃ p xs k j, o = .ref p ∧ i = .int k ∧ H p = some (.lst xs) ∧ ixN xs.length k = some j ∧ Q (upd H p (.lst (xs.set j v)))
theorem set_list : PSet X rSetL := by
  intro pins s σ H o i v ov iv u Q I ro ri rv h
  obtain ⟨p, xs, k, j, rfl, rfl, hp, hj, q⟩ := h
  cases ro
  obtain ⟨t, rfl⟩ := ri
  obtain ⟨its, n, r, ho, hz⟩ := I.lst hp
  obtain ⟨h1, h2, h3, h4⟩ := ixN_seq hj
  have hl := r.length
  have hn := line63
  have I' : Inv X pins σ (upd H p (.lst (xs.set j v))) { s with heap := s.heap.update p (Obj.mapSeq (·.setIfInBounds j u)) } :=
    I.lstUpd hp ho (mapSeq_set its n j u) (r.set rv j) (by rw [List.length_set]; exact hz) s.toks
  by_cases h0 : 0 ≤ k
  · have hk : k.toNat = j := by
      rw [seqIndex_of h0 h4] at h1
      exact Option.some.inj h1
    exact PySem.W.ki_setAt ho h0 (by lia) (by rw [List.size_toArray, ← hl]; exact h4) (by rw [hk]; exact ⟨_, I', q⟩)
  · have hk : (k + (its.toArray.size : Int)).toNat = j := by
      rw [seqIndex_neg (by lia) h3] at h1
      rw [List.size_toArray, ← hl]
      exact Option.some.inj h1
    exact PySem.W.ki_setBack ho (by lia) (by rw [List.size_toArray, ← hl]; exact h3) (by lia) (by rw [hk]; exact ⟨_, I', q⟩)
theorem slice_bounds (lo hi : Option Int) (n : Nat) : (sliceBounds lo hi none n).1 = ((HT.sIx n 0 lo : Nat) : Int) ∧ (sliceBounds lo hi none n).2.1 = ((HT.sIx n n hi : Nat) : Int) ∧ (sliceBounds lo hi none n).2.2 = 1 := by
  refine ⟨?_, ?_, rfl⟩
  · cases lo with
    | none => simp [sliceBounds, HT.sIx]
    | some i =>
      simp only [sliceBounds, HT.sIx, Option.getD_none, show (1 : Int) > 0 by decide, if_true]
      by_cases h : i < 0
      · simp only [h, if_true] <;> lia
      · simp only [h, if_false] <;> lia
  · cases hi with
    | none => simp [sliceBounds, HT.sIx]
    | some i =>
      simp only [sliceBounds, HT.sIx, Option.getD_none, show (1 : Int) > 0 by decide, if_true]
      by_cases h : i < 0
      · simp only [h, if_true] <;> lia
      · simp only [h, if_false] <;> lia
theorem slicePick_cut (its : List Value) (lo hi : Option Int) : slicePick its.toArray lo hi none = ((its.drop (HT.sIx its.length 0 lo)).take (HT.sIx its.length its.length hi - HT.sIx its.length 0 lo)).toArray := by
  obtain ⟨h1, h2, h3⟩ := slice_bounds lo hi its.toArray.size
  unfold slicePick
  rw [h1, h2, h3]
  simp only [sliceRange_one, pick_run, List.size_toArray] <;> rfl
noncomputable def rSlL (K : PySem.W.Frag) : V → Option Int → Option Int → Hp → VK → Prop := fun x lo hi H Q => ∃ a xs, x = .ref a ∧ SqL K H a xs ∧ ∀ p, H p = none → Q (.ref p) (upd H p (.lst (cutV xs lo hi)))
theorem sl_list : SlR X (rSlL X.K) := by
  intro pins s σ H x v vl vu lo hi sl Q I rx hs pl pu h
  obtain ⟨a, xs, rfl, hx, q⟩ := h
  cases rx
  obtain ⟨its, r, ht, hz⟩ := I.list hx
  have hlen := r.length
  refine ⟨"list", _, slot_list_getitem.lookup, ht.isList.typeIs, ?_⟩
  refine wpAny_getItem_list_slice ht.isList hs pl pu .none (by simp) ?_ (by rw [List.size_toArray] <;> lia)
  rw [slicePick_cut, ← hlen]
  refine ⟨.ref s.heap.objs.size, _, I.laid (t' := s.toks) (o := .lst (cutV xs lo hi)) (fun b ob q => Heap.get?_push_of_some _ q) (Nat.le_refl _) ?_, rfl, q _ (I.hok.fresh (Nat.le_refl _))⟩
  exact ⟨Nat.le_trans (cutV_length xs lo hi) hz, _, 0, (r.drop (HT.sIx xs.length 0 lo)).take (HT.sIx xs.length xs.length hi - HT.sIx xs.length 0 lo), Heap.get?_push_size _ rfl⟩
noncomputable def flatV : V → Bool
  | .non => true
  | .bl _ => true
  | .int _ => true
  | .str _ => true
  | _ => false
noncomputable def eqV : V → V → Bool
  | .non, .non => true
  | .bl a, .bl b => a == b
  | .bl a, .int b => (if a then 1 else 0) == b
  | .int a, .bl b => a == (if b then 1 else 0)
  | .int a, .int b => a == b
  | .str a, .str b => a == b
  | _, _ => false
theorem eqAt_V {A : Around} {s : Shared} {y x : V} {u v : Value} (ry : RelV y u) (rx : RelV x v) (fy : flatV y = true) (fx : flatV x = true) : SeqAt.EqAt A s u v (eqV y x) := by
  cases y with
  | non =>
    cases ry
    cases x with
    | non => cases rx; exact SeqAt.EqAt.same _
    | bl b => cases rx; exact SeqAt.EqAt.none_bool b
    | int b => obtain ⟨t, rfl⟩ := rx; exact SeqAt.EqAt.none_int b t
    | str b => obtain ⟨t, rfl⟩ := rx; exact SeqAt.EqAt.none_str b t
    | _ => exact absurd (show false = true from fx) Bool.false_ne_true
  | bl a =>
    cases ry
    cases x with
    | non => cases rx; exact SeqAt.EqAt.bool_none a
    | bl b => cases rx; exact SeqAt.EqAt.bool_bool a b
    | int b => obtain ⟨t, rfl⟩ := rx; exact SeqAt.EqAt.bool_int a b t
    | str b => obtain ⟨t, rfl⟩ := rx; exact SeqAt.EqAt.bool_str a b t
    | _ => exact absurd (show false = true from fx) Bool.false_ne_true
  | int a =>
    obtain ⟨t', rfl⟩ := ry
    cases x with
    | non => cases rx; exact SeqAt.EqAt.int_none a t'
    | bl b => cases rx; exact SeqAt.EqAt.int_bool a t' b
    | int b => obtain ⟨t, rfl⟩ := rx; exact SeqAt.EqAt.int_int a t' b t
    | str b => obtain ⟨t, rfl⟩ := rx; exact SeqAt.EqAt.int_str a t' b t
    | _ => exact absurd (show false = true from fx) Bool.false_ne_true
  | str a =>
    obtain ⟨t', rfl⟩ := ry
    cases x with
    | non => cases rx; exact SeqAt.EqAt.str_none a t'
    | bl b => cases rx; exact SeqAt.EqAt.str_bool a t' b
    | int b => obtain ⟨t, rfl⟩ := rx; exact SeqAt.EqAt.str_int a t' b t
    | str b => obtain ⟨t, rfl⟩ := rx; exact SeqAt.EqAt.str_str a t' b t
    | _ => exact absurd (show false = true from fx) Bool.false_ne_true
  | _ => exact absurd (show false = true from fy) Bool.false_ne_true
noncomputable def eqU (x : V) (u : Value) : Bool := match u with
  | .none => eqV .non x
  | .bool b => eqV (.bl b) x
  | .int i _ => eqV (.int i) x
  | .str z _ => eqV (.str z) x
  | _ => false
theorem eqU_of {x y : V} {u : Value} (r : RelV y u) (f : flatV y = true) : eqU x u = eqV y x := by
  cases y with
  | non => cases r; rfl
  | bl b => cases r; rfl
  | int i => obtain ⟨t, rfl⟩ := r; rfl
  | str z => obtain ⟨t, rfl⟩ := r; rfl
  | _ => exact absurd (show false = true from f) Bool.false_ne_true
theorem any_eqU {x : V} : ∀ {xs : List V} {us : List Value}, Vals xs us → xs.all flatV = true → us.any (eqU x) = xs.any fun y => eqV y x
  | _, _, .nil, _ => rfl
  | y :: xs, u :: us, .cons r t, f => by
    rw [List.all_cons, Bool.and_eq_true] at f
    rw [List.any_cons, List.any_cons, eqU_of r f.1, any_eqU t f.2]
theorem mem_eqAt {A : Around} {s : Shared} {x : V} {v : Value} (rx : RelV x v) (fx : flatV x = true) : ∀ {xs : List V} {us : List Value}, Vals xs us → xs.all flatV = true → ∀ u ∈ us, SeqAt.EqAt A s u v (eqU x u)
  | _, _, .nil, _ => fun u hu => by cases hu
  | y :: xs, u :: us, .cons r t, f => fun u' hu => by
    rw [List.all_cons, Bool.and_eq_true] at f
    rcases List.mem_cons.mp hu with rfl | hu
    · rw [eqU_of r f.1]; exact eqAt_V r rx f.1 fx
    · exact mem_eqAt rx fx t f.2 u' hu
noncomputable def inV (x : V) (xs : List V) : Bool := xs.any fun y => eqV y x
noncomputable def rIn (K : PySem.W.Frag) (neg : Bool) : R2 := fun x y H Q => ∃ p xs, y = .ref p ∧ (SqL K H p xs ∨ SqT K H p xs) ∧ flatV x = true ∧ xs.all flatV = true ∧ Q (.bl (if neg then !inV x xs else inV x xs)) H
theorem op_notIn_seq : OpR X (compareOp .NotIn) (rIn X.K true) := by
  intro pins s σ H x y v u Q I rx ry h
  obtain ⟨p, xs, rfl, hq, fx, fs, q⟩ := h
  cases ry
  rcases hq with hq | hq
  · obtain ⟨its, r, pl, hz⟩ := I.list hq
    refine SeqAt.notIn_listAt (eqU x) pl.isList (fun w hw => mem_eqAt rx fx r fs w (by simpa using hw)) ⟨.bl _, H, I, rfl, ?_⟩
    rw [show its.toArray.any (eqU x) = its.any (eqU x) by simp, any_eqU r fs]
    exact q
  · obtain ⟨its, r, pl, hz⟩ := I.tuple hq
    refine SeqAt.notIn_tupleAt (eqU x) pl (fun w hw => mem_eqAt rx fx r fs w (by simpa using hw)) ⟨.bl _, H, I, rfl, ?_⟩
    rw [show its.toArray.any (eqU x) = its.any (eqU x) by simp, any_eqU r fs]
    exact q
theorem call_len_seq : CallR X (.builtin "len") (fun xs H Q => ∃ p ys, xs = [.ref p] ∧ (SqL X.K H p ys ∨ SqT X.K H p ys) ∧ Q (.int ys.length) H) := by
  intro pins s σ H xs us Q I r h
  obtain ⟨p, ys, rfl, hq, q⟩ := h
  obtain ⟨u, rfl, rx⟩ := vals1 r
  cases rx
  have hn := line63
  rcases hq with hq | hq
  · obtain ⟨its, r', pl, hz⟩ := I.list hq
    have hlen := r'.length
    exact Calls.call_len_list pl.isList (by simp only [List.size_toArray] <;> lia) ⟨.int ys.length, H, I.tok _, ⟨s.toks + 1, by rw [List.size_toArray, hlen]⟩, q⟩
  · obtain ⟨its, r', pl, hz⟩ := I.tuple hq
    have hlen := r'.length
    exact len_tuple pl (by simp only [List.size_toArray] <;> lia) ⟨.int ys.length, H, I.tok _, ⟨s.toks + 1, by rw [List.size_toArray, hlen]⟩, q⟩
theorem call_len_str : CallR X (.builtin "len") (fun xs H Q => ∃ z, xs = [.str z] ∧ z.length ≤ sizeLine ∧ Q (.int z.length) H) := by
  intro pins s σ H xs us Q I r h
  obtain ⟨z, rfl, hz, q⟩ := h
  obtain ⟨u, rfl, t, rfl⟩ := vals1 r
  have hn := line63
  exact len_str (by lia) ⟨.int z.length, H, I.tok _, ⟨_, rfl⟩, q⟩
noncomputable def tyV (K : PySem.W.Frag) (T : String) (x : V) (H : Hp) : Prop := match x with
  | .str _ => T = "str"
  | .int _ => T = "int"
  | .ref p => (T = "list" ∧ ∃ xs, SqL K H p xs) ∨ (T = "tuple" ∧ ∃ o, K.lookup p = some o ∧ o.cls = .type "tuple" ∧ o.dict = none) ∨
      (T = "dict" ∧ ((∃ kvs, H p = some (.dK kvs)) ∨ ∃ kvs, H p = some (.dT kvs))) ∨ (T = "set" ∧ ∃ S n, H p = some (.set S n))
  | _ => False
theorem tyV_is {pins : List (Addr × Obj)} {σ : St} {H : Hp} {s : Shared} {T : String} {x : V} {v : Value} (I : Inv X pins σ H s) (r : RelV x v) (ty : tyV X.K T x H) :
    s.TypeIs v T ∧ ∀ a, v = .ref a → ∃ ob, s.heap.get? a = some ob ∧ ob.dict = none := by
  cases x with
  | str z =>
    obtain ⟨t, rfl⟩ := r
    cases (show T = "str" from ty)
    exact ⟨typeIs_str s z t, fun _ e => nomatch e⟩
  | int i =>
    obtain ⟨t, rfl⟩ := r
    cases (show T = "int" from ty)
    exact ⟨typeIs_int s i t, fun _ e => nomatch e⟩
  | ref p =>
    cases r
    rcases ty with ⟨rfl, xs, hq⟩ | ⟨rfl, o, hk, hc, hd⟩ | ⟨rfl, hk⟩ | ⟨rfl, S, n, hk⟩
    · obtain ⟨its, _, pl, _⟩ := I.list hq
      refine ⟨pl.isList.typeIs, fun a e => ?_⟩
      cases e
      obtain ⟨o, n, e, c, hd, _⟩ := pl
      exact ⟨o, e, hd⟩
    · refine ⟨⟨o, I.kIn p o hk, hc⟩, fun a e => ?_⟩
      cases e
      exact ⟨o, I.kIn _ o hk, hd⟩
    · have z : ∃ o, s.heap.get? p = some o ∧ o.ExactDict := by
        rcases hk with ⟨kvs, hk⟩ | ⟨kvs, hk⟩
        · obtain ⟨_, _, _, _, o, _, _, e, ex, _⟩ := I.hok p _ hk
          exact ⟨o, e, ex⟩
        · obtain ⟨_, _, _, _, o, _, _, e, ex, _⟩ := I.hok p _ hk
          exact ⟨o, e, ex⟩
      obtain ⟨o, e, ex⟩ := z
      refine ⟨⟨o, e, ex.1⟩, fun a e2 => ?_⟩
      cases e2
      exact ⟨o, e, ex.2.1⟩
    · obtain ⟨o, _, _, _, e, ex, _⟩ := I.hok p _ hk
      refine ⟨⟨o, e, ex.1⟩, fun a e2 => ?_⟩
      cases e2
      exact ⟨o, e, ex.2.1⟩
  | _ => exact False.elim ty
noncomputable def tBM0 (K : PySem.W.Frag) (T : String) (r : V → List V → Hp → VK → Prop) (to : TE) : TE := fun σ H Q => to σ H fun x H1 => tyV K T x H1 ∧ r x [] H1 Q
noncomputable def tBM (K : PySem.W.Frag) (T : String) (r : V → List V → Hp → VK → Prop) (to : TE) (t : TA) : TE := fun σ H Q => to σ H fun x H1 => tyV K T x H1 ∧ t σ H1 fun xs H2 => r x xs H2 Q
variable {o e : Expr} {es : List Expr} {to : TE} {t : TA} {name : Str} {apos cpos : Pos} {T id : String} {r : V → List V → Hp → VK → Prop}
theorem pe_bm0 (pa : PlainAttrs T) (slot : Slot T name id) (hty : typeOf (.builtin id) = pure (.type "method_descriptor")) (hm : MtR X id r) (ho : PE X o to)
    (hbase : attributeBase o name X.env (eval o X.env) = eval o X.env := by rfl) (hline : (apos.endLine == cpos.line) = true := by rfl) : PE X (.Call (.Attribute o name apos) [] [] cpos) (tBM0 X.K T r to) := by
  intro pins s σ H Q I h
  refine wpAny_Call_method0_late hbase hline (thn (ho pins s σ H _ I h) fun v s1 ⟨x, H1, I1, r1, ty, q1⟩ => ?_)
  obtain ⟨h1, h2⟩ := tyV_is I1 r1 ty
  exact ⟨T, id, pa, slot, hty, h1, h2, Calls.callWith_builtin rfl (PySem.evalArgs_none (hm pins s1 σ H1 x [] v [] Q I1 r1 .nil q1))⟩
theorem pe_bm (pa : PlainAttrs T) (slot : Slot T name id) (hty : typeOf (.builtin id) = pure (.type "method_descriptor")) (hm : MtR X id r) (ho : PE X o to) (ha : PA X (e :: es) t)
    (hbase : attributeBase o name X.env (eval o X.env) = eval o X.env := by rfl)
    (hfew : ((backTo cpos (starEach (e :: es) X.env)).all (fun x => !x.1) && (backToKw cpos (keywordEach [] X.env)).all (fun x => x.1.isSome)
      && decide ((e :: es).length + ([] : List Keyword).length + (if ([] : List Keyword).isEmpty then 0 else 1) < 30)) = true := by rfl)
    (hline : (apos.endLine == cpos.line) = true := by rfl) (hs : starEach (e :: es) X.env = (false, eval e X.env) :: starEach es X.env := by rfl) (hplain : (backTo cpos (starEach es X.env)).any (·.1) = false := by rfl) :
    PE X (.Call (.Attribute o name apos) (e :: es) [] cpos) (tBM X.K T r to t) := by
  intro pins s σ H Q I h
  refine wpAny_Call_method_late hbase hfew hline rfl (thn (ho pins s σ H _ I h) fun v s1 ⟨x, H1, I1, r1, ty, q1⟩ => ?_)
  obtain ⟨h1, h2⟩ := tyV_is I1 r1 ty
  refine ⟨T, id, pa, slot, hty, h1, h2, ?_⟩
  have hA := ha cpos pins s1 σ H1 _ I1 q1
  rw [hs] at hA ⊢
  refine Calls.callWith_builtin (by show (false || (backTo cpos (starEach es X.env)).any (·.1)) = false; rw [hplain] <;> rfl) (Calls.evalArgs_plain ?_)
  exact thn hA fun us s2 ⟨vs, H2, I2, r2, q2⟩ => hm pins s2 σ H2 x vs v us Q I2 r1 r2 q2
/- xs.append(e), list.index on a module's tuple .. are MtR facts of 06m -/
end
end L2
namespace L2
open PySem PySem.Spec PyProof.Rows
noncomputable def MtM (X : Cx) (id : String) (r : V → List V → Hp → VK → Prop) : Prop :=
  ∀ (pins : List (Addr × Obj)) (s : Shared) (σ : St) (H : Hp) (x : V) (xs : List V) (v : Value) (us : List Value) (Q : VK), Inv X pins σ H s → RelV x v → Vals xs us → r x xs H Q →
    wpAny (model X.prog X.w) X.A (call (.builtin id) (v :: us)) (EP X pins σ Q) X.xe s
theorem Vals.one : ∀ {x : V} {us : List Value}, Vals [x] us → ∃ u, us = [u] ∧ RelV x u
  | _, _, .cons r .nil => ⟨_, rfl, r⟩
theorem Vals.zero : ∀ {us : List Value}, Vals [] us → us = []
  | _, .nil => rfl
theorem Vals.dropLast {xs : List V} {us : List Value} (h : Vals xs us) : Vals xs.dropLast us.dropLast := by
  induction h with
  | nil => exact .nil
  | cons r t ih =>
    cases t with
    | nil => exact .nil
    | cons q t' => exact .cons r ih
theorem Vals.rep {xs : List V} {us : List Value} (h : Vals xs us) : ∀ k : Nat, Vals (List.replicate k xs).flatten (List.replicate k us).flatten
  | 0 => .nil
  | k + 1 => by
    rw [List.replicate_succ, List.replicate_succ, List.flatten_cons, List.flatten_cons]
    exact Vals.append h (Vals.rep h k)
theorem erase_last {α : Type} (l : List α) : l.eraseIdx (l.length - 1) = l.dropLast := by
  induction l with
  | nil => rfl
  | cons a r ih =>
    cases r with
    | nil => rfl
    | cons b r =>
      have e : (a :: b :: r).length - 1 = ((b :: r).length - 1) + 1 := by
        have h1 : (a :: b :: r).length = r.length + 2 := rfl
        have h2 : (b :: r).length = r.length + 1 := rfl
        lia
      rw [e, List.eraseIdx_cons_succ, ih]
      all_goals rfl
theorem foldl_rep (its : List Value) : ∀ (k : Nat) (acc : List Value),
    List.foldl (fun x1 x2 => x1 ++ x2) acc.toArray (List.replicate k its.toArray) = (acc ++ (List.replicate k its).flatten).toArray
  | 0, acc => by simp
  | k + 1, acc => by
    have e : acc.toArray ++ its.toArray = (acc ++ its).toArray := by simp
    have e2 : (acc ++ its) ++ (List.replicate k its).flatten = acc ++ (List.replicate (k + 1) its).flatten := by
      rw [List.replicate_succ, List.flatten_cons, List.append_assoc]
    rw [← e2, ← foldl_rep its k (acc ++ its), ← e, List.replicate_succ, List.foldl_cons]
section
variable {X : Cx} {pins : List (Addr × Obj)} {σ : St} {H : Hp} {s : Shared} {l b : Addr} {xs ys zs : List V}
theorem Inv.lset {its its' : List Value} {n : Nat} {f : Array Value → Array Value} {t' : Nat} (I : Inv X pins σ H s) (hH : H l = some (.lst xs))
    (e : s.heap.get? l = some { cls := .type "list", data := .seq its.toArray n }) (hf : f its.toArray = its'.toArray) (hv : Vals ys its') (hz : ys.length ≤ sizeLine) :
    Inv X pins σ (upd H l (.lst ys)) { s with heap := s.heap.update l (Obj.mapSeq f), toks := t' } := by
  have q := PySem.IsL.update e f
  rw [hf] at q
  refine I.write (x := l) (e := l) (by rw [hH]; exact trivial) (.inl rfl) (fun b' u hb hu => (Heap.get?_update_other s.heap (Obj.mapSeq f) (Ne.symm hb)).trans hu) ⟨_, q⟩ ?_
  exact ⟨hz, its', _, hv, q⟩
theorem Inv.lnew {its : List Value} {t' : Nat} (I : Inv X pins σ H s) (hv : Vals ys its) (hz : ys.length ≤ sizeLine) :
    Inv X pins σ (upd H s.heap.objs.size (.lst ys)) { s with heap := s.heap.push { cls := .type "list", data := .seq its.toArray }, toks := t' } :=
  I.laid (fun _ _ q => Heap.get?_push_of_some _ q) (Nat.le_refl _) ⟨hz, its, 0, hv, Heap.get?_push_size _ rfl⟩
theorem Inv.fresh (I : Inv X pins σ H s) : H s.heap.objs.size = none := I.hok.fresh (Nat.le_refl _)
theorem Inv.lstM (I : Inv X pins σ H s) (hH : H l = some (.lst xs)) : xs.length ≤ sizeLine ∧ ∃ (its : List Value) (n : Nat), Vals xs its ∧ xs.length = its.length ∧ s.heap.get? l = some { cls := .type "list", data := .seq its.toArray n } := by
  obtain ⟨z, its, n, r, e⟩ := I.hok l _ hH
  exact ⟨z, its, n, r, r.length, e⟩
theorem notLongL {n : Nat} (h : n ≤ sizeLine) : Builtin.List.listTooLong n = false := by
  unfold Builtin.List.listTooLong
  exact decide_eq_false (by lia)
end
section
variable {X : Cx}
noncomputable def rAppend : V → List V → Hp → VK → Prop := fun x vs H Q => ∃ l xs y, x = .ref l ∧ vs = [y] ∧ H l = some (.lst xs) ∧ xs.length < sizeLine ∧ Q .non (upd H l (.lst (xs ++ [y])))
theorem mt_append : MtM X "list.append" rAppend := by
  intro pins s σ H x vs v us Q I rx rv h
  obtain ⟨l, xs, y, rfl, rfl, hH, hz, q⟩ := h
  cases rx
  obtain ⟨u, rfl, ru⟩ := rv.one
  obtain ⟨z, its, n, r, hl, e⟩ := I.lstM hH
  refine call_meets F.slot_list_append ⟨_, e, rfl⟩ F.entry_list_append (F.args_list_append_2 _ _) (PySem.list_append l its.toArray n u (by rw [List.size_toArray]; lia)) ⟨e, ?_⟩
  refine ⟨.non, _, I.lset (its' := its ++ [u]) hH e (by simp) (r.append (.cons ru .nil)) ?_, rfl, q⟩
  rw [List.length_append, List.length_singleton]
  lia
noncomputable def rPop : V → List V → Hp → VK → Prop := fun x vs H Q => ∃ l xs y, x = .ref l ∧ vs = [] ∧ H l = some (.lst xs) ∧ xs[xs.length - 1]? = some y ∧ Q y (upd H l (.lst xs.dropLast))
theorem mt_pop : MtM X "list.pop" rPop := by
  intro pins s σ H x vs v us Q I rx rv h
  obtain ⟨l, xs, y, rfl, rfl, hH, hy, q⟩ := h
  cases rx
  have hus := rv.zero
  subst hus
  obtain ⟨z, its, n, r, hl, e⟩ := I.lstM hH
  obtain ⟨u, hu, ru⟩ := r.get hy
  have hy' : its.toArray[its.toArray.size - 1]? = some u := by
    show its.toArray[its.length - 1]? = some u
    rw [← Array.getElem?_toList, ← hl]
    exact hu
  refine call_meets F.slot_list_pop ⟨_, e, rfl⟩ F.entry_list_pop (F.args_list_pop_1 _) (MeetsSeq.list_pop_last l its.toArray n u hy' (by rw [List.size_toArray]; lia)) ⟨e, ?_⟩
  refine ⟨y, _, I.lset (its' := its.dropLast) hH e ?_ r.dropLast ?_, ru, q⟩
  · show its.toArray.eraseIdxIfInBounds (its.toArray.size - 1) = its.dropLast.toArray
    rw [List.size_toArray, List.eraseIdxIfInBounds_toArray, erase_last]
  · rw [List.length_dropLast]
    lia
noncomputable def rRep : R2 := fun x y H Q => ∃ l k xs, x = .ref l ∧ y = .int k ∧ H l = some (.lst xs) ∧ -(2 ^ 63) ≤ k ∧ k < 2 ^ 63 ∧ xs.length * k.toNat ≤ sizeLine ∧
  ∀ p, H p = none → Q (.ref p) (upd H p (.lst (List.replicate k.toNat xs).flatten))
theorem len_rep {α : Type} (xs : List α) (k : Nat) : (List.replicate k xs).flatten.length = k * xs.length := by
  induction k with
  | zero => simp
  | succ k ih => rw [List.replicate_succ, List.flatten_cons, List.length_append, ih, Nat.succ_mul, Nat.add_comm]
theorem op_rep : OpR X (binaryOp .Mult) rRep := by
  intro pins s σ H x y v u Q I rx ry h
  obtain ⟨l, k, xs, rfl, rfl, hH, h1, h2, hz, q⟩ := h
  cases rx
  obtain ⟨t, rfl⟩ := ry
  obtain ⟨z, its, n, r, hl, e⟩ := I.lstM hH
  have hlen : its.toArray.size * k.toNat ≤ sizeLine := by rw [List.size_toArray, ← hl]; exact hz
  have hcap : ¬ its.toArray.size * k.toNat > (2 ^ 63 - 1) / 8 := by
    have : (sizeLine : Nat) ≤ (2 ^ 63 - 1) / 8 := by decide
    lia
  have hfit : ¬ (!Builtin.List.listFitsIndex k) = true := by
    rw [fitsIndex_both h1 h2]
    exact Bool.false_ne_true
  have hlong : ¬ Builtin.List.listTooLong (its.toArray.size * k.toNat) = true := by
    rw [notLongL hlen]
    exact Bool.false_ne_true
  have hnew : List.foldl (fun x1 x2 => x1 ++ x2) #[] (List.replicate (if its.toArray.isEmpty = true then 0 else k.toNat) its.toArray) = (List.replicate k.toNat its).flatten.toArray := by
    have f0 : ∀ m : Nat, List.foldl (fun x1 x2 => x1 ++ x2) #[] (List.replicate m its.toArray) = (List.replicate m its).flatten.toArray := fun m => by
      have := foldl_rep its m []
      rw [List.nil_append] at this
      exact this
    rw [f0]
    cases its with
    | nil => simp
    | cons a r' => rw [if_neg (by simp)]
  refine wpAny_binaryOp_repeat_ref (T := "list") (U := "int") (by decide) ⟨_, e, rfl⟩ (fun s' => typeIs_int s' k t) noFill_list_mul F.fills_int_mul F.slot_int_rmul repeat_list F.slot_int_index.lookup
    (call_meets F.slot_int_rmul (typeIs_int s k t) F.entry_int_rmul (F.args_int_rmul_2 _ _) (int___rmul___int_list k t l its.toArray n)
      ⟨e, rfl, ⟨_, e, rfl⟩, call_meets F.slot_list_mul ⟨_, e, rfl⟩ F.entry_list_mul (F.args_list_mul_2 _ _) (AutoListH.list___mul___list_int_3 l its.toArray n k t hfit hcap hlong) ⟨e, ?_⟩⟩)
  rw [hnew]
  exact ⟨.ref _, _, I.lnew (t' := s.toks) (r.rep k.toNat) (by rw [len_rep, Nat.mul_comm]; exact hz), rfl, q _ I.fresh⟩
end
section
variable {prog : Program} {w : World} {A : Around} {E : Value → Shared → Prop} {s : Shared}
end
section
variable {X : Cx}
end
end L2
namespace Att
open PySem PySem.W PySem.Calls PyProof.Rows
theorem ints_of_wellAll {P : Params} {h : Heap} : ∀ (ns : List Int) (vs : List Value), WellAll P h vs (ns.map WData.int) → IntsAre vs ns := by
  intro ns
  induction ns with
  | nil =>
    intro vs w
    rw [List.map_nil] at w
    cases w
    exact .nil
  | cons n ns ih =>
    intro vs w
    rw [List.map_cons] at w
    cases w with
    | cons a b =>
      cases a
      exact .cons _ _ (ih _ b)
theorem script_of {l : OpenLaw} {n : Nat} (hn : l.most = some n) {P : Params} {h : Heap} {args : List WData} {vals : List Value}
    (hpre : l.row.toRowW.claim.pre args = true) (hwl : WellAll P h vals args) :
    ∃ a vs ns, vals = [Value.ref a] ∧ args = [WData.list (ns.map WData.int)] ∧ h.get? a = some { cls := .type "list", data := .seq vs.toArray } ∧ IntsAre vs ns ∧ ns.length ≤ n := by
  have hsh : WShape.hasAll [] args [.list .int] = true := (pre_splitW hpre).1
  have hc : l.pre.holds [] { args := args } = true := (pre_splitW hpre).2
  obtain ⟨d, r, rfl, h1, h2⟩ := hasAllW_cons hsh
  obtain rfl := hasAllW_nil h2
  obtain ⟨xs, rfl, h3⟩ := hasW_list h1
  obtain ⟨ns, rfl⟩ := items_int h3
  have hlen : ns.length ≤ n := by
    unfold OpenLaw.pre at hc
    have h4 : (WTm.not (.lt (.lit (.int (n : Int))) (.len (.arg 0)))).holds [] { args := [.list (ns.map .int)] } = true := by
      have h4 := (holds_andW hc).1
      rw [hn] at h4
      exact h4
    have h5 := condW_of h4 (w_not (w_lt w_lit (w_len_list (w_arg rfl))))
    rw [List.length_map] at h5
    refine Nat.le_of_not_lt fun q => ?_
    have q' : (n : Int) < ((ns.length : Nat) : Int) := by lia
    first
      | (rw [decide_eq_true q'] at h5; exact absurd h5 (by decide))
      | (simp at h5; lia)
  cases hwl with
  | cons w1 w2 =>
    cases w2
    cases w1 with
    | list ho hall => exact ⟨_, _, ns, rfl, rfl, ho, ints_of_wellAll ns _ hall, hlen⟩
theorem post_true (l : OpenLaw) (args : List WData) : l.row.toRowW.claim.post args (.bool true) args = true :=
  postW_of (r := l.row.toRowW) (X := (true == true))
    (show WShape.has [] (.bool true) .bool = true by first | rfl | decide | simp [WShape.has, WShape.arms, WShape.armsAll])
    (show (WTm.eq .res (.lit (.bool true))).value [] { args := args, res := some (.bool true), after := args } = some (.bool (true == true)) from w_eq_bool (w_res rfl) w_lit) rfl
theorem attach_call {l : OpenLaw} {n : Nat} {q : Program} {loose : List Str} {XP : (Str → Option Value) → Heap → Prop} {YP : World → Heap → Prop} {d : DefRec}
    (hn : l.most = some n) (hdf : d.params.defaults = [])
    (call : ∀ (w : World) (s₀ s₁ : Shared) (mg mb : Str → Option Value) (fa : Addr) (o : Obj) (pm cd doc : Value) (a : Addr) (vs : List Value) (ns : List Int),
      Ground q loose [] XP w s₀ mg mb s₁.heap → YP w s₁.heap →
      s₁.heap.get? fa = some o → o.data = .func (docDef d.name d.params d.body d.scope pm cd doc) → s₁.heap.CodeRec cd d.name → mg d.name = some (.ref fa) →
      s₁.heap.get? a = some { cls := .type "list", data := .seq vs.toArray } → IntsAre vs ns → ns.length ≤ n → s₁.gens = #[] →
      codeAny (model l.prog w) callerA (.call (.ref fa) ⟨[.ref a], []⟩) (fun r s' => r = .ok (.ret (.bool true)) ∧ OldK s₁.heap s'.heap ∧ s'.os = s₁.os ∧ AllBare s'.gens) s₁) :
    WalkO q loose XP YP l.row.toRowW d [] (fun f vs => PySem.call f vs) := by
  intro w s₀ s₁ mg mb G Y fa o pm cd doc dV kV ho hd hcd hD hmg hg args vals as hpre hlay hrd hwl hlo
  obtain rfl : dV = .none := Dflts.none hD hdf
  obtain rfl : kV = .none := Dflts.noKw hD
  obtain ⟨a, vs, ns, rfl, rfl, hobj, hints, hlen⟩ := script_of hn hpre hwl
  refine enter_call (codeAny_mono (call w s₀ s₁ mg mb fa o pm cd doc a vs ns G Y ho (fd_plain hd) hcd hmg hobj hints hlen hg) fun r s' hq => ?_)
  obtain ⟨rfl, h2, h3, h4⟩ := hq
  exact ⟨.inl ⟨.bool true, .bool true, [], rfl, fun _ => rfl, .bool true, post_true l _, fun _ => ⟨List.Pairwise.nil, fun _ hm => (nomatch hm)⟩⟩, h2, h3, h4⟩
section
variable {prog : Program} {w : World} {A : Around} {E : Value → Shared → Prop} {s : Shared} {K : Frag}
end
end Att
namespace L2
open PySem PySem.Spec PyProof.Rows
theorem vals_ints : ∀ {vs : List Value} {ns : List Int}, IntsAre vs ns → Vals (ns.map V.int) vs
  | _, _, .nil => .nil
  | _, _, .cons n t h => .cons ⟨t, rfl⟩ (vals_ints h)
noncomputable def Only (H : Hp) : Prop := ∀ b, H b = none ∨ ∃ o xs, H b = some (.frz o (.lst xs))
theorem law_call {P : Program} {w : World} {K : PySem.W.Frag} {mg mb : Str → Option Value} {CX : CXT} {k : Nat} {fa a : Addr} {fd : FuncData} {x : Str} {sp : Sp} {s₁ : Shared} {vs : List Value} {ns : List Int}
    (KX : K.In s₁.heap) (hns : s₁.heap.Ns mainGlobals mg) (hb : s₁.heap.Ns builtinsNs mb) (hbb : ∀ x : Str, x ≠ "__name__" → mb x = bootBuiltins x) (hlim : s₁.heap.NoLimit) (hseer : s₁.heap.NoSeer) (hg : s₁.gens = #[])
    (ha : s₁.heap.get? a = some { cls := .type "list", data := .seq vs.toArray }) (hi : IntsAre vs ns) (hl : ns.length ≤ sizeLine) (hr : Room k callerA)
    (F : ∀ base : Heap, K.In base → base.Ns mainGlobals mg → FnOk P w K mg base CX k fa fd [x] sp) (hbind : ∀ (s : Shared) (u : Value), BindsTo s fd ⟨[u], []⟩ [(x, u)])
    (hsp : ∀ H : Hp, Only H → SqL K H a (ns.map V.int) → sp [.ref a] H (fun v _ => v = .bl true) fun _ _ _ => False)
    (hCX : ∀ H e s', CX [] H s₁ (fun _ _ _ => False) e s' → False) :
    codeAny (model P w) callerA (.call (.ref fa) ⟨[.ref a], []⟩) (fun r s' => r = .ok (.ret (.bool true)) ∧ OldK s₁.heap s'.heap ∧ s'.os = s₁.os ∧ AllBare s'.gens) s₁ := by
  have rv := vals_ints hi
  have lenV := hi.length
  have core : ∀ H : Hp, Only H → SqL K H a (ns.map V.int) → HOk P w H s₁.heap → (∀ b, H b ≠ none → b = a) → (H a ≠ none → K.lookup a = none) →
      codeAny (model P w) callerA (.call (.ref fa) ⟨[.ref a], []⟩) (fun r s' => r = .ok (.ret (.bool true)) ∧ OldK s₁.heap s'.heap ∧ s'.os = s₁.os ∧ AllBare s'.gens) s₁ := by
    intro H hO hS hok hA hK
    have base_of : ∀ {b : Addr} {o : Obj}, s₁.heap.get? b = some o → H b = none → (hidT s₁.heap H).get? b = some o := fun e n => hidT_get e n
    have noA : ∀ {b : Addr} {o : Obj} {es : Array DictEntry} {ep : Nat}, s₁.heap.get? b = some o → o.data = .dict es ep → H b = none := fun {b o es ep} e d => by
      cases q : H b with
      | none => rfl
      | some u =>
        have e' : b = a := hA b (by rw [q]; simp)
        subst e'
        rw [ha] at e; cases e
        have d' : Data.seq vs.toArray _ = Data.dict es ep := d
        cases d'
    have nsK : ∀ {b : Addr} {m : Str → Option Value}, s₁.heap.Ns b m → (hidT s₁.heap H).Ns b m := fun {b m} ⟨o, es, ep, e, d, r⟩ => ⟨o, es, ep, base_of e (noA e d), d, r⟩
    have hKb : K.In (hidT s₁.heap H) := fun b o e => base_of (KX b o e) (by
      cases q : H b with
      | none => rfl
      | some u =>
        have e' : b = a := hA b (by rw [q]; simp)
        subst e'
        rw [hK (by rw [q]; simp)] at e; cases e)
    have hM : Mod K mg (hidT s₁.heap H) := ⟨hKb, nsK hns, ⟨mb, nsK hb, hbb⟩, (let ⟨mc, h1, h2⟩ := hlim; ⟨mc, nsK h1, h2⟩), (let ⟨mc, h1, h2⟩ := hseer.statics; ⟨mc, nsK h1, h2⟩), (let ⟨mc, h1, h2⟩ := hseer.mods; ⟨mc, nsK h1, h2⟩), (let ⟨mc, h1, h2⟩ := hseer.imp; ⟨mc, nsK h1, h2⟩),
      (let ⟨g, bm, ob, h1, h2, h3, h4, h5⟩ := hseer.main; ⟨g, bm, ob, nsK h1, h2, base_of h3 (by
        cases q : H bm with
        | none => rfl
        | some u =>
          have e' : bm = a := hA bm (by rw [q]; simp)
          subst e'
          rw [ha] at h3; cases h3; exact absurd (Value.type.inj h4) (by decide)), h4, h5⟩)⟩
    have e0 : Env0 P w K mg (hidT s₁.heap H) callerA [] s₁ H := ⟨rfl, hM, fun b o e => of_hidT e, Nat.le_of_eq (hidT_size _ _), trivial, fun b hb => absurd (show b ∈ ([] : List Addr) from hb) (by simp), hok, .of_eq hg⟩
    refine codeAny_mono ((F _ hKb (nsK hns)).run callerA [] s₁ H ⟨[.ref a], []⟩ [.ref a] [.ref a] _ _ hr e0 (hbind s₁ (.ref a)) (.cons rfl .nil) (hsp H hO hS)) fun r s' h => ?_
    cases r with
    | error e => exact (hCX H e s' h).elim
    | ok fl =>
      cases fl with
      | next => exact False.elim h
      | brk => exact False.elim h
      | cont => exact False.elim h
      | ret u =>
        obtain ⟨v, H', os, bare, un, hok', r', q⟩ := h
        have q' : v = .bl true := q
        subst q'
        obtain rfl : u = Value.bool true := r'
        refine ⟨rfl, OldK.of_keep fun b o e => ?_, os, bare⟩
        cases q : H b with
        | none => exact un.keep b o e q (by intro z; exact absurd (show b ∈ ([] : List Addr) from z) (by simp)) (by simp)
        | some u =>
          rcases hO b with z | ⟨ob, xs, z⟩
          · rw [q] at z; cases z
          · have z2 := un.frzs b ob _ z
            obtain ⟨e1, _⟩ := hok b _ z
            obtain ⟨e2, _⟩ := hok' b _ z2
            rw [e] at e1; cases e1
            exact e2
  cases hk : K.lookup a with
  | some o =>
    have e := KX a o hk
    rw [ha] at e
    cases e
    refine core (fun _ => none) (fun _ => .inl rfl) (.inr ⟨_, vs.toArray, _, hk, rfl, rfl, rfl, by rw [List.size_toArray, lenV]; exact hl, by simpa using rv⟩) (fun b u z => by have z' : (none : Option HO) = some u := z; cases z') (fun b z => absurd rfl z) fun z => absurd rfl z
  | none =>
    refine core (fun b => if b = a then some (.frz { cls := .type "list", data := .seq vs.toArray } (.lst (ns.map V.int))) else none) (fun b => ?_) (.inl (.inr ⟨{ cls := .type "list", data := .seq vs.toArray }, if_pos rfl⟩)) (fun b u z => ?_) (fun b z => ?_) fun _ => hk
    · by_cases hb : b = a
      · exact .inr ⟨_, _, if_pos hb⟩
      · exact .inl (if_neg hb)
    · by_cases hb : b = a
      · have z' := (if_pos hb).symm.trans z
        cases z'
        subst hb
        exact ⟨ha, by rw [List.length_map]; exact hl, vs, _, rv, ha⟩
      · have z' := (if_neg hb).symm.trans z
        cases z'
    · by_cases hb : b = a
      · exact hb
      · exact absurd (if_neg hb) z
end L2
namespace L2
open PySem PySem.Spec PyProof.Rows
noncomputable abbrev KOf {K : PySem.W.Frag} {h : Heap} (_ : K.In h) : PySem.W.Frag := K
theorem walk_of {l : PySem.W.OpenLaw} {n k : Nat} {q : Program} {loose : List Str} {XP : (Str → Option Value) → Heap → Prop} {YP : World → Heap → Prop} {d : DefRec} {K : Params → PySem.W.Frag} {CX : World → CXT} {sp : World → Sp} {x : Str}
    (hn : l.most = some n) (hn2 : n ≤ sizeLine) (hdf : d.params.defaults = []) (hr : Room k callerA)
    (hY : ∀ (w : World) (h : Heap), YP w h → (K w.params).In h)
    (F : ∀ (w : World) (mg : Str → Option Value) (fa : Addr) (h : Heap), (K w.params).In h → h.Ns mainGlobals mg → mg d.name = some (.ref fa) →
      ∃ fd : FuncData, (∀ (s : Shared) (u : Value), BindsTo s fd ⟨[u], []⟩ [(x, u)]) ∧
        ∀ base : Heap, (K w.params).In base → base.Ns mainGlobals mg → FnOk l.prog w (K w.params) mg base (CX w) k fa fd [x] (sp w))
    (hsp : ∀ (w : World) (H : Hp) (a : Addr) (ns : List Int), ns.length ≤ n → Only H → SqL (K w.params) H a (ns.map V.int) → sp w [.ref a] H (fun v _ => v = .bl true) fun _ _ _ => False)
    (hCX : ∀ (w : World) (H : Hp) (s : Shared) (e : Value) (s' : Shared), CX w [] H s (fun _ _ _ => False) e s' → False) (hi : importsNone q = true) :
    PySem.W.WalkO q loose XP YP l.row.toRowW d [] (fun f vs => PySem.call f vs) := by
  refine Att.attach_call hn hdf fun w s₀ s₁ mg mb fa o pm cd doc a vs ns G Y ho hd hcd hmg hobj hints hlen hg => ?_
  have KX := hY w _ Y
  obtain ⟨fd, hb, hF⟩ := F w mg fa _ KX G.T.g hmg
  exact law_call KX G.T.g G.T.b G.T.builtins G.T.nolimit (G.T.seer hi) hg hobj hints (Nat.le_trans hlen hn2) hr hF hb (fun H hO hS => hsp w H a ns hlen hO hS) fun H e s' => hCX w H s₁ e s'
end L2
/- THE LAST THEOREM (shape; LID, My.* are yours):
   My.Adr: a structure of the addresses that your layer names (classes, functions); My.Txt K t: a structure (Prop) of the equations over K;
   My.txt_mk : {K} {implicit addresses ..} (e1 : nsIn K mainGlobals "law" = some (some (.ref f))) (e2 : K.lookup f = some ⟨oc, od, .func (fnOf "law" "law" params body scope dV kV doc pm an cdv ct), sl⟩) (e3 : codeIn K cdv "law" = true) .. : ∃ t, My.Txt K t
set_option maxRecDepth 100000 in
set_option maxHeartbeats 0 in
theorem PySem.Challenge.cw_LID_holds : PySem.Challenge.rw_LID.Holds := by
  w_on; o_law; k_head; (case hw => w_witness2)
  k_fill
  refine L2.walk_of (l := PySem.Challenge.rw_LID) (n := 63) (k := 40) (x := "script") (CX := fun w => ..) (sp := fun _ => My.sp_law) rfl (by decide) rfl ⟨rfl, by decide, by decide⟩ (fun w h Y => PySem.W.kIn_of Y) ?F ?S ?C
  case F =>
    intro w mg fa h KX G hmg
    have T : ∃ t, My.Txt (L2.KOf KX) t := by
      dsimp only [L2.KOf]                          -- K must stand as «<heap const> w.params» for k_is
      refine' My.txt_mk ?e1 ?e2 ?e3 ..
      (case e1 => PySem.W.k_is)                    -- in the order: a name -> its address -> its object -> its parts
      (case e2 => PySem.W.k_is)
      ..
    obtain ⟨t, T⟩ := T
    have e0 := hmg.symm.trans (PySem.W.mg_of KX G T.law)
    cases e0                                       -- fa is the law's own address
    exact ⟨_, fun s u => .of_eq rfl, fun base kb nb => My.law_fn T kb nb⟩     -- if «.of_eq rfl» comes too early: refine' ⟨_, ?b, fun base kb nb => My.law_fn T kb nb⟩; exact fun s u => .of_eq rfl
  case S => exact fun w H a ns hl hO hS => ..
  case C => exact ..
(the tactic k_is has no namespace: write k_is) -/
namespace L2
open PySem PySem.Spec PyProof.Rows
noncomputable def defArgs (s : Stmt) : Arguments := match s with
  | .FunctionDef _ a _ _ _ _ _ _ _ _ => a
  | _ => { posonlyargs := [], args := [], vararg := none, kwonlyargs := [], kw_defaults := [], kwarg := none, defaults := [] }
noncomputable def defBody (s : Stmt) : List Stmt := match s with
  | .FunctionDef _ _ b _ _ _ _ _ _ _ => b
  | _ => []
noncomputable def defScope (s : Stmt) : Scope := match s with
  | .FunctionDef _ _ _ _ _ _ sc _ _ _ => sc
  | _ => { kind := .function, names := [], isGenerator := false, isCoroutine := false }
noncomputable abbrev CX0 : CXT := fun _ _ _ _ _ _ => False
noncomputable abbrev E0 : XK := fun _ _ _ => False
theorem pass0 {X : Cx} : Passes CX0 X E0 := fun _ _ _ _ _ _ _ h => h.elim
structure Fun (K : PySem.W.Frag) (x qual : Str) (st : Stmt) (f : Addr) (fd : FuncData) : Prop where
  ex : ∃ (oc : Value) (od : Option Addr) (kV doc pm : Value) (an : Option Addr) (cdv ct : Value) (osl : Array (Option Value)),
    fd = PySem.W.fnOf x qual (defArgs st) (defBody st) (defScope st) .none kV doc pm an cdv ct ∧ K.lookup f = some ⟨oc, od, .func fd, osl⟩ ∧ PySem.W.codeIn K cdv qual = true
  kp : PySem.W.keepIn K (.ref f) = true
section
variable {P : Program} {w : World} {K : PySem.W.Frag} {mg : Str → Option Value} {base : Heap}
theorem Fun.ok {x qual : Str} {st : Stmt} {f : Addr} {fd : FuncData} {N ps : List Str} {k : Nat} {sp : Sp} (F : Fun K x qual st f fd) (S : FnScope N ps (defScope st)) (len : ∀ vs H Q E, sp vs H Q E → vs.length = ps.length)
    (hbody : ∀ (cdv : Value) (A : Around) (outer : List Env) (s : Shared) (H : Hp) (vs : List V) (Q : VK) (E : XK), Room k (A.deeper (envOfC qual (defScope st) s.heap.objs.size f cdv)) → sp vs H Q E →
      ∃ t, PSs (cxOf CX0 P w K mg base N qual (defScope st) f cdv A outer s H E).nox (defBody st) t ∧ t { nx := fun _ H' => Q .non H', rt := Q } (start N vs) H) : FnOk P w K mg base CX0 (k + 1) f fd ps sp := by
  obtain ⟨oc, od, kV, doc, pm, an, cdv, ct, osl, rfl, lk, hcd⟩ := F.ex
  refine fn_of lk hcd S len fun A outer s H vs Q E hr hsp => ?_
  obtain ⟨t, h, q⟩ := hbody cdv A outer s H vs Q E hr hsp
  exact ⟨t, h.nox, q⟩
theorem Fun.binds {x qual : Str} {st : Stmt} {f : Addr} {fd : FuncData} {ps : List Str} (F : Fun K x qual st f fd)
    (h : ∀ (kV doc pm : Value) (an : Option Addr) (cdv ct : Value) (us : List Value), us.length = ps.length → bindArgs (PySem.W.fnOf x qual (defArgs st) (defBody st) (defScope st) .none kV doc pm an cdv ct) ⟨us, []⟩ = pure (ps.zip us)) : Binds K fd ps [] := by
  obtain ⟨oc, od, kV, doc, pm, an, cdv, ct, osl, rfl, lk, hcd⟩ := F.ex
  exact .all (h kV doc pm an cdv ct)
theorem fun_mk {x qual : Str} {st : Stmt} {f : Addr} {oc : Value} {od an : Option Addr} {osl : Array (Option Value)} {kV doc pm cdv ct : Value} (l : K.lookup f = some ⟨oc, od, .func (PySem.W.fnOf x qual (defArgs st) (defBody st) (defScope st) .none kV doc pm an cdv ct), osl⟩)
    (c : PySem.W.codeIn K cdv qual = true) (k : PySem.W.keepIn K (.ref f) = true) : Fun K x qual st f (PySem.W.fnOf x qual (defArgs st) (defBody st) (defScope st) .none kV doc pm an cdv ct) := ⟨⟨oc, od, kV, doc, pm, an, cdv, ct, osl, rfl, l, c⟩, k⟩
end
theorem small1000 {n : Nat} (h : n ≤ 1000) : n < sizeLine := Nat.lt_of_le_of_lt h (by decide)
section
variable {X : Cx}
theorem pv (i : Nat) {x : Str} {pos : Pos} (hN : X.N[i]? = some x := by rfl) (hv : Vis X.env.scope x := by first | exact Or.inl rfl | exact Or.inr (Or.inl rfl) | exact Or.inr (Or.inr rfl)) (hd : (x == ("__debug__" : Str)) = false := by decide)
    (hcd : (x == ("__classdict__" : Str)) = false := by decide) : PE X (.Name x pos) (tVar i) := pe_var hN hv hd hcd
end
theorem ite2 {c A B : Prop} [Decidable c] (h1 : c → A) (h2 : ¬ c → B) : if c then A else B := by
  by_cases h : c
  · rw [if_pos h]
    exact h1 h
  · rw [if_neg h]
    exact h2 h
noncomputable def Same (H H' : Hp) : Prop := ∀ b o, H b = some o → H' b = some o
theorem Same.refl (H : Hp) : Same H H := fun _ _ h => h
theorem Same.trans {H H1 H2 : Hp} (a : Same H H1) (b : Same H1 H2) : Same H H2 := fun c o h => b c o (a c o h)
theorem Same.free {H H' : Hp} (e : Same H H') {l : Addr} (h : H' l = Option.none) : H l = Option.none := by
  cases q : H l with
  | none => rfl
  | some o =>
    rw [e l o q] at h
    cases h
theorem Same.seq {K : PySem.W.Frag} {H H' : Hp} {a : Addr} {xs : List V} (e : Same H H') (h : SqL K H a xs) : SqL K H' a xs := by
  rcases h with (h | ⟨o, h⟩) | h
  · exact .inl (.inl (e _ _ h))
  · exact .inl (.inr ⟨o, e _ _ h⟩)
  · exact .inr h
end L2
set_option maxHeartbeats 4000000
namespace L2
open PySem PySem.Spec PyProof.Rows
section
variable {X : Cx} {a b c : Expr} {ta tb tc : TE} {pos : Pos}
theorem op_mulL : OpR X (binaryOp .Mult) (rI (fun i j => IntMulOk i j) fun i j => .int (i * j)) :=
  opI fun _ _ _ _ _ _ _ hc q => mul_int q hc
theorem op_fdivL : OpR X (binaryOp .FloorDiv) (rI (fun _ j => j ≠ 0 ∧ j.natAbs.log2 < 9000) fun i j => .int (i.fdiv j)) :=
  opI fun _ _ _ _ _ _ _ hc q => floordiv_int hc.1 q (.inl (PyProof.noPylong_of_log2 hc.2))
noncomputable def rEqI (K : PySem.W.Frag) : R2 := fun x y H Q => ∃ (p q : Addr) (xs ys : List Int), x = .ref p ∧ y = .ref q ∧ SqL K H p (xs.map V.int) ∧ SqL K H q (ys.map V.int) ∧ Q (.bl (decide (xs = ys))) H
theorem int_at {xs : List Int} {its : List Value} (r : Vals (xs.map V.int) its) {j : Nat} (h : j < xs.length) (h' : j < its.length) : ∃ t, its[j] = Value.int xs[j] t := by
  have e : (xs.map V.int)[j]? = some (V.int xs[j]) := by rw [List.getElem?_map, List.getElem?_eq_getElem h] <;> rfl
  obtain ⟨u, hu, t, rfl⟩ := r.get e
  rw [List.getElem?_eq_getElem h'] at hu
  exact ⟨t, Option.some.inj hu⟩
theorem all_at (xs ys : List Int) (hl : xs.length = ys.length) : ((List.range xs.length).all fun j => xs.getD j 0 == ys.getD j 0) = decide (xs = ys) := by
  rw [Bool.eq_iff_iff, List.all_eq_true, decide_eq_true_eq]
  constructor
  · intro h
    refine List.ext_getElem hl fun j h1 h2 => ?_
    have := h j (List.mem_range.mpr h1)
    rw [beq_iff_eq, List.getD_eq_getElem?_getD, List.getD_eq_getElem?_getD, List.getElem?_eq_getElem h1, List.getElem?_eq_getElem h2] at this
    exact this
  · rintro rfl j _
    exact beq_self_eq_true _
theorem op_eqI (hu : X.A.units < cLine) : OpR X (compareOp .Eq) (rEqI X.K) := by
  intro pins s σ H x y v u Q I rx ry h
  obtain ⟨p, q, xs, ys, rfl, rfl, hp, hq, h⟩ := h
  cases rx
  cases ry
  obtain ⟨its, r, pl, hz⟩ := I.list hp
  obtain ⟨its2, r2, pl2, hz2⟩ := I.list hq
  have l1 := r.length
  have l2 := r2.length
  rw [List.length_map] at l1 l2
  by_cases hl : xs.length = ys.length
  · refine SeqAt.eq_listAt (e := fun j => xs.getD j 0 == ys.getD j 0) pl.isList pl2.isList (by simp only [List.size_toArray]; lia) hu (fun j h1 h2 => ?_) ?_
    · simp only [List.size_toArray] at h1 h2
      obtain ⟨t, e⟩ := int_at r (j := j) (by lia) h1
      obtain ⟨t', e'⟩ := int_at r2 (j := j) (by lia) h2
      have z : SeqAt.EqAt X.A.in1 s its[j] its2[j] (xs[j] == ys[j]) := by
        rw [e, e']; exact SeqAt.EqAt.int_int _ _ _ _
      rw [List.getD_eq_getElem?_getD, List.getD_eq_getElem?_getD, List.getElem?_eq_getElem (show j < xs.length by lia), List.getElem?_eq_getElem (show j < ys.length by lia)]
      simpa using z
    · have e : (List.range its.toArray.size).all (fun j => xs.getD j 0 == ys.getD j 0) = decide (xs = ys) := by
        rw [← all_at xs ys hl, l1, List.size_toArray]
      rw [e]
      exact ⟨.bl _, H, I, rfl, h⟩
  · have e : decide (xs = ys) = false := decide_eq_false fun z => hl (by rw [z])
    rw [e] at h
    exact SeqAt.eq_list_lengthsAt pl.isList pl2.isList (by simp only [List.size_toArray, bne_iff_ne, ne_eq]; lia) hu ⟨.bl false, H, I, rfl, h⟩
end
noncomputable def Itr3 (lo st : Int) (n : Nat) : It := ⟨fun i _ => i < n, fun i H x H' => H' = H ∧ x = .int (lo + i * st), fun i _ => n ≤ i⟩
theorem turn_range3 {P : Program} {w : World} {K : PySem.W.Frag} {tg : Expr} (it : Addr) (lo st : Int) (n : Nat) :
    Turn P w K tg (Itr3 lo st n) [it] it (fun i h => IsRangeIter h it (lo + (i : Nat) * st) ((n : Int) - (i : Nat)) st) where
  mem := List.mem_singleton.mpr rfl
  obj := fun i h q b hb => by
    obtain rfl := List.mem_singleton.mp hb
    exact ⟨_, q, fun v z => by cases (show Data.fields _ = Data.cell v from z)⟩
  keep := fun i h h' q k => k it (List.mem_singleton.mpr rfl) _ q
  item := by
    intro X e1 e2 e3 hc i pins s σ H E I hf q hg
    subst e1 e2 e3
    obtain ⟨f0, f1, f2, f3, f4, f5⟩ := hf it (List.mem_singleton.mpr rfl)
    refine (Walks.range (prog := X.prog) (w := X.w) (I.ok.hd hc) it lo st n).item i s _ _ hg q fun v h' tk hv q' kk => ?_
    obtain ⟨t, rfl⟩ := hv
    have I1 : Inv X pins σ H { s with heap := h', toks := tk } := I.turned (fun b o hb e => kk b o (fun z => hb (List.mem_singleton.mp z)) e) f0 f1 f3 f4 f5
    exact ⟨_, rfl, go_of (s := { s with heap := h', toks := tk }) (n := "range_iterator") q' rfl rfl (by decide) ⟨.int (lo + i * st), H, I1, ⟨t, rfl⟩, ⟨rfl, rfl⟩, q', fun b hb => (hf b hb).1⟩⟩
  done := by
    intro X e1 e2 e3 hc i pins s σ H E I hf q hg
    subst e1 e2 e3
    obtain ⟨f0, f1, f2, f3, f4, f5⟩ := hf it (List.mem_singleton.mpr rfl)
    exact wpAny_pyNext_range_end (I.ok.hd hc) q (by have : n ≤ i := hg; lia) fun h' eb => ⟨rfl, I.turned (t' := s.toks) (fun b o hb e => eb b o hb e) f0 f1 f3 f4 f5⟩
  self := fun _ _ _ _ _ q h => wpAny_pyIter_rangeiter q h
noncomputable def iRng3 (ta : TA) : TI := fun σ H R => ta σ H fun vs H1 => ∃ (i j k : Int) (n : Nat), vs = [.int i, .int j, .int k] ∧ k ≠ 0 ∧ k.natAbs < 1073741824 ∧ Builtin.Range.small i j k = true ∧ Builtin.Range.rangeSize i j k = n ∧ R (Itr3 i k n) H1
theorem pi_range3 {X : Cx} {tg a b c : Expr} {ta : TA} {p pos : Pos} (hg : Gl X "range") (hm : X.mg "range" = none) (ha : PA X [a, b, c] ta)
    (hs : starEach [a, b, c] X.env = [(false, eval a X.env), (false, eval b X.env), (false, eval c X.env)] := by rfl)
    (hs2 : starEach [b, c] X.env = [(false, eval b X.env), (false, eval c X.env)] := by rfl) : PI X tg (.Call (.Name "range" p) [a, b, c] [] pos) (iRng3 ta) := by
  intro pins s σ H R I h
  refine Call_ (ld_blt I hg hm boot_range (PyProof.Rows.callWith_type1 (thn (ha pos pins s σ H _ I h) fun us s1 q1 => ?_) (by rw [hs, hs2]) (by rw [hs2]; rfl)))
  obtain ⟨vs, H1, I1, r1, i, j, k, n, rfl, hk, hkb, hsm, hn, q⟩ := q1
  cases r1 with
  | cons ra rr =>
    cases rr with
    | cons rb rr =>
      cases rr with
      | cons rc rr =>
        cases rr
        obtain ⟨t, rfl⟩ := ra
        obtain ⟨u, rfl⟩ := rb
        obtain ⟨v, rfl⟩ := rc
        refine call_range_3 hk ?_ (.inl (PyProof.noPylong_small hkb))
        refine wpAny_pyIter_range (IsRange.new ..) hsm ?_
        have I2 : Inv X pins σ H1 { s1 with heap := s1.heap.push { cls := .type "range", data := .fields #[.int i t, .int j u, .int k v] } } := I1.kept (t' := s1.toks) fun b o e => Heap.get?_push_of_some _ e
        refine ⟨_, [_], _, _, H1, rfl, I2.kept (t' := s1.toks) fun b o e => Heap.get?_push_of_some _ e, turn_range3 _ i k n, ?_, fun b hb => ?_, q⟩
        · have e1 : i + ((0 : Nat) : Int) * k = i := by simp
          have e2 : ((n : Nat) : Int) - ((0 : Nat) : Int) = Builtin.Range.rangeSize i j k := by rw [hn]; simp
          show IsRangeIter _ _ (i + ((0 : Nat) : Int) * k) (((n : Nat) : Int) - ((0 : Nat) : Int)) k
          rw [e1, e2]
          exact Heap.get?_push_size _ rfl
        · obtain rfl := List.mem_singleton.mp hb
          exact I2.fpOk (Nat.le_refl _) (I2.hok.fresh (Nat.le_refl _))
theorem for_range3 {lo st : Int} {n : Nat} {g : TG} {tb : TS} {D : Ends} {σ : St} {H : Hp} (Pv : Nat → St → Hp → Prop) (h0 : Pv 0 σ H)
    (hs : ∀ i σ H, i < n → Pv i σ H → g (.int (lo + i * st)) σ H fun σ2 H2 => tb { D with nx := Pv (i + 1), ct := Pv (i + 1), bk := D.nx } σ2 H2) (hd : ∀ σ H, Pv n σ H → D.nx σ H) :
    ∃ W : Nat → Nat → St → Hp → Prop, (∃ m, W 0 m σ H) ∧ ∀ i m σ H, W i m σ H →
      ((Itr3 lo st n).stop i H ∧ D.nx σ H) ∨ ((Itr3 lo st n).go i H ∧ ∃ N : St → Hp → Prop, (∀ σ' H', N σ' H' → ∃ m', m' < m ∧ W (i + 1) m' σ' H') ∧ ∀ x H', (Itr3 lo st n).yld i H x H' → g x σ H' fun σ2 H2 => tb { D with nx := N, ct := N, bk := D.nx } σ2 H2) := by
  refine ⟨fun i m σ H => m = n - i ∧ i ≤ n ∧ Pv i σ H, ⟨n, rfl, Nat.zero_le _, h0⟩, fun i m σ H q => ?_⟩
  obtain ⟨rfl, hi, p⟩ := q
  by_cases hlt : i < n
  · refine .inr ⟨hlt, Pv (i + 1), fun σ' H' p' => ⟨n - (i + 1), by lia, rfl, hlt, p'⟩, fun x H' y => ?_⟩
    obtain ⟨rfl, rfl⟩ := y
    exact hs i σ _ hlt p
  · obtain rfl : i = n := by lia
    exact .inl ⟨Nat.le_refl _, hd σ H p⟩
structure FnB (P : Program) (w : World) (K : PySem.W.Frag) (mg : Str → Option Value) (base : Heap) (k : Nat) (x : Str) (ps : List Str) (sp : Sp) : Prop where
  ex : ∃ f fd, FnOk P w K mg base CX0 k f fd ps sp ∧ mg x = some (.ref f) ∧ PySem.W.keepIn K (.ref f) = true ∧ Binds K fd ps []
structure DefB (K : PySem.W.Frag) (mg : Str → Option Value) (x : Str) (st : Stmt) (ps : List Str) : Prop where
  ex : ∃ f fd, Fun K x x st f fd ∧ mg x = some (.ref f) ∧ Binds K fd ps []
section
variable {P : Program} {w : World} {K : PySem.W.Frag} {mg : Str → Option Value} {base : Heap} {x : Str} {st : Stmt} {N ps : List Str} {j k : Nat} {sp sp' : Sp}
theorem FnB.mono (F : FnB P w K mg base j x ps sp) (h : j ≤ k) : FnB P w K mg base k x ps sp :=
  let ⟨f, fd, a, b, c, d⟩ := F.ex
  ⟨f, fd, a.mono h, b, c, d⟩
theorem DefB.ok (D : DefB K mg x st ps) (S : FnScope N ps (defScope st)) (len : ∀ vs H Q E, sp vs H Q E → vs.length = ps.length)
    (hbody : ∀ (f : Addr) (cdv : Value) (A : Around) (outer : List Env) (s : Shared) (H : Hp) (vs : List V) (Q : VK) (E : XK), Room k (A.deeper (envOfC x (defScope st) s.heap.objs.size f cdv)) → sp vs H Q E →
      ∃ t, PSs (cxOf CX0 P w K mg base N x (defScope st) f cdv A outer s H E).nox (defBody st) t ∧ t { nx := fun _ H' => Q .non H', rt := Q } (start N vs) H) : FnB P w K mg base (k + 1) x ps sp :=
  let ⟨f, fd, a, b, c⟩ := D.ex
  ⟨f, fd, a.ok S len fun cdv A outer s H vs Q E => hbody f cdv A outer s H vs Q E, b, a.kp, c⟩
end
theorem def_of {K : PySem.W.Frag} {h : Heap} {mg : Str → Option Value} {x : Str} {st : Stmt} {ps : List Str} {f : Addr} {od an : Option Addr} {sl : Array (Option Value)} {oc kV doc pm cd ct : Value} (X : K.In h) (G : h.Ns mainGlobals mg)
    (a : PySem.W.nsIn K mainGlobals x = some (some (.ref f))) (l : K.lookup f = some ⟨oc, od, .func (PySem.W.fnOf x x (defArgs st) (defBody st) (defScope st) .none kV doc pm an cd ct), sl⟩)
    (c : PySem.W.codeIn K cd x = true) (k : PySem.W.keepIn K (.ref f) = true)
    (b : ∀ (kV doc pm : Value) (an : Option Addr) (cdv ct : Value) (us : List Value), us.length = ps.length → bindArgs (PySem.W.fnOf x x (defArgs st) (defBody st) (defScope st) .none kV doc pm an cdv ct) ⟨us, []⟩ = pure (ps.zip us)) : DefB K mg x st ps :=
  have F := fun_mk (st := st) l c k
  ⟨_, _, F, PySem.W.mg_of X G a, F.binds b⟩
theorem pe_fn {X : Cx} {k : Nat} {x : Str} {ps : List Str} {sp : Sp} {p pos : Pos} {e : Expr} {es : List Expr} {t : TA} (F : FnB X.prog X.w X.K X.mg X.base k x ps sp) (hr : Room k X.A) (ha : PA X (e :: es) t)
    (hg : Gl X x := by rfl) (hdb : (x == ("__debug__" : Str)) = false := by decide) (he : starEach (e :: es) X.env = (false, eval e X.env) :: starEach es X.env := by rfl)
    (hpl : (backTo pos (starEach es X.env)).any (·.1) = false := by rfl) : PE X (.Call (.Name x p) (e :: es) [] pos) (tCall sp [] E0 t) :=
  let ⟨_, _, a, b, c, d⟩ := F.ex
  pe_call a hr hg b c d .nil pass0 ha hdb he hpl
section
variable {σ : St} {H : Hp} {Q : VK} {D : Ends} {te ta tb : TE} {tr : TA} {ts us : TS} {tt uu : TT} {QB : Bool → Hp → Prop} {QA : List V → Hp → Prop}
theorem r_seq (h : ts { D with nx := us D } σ H) : tSeq ts us D σ H := h
theorem r_set {i : Nat} (h : te σ H fun x H1 => D.nx (σ.set i (some x)) H1) : tAsg te (gName i) D σ H := h
theorem r_asg {g : TG} (h : te σ H fun x H1 => g x σ H1 D.nx) : tAsg te g D σ H := h
theorem r_ret (h : te σ H D.rt) : tRet te D σ H := h
theorem r_drop (h : te σ H fun _ H1 => D.nx σ H1) : tDrop te D σ H := h
theorem r_next (h : D.nx σ H) : tNext D σ H := h
theorem r_var {i : Nat} {v : V} (e : σ[i]? = some (some v)) (h : Q v H) : tVar i σ H Q := ⟨v, e, h⟩
theorem r_for {wi : TI} {g : TG} (h : wi σ H fun J H1 => ∃ W : Nat → Nat → St → Hp → Prop, (∃ m, W 0 m σ H1) ∧ ∀ i m σ H, W i m σ H →
    (J.stop i H ∧ D.nx σ H) ∨ (J.go i H ∧ ∃ N : St → Hp → Prop, (∀ σ' H', N σ' H' → ∃ m', m' < m ∧ W (i + 1) m' σ' H') ∧ ∀ x H', J.yld i H x H' → g x σ H' fun σ2 H2 => ts { D with nx := N, ct := N, bk := D.nx } σ2 H2)) : tFor wi g ts D σ H := h
theorem r_rng3 {R : It → Hp → Prop} (h : tr σ H fun vs H1 => ∃ (i j k : Int) (n : Nat), vs = [.int i, .int j, .int k] ∧ k ≠ 0 ∧ k.natAbs < 1073741824 ∧ Builtin.Range.small i j k = true ∧ Builtin.Range.rangeSize i j k = n ∧ R (Itr3 i k n) H1) : iRng3 tr σ H R := h
theorem r_gname {i : Nat} {v : V} {R : St → Hp → Prop} (h : R (σ.set i (some v)) H) : gName i v σ H R := h
theorem r_gcons {t : TG} {u : TGs} {v : V} {r : List V} {R : St → Hp → Prop} (h : t v σ H fun σ' H' => u r σ' H' R) : gCons t u (v :: r) σ H R := ⟨v, r, rfl, h⟩
theorem r_gnil {R : St → Hp → Prop} (h : R σ H) : gNil [] σ H R := ⟨rfl, h⟩
theorem r_c {v : V} (h : Q v H) : tC v σ H Q := h
theorem r_op {r : R2} (h : ta σ H fun x H1 => tb σ H1 fun y H2 => r x y H2 Q) : tOp r ta tb σ H Q := h
theorem r_un {r : V → Hp → VK → Prop} (h : ta σ H fun x H1 => r x H1 Q) : tUn r ta σ H Q := h
theorem r_i0 {g : Int → Int → V} {i j : Int} (h : Q (g i j) H) : rI0 g (.int i) (.int j) H Q := ⟨i, j, rfl, rfl, h⟩
theorem r_i {C : Int → Int → Prop} {g : Int → Int → V} {i j : Int} (c : C i j) (h : Q (g i j) H) : rI C g (.int i) (.int j) H Q := ⟨i, j, rfl, rfl, c, h⟩
theorem r_u {g : Int → V} {i : Int} (h : Q (g i) H) : rU g (.int i) H Q := ⟨i, rfl, h⟩
theorem r_test (h : te σ H fun x H' => ∃ k, x = .bl k ∧ QB k H') : tTest te σ H QB := h
theorem r_tb (h : te σ H fun x H' => ∃ k, x = .bl k ∧ QB k H') : tB te σ H QB := h
theorem r_bl {k : Bool} {R : Bool → Prop} (h : R k) : ∃ k', V.bl k = .bl k' ∧ R k' := ⟨k, rfl, h⟩
theorem r_eqi {i j : Int} (h : Q (.bl (decide (i = j))) H) : rEq (.int i) (.int j) H Q := ⟨rfl, by rw [show decide (V.int i = V.int j) = decide (i = j) by rw [Bool.eq_iff_iff]; simp]; exact h⟩
theorem r_nei {i j : Int} (h : Q (.bl (!decide (i = j))) H) : rNe (.int i) (.int j) H Q := ⟨rfl, by rw [show decide (V.int i = V.int j) = decide (i = j) by rw [Bool.eq_iff_iff]; simp]; exact h⟩
theorem r_ifS (h : tt σ H fun b H1 => if b = true then ts D σ H1 else us D σ H1) : tIfS tt ts us D σ H := h
theorem r_ifE (h : tt σ H fun c H1 => if c = true then ta σ H1 Q else tb σ H1 Q) : tIf tt ta tb σ H Q := h
theorem r_and (h : tt σ H fun c H1 => if c = true then uu σ H1 QB else QB false H1) : tAnd tt uu σ H QB := h
theorem r_or (h : tt σ H fun c H1 => if c = true then QB true H1 else uu σ H1 QB) : tOr tt uu σ H QB := h
theorem r_not (h : tt σ H fun c H1 => QB (!c) H1) : tNot tt σ H QB := h
theorem r_andV (h : ta σ H fun x H1 => ∃ c, x = .bl c ∧ if c = true then tb σ H1 Q else Q (.bl false) H1) : tAndV ta tb σ H Q := h
theorem r_orV (h : ta σ H fun x H1 => ∃ c, x = .bl c ∧ if c = true then Q (.bl true) H1 else tb σ H1 Q) : tOrV ta tb σ H Q := h
theorem r_notV (h : ta σ H fun x H1 => ∃ c, x = .bl c ∧ Q (.bl (!c)) H1) : tNotV ta σ H Q := h
theorem r_nil (h : QA [] H) : tNil σ H QA := h
theorem r_cons (h : te σ H fun x H1 => tr σ H1 fun xs H2 => QA (x :: xs) H2) : tCons te tr σ H QA := h
theorem r_call {sp : Sp} {E : XK} (h : tr σ H fun vs H1 => sp (vs ++ []) H1 Q E) : tCall sp [] E tr σ H Q := h
theorem r_cb {r : List V → Hp → VK → Prop} (h : tr σ H fun vs H1 => r vs H1 Q) : tCB r tr σ H Q := h
theorem r_tup (h : tr σ H fun xs H1 => xs.length ≤ sizeLine ∧ ∀ p, H1 p = none → Q (.ref p) (upd H1 p (.tup xs))) : tTup tr σ H Q := h
theorem r_lst (h : tr σ H fun xs H1 => xs.length ≤ sizeLine ∧ ∀ p, H1 p = none → Q (.ref p) (upd H1 p (.lst xs))) : tLst tr σ H Q := h
theorem r_tru {K : PySem.W.Frag} {i : Int} {R : Bool → Prop} (h : R (i != 0)) : ∃ k, TruV K (.int i) H k ∧ R k := ⟨_, rfl, h⟩
theorem r_ixT {K : PySem.W.Frag} {p : Addr} {xs : List V} {i : Int} {v : V} (hs : SqT K H p xs) (he : atI xs i = some v) (h : Q v H) : rIxT K (.ref p) (.int i) H Q := ⟨p, xs, i, v, rfl, rfl, hs, he, h⟩
theorem r_ixL {K : PySem.W.Frag} {p : Addr} {xs : List V} {i : Int} {v : V} (hs : SqL K H p xs) (he : atI xs i = some v) (h : Q v H) : rIxL K (.ref p) (.int i) H Q := ⟨p, xs, i, v, rfl, rfl, hs, he, h⟩
theorem small4 {n : Nat} (h : n ≤ 1000) : n ≤ sizeLine := Nat.le_of_lt (small1000 h)
theorem Same.new {H : Hp} {p : Addr} (h : H p = none) (o : HO) : Same H (upd H p o) := fun b u q => by rw [upd_ne (ne_of_none q h)]; exact q
end
end L2
namespace L2
open PySem PySem.Spec PyProof.Rows
noncomputable def Ite (K : PySem.W.Frag) (a : Addr) : It :=
  ⟨fun i H => ∃ xs x, SqL K H a xs ∧ xs[i]? = some x, fun i H x H' => ∃ p y, H p = none ∧ x = .ref p ∧ H' = upd H p (.tup [.int (i : Int), y]) ∧ ∀ xs, SqL K H a xs → xs[i]? = some y, fun i H => ∃ xs, SqL K H a xs ∧ xs.length ≤ i⟩
noncomputable def Itv (K : PySem.W.Frag) (a : Addr) (n : Nat) : It :=
  ⟨fun i H => i < n ∧ ∃ xs x, SqL K H a xs ∧ xs[n - 1 - i]? = some x, fun i H x H' => H' = H ∧ ∀ xs, SqL K H a xs → xs[n - 1 - i]? = some x, fun i _ => i = n⟩
noncomputable def iEnum (K : PySem.W.Frag) (ta : TA) : TI := fun σ H R => ta σ H fun vs H1 => ∃ a, vs = [.ref a] ∧ (∃ xs, SqL K H1 a xs) ∧ R (Ite K a) H1
noncomputable def iRev (K : PySem.W.Frag) (ta : TA) : TI := fun σ H R => ta σ H fun vs H1 => ∃ a xs, vs = [.ref a] ∧ SqL K H1 a xs ∧ R (Itv K a xs.length) H1
end L2
namespace L2
open PySem PySem.Spec PyProof.Rows
section
variable {prog : Program} {w : World} {A : Around} {R : Result → Shared → Prop} {s : Shared}
end
structure CompOk (X : Cx) (scope : Scope) (cl : List (Str × Addr)) (own : List Str) (fr : List Nat) (M : List Str) : Prop where
  clos : closureFor scope X.env = pure cl
  kind : scope.kind = .function
  names : ∀ x ∈ scope.names, x.2 = .local → scope.names.lookup x.1 = some .local
  nocell : ∀ x ∈ scope.names, x.2 ≠ .cell
  cls : ∀ x c, cl.lookup x = some c → X.env.cells.lookup x = some c
  has : ∀ x, ((relabel scope X.env).names.lookup x = some .cell ∨ (relabel scope X.env).names.lookup x = some .free) → ∃ c, cl.lookup x = some c
  len : M.length = own.length + fr.length
  ownl : ∀ (i : Nat) x, own[i]? = some x → M[i]? = some x
  from_ : ∀ (j i : Nat) x, fr[j]? = some i → M[own.length + j]? = some x → X.N[i]? = some x ∧ X.env.scope.names.lookup x = some .cell ∧ (∃ c, cl.lookup x = some c) ∧ ((relabel scope X.env).names.lookup x = some .cell ∨ (relabel scope X.env).names.lookup x = some .free)
section
variable {X : Cx} {pins : List (Addr × Obj)} {σ : St} {H : Hp} {s : Shared} {scope : Scope} {cl : List (Str × Addr)} {own : List Str} {fr : List Nat} {M : List Str}
end
end L2
namespace L2
open PySem PySem.Spec PyProof.Rows
section
variable {X : Cx}
noncomputable def rNeI (K : PySem.W.Frag) : R2 := fun x y H Q => ∃ (p q : Addr) (xs ys : List Int), x = .ref p ∧ y = .ref q ∧ SqL K H p (xs.map V.int) ∧ SqL K H q (ys.map V.int) ∧ Q (.bl (!decide (xs = ys))) H
theorem op_neI (hu : X.A.units + 64 < cLine) : OpR X (compareOp .NotEq) (rNeI X.K) := by
  intro pins s σ H x y v u Q I rx ry h
  obtain ⟨p, q, xs, ys, rfl, rfl, hp, hq, h⟩ := h
  cases rx
  cases ry
  obtain ⟨its, r, pl, hz⟩ := I.list hp
  obtain ⟨its2, r2, pl2, hz2⟩ := I.list hq
  exact PySem.W.ke_ne_ints pl.isList pl2.isList (intsAre_of r) (intsAre_of r2) hu ⟨.bl _, H, I, rfl, h⟩
end
end L2
namespace L2
open PySem PySem.Spec PyProof.Rows
section
variable {own : List Str} {fr : List Nat} {g : TG} {te : TE} {σ : St} {H1 : Hp} {Q : VK}
end
theorem while_go {c : TT} {tb : TS} {D : Ends} {σ : St} {H : Hp} (Pv : Nat → St → Hp → Prop) (h0 : ∃ m, Pv m σ H)
    (hs : ∀ m σ H, Pv m σ H → c σ H fun b H1 => if b = true then ∃ N : St → Hp → Prop, (∀ σ' H', N σ' H' → ∃ m', m' < m ∧ Pv m' σ' H') ∧ tb { D with nx := N, ct := N, bk := D.nx } σ H1 else D.nx σ H1) : tWhile c tb D σ H := ⟨Pv, h0, hs⟩
section
variable {σ : St} {H : Hp} {R : It → Hp → Prop} {tl : TE} {tr : TA} {Q : VK}
theorem r_ilist {K : PySem.W.Frag} (h : tl σ H fun x H1 => ∃ a, x = .ref a ∧ (∃ xs, SqL K H1 a xs) ∧ R (Itl K a) H1) : iList K tl σ H R := h
theorem r_rng1 (h : tr σ H fun vs H1 => ∃ j : Int, vs = [.int j] ∧ -(2 ^ 62) ≤ j ∧ j < 2 ^ 62 ∧ R (Itr 0 j.toNat) H1) : iRng1 tr σ H R := h
theorem r_rng2 (h : tr σ H fun vs H1 => ∃ i j : Int, vs = [.int i, .int j] ∧ (-(2 ^ 62) ≤ i ∧ i < 2 ^ 62 ∧ -(2 ^ 62) ≤ j ∧ j < 2 ^ 62) ∧ R (Itr i (j - i).toNat) H1) : iRng2 tr σ H R := h
theorem r_ienum {K : PySem.W.Frag} (h : tr σ H fun vs H1 => ∃ a, vs = [.ref a] ∧ (∃ xs, SqL K H1 a xs) ∧ R (Ite K a) H1) : iEnum K tr σ H R := h
theorem r_irev {K : PySem.W.Frag} (h : tr σ H fun vs H1 => ∃ a xs, vs = [.ref a] ∧ SqL K H1 a xs ∧ R (Itv K a xs.length) H1) : iRev K tr σ H R := h
theorem r_part {te : TE} {S : Option Int → Hp → Prop} (h : te σ H fun x H1 => ∃ i, x = .int i ∧ S (some i) H1) : tPart te σ H S := h
theorem r_nopart {S : Option Int → Hp → Prop} (h : S none H) : tNoPart σ H S := h
theorem r_slice {r : V → Option Int → Option Int → Hp → VK → Prop} {tlo thi : TO} (h : tl σ H fun x H1 => tlo σ H1 fun l H2 => thi σ H2 fun u H3 => r x l u H3 Q) : tSl r tl tlo thi σ H Q := h
theorem r_sub {to ti : TE} {t : TSet} {v : V} {S : St → Hp → Prop} (h : to σ H fun o H1 => ti σ H1 fun i H2 => t o i v H2 fun H3 => S σ H3) : gSub to ti t v σ H S := h
end
end L2
namespace SF
open Lean.Grind
section
variable {R : Type} [CommRing R]
noncomputable def sumN (f : Nat → R) : Nat → R
  | 0 => 0
  | n + 1 => sumN f n + f n
end
end SF
namespace SF
noncomputable def Bd (n : Nat) (x : Int) : Prop := x.natAbs < 2 ^ n
theorem Bd.mono {m n : Nat} {x : Int} (h : Bd m x) (hmn : m ≤ n) : Bd n x :=
  Nat.lt_of_lt_of_le h (Nat.pow_le_pow_right (by decide) hmn)
theorem Bd.of_dvd {n : Nat} {x y : Int} (h : Bd n y) (hd : x ∣ y) (h0 : y ≠ 0) : Bd n x := by
  unfold Bd at *
  have h1 : x.natAbs ∣ y.natAbs := Int.natAbs_dvd_natAbs.mpr hd
  have h2 := Nat.le_of_dvd (Int.natAbs_pos.mpr h0) h1
  lia
theorem Bd.log2 {n : Nat} {x : Int} (h : Bd n x) (hn : n ≤ 9000) : x.natAbs.log2 < 9000 := by
  unfold Bd at h
  rcases Nat.eq_zero_or_pos x.natAbs with h0 | hp
  · rw [h0]; decide
  · exact (Nat.log2_lt (Nat.ne_of_gt hp)).mpr (Nat.lt_of_lt_of_le h (Nat.pow_le_pow_right (by decide) hn))
theorem Bd.of_le {n : Nat} {x y : Int} (h : Bd n y) (h' : x.natAbs ≤ y.natAbs) : Bd n x := Nat.lt_of_le_of_lt h' h
theorem Bd.of_range {n : Nat} {x : Int} (h1 : 0 ≤ x) (h2 : x < 2 ^ n) : Bd n x := by
  unfold Bd
  have e : ((2 : Int) ^ n) = ((2 ^ n : Nat) : Int) := by simp
  rw [e] at h2
  lia
theorem Bd.of_two {n : Nat} {x : Int} (h1 : -(2 ^ n) < x) (h2 : x < 2 ^ n) : Bd n x := by
  unfold Bd
  have e : ((2 : Int) ^ n) = ((2 ^ n : Nat) : Int) := by simp
  rw [e] at h1 h2
  lia
theorem fmod_pos {g l : Int} (hl : 0 < l) : g.fmod l = g % l := Int.fmod_eq_emod_of_nonneg g (by lia)
theorem fdiv_pos {g l : Int} (hl : 0 < l) : g.fdiv l = g / l := Int.fdiv_eq_ediv_of_nonneg g (by lia)
theorem gcd_turn {g l : Int} (hg : 0 ≤ g) (hl : 0 < l) : Int.gcd l (g % l) = Int.gcd g l := by
  obtain ⟨m, rfl⟩ := Int.eq_ofNat_of_zero_le hg
  obtain ⟨n, rfl⟩ := Int.eq_ofNat_of_zero_le (show 0 ≤ l by lia)
  have e : ((m : Int) % (n : Int)) = ((m % n : Nat) : Int) := by simp
  rw [e]
  show Nat.gcd n (m % n) = Nat.gcd m n
  rw [Nat.gcd_comm m n, Nat.gcd_rec n m, Nat.gcd_comm]
theorem gcd_abs {a b : Int} : Int.gcd (if a < 0 then -a else a) (if b < 0 then -b else b) = Int.gcd a b := by
  split <;> split <;> simp [Int.gcd_neg, Int.neg_gcd]
theorem gcd_end {g : Int} (hg : 0 ≤ g) : ((Int.gcd g 0 : Nat) : Int) = g := by
  rw [Int.gcd_zero_right]; lia
noncomputable def rs (a b : Int) : Int := if b < 0 then -((Int.gcd a b : Nat) : Int) else ((Int.gcd a b : Nat) : Int)
noncomputable def rt (a b : Int) : Int := a.fdiv (rs a b)
noncomputable def ru (a b : Int) : Int := b.fdiv (rs a b)
theorem fdiv_mul {x y : Int} (hd : y ∣ x) : x.fdiv y * y = x := Int.fdiv_mul_cancel hd
structure Low (p q a b : Int) : Prop where
  pos : 0 < q
  cross : p * b = a * q
  low : Int.gcd p q = 1
end SF
namespace SF
open Lean.Grind
noncomputable def co (xs : List Int) (i : Nat) : Int := xs.getD i 0
theorem co_succ (x : Int) (r : List Int) (i : Nat) : co (x :: r) (i + 1) = co r i := rfl
theorem co_lt {xs : List Int} {i : Nat} (h : i < xs.length) : co xs i = xs[i] := by
  show xs.getD i 0 = _; rw [List.getD_eq_getElem?_getD, List.getElem?_eq_getElem h]; rfl
theorem co_ge {xs : List Int} {i : Nat} (h : xs.length ≤ i) : co xs i = 0 := by
  show xs.getD i 0 = _; rw [List.getD_eq_getElem?_getD, List.getElem?_eq_none h]; rfl
theorem co_take (xs : List Int) (n i : Nat) : co (xs.take n) i = if i < n then co xs i else 0 := by
  show (xs.take n).getD i 0 = _
  rw [List.getD_eq_getElem?_getD]
  split
  · rename_i h; rw [List.getElem?_take_of_lt h]; rfl
  · rename_i h; rw [List.getElem?_eq_none (by rw [List.length_take]; lia)]; rfl
noncomputable def Tr (xs : List Int) : Prop := ∀ x, xs.getLast? = some x → x ≠ 0
theorem Tr.nil : Tr [] := fun x h => by cases h
theorem Tr.last {xs : List Int} (h : Tr xs) (hn : xs ≠ []) : co xs (xs.length - 1) ≠ 0 := by
  have hl : 0 < xs.length := List.length_pos_iff.mpr hn
  rw [co_lt (by lia)]
  refine h _ ?_
  rw [List.getLast?_eq_getElem?, List.getElem?_eq_getElem (by lia)]
theorem Tr.of_last {xs : List Int} (h : xs ≠ [] → co xs (xs.length - 1) ≠ 0) : Tr xs := by
  intro x hx
  have hn : xs ≠ [] := by rintro rfl; cases hx
  have hl : 0 < xs.length := List.length_pos_iff.mpr hn
  have := h hn
  rw [co_lt (by lia)] at this
  rw [List.getLast?_eq_getElem?, List.getElem?_eq_getElem (by lia)] at hx
  rw [Option.some.inj hx] at this
  exact this
theorem Tr.inj {xs ys : List Int} (hx : Tr xs) (hy : Tr ys) (h : ∀ i, co xs i = co ys i) : xs = ys := by
  have hl : xs.length = ys.length := by
    rcases Nat.lt_trichotomy xs.length ys.length with hlt | he | hlt
    · have hn : ys ≠ [] := by rintro rfl; exact absurd hlt (Nat.not_lt_zero _)
      have := hy.last hn
      rw [← h, co_ge (by lia)] at this
      exact absurd rfl this
    · exact he
    · have hn : xs ≠ [] := by rintro rfl; exact absurd hlt (Nat.not_lt_zero _)
      have := hx.last hn
      rw [h, co_ge (by lia)] at this
      exact absurd rfl this
  refine List.ext_getElem hl fun i h1 h2 => ?_
  have := h i
  rw [co_lt h1, co_lt h2] at this
  exact this
noncomputable def trimL : List Int → List Int
  | [] => []
  | x :: r => match trimL r with
    | [] => if x = 0 then [] else [x]
    | y :: t => x :: y :: t
theorem trimL_co : ∀ (xs : List Int) (i : Nat), co (trimL xs) i = co xs i
  | [], i => rfl
  | x :: r, i => by
    have ih := trimL_co r
    unfold trimL
    cases e : trimL r with
    | nil =>
      rw [e] at ih
      dsimp only
      split
      · rename_i hx
        cases i with
        | zero => exact hx.symm
        | succ i => rw [co_succ, ← ih i]; rfl
      · cases i with
        | zero => rfl
        | succ i => rw [co_succ, co_succ, ← ih i]
    | cons y t =>
      rw [e] at ih
      cases i with
      | zero => rfl
      | succ i => exact ih i
theorem trimL_tr : ∀ xs : List Int, Tr (trimL xs)
  | [] => Tr.nil
  | x :: r => by
    have ih := trimL_tr r
    unfold trimL
    cases e : trimL r with
    | nil =>
      dsimp only
      split
      · exact Tr.nil
      · rename_i hx
        intro z hz
        have : x = z := by simpa using hz
        rw [← this]; exact hx
    | cons y t =>
      rw [e] at ih
      intro z hz
      exact ih z (by simpa using hz)
theorem trimL_id {xs : List Int} (h : Tr xs) : trimL xs = xs := (trimL_tr xs).inj h (trimL_co xs)
theorem trimL_eq {xs ys : List Int} (h : ∀ i, co xs i = co ys i) : trimL xs = trimL ys :=
  (trimL_tr xs).inj (trimL_tr ys) fun i => by rw [trimL_co, trimL_co, h]
theorem trimL_take {xs : List Int} {n : Nat} (h : co xs n = 0) : trimL (xs.take (n + 1)) = trimL (xs.take n) := by
  refine trimL_eq fun i => ?_
  rw [co_take, co_take]
  by_cases h1 : i < n
  · rw [if_pos h1, if_pos (by lia)]
  · rw [if_neg h1]
    split
    · have : i = n := by lia
      rw [this]; exact h
    · rfl
theorem take_tr {xs : List Int} {n : Nat} (hn : n ≤ xs.length) (h : n = 0 ∨ co xs (n - 1) ≠ 0) : Tr (xs.take n) := by
  refine Tr.of_last fun hne => ?_
  have hl : (xs.take n).length = n := by rw [List.length_take]; lia
  rw [hl, co_take]
  have : 0 < n := by
    rcases Nat.eq_zero_or_pos n with z | z
    · rw [z] at hne; simp at hne
    · exact z
  rw [if_pos (by lia)]
  rcases h with z | z
  · lia
  · exact z
end SF
namespace SF
noncomputable def contN (xs : List Int) : Nat := xs.foldl (fun g x => Int.gcd g x) 0
noncomputable def cont (xs : List Int) : Int := if co xs (xs.length - 1) < 0 then -((contN xs : Nat) : Int) else ((contN xs : Nat) : Int)
noncomputable def hv (t u : Int) (xs : List Int) : Int := sumN (fun i => co xs i * (t ^ i * u ^ (xs.length - 1 - i))) xs.length
end SF
namespace SF
end SF
namespace L2
open PySem PySem.Spec PyProof.Rows
section
variable {X : Cx} {K : PySem.W.Frag} {pos : Pos}
end
section
variable {K : PySem.W.Frag} {own : List Str} {fr : List Nat} {g : TG} {te : TE} {σ : St} {H1 : Hp} {Q : VK}
end
end L2
namespace PySem
open Sem (wp)
namespace F
end F
section
variable {prog : Program} {w : World} {A : Around} {E : Value → Shared → Prop} {s : Shared}
end
end PySem
namespace L2
open PySem PySem.Spec PyProof.Rows
section
variable {X : Cx}
end
end L2
namespace L2
open PySem PySem.Spec PyProof.Rows
structure Dv (X : Cx) : Prop where
  tree : X.prog.given.tree = none
  top : ∃ (env : Env) (l : List Env), X.stack = env :: l ∧ env.scope.isGenerator = false ∧ env.scope.isCoroutine = false ∧ env.builtins = builtinsNs ∧ env.globals = mainGlobals
  dp : X.A.depth + 100 < recursionLimit
end L2
namespace L2
open PySem PySem.Spec PyProof.Rows
section
variable {X : Cx}
end
end L2
namespace L2
open PySem PySem.Spec PyProof.Rows
inductive IsInts : List Expr → List Int → Prop
  | nil : IsInts [] []
  | pos {n : Int} {j : Nat} {p : Pos} {es : List Expr} {ns : List Int} (h : IsInts es ns) : IsInts (.Constant (.int n) j p :: es) (n :: ns)
  | neg {n : Int} {j : Nat} {p p' : Pos} {es : List Expr} {ns : List Int} (h : IsInts es ns) : IsInts (.UnaryOp .USub (.Constant (.int n) j p) p' :: es) (-n :: ns)
end L2
namespace L2
open PySem PySem.Spec PyProof.Rows
section
variable {X : Cx}
noncomputable def rNe2 (K : PySem.W.Frag) : R2 := fun x y H Q => ∃ (p q : Addr) (a b c d : Int), x = .ref p ∧ y = .ref q ∧ SqT K H p [.int a, .int b] ∧ SqT K H q [.int c, .int d] ∧ Q (.bl (!(a == c && b == d))) H
theorem op_ne2 (hu : X.A.units < cLine) : OpR X (compareOp .NotEq) (rNe2 X.K) := by
  intro pins s σ H x y v u Q I rx ry h
  obtain ⟨p, q, a, b, c, d, rfl, rfl, hp, hq, h⟩ := h
  cases rx
  cases ry
  obtain ⟨its, r, pl, hz⟩ := I.tuple hp
  obtain ⟨its2, r2, pl2, hz2⟩ := I.tuple hq
  obtain ⟨u1, u2, rfl, ⟨t1, rfl⟩, ⟨t2, rfl⟩⟩ := vals2 r
  obtain ⟨w1, w2, rfl, ⟨t3, rfl⟩, ⟨t4, rfl⟩⟩ := vals2 r2
  have z := SeqAt.RcNeAt.tuples (A := X.A) (s := s) (e := fun j => if j = 0 then a == c else b == d) pl pl2 hu (fun j h1 h2 => by
    match j, h1, h2 with
    | 0, _, _ => exact SeqAt.EqAt.int_int _ _ _ _
    | 1, _, _ => exact SeqAt.EqAt.int_int _ _ _ _
    | j + 2, h1, _ => exact absurd h1 (by simp))
  refine z X.prog X.w X.xe _ ?_
  have e3 : (!((List.range (min [Value.int a t1, Value.int b t2].toArray.size [Value.int c t3, Value.int d t4].toArray.size)).all (fun j => if j = 0 then a == c else b == d) && [Value.int a t1, Value.int b t2].toArray.size == [Value.int c t3, Value.int d t4].toArray.size)) = !(a == c && b == d) := by
    show (!(((a == c) && ((b == d) && true)) && true)) = _
    cases (a == c) <;> cases (b == d) <;> rfl
  rw [e3]
  exact ⟨.bl _, H, I, rfl, h⟩
end
end L2
namespace L2
open PySem PySem.Spec PyProof.Rows
section
variable {X : Cx}
noncomputable def rIsDigit : V → List V → Hp → VK → Prop := fun x vs H Q => ∃ z, x = .str z ∧ vs = [] ∧ Q (.bl (Txt.isdigit z)) H
theorem mt_isdigit : MtM X "str.isdigit" rIsDigit := by
  intro pins s σ H x vs v us Q I rx rv h
  obtain ⟨z, rfl, rfl, q⟩ := h
  obtain ⟨t, rfl⟩ := rx
  cases rv
  exact SC.isdigit ⟨.bl _, H, I, rfl, q⟩
noncomputable def rStarts : V → List V → Hp → VK → Prop := fun x vs H Q => (∃ z y, x = .str z ∧ vs = [.str y] ∧ Q (.bl (Txt.startswith z y)) H) ∨ ∃ z y i, x = .str z ∧ vs = [.str y, .int i] ∧ Q (.bl (Txt.startswith3 z y i)) H
theorem mt_starts : MtM X "str.startswith" rStarts := by
  intro pins s σ H x vs v us Q I rx rv h
  rcases h with ⟨z, y, rfl, rfl, q⟩ | ⟨z, y, i, rfl, rfl, q⟩
  · obtain ⟨t, rfl⟩ := rx
    obtain ⟨u, rfl, t', rfl⟩ := vals1 rv
    exact SC.startswith ⟨.bl _, H, I, rfl, q⟩
  · obtain ⟨t, rfl⟩ := rx
    obtain ⟨u1, u2, rfl, ⟨t1, rfl⟩, ⟨t2, rfl⟩⟩ := vals2 rv
    exact SC.startswith3 ⟨.bl _, H, I, rfl, q⟩
noncomputable def rStrip : V → List V → Hp → VK → Prop := fun x vs H Q => ∃ z y, x = .str z ∧ vs = [.str y] ∧ z.length ≤ sizeLine ∧ Q (.str (Txt.stripChars z y)) H
theorem mt_strip : MtM X "str.strip" rStrip := by
  intro pins s σ H x vs v us Q I rx rv h
  obtain ⟨z, y, rfl, rfl, hz, q⟩ := h
  obtain ⟨t, rfl⟩ := rx
  obtain ⟨u, rfl, t', rfl⟩ := vals1 rv
  exact SC.stripChars (fun t' k => ⟨.str _, H, I.tok _, ⟨_, rfl⟩, q⟩) hz
theorem strsAre_of : ∀ {ys : List Str} {us : List Value}, Vals (ys.map V.str) us → StrsAre us ys
  | [], us, r => by rw [List.map_nil] at r; cases r; exact .nil
  | y :: ys, us, r => by
    rw [List.map_cons] at r
    cases r with
    | cons r1 r2 =>
      obtain ⟨t, rfl⟩ := r1
      exact .cons y t (strsAre_of r2)
noncomputable def rJoin (K : PySem.W.Frag) : V → List V → Hp → VK → Prop := fun x vs H Q => ∃ (z : Str) (p : Addr) (ys : List Str), x = .str z ∧ vs = [.ref p] ∧ SqL K H p (ys.map V.str) ∧ (ys.map (·.length)).sum + ys.length * z.length ≤ 16777216 ∧ Q (.str (Txt.join z ys)) H
theorem mt_join : MtM X "str.join" (rJoin X.K) := by
  intro pins s σ H x vs v us Q I rx rv h
  obtain ⟨z, p, ys, rfl, rfl, hp, hz, q⟩ := h
  obtain ⟨t, rfl⟩ := rx
  obtain ⟨u, rfl, r1⟩ := vals1 rv
  cases r1
  obtain ⟨its, r, pl, hz2⟩ := I.list hp
  exact join_list pl.isList (strsAre_of r) hz fun t' k => ⟨.str _, H, I.tok _, ⟨_, rfl⟩, q⟩
theorem call_int_str : CallR X (.type "int") (fun xs H Q => ∃ z n, xs = [.str z] ∧ intText? z = some n ∧ z.length ≤ 640 ∧ Q (.int n) H) := by
  intro pins s σ H xs us Q I r h
  obtain ⟨z, n, rfl, hn, hz, q⟩ := h
  obtain ⟨u, rfl, t, rfl⟩ := vals1 r
  exact PySem.W.KIN.call_text hn hz ⟨.int n, H, I.tok _, ⟨_, rfl⟩, q⟩
theorem op_mulS : OpR X (binaryOp .Mult) (fun x y H Q => ∃ z n, x = .str z ∧ y = .int n ∧ MulOk z n ∧ Q (.str (Txt.mul z n)) H) := by
  intro pins s σ H x y v u Q I rx ry h
  obtain ⟨z, n, rfl, rfl, hz, q⟩ := h
  obtain ⟨t, rfl⟩ := rx
  obtain ⟨t', rfl⟩ := ry
  exact SB.mul hz fun t' k => ⟨.str _, H, I.tok _, ⟨_, rfl⟩, q⟩
noncomputable def rSlS : V → Option Int → Option Int → Hp → VK → Prop := fun x lo hi H Q => ∃ z, x = .str z ∧ z.length ≤ sizeLine ∧ Q (.str (Txt.slice z lo hi)) H
theorem sl_str : SlR X rSlS := by
  intro pins s σ H x v vl vu lo hi sl Q I rx hs pl pu h
  obtain ⟨z, rfl, hz, q⟩ := h
  obtain ⟨t, rfl⟩ := rx
  refine ⟨"str", _, F.slot_str_getitem.lookup, typeIs_str _ _ _, ?_⟩
  have fin : ∀ t' k, EP X pins σ Q (.str (Txt.slice z lo hi) t') { s with toks := k } := fun t' k => ⟨.str _, H, I.tok _, ⟨_, rfl⟩, q⟩
  cases pl with
  | none =>
    cases pu with
    | none => exact wpAny_getItem_str_slice (l := none) (u := none) (st := none) hs rfl (post_val_or_str ⟨Nat.le_trans (Txt.slice_le z _ _) hz, fin⟩)
    | int j uj => exact wpAny_getItem_str_slice (l := none) (u := some (j, uj)) (st := none) hs rfl (post_val_or_str ⟨Nat.le_trans (Txt.slice_le z _ _) hz, fin⟩)
  | int i ui =>
    cases pu with
    | none => exact wpAny_getItem_str_slice (l := some (i, ui)) (u := none) (st := none) hs rfl (post_val_or_str ⟨Nat.le_trans (Txt.slice_le z _ _) hz, fin⟩)
    | int j uj => exact wpAny_getItem_str_slice (l := some (i, ui)) (u := some (j, uj)) (st := none) hs rfl (post_val_or_str ⟨Nat.le_trans (Txt.slice_le z _ _) hz, fin⟩)
end
end L2
namespace SF
open PySem
noncomputable abbrev S (l : List Nat) : Str := ⟨l.toArray⟩
theorem S_len (l : List Nat) : (S l).length = l.length := by show l.toArray.size = _; simp
theorem S_list (z : Str) : S z.cps.toList = z := by cases z; rfl
theorem S_app (a b : List Nat) : S a ++ S b = S (a ++ b) := by
  show (⟨a.toArray ++ b.toArray⟩ : Str) = ⟨(a ++ b).toArray⟩
  simp
theorem S_inj {a b : List Nat} (h : S a = S b) : a = b := by
  have := congrArg (fun z : Str => z.cps.toList) h
  simpa using this
noncomputable def isd (c : Nat) : Bool := 48 ≤ c && c ≤ 57
theorem asc_digit : ∀ c : Nat, c < 128 → Unicode.isDigit c = isd c := by decide +kernel
theorem digit1 {c : Nat} (h : c < 128) : Txt.isdigit ⟨#[c]⟩ = isd c := by
  show (decide ((#[c] : Array Nat).size > 0) && (#[c]).all Unicode.isDigit) = _
  simp [asc_digit c h]
noncomputable def fig (n : Nat) : List Nat := (Nat.toDigits 10 n).map Char.toNat
theorem fig_str (n : Nat) : (Str.ofString (toString ((n : Nat) : Int)) : Str) = S (fig n) := by
  rw [← S_list (Str.ofString _)]
  congr 1
  rw [PySem.W.KIN.signs_num]
  rfl
theorem fig_all (n : Nat) : ∀ c ∈ fig n, 48 ≤ c ∧ c ≤ 57 := by
  intro c hc
  obtain ⟨ch, hch, rfl⟩ := List.mem_map.mp hc
  have := Nat.isDigit_of_mem_toDigits (b := 10) (by decide) (by decide) hch
  exact PyProof.Rows.digit_range this
theorem fig_small {n : Nat} (h : n < 10) : fig n = [48 + n] := by
  unfold fig
  rw [Nat.toDigits_of_lt_base h]
  have : ∀ m : Nat, m < 10 → (Nat.digitChar m).toNat = 48 + m := by decide
  rw [List.map_cons, List.map_nil, this n h]
theorem fig_step {n : Nat} (h : 10 ≤ n) : fig n = fig (n / 10) ++ [48 + n % 10] := by
  have hm : n % 10 < 10 := Nat.mod_lt n (by decide)
  have t : Nat.toDigits 10 (n / 10) ++ Nat.toDigits 10 (n % 10) = Nat.toDigits 10 (10 * (n / 10) + n % 10) := Nat.toDigits_append_toDigits (by decide) (by lia) hm
  rw [Nat.div_add_mod] at t
  rw [← fig_small hm]
  unfold fig
  rw [← t, List.map_append]
theorem fig_ne (n : Nat) : fig n ≠ [] := by
  by_cases h : n < 10
  · rw [fig_small h]; simp
  · rw [fig_step (by lia)]; simp
theorem fig_len : ∀ (k n : Nat), n < 10 ^ (k + 1) → (fig n).length ≤ k + 1
  | 0, n, h => by rw [fig_small (by lia)]; simp
  | k + 1, n, h => by
    by_cases h10 : n < 10
    · rw [fig_small h10]; simp
    · rw [fig_step (by lia), List.length_append]
      have := fig_len k (n / 10) (Nat.div_lt_of_lt_mul (by rw [Nat.mul_comm, ← Nat.pow_succ]; exact h))
      show _ + 1 ≤ _
      lia
theorem fig_head : ∀ (n : Nat), n ≠ 0 → (fig n).head? ≠ some 48 := by
  intro n
  induction n using Nat.strongRecOn with
  | _ n ih =>
    intro hn
    by_cases h10 : n < 10
    · rw [fig_small h10]
      intro z
      have : 48 + n = 48 := Option.some.inj z
      lia
    · rw [fig_step (by lia)]
      have := ih (n / 10) (by lia) (by lia)
      cases hd : fig (n / 10) with
      | nil => exact absurd hd (fig_ne _)
      | cons a r =>
        rw [hd] at this
        exact this
theorem fig_val {n : Nat} (h : (fig n).length ≤ 4300) : intText? (S (fig n)) = some (n : Int) := by
  have e := intText_digits (x := S (fig n)) (fig_all n) (fig_ne n) (by rw [S_len]; exact h)
  rw [e]
  show some ((NumText.digitsVal (fig n) : Nat) : Int) = _
  rw [show NumText.digitsVal (fig n) = n from PySem.W.KIN.val_back n]
theorem fig_isd (n : Nat) : ∀ c ∈ fig n, isd c = true := fun c hc => by
  have := fig_all n c hc
  unfold isd
  simp; lia
theorem neg_str (n : Nat) (h : n ≠ 0) : (Str.ofString (toString (-(n : Int))) : Str) = S (45 :: fig n) := by
  obtain ⟨k, rfl⟩ := Nat.exists_eq_succ_of_ne_zero h
  have e : toString (-((k + 1 : Nat) : Int)) = "-" ++ toString ((k + 1 : Nat) : Int) := by
    show Int.repr (Int.negSucc k) = "-" ++ Int.repr (Int.ofNat (k + 1))
    rfl
  rw [← S_list (Str.ofString _)]
  congr 1
  rw [PyProof.Rows.signs_ofString, e, String.toList_append, List.map_append, ← PyProof.Rows.signs_ofString (toString _), PySem.W.KIN.signs_num]
  rfl
theorem starts3 {l p : List Nat} {i : Nat} (hi : i ≤ l.length) : Txt.startswith3 (S l) (S p) (i : Int) = ((l.drop i).take p.length == p) := by
  unfold Txt.startswith3
  have e1 : PySem.fromIndex (S l).length (i : Int) = i := by
    unfold PySem.fromIndex
    rw [if_neg (by lia)]
    lia
  rw [e1, S_len, S_len]
  unfold Builtin.Str.subAt
  have e2 : ((S l).cps.extract i (i + (S p).length) == (S p).cps) = ((l.drop i).take p.length == p) := by
    rw [S_len]
    show (l.toArray.extract i (i + p.length) == p.toArray) = _
    rw [Bool.eq_iff_iff]
    simp [List.extract_toArray]
  rw [e2]
  by_cases h : (l.drop i).take p.length = p
  · have hl := congrArg List.length h
    rw [List.length_take, List.length_drop] at hl
    rw [beq_iff_eq.mpr h, decide_eq_true (by lia)]; rfl
  · have : ((l.drop i).take p.length == p) = false := by simpa using h
    rw [this, Bool.and_false]
theorem starts1 {l p : List Nat} : Txt.startswith (S l) (S p) = (l.take p.length == p) := by
  have := starts3 (l := l) (p := p) (i := 0) (Nat.zero_le _)
  rw [List.drop_zero] at this
  rw [← this]
  unfold Txt.startswith Txt.startswith3
  have e1 : PySem.fromIndex (S l).length ((0 : Nat) : Int) = 0 := by
    unfold PySem.fromIndex
    rw [if_neg (by lia)]
    lia
  rw [e1]
theorem slice_S {l : List Nat} {i j : Nat} (h1 : i ≤ j) (h2 : j ≤ l.length) : Txt.slice (S l) (some (i : Int)) (some (j : Int)) = S ((l.drop i).take (j - i)) := by
  have := PyProof.Rows.slice_closesL (x := S l) (i := (i : Int)) (j := (j : Int)) (by lia) (by lia) (by rw [S_len]; lia)
  rw [eq_of_beq this]
  congr 1
  have e : ((j : Int) - (i : Int)).toNat = j - i := by lia
  rw [e, Int.toNat_natCast]
end SF
namespace L2
open PySem PySem.Spec PyProof.Rows
section
variable {X : Cx}
noncomputable def rEqE (K : PySem.W.Frag) : R2 := fun x y H Q => ∃ (p q : Addr) (xs : List V), x = .ref p ∧ y = .ref q ∧ SqL K H p xs ∧ SqL K H q [] ∧ Q (.bl xs.isEmpty) H
theorem op_eqE (hu : X.A.units < cLine) : OpR X (compareOp .Eq) (rEqE X.K) := by
  intro pins s σ H x y v u Q I rx ry h
  obtain ⟨p, q, xs, rfl, rfl, hp, hq, h⟩ := h
  cases rx
  cases ry
  obtain ⟨its, r, pl, hz⟩ := I.list hp
  obtain ⟨its2, r2, pl2, hz2⟩ := I.list hq
  cases r2
  have hl := r.length
  cases xs with
  | nil =>
    cases r
    exact SeqAt.eq_listAt (e := fun _ => true) pl.isList pl2.isList rfl hu (fun j h1 _ => absurd h1 (by simp)) ⟨.bl true, H, I, rfl, h⟩
  | cons x xs =>
    refine SeqAt.eq_list_lengthsAt pl.isList pl2.isList ?_ hu ⟨.bl false, H, I, rfl, h⟩
    rw [List.length_cons] at hl
    cases its with
    | nil => simp at hl
    | cons _ _ => simp
end
end L2
namespace SF
open PySem
theorem strip1 : Txt.stripChars (S [32,45,32]) (S [32]) = S [45] := by decide +kernel
theorem strip2 : Txt.stripChars (S [45]) (S [43]) = S [45] := by decide +kernel
theorem strip3 : Txt.stripChars (S [43]) (S [43]) = S [] := by decide +kernel
theorem strip4 : Txt.stripChars (S [32,43,32]) (S [32]) = S [43] := by decide +kernel
theorem glue_nil (ls : List (List Nat)) : Txt.join (S []) (ls.map S) = S ls.flatten := by
  unfold Txt.join Builtin.Str.glued
  have key : ∀ (r : List (List Nat)) (a : List Nat), (List.foldl (fun acc (p : Str) => acc ++ (S []).cps ++ p.cps) a.toArray (r.map S)) = (a ++ r.flatten).toArray := by
    intro r
    induction r with
    | nil => intro a; simp
    | cons x r ih =>
      intro a
      rw [List.map_cons, List.foldl_cons]
      have : a.toArray ++ (S []).cps ++ (S x).cps = (a ++ x).toArray := by simp
      rw [this, ih]
      simp
  cases ls with
  | nil => rfl
  | cons x r =>
    show (⟨List.foldl (fun acc (p : Str) => acc ++ (S []).cps ++ p.cps) x.toArray (r.map S)⟩ : Str) = _
    rw [key]
    rfl
end SF
local macro_rules | `(tactic| walk_at "sf") => `(tactic| (repeat first
  | ((with_reducible apply L2.r_var); exact rfl)
  | with_reducible apply L2.r_c | with_reducible apply L2.r_seq | with_reducible apply L2.r_set | with_reducible apply L2.r_ret | with_reducible apply L2.r_op | with_reducible apply L2.r_un
  | with_reducible apply L2.r_i0 | with_reducible apply L2.r_u | with_reducible apply L2.r_test | with_reducible apply L2.r_tb | with_reducible apply L2.r_bl | with_reducible apply L2.r_eqi | with_reducible apply L2.r_nei
  | with_reducible apply L2.r_ifS | with_reducible apply L2.r_ifE | with_reducible apply L2.r_and | with_reducible apply L2.r_or | with_reducible apply L2.r_not | with_reducible apply L2.r_andV | with_reducible apply L2.r_orV | with_reducible apply L2.r_notV
  | with_reducible apply L2.r_nil | with_reducible apply L2.r_cons | with_reducible apply L2.r_call | with_reducible apply L2.r_cb | with_reducible apply L2.r_tup | with_reducible apply L2.r_lst | with_reducible apply L2.r_drop | with_reducible apply L2.r_next
  | with_reducible apply L2.r_tru | with_reducible apply L2.r_for | with_reducible apply L2.r_rng3 | with_reducible apply L2.r_gname | with_reducible apply L2.r_gcons | with_reducible apply L2.r_gnil | with_reducible apply L2.r_asg
  | with_reducible apply L2.r_ilist | with_reducible apply L2.r_rng1 | with_reducible apply L2.r_rng2 | with_reducible apply L2.r_ienum | with_reducible apply L2.r_irev | with_reducible apply L2.r_part | with_reducible apply L2.r_nopart | with_reducible apply L2.r_slice | with_reducible apply L2.r_sub
  | ((with_reducible show (_ ≤ PySem.sizeLine) ∧ _); refine And.intro (L2.small4 (Nat.le_of_ble_eq_true rfl)) ?_)))
namespace K23
open PySem PyProof.Rows L2 SF
noncomputable def top (i : Nat) : Stmt := PySem.Challenge.pw_surefoot_k23_whole_texts_there_and_back.main.body.getD i (.Pass ⟨0, 0, 0, 0⟩)
noncomputable abbrev s_common_divisor : Stmt := top 4
theorem sc_common_divisor : FnScope ["one", "other", "greater", "lesser", "rest"] ["one", "other"] (defScope s_common_divisor) := ⟨rfl, rfl, rfl, by decide +kernel, rfl, by decide +kernel, by decide +kernel⟩
noncomputable abbrev s_trimmed : Stmt := top 6
theorem sc_trimmed : FnScope ["row", "length"] ["row"] (defScope s_trimmed) := ⟨rfl, rfl, rfl, by decide +kernel, rfl, by decide +kernel, by decide +kernel⟩
noncomputable abbrev s_figures_of : Stmt := top 10
theorem sc_figures_of : FnScope ["number", "many", "cut"] ["number"] (defScope s_figures_of) := ⟨rfl, rfl, rfl, by decide +kernel, rfl, by decide +kernel, by decide +kernel⟩
noncomputable abbrev s_whole_text : Stmt := top 11
theorem sc_whole_text : FnScope ["number"] ["number"] (defScope s_whole_text) := ⟨rfl, rfl, rfl, by decide +kernel, rfl, by decide +kernel, by decide +kernel⟩
noncomputable abbrev s_part_text : Stmt := top 12
theorem sc_part_text : FnScope ["size", "place", "figures"] ["size", "place"] (defScope s_part_text) := ⟨rfl, rfl, rfl, by decide +kernel, rfl, by decide +kernel, by decide +kernel⟩
noncomputable abbrev s_written : Stmt := top 13
theorem sc_written : FnScope ["poly", "text", "place", "number"] ["poly"] (defScope s_written) := ⟨rfl, rfl, rfl, by decide +kernel, rfl, by decide +kernel, by decide +kernel⟩
noncomputable abbrev s_ratio_text : Stmt := top 14
theorem sc_ratio_text : FnScope ["given", "top"] ["given"] (defScope s_ratio_text) := ⟨rfl, rfl, rfl, by decide +kernel, rfl, by decide +kernel, by decide +kernel⟩
noncomputable abbrev s_end_of_figures : Stmt := top 15
theorem sc_end_of_figures : FnScope ["text", "start", "end"] ["text", "start"] (defScope s_end_of_figures) := ⟨rfl, rfl, rfl, by decide +kernel, rfl, by decide +kernel, by decide +kernel⟩
noncomputable abbrev s_number_between : Stmt := top 16
theorem sc_number_between : FnScope ["text", "start", "end", "figures", "has_noughts_ahead"] ["text", "start", "end"] (defScope s_number_between) := ⟨rfl, rfl, rfl, by decide +kernel, rfl, by decide +kernel, by decide +kernel⟩
noncomputable abbrev s_size_between : Stmt := top 17
theorem sc_size_between : FnScope ["text", "start", "end", "is_ahead", "size"] ["text", "start", "end"] (defScope s_size_between) := ⟨rfl, rfl, rfl, by decide +kernel, rfl, by decide +kernel, by decide +kernel⟩
noncomputable abbrev s_power_at : Stmt := top 18
theorem sc_power_at : FnScope ["text", "start", "begin", "end", "place"] ["text", "start"] (defScope s_power_at) := ⟨rfl, rfl, rfl, by decide +kernel, rfl, by decide +kernel, by decide +kernel⟩
noncomputable abbrev s_part_at : Stmt := top 19
theorem sc_part_at : FnScope ["text", "start", "above", "middle", "size", "behind"] ["text", "start", "above"] (defScope s_part_at) := ⟨rfl, rfl, rfl, by decide +kernel, rfl, by decide +kernel, by decide +kernel⟩
noncomputable abbrev s_turn_at : Stmt := top 20
theorem sc_turn_at : FnScope ["text", "start", "between"] ["text", "start"] (defScope s_turn_at) := ⟨rfl, rfl, rfl, by decide +kernel, rfl, by decide +kernel, by decide +kernel⟩
noncomputable abbrev s_read : Stmt := top 21
theorem sc_read : FnScope ["text", "row", "is_below", "start", "above", "part"] ["text"] (defScope s_read) := ⟨rfl, rfl, rfl, by decide +kernel, rfl, by decide +kernel, by decide +kernel⟩
noncomputable abbrev s_under_at : Stmt := top 22
theorem sc_under_at : FnScope ["text", "start", "top", "begin", "end", "under"] ["text", "start", "top"] (defScope s_under_at) := ⟨rfl, rfl, rfl, by decide +kernel, rfl, by decide +kernel, by decide +kernel⟩
noncomputable abbrev s_read_ratio : Stmt := top 23
theorem sc_read_ratio : FnScope ["text", "is_below", "start", "end", "top", "behind"] ["text"] (defScope s_read_ratio) := ⟨rfl, rfl, rfl, by decide +kernel, rfl, by decide +kernel, by decide +kernel⟩
noncomputable abbrev s_law_cell : Stmt := top 25
theorem sc_law_cell : FnScope ["_law_script", "_law_k"] ["_law_script", "_law_k"] (defScope s_law_cell) := ⟨rfl, rfl, rfl, by decide +kernel, rfl, by decide +kernel, by decide +kernel⟩
noncomputable abbrev s_law_drawn : Stmt := top 26
theorem sc_law_drawn : FnScope ["_law_cell_here", "_law_k", "_law_more"] ["_law_cell_here", "_law_k"] (defScope s_law_drawn) := ⟨rfl, rfl, rfl, by decide +kernel, rfl, by decide +kernel, by decide +kernel⟩
noncomputable abbrev s_law_common : Stmt := top 27
theorem sc_law_common : FnScope ["_law_one", "_law_other", "_law_left"] ["_law_one", "_law_other"] (defScope s_law_common) := ⟨rfl, rfl, rfl, by decide +kernel, rfl, by decide +kernel, by decide +kernel⟩
noncomputable abbrev s_law_ratio : Stmt := top 28
theorem sc_law_ratio : FnScope ["_law_top", "_law_under", "_law_divisor"] ["_law_top", "_law_under"] (defScope s_law_ratio) := ⟨rfl, rfl, rfl, by decide +kernel, rfl, by decide +kernel, by decide +kernel⟩
noncomputable abbrev s_law_text : Stmt := top 30
theorem sc_law_text : FnScope ["_law_poly", "_law_pieces", "_law_k", "_law_size", "_law_mark"] ["_law_poly"] (defScope s_law_text) := ⟨rfl, rfl, rfl, by decide +kernel, rfl, by decide +kernel, by decide +kernel⟩
noncomputable abbrev s_law_drawn_poly : Stmt := top 31
theorem sc_law_drawn_poly : FnScope ["_law_cell_here", "_law_k", "_law_more", "_law_row", "_law_j", "_law_one", "_law_size"] ["_law_cell_here", "_law_k"] (defScope s_law_drawn_poly) := ⟨rfl, rfl, rfl, by decide +kernel, rfl, by decide +kernel, by decide +kernel⟩
noncomputable abbrev s_law : Stmt := top 32
theorem sc_law : FnScope ["_law_script", "_law_k", "_law_cell_here", "_law_poly", "_law_text_here", "_law_more", "_law_given", "_law_due"] ["_law_script"] (defScope s_law) := ⟨rfl, rfl, rfl, by decide +kernel, rfl, by decide +kernel, by decide +kernel⟩
structure Nm (mg : Str → Option Value) : Prop where
  n_abs : mg "abs" = none
  n_len : mg "len" = none
  n_int : mg "int" = none
  n_max : mg "max" = none
  n_min : mg "min" = none
  n_sum : mg "sum" = none
  n_any : mg "any" = none
  n_all : mg "all" = none
  n_list : mg "list" = none
  n_range : mg "range" = none
  n_enumerate : mg "enumerate" = none
  n_reversed : mg "reversed" = none
  n_str : mg "str" = none
noncomputable abbrev IL (H : Hp) (a : Addr) (xs : List Int) : Prop := H a = some (.lst (xs.map V.int))
theorem mulOk {i j : Int} {m n : Nat} (hi : Bd m i) (hj : Bd n j) (h : m + n ≤ 134217728) : IntMulOk i j := by
  have bits : ∀ {k : Nat} {x : Int}, Bd k x → Builtin.Int.intBits x ≤ k := fun {k x} hx => PySem.intBits_le_iff.mpr hx
  exact PySem.IntMulOk.of_le (bits hi) (bits hj) (by lia)
theorem il_at {xs : List Int} {n : Nat} (h : n < xs.length) : atI (xs.map V.int) (n : Int) = some (.int (SF.co xs n)) :=
  atI_nat (by rw [List.getElem?_map, List.getElem?_eq_getElem h, co_lt h] <;> rfl)
theorem cut_take (xs : List Int) (n : Nat) : cutV (xs.map V.int) none (some (n : Int)) = (xs.take n).map V.int := by
  unfold cutV
  rw [HT.sIx_none, HT.sIx_nat, List.length_map, List.drop_zero, Nat.sub_zero, List.map_take]
  rcases Nat.le_total n xs.length with h | h
  · rw [Nat.min_eq_left h]
  · rw [Nat.min_eq_right h, List.take_of_length_le (by simp), List.take_of_length_le (by simpa using h)]
theorem ix_nat {n i : Nat} (h : i < n) : ixN n (i : Int) = some i := by
  unfold ixN
  rw [if_pos (by lia), if_pos (by lia)]
  simp
theorem il_last {xs : List Int} (h : xs ≠ []) : atI (xs.map V.int) (-1) = some (.int (SF.co xs (xs.length - 1))) := by
  have hl : 0 < xs.length := List.length_pos_iff.mpr h
  unfold atI
  have e : ixN (xs.map V.int).length (-1) = some (xs.length - 1) := by
    unfold ixN
    rw [List.length_map, if_neg (by decide), if_pos (by lia)]
    congr 1
    lia
  rw [e]
  show (xs.map V.int)[xs.length - 1]? = _
  rw [List.getElem?_map, List.getElem?_eq_getElem (by lia), co_lt (by lia)]
  rfl
noncomputable def spGcd : Sp := fun vs H Q _ => ∃ a b : Int, vs = [.int a, .int b] ∧ Q (.int ((Int.gcd a b : Nat) : Int)) H
noncomputable def spL (f : List Int → List Int) (Pr : List Int → Prop) : Sp := fun vs H Q _ => ∃ (a : Addr) (xs : List Int), vs = [.ref a] ∧ IL H a xs ∧ Pr xs ∧ ∀ (p : Addr) (H' : Hp), Same H H' → IL H' p (f xs) → Q (.ref p) H'
noncomputable abbrev Few (xs : List Int) : Prop := xs.length ≤ 1000
section
variable {P : Program} {w : World} {K : PySem.W.Frag} {mg : Str → Option Value} {base : Heap}
theorem ok_common_divisor (T : Nm mg) (D : DefB K mg "common_divisor" s_common_divisor ["one", "other"]) : FnB P w K mg base 1 "common_divisor" ["one", "other"] spGcd := by
  refine D.ok sc_common_divisor (fun vs H Q E h => ?_) (fun f cdv A outer s H vs Q E hr h => ?_)
  · obtain ⟨a, b, rfl, _⟩ := h
    rfl
  obtain ⟨a, b, rfl, q⟩ := h
  refine ⟨_, (pss_cons (ps_set (i := 2) sc_common_divisor.nd rfl (Or.inl rfl) (pe_callB call_abs rfl T.n_abs boot_abs (pa_cons (pv 0) pa_nil)))
    (pss_cons (ps_set (i := 3) sc_common_divisor.nd rfl (Or.inl rfl) (pe_callB call_abs rfl T.n_abs boot_abs (pa_cons (pv 1) pa_nil)))
    (pss_cons (ps_while PassesOwn.never (pt_truth (pv 3) (fun _ => rfl))
    (pss_cons (ps_set (i := 4) sc_common_divisor.nd rfl (Or.inl rfl) (pe_op op_modN (pv 2) (pv 3)))
    (pss_cons (ps_set (i := 2) sc_common_divisor.nd rfl (Or.inl rfl) (pv 3))
    (pss_one (ps_set (i := 3) sc_common_divisor.nd rfl (Or.inl rfl) (pv 4))))))
    (pss_one (ps_ret (pv 2)))))), ?_⟩
  walk_at "sf"
  refine ⟨_, rfl, ?_⟩
  walk_at "sf"
  refine ⟨_, rfl, ?_⟩
  walk_at "sf"
  refine while_go (fun m σ H' => ∃ (g l : Int) (r : Option V), m = l.toNat ∧ σ = [some (.int a), some (.int b), some (.int g), some (.int l), r] ∧ H' = H ∧ 0 ≤ g ∧ 0 ≤ l ∧ Int.gcd g l = Int.gcd a b)
    ⟨_, _, _, _, rfl, rfl, rfl, by split <;> lia, by split <;> lia, gcd_abs⟩ ?_
  rintro m σ H' ⟨g, l, r, rfl, rfl, rfl, hg, hl, e⟩
  walk_at "sf"
  refine ite2 (fun c => ?_) (fun c => ?_)
  · have hl0 : l ≠ 0 := by simpa using c
    have hp : 0 < l := by lia
    refine ⟨_, fun σ' H' h => h, ?_⟩
    walk_at "sf"
    refine r_i hl0 ?_
    walk_at "sf"
    have h1 := Int.emod_nonneg g hl0
    have h2 := Int.emod_lt_of_pos g hp
    rw [fmod_pos hp]
    exact ⟨_, by lia, _, _, _, rfl, rfl, rfl, hl, h1, by rw [gcd_turn hg hp, e]⟩
  · have hl0 : l = 0 := by simpa using c
    subst hl0
    walk_at "sf"
    have e' : ((Int.gcd a b : Nat) : Int) = g := by rw [← e]; exact gcd_end hg
    rw [e'] at q
    exact q
end
end K23
namespace K23
open PySem PyProof.Rows L2 SF
noncomputable def spCell (K : PySem.W.Frag) : Sp := fun vs H Q _ => ∃ (a : Addr) (ns : List Int) (k : Int), vs = [.ref a, .int k] ∧ SqL K H a (ns.map V.int) ∧ ns.length ≤ 63 ∧ 0 ≤ k ∧ ∀ (c : Int) (H' : Hp), Same H H' → Q (.int c) H'
noncomputable def spDrawn : Sp := fun vs H Q _ => ∃ c k : Int, vs = [.int c, .int k] ∧ ∀ m : Int, 0 ≤ m → Bd 128 m → Q (.int m) H
theorem fm {x : Int} {m : Int} (hm : 0 < m) : x.fmod m = x % m ∧ 0 ≤ x % m ∧ x % m < m := ⟨fmod_pos hm, Int.emod_nonneg x (Int.ne_of_gt hm), Int.emod_lt_of_pos x hm⟩
theorem d64 (n : Int) (h1 : 0 < n) (h2 : n < 2 ^ 64) : (n ≠ 0 ∧ n.natAbs.log2 < 9000) := ⟨Int.ne_of_gt h1, (Bd.of_range (n := 64) (by lia) h2).log2 (by decide)⟩
section
variable {P : Program} {w : World} {K : PySem.W.Frag} {mg : Str → Option Value} {base : Heap}
theorem ok_law_cell (T : Nm mg) (D : DefB K mg "_law_cell" s_law_cell ["_law_script", "_law_k"]) : FnB P w K mg base 1 "_law_cell" ["_law_script", "_law_k"] (spCell K) := by
  refine D.ok sc_law_cell (fun vs H Q E h => ?_) (fun f cdv A outer s H vs Q E hr h => ?_)
  · obtain ⟨a, ns, k, rfl, _⟩ := h
    rfl
  obtain ⟨a, ns, k, rfl, hS, hl, hk, q⟩ := h
  refine ⟨_, (pss_cons (ps_if (pt_cmpR (op_eqI hr.units0) (pv 0) (pe_lst pa_nil) (nomark _))
    (pss_one (ps_ret (pe_op op_mulL (pv 1) pe_int)))
    pss_nil)
    (pss_one (ps_ret (pe_op op_add (pe_ix ix_list (pv 0) (pe_op op_modN (pv 1) (pe_callB call_len_seq rfl T.n_len boot_len (pa_cons (pv 0) pa_nil))) (fun _ _ => rfl)) (pe_op op_mulL (pe_op op_fdivL (pv 1) (pe_callB call_len_seq rfl T.n_len boot_len (pa_cons (pv 0) pa_nil))) pe_int))))), ?_⟩
  walk_at "sf"
  intro p hp
  have g1 : Same H (upd H p (.lst [])) := Same.new hp _
  refine ⟨a, p, ns, [], rfl, rfl, g1.seq hS, SqL.of upd_same, ?_⟩
  walk_at "sf"
  refine ite2 (fun c => ?_) (fun c => ?_)
  · walk_at "sf"
    refine r_i (IntMulOk.of_right (by decide)) ?_
    exact q _ _ g1
  · have hne : ns ≠ [] := by simpa using c
    have hp1 : 0 < ns.length := List.length_pos_iff.mpr hne
    have em : (ns.map V.int).length = ns.length := List.length_map _
    have hpz : (0 : Int) < ((ns.map V.int).length : Nat) := by rw [em]; lia
    walk_at "sf"
    refine ⟨a, _, rfl, .inl (g1.seq hS), ?_⟩
    refine r_i (Int.ne_of_gt hpz) ?_
    rw [fmod_pos hpz]
    have h1 := Int.emod_nonneg k (Int.ne_of_gt hpz)
    have h2 := Int.emod_lt_of_pos k hpz
    obtain ⟨j, ej⟩ := Int.eq_ofNat_of_zero_le h1
    rw [ej] at h2 ⊢
    have hj : j < ns.length := by rw [em] at h2; lia
    refine r_ixL (g1.seq hS) (atI_nat (v := V.int ns[j]) (by rw [List.getElem?_map, List.getElem?_eq_getElem hj] <;> rfl)) ?_
    walk_at "sf"
    refine ⟨a, _, rfl, .inl (g1.seq hS), ?_⟩
    refine r_i ⟨Int.ne_of_gt hpz, (Bd.of_range (n := 64) (by lia) (by rw [em]; lia)).log2 (by decide)⟩ ?_
    walk_at "sf"
    refine r_i (IntMulOk.of_right (by decide)) ?_
    walk_at "sf"
    exact q _ _ g1
theorem ok_law_drawn (D : DefB K mg "_law_drawn" s_law_drawn ["_law_cell_here", "_law_k"]) : FnB P w K mg base 1 "_law_drawn" ["_law_cell_here", "_law_k"] spDrawn := by
  refine D.ok sc_law_drawn (fun vs H Q E h => ?_) (fun f cdv A outer s H vs Q E hr h => ?_)
  · obtain ⟨c, k, rfl, _⟩ := h
    rfl
  obtain ⟨c, k, rfl, q⟩ := h
  refine ⟨_, (pss_cons (ps_set (i := 2) sc_law_drawn.nd rfl (Or.inl rfl) (pe_op op_modN (pe_op op_add (pe_op op_mulL (pv 0) pe_int) (pe_op op_mulL (pe_op op_add (pv 1) pe_int) pe_int)) pe_int))
    (pss_one (ps_ret (pe_op op_modN (pe_op op_mulL (pv 2) (pv 2)) pe_int)))), ?_⟩
  walk_at "sf"
  refine r_i (IntMulOk.of_right (by decide)) ?_
  walk_at "sf"
  refine r_i (IntMulOk.of_right (by decide)) ?_
  walk_at "sf"
  refine r_i (by decide) ?_
  rw [fmod_pos (by decide)]
  generalize hm : (c * 6364136223846793005 + (k + 1) * 1442695040888963407) % 340282366920938463463374607431768211507 = m
  have m1 : 0 ≤ m := by rw [← hm]; exact Int.emod_nonneg _ (by decide)
  have m2 : m < 340282366920938463463374607431768211507 := by rw [← hm]; exact Int.emod_lt_of_pos _ (by decide)
  have mz : Bd 129 m := Bd.of_range m1 (Int.lt_of_lt_of_le m2 (by decide))
  walk_at "sf"
  refine r_i (mulOk mz mz (by decide)) ?_
  walk_at "sf"
  refine r_i (by decide) ?_
  rw [fmod_pos (by decide)]
  exact q _ (Int.emod_nonneg _ (by decide)) (Bd.of_range (Int.emod_nonneg _ (by decide)) (Int.lt_of_lt_of_le (Int.emod_lt_of_pos _ (by decide)) (by decide)))
end
end K23
namespace K23
open PySem PyProof.Rows L2 SF
noncomputable def sg (a : Int) : Int := if a < 0 then -1 else if 0 < a then 1 else 0
section
variable {P : Program} {w : World} {K : PySem.W.Frag} {mg : Str → Option Value} {base : Heap}
theorem ok_trimmed (T : Nm mg) (D : DefB K mg "trimmed" s_trimmed ["row"]) : FnB P w K mg base 1 "trimmed" ["row"] (spL trimL Few) := by
  refine D.ok sc_trimmed (fun vs H Q E h => ?_) (fun f cdv A outer s H vs Q E hr h => ?_)
  · obtain ⟨a, xs, rfl, _⟩ := h
    rfl
  obtain ⟨a, xs, rfl, ha, hl, q⟩ := h
  have em : (xs.map V.int).length = xs.length := List.length_map _
  refine ⟨_, (pss_cons (ps_set (i := 1) sc_trimmed.nd rfl (Or.inl rfl) (pe_callB call_len_seq rfl T.n_len boot_len (pa_cons (pv 0) pa_nil)))
    (pss_cons (ps_while PassesOwn.never (PW.pt (pw_and (pt_cmpR op_gt (pv 1) pe_int (nomark _)) (pw_and1 (pt_cmpR op_eq (pe_ix ix_list (pv 0) (pe_op op_sub (pv 1) pe_int) (fun _ _ => rfl)) pe_int (nomark _)))))
    (pss_one (ps_set (i := 1) sc_trimmed.nd rfl (Or.inl rfl) (pe_op op_sub (pv 1) pe_int))))
    (pss_one (ps_ret (pe_slice sl_list (pv 0) po_none (po_some (pv 1))))))), ?_⟩
  walk_at "sf"
  refine ⟨a, _, rfl, .inl (SqL.of ha), ?_⟩
  walk_at "sf"
  rw [em]
  refine while_go (fun m σ H' => ∃ n : Nat, n = m ∧ σ = [some (.ref a), some (.int (n : Int))] ∧ H' = H ∧ n ≤ xs.length ∧ trimL (xs.take n) = trimL xs) ⟨_, xs.length, rfl, rfl, rfl, Nat.le_refl _, by rw [List.take_length]⟩ ?_
  rintro m σ H' ⟨n, rfl, rfl, rfl, hn, e⟩
  have fin : (n = 0 ∨ SF.co xs (n - 1) ≠ 0) → ∀ p, H' p = none → Q (.ref p) (upd H' p (.lst (cutV (xs.map V.int) none (some (n : Int))))) := fun hz p hp => by
    have e2 : trimL xs = xs.take n := by rw [← e]; exact trimL_id (take_tr hn hz)
    exact q p _ (Same.new hp _) (by show upd H' p _ p = _; rw [upd_same, cut_take, e2])
  walk_at "sf"
  refine ite2 (fun c => ?_) (fun c => ?_)
  · have hp : 0 < n := by simpa using c
    have ei : ((n : Int) - 1) = ((n - 1 : Nat) : Int) := by lia
    walk_at "sf"
    rw [ei]
    refine r_ixL (SqL.of ha) (il_at (by lia)) ?_
    walk_at "sf"
    refine ite2 (fun c2 => ?_) (fun c2 => ?_)
    · have hz : SF.co xs (n - 1) = 0 := by simpa using c2
      refine ⟨_, fun σ' H' h => h, ?_⟩
      walk_at "sf"
      rw [ei]
      refine ⟨n - 1, by lia, n - 1, rfl, rfl, rfl, by lia, ?_⟩
      have := trimL_take (xs := xs) hz
      rw [Nat.sub_add_cancel hp] at this
      rw [← this, e]
    · have hz : SF.co xs (n - 1) ≠ 0 := by simpa using c2
      walk_at "sf"
      refine ⟨_, rfl, ?_⟩
      exact ⟨a, _, rfl, SqL.of ha, fin (.inr hz)⟩
  · have hp : n = 0 := by simpa using c
    rw [if_neg (by decide)]
    walk_at "sf"
    refine ⟨_, rfl, ?_⟩
    exact ⟨a, _, rfl, SqL.of ha, fin (.inl hp)⟩
end
end K23
namespace K23
open PySem PyProof.Rows L2 SF
noncomputable def spCommon : Sp := fun vs H Q _ => ∃ a b : Int, vs = [.int a, .int b] ∧ Bd 8000 a ∧ Bd 8000 b ∧ Q (.int ((Int.gcd a b : Nat) : Int)) H
noncomputable def spRatL : Sp := fun vs H Q _ => ∃ (a b : Int) (n : Nat), vs = [.int a, .int b] ∧ Bd n a ∧ Bd n b ∧ n ≤ 8000 ∧ 0 < b ∧ ∀ (p : Addr) (t u : Int), H p = none → Bd n t → Bd n u → 0 < u → Int.gcd t u = 1 → t * b = a * u → Q (.ref p) (upd H p (.tup [.int t, .int u]))
theorem fdiv_bd {a g : Int} {n : Nat} (hd : g ∣ a) (hg : g ≠ 0) (b : Bd n a) : Bd n (a.fdiv g) := by
  have e := fdiv_mul hd
  refine b.of_le ?_
  have h1 : a.natAbs = (a.fdiv g).natAbs * g.natAbs := by rw [← Int.natAbs_mul, e]
  rw [h1]
  exact Nat.le_mul_of_pos_right _ (Int.natAbs_pos.mpr hg)
theorem pick2 {x y : V} {b : Bool} : atI [x, y] (if b = true then 1 else 0) = some (if b = true then y else x) := by
  cases b <;> rfl
section
variable {P : Program} {w : World} {K : PySem.W.Frag} {mg : Str → Option Value} {base : Heap}
theorem ok_law_common (T : Nm mg) (D : DefB K mg "_law_common" s_law_common ["_law_one", "_law_other"]) : FnB P w K mg base 1 "_law_common" ["_law_one", "_law_other"] spCommon := by
  refine D.ok sc_law_common (fun vs H Q E h => ?_) (fun f cdv A outer s H vs Q E hr h => ?_)
  · obtain ⟨a, b, rfl, _⟩ := h
    rfl
  obtain ⟨a, b, rfl, ha, hb, q⟩ := h
  refine ⟨_, (pss_cons (ps_set (i := 0) sc_law_common.nd rfl (Or.inl rfl) (pe_callB call_abs rfl T.n_abs boot_abs (pa_cons (pv 0) pa_nil)))
    (pss_cons (ps_set (i := 1) sc_law_common.nd rfl (Or.inl rfl) (pe_callB call_abs rfl T.n_abs boot_abs (pa_cons (pv 1) pa_nil)))
    (pss_cons (ps_while PassesOwn.never (pt_cmpR op_ne (pv 1) pe_int (nomark _))
    (pss_cons (ps_set (i := 2) sc_law_common.nd rfl (Or.inl rfl) (pe_op op_sub (pv 0) (pe_op op_mulL (pe_op op_fdivL (pv 0) (pv 1)) (pv 1))))
    (pss_cons (ps_set (i := 0) sc_law_common.nd rfl (Or.inl rfl) (pv 1))
    (pss_one (ps_set (i := 1) sc_law_common.nd rfl (Or.inl rfl) (pv 2))))))
    (pss_one (ps_ret (pv 0)))))), ?_⟩
  walk_at "sf"
  refine ⟨_, rfl, ?_⟩
  walk_at "sf"
  refine ⟨_, rfl, ?_⟩
  walk_at "sf"
  refine while_go (fun m σ H' => ∃ (g l : Int) (r : Option V), m = l.toNat ∧ σ = [some (.int g), some (.int l), r] ∧ H' = H ∧ 0 ≤ g ∧ 0 ≤ l ∧ Bd 8000 g ∧ Bd 8000 l ∧ Int.gcd g l = Int.gcd a b)
    ⟨_, _, _, _, rfl, rfl, rfl, by split <;> lia, by split <;> lia, ha.of_le (by split <;> lia), hb.of_le (by split <;> lia), gcd_abs⟩ ?_
  rintro m σ H' ⟨g, l, r, rfl, rfl, rfl, hg, hl, hgz, hlz, e⟩
  walk_at "sf"
  refine ite2 (fun c => ?_) (fun c => ?_)
  · have hl0 : l ≠ 0 := by simpa using c
    have hp : 0 < l := by lia
    refine ⟨_, fun σ' H' h => h, ?_⟩
    walk_at "sf"
    refine r_i ⟨hl0, hlz.log2 (by decide)⟩ ?_
    walk_at "sf"
    have h1 := Int.emod_nonneg g hl0
    have h2 := Int.emod_lt_of_pos g hp
    have ed : g.fdiv l = g / l := fdiv_pos hp
    have hdz : Bd 8000 (g / l) := hgz.of_le (by
      have h3 := Int.ediv_nonneg hg hl
      have h4 := Int.ediv_le_self l hg
      lia)
    rw [ed]
    refine r_i (mulOk hdz hlz (by decide)) ?_
    walk_at "sf"
    have em : g - g / l * l = g % l := by
      have := Int.emod_add_mul_ediv g l
      rw [Int.mul_comm] at this
      lia
    rw [em]
    exact ⟨_, by lia, _, _, _, rfl, rfl, rfl, hl, h1, hlz, hlz.of_le (by lia), by rw [gcd_turn hg hp, e]⟩
  · have hl0 : l = 0 := by simpa using c
    subst hl0
    walk_at "sf"
    have e' : ((Int.gcd a b : Nat) : Int) = g := by rw [← e]; exact gcd_end hg
    rw [e'] at q
    exact q
theorem ok_law_ratio (g_law_common : FnB P w K mg base 1 "_law_common" ["_law_one", "_law_other"] spCommon) (D : DefB K mg "_law_ratio" s_law_ratio ["_law_top", "_law_under"]) : FnB P w K mg base 2 "_law_ratio" ["_law_top", "_law_under"] spRatL := by
  refine D.ok sc_law_ratio (fun vs H Q E h => ?_) (fun f cdv A outer s H vs Q E hr h => ?_)
  · obtain ⟨a, b, n, rfl, _⟩ := h
    rfl
  obtain ⟨a, b, n, rfl, ha, hb, hn, hb0, q⟩ := h
  have hg : 0 < Int.gcd a b := Int.gcd_pos_of_ne_zero_right a (by lia)
  have hg0 : ((Int.gcd a b : Nat) : Int) ≠ 0 := by lia
  have bg : Bd n ((Int.gcd a b : Nat) : Int) := hb.of_dvd (Int.gcd_dvd_right ..) (by lia)
  refine ⟨_, (pss_cons (ps_set (i := 2) sc_law_ratio.nd rfl (Or.inl rfl) (pe_fn g_law_common hr (pa_cons (pv 0) (pa_cons (pv 1) pa_nil))))
    (pss_one (ps_ret (pe_tup (pa_cons (pe_op op_fdivL (pv 0) (pv 2)) (pa_cons (pe_op op_fdivL (pv 1) (pv 2)) pa_nil)))))), ?_⟩
  walk_at "sf"
  refine ⟨_, _, rfl, ha.mono (by lia), hb.mono (by lia), ?_⟩
  walk_at "sf"
  refine r_i ⟨hg0, (bg.mono (by lia : n ≤ 9000)).log2 (by decide)⟩ ?_
  walk_at "sf"
  refine r_i ⟨hg0, (bg.mono (by lia : n ≤ 9000)).log2 (by decide)⟩ ?_
  walk_at "sf"
  intro p hp
  have e1 := fdiv_mul (Int.gcd_dvd_left (a := a) (b := b))
  have e2 := fdiv_mul (Int.gcd_dvd_right (a := a) (b := b))
  refine q p _ _ hp (fdiv_bd (Int.gcd_dvd_left ..) hg0 ha) (fdiv_bd (Int.gcd_dvd_right ..) hg0 hb) ?_ ?_ ?_
  · have hg1 : (0 : Int) < ((Int.gcd a b : Nat) : Int) := by lia
    rcases Int.lt_or_le 0 (b.fdiv ((Int.gcd a b : Nat) : Int)) with z | z
    · exact z
    · have := Int.mul_nonpos_of_nonpos_of_nonneg z (Int.le_of_lt hg1)
      lia
  · have h3 : Int.gcd (a.fdiv ((Int.gcd a b : Nat) : Int) * ((Int.gcd a b : Nat) : Int)) (b.fdiv ((Int.gcd a b : Nat) : Int) * ((Int.gcd a b : Nat) : Int)) = Int.gcd (a.fdiv ((Int.gcd a b : Nat) : Int)) (b.fdiv ((Int.gcd a b : Nat) : Int)) * (((Int.gcd a b : Nat) : Int)).natAbs := Int.gcd_mul_right ..
    rw [e1, e2, Int.natAbs_natCast] at h3
    have h4 : 1 * Int.gcd a b = Int.gcd (a.fdiv ((Int.gcd a b : Nat) : Int)) (b.fdiv ((Int.gcd a b : Nat) : Int)) * Int.gcd a b := by lia
    exact (Nat.eq_of_mul_eq_mul_right hg h4).symm
  · generalize a.fdiv ((Int.gcd a b : Nat) : Int) = x at *
    generalize b.fdiv ((Int.gcd a b : Nat) : Int) = y at *
    generalize ((Int.gcd a b : Nat) : Int) = z at *
    rw [← e1, ← e2]; grind
end
end K23
namespace K23
open PySem PyProof.Rows L2 SF
theorem if_tC {c : Bool} {v u : V} {σ : L2.St} {H : Hp} {G : VK} (h : ∀ x, (c = true ∧ x = v) ∨ (c = false ∧ x = u) → G x H) : if c = true then tC v σ H G else tC u σ H G := by
  cases c with
  | true => rw [if_pos rfl]; exact h v (.inl ⟨rfl, rfl⟩)
  | false => rw [if_neg (by decide)]; exact h u (.inr ⟨rfl, rfl⟩)
theorem lit_x : (Str.ofString "x" : Str) = S [120] := PySem.W.Fast.ofString_ofList ['x']
theorem lit_xh : (Str.ofString "x^" : Str) = S [120, 94] := PySem.W.Fast.ofString_ofList ['x', '^']
theorem lit_h : (Str.ofString "^" : Str) = S [94] := PySem.W.Fast.ofString_ofList ['^']
theorem lit_e : (Str.ofString "" : Str) = S [] := PySem.W.Fast.ofString_ofList []
theorem lit_m : (Str.ofString "-" : Str) = S [45] := PySem.W.Fast.ofString_ofList ['-']
theorem lit_0 : (Str.ofString "0" : Str) = S [48] := PySem.W.Fast.ofString_ofList ['0']
theorem lit_s : (Str.ofString "/" : Str) = S [47] := PySem.W.Fast.ofString_ofList ['/']
theorem lit_bm : (Str.ofString " - " : Str) = S [32, 45, 32] := PySem.W.Fast.ofString_ofList [' ', '-', ' ']
theorem lit_bp : (Str.ofString " + " : Str) = S [32, 43, 32] := PySem.W.Fast.ofString_ofList [' ', '+', ' ']
noncomputable def partL (size place : Nat) : List Nat := if place = 0 then fig size else (if size = 1 then [] else fig size) ++ (if place = 1 then [120] else [120, 94] ++ fig place)
noncomputable def sgn3 (c : Int) : List Nat := if c < 0 then [32, 45, 32] else [32, 43, 32]
noncomputable def tailL (xs : List Int) : Nat → List Nat
  | 0 => []
  | n + 1 => (if co xs n = 0 then [] else sgn3 (co xs n) ++ partL (co xs n).natAbs n) ++ tailL xs n
noncomputable def writL (xs : List Int) : List Nat := if xs = [] then [48] else (if co xs (xs.length - 1) < 0 then [45] else []) ++ partL (co xs (xs.length - 1)).natAbs (xs.length - 1) ++ tailL xs (xs.length - 1)
noncomputable def wholeL (a : Int) : List Nat := (if a < 0 then [45] else []) ++ fig a.natAbs
noncomputable def ratL (t u : Int) : List Nat := if u = 1 then wholeL t else wholeL t ++ [47] ++ fig u.natAbs
noncomputable def Pol (xs : List Int) : Prop := Tr xs ∧ xs.length ≤ 13 ∧ ∀ x ∈ xs, x.natAbs < 10 ^ 12
theorem fig_le {n : Nat} (h : n < 10 ^ 64) : (fig n).length ≤ 64 := fig_len 63 n h
theorem fig_le12 {n : Nat} (h : n < 10 ^ 12) : (fig n).length ≤ 12 := fig_len 11 n h
theorem partL_len {size place : Nat} (h : size < 10 ^ 12) (hp : place ≤ 13) : (partL size place).length ≤ 30 := by
  have h1 := fig_le12 h
  have h2 : (fig place).length ≤ 12 := fig_le12 (by lia)
  unfold partL
  split
  · lia
  · rw [List.length_append]
    have a1 : (if size = 1 then [] else fig size).length ≤ 12 := by
      split
      · exact Nat.zero_le _
      · exact h1
    have a2 : (if place = 1 then [120] else [120, 94] ++ fig place).length ≤ 14 := by
      split
      · show 1 ≤ 14; lia
      · rw [List.length_append]; show 2 + _ ≤ 14; lia
    lia
theorem tailL_len {xs : List Int} (h : ∀ x ∈ xs, x.natAbs < 10 ^ 12) : ∀ n, n ≤ 13 → (tailL xs n).length ≤ 33 * n
  | 0, _ => Nat.le_refl _
  | n + 1, hn => by
    have i := tailL_len h n (by lia)
    have hc : (co xs n).natAbs < 10 ^ 12 := by
      by_cases hi : n < xs.length
      · rw [co_lt hi]; exact h _ (List.getElem_mem hi)
      · rw [co_ge (by lia)]; decide
    have hp := partL_len hc (show n ≤ 13 by lia)
    unfold tailL
    rw [List.length_append]
    have : (if co xs n = 0 then [] else sgn3 (co xs n) ++ partL (co xs n).natAbs n).length ≤ 33 := by
      split
      · simp
      · rw [List.length_append]
        have : (sgn3 (co xs n)).length = 3 := by unfold sgn3; split <;> rfl
        lia
    lia
noncomputable def spFig : Sp := fun vs H Q _ => ∃ n : Nat, vs = [.int (n : Int)] ∧ n < 10 ^ 64 ∧ Q (.str (S (fig n))) H
noncomputable def spWhole : Sp := fun vs H Q _ => ∃ a : Int, vs = [.int a] ∧ a.natAbs < 10 ^ 64 ∧ Q (.str (S (wholeL a))) H
noncomputable def spPartT : Sp := fun vs H Q _ => ∃ size place : Nat, vs = [.int (size : Int), .int (place : Int)] ∧ size < 10 ^ 12 ∧ place ≤ 13 ∧ Q (.str (S (partL size place))) H
noncomputable def spWrit : Sp := fun vs H Q _ => ∃ (a : Addr) (xs : List Int), vs = [.ref a] ∧ IL H a xs ∧ Pol xs ∧ Q (.str (S (writL xs))) H
noncomputable def spRatT : Sp := fun vs H Q _ => ∃ (g : Addr) (t u : Int), vs = [.ref g] ∧ H g = some (.tup [.int t, .int u]) ∧ t.natAbs < 10 ^ 12 ∧ 0 < u ∧ u.natAbs < 10 ^ 12 ∧ Q (.str (S (ratL t u))) H
theorem log_small {n : Nat} (h : n < 10 ^ 64) : n.log2 < 1920 := by
  by_cases hn : n = 0
  · subst hn; decide
  · exact (Nat.log2_lt hn).mpr (Nat.lt_of_lt_of_le h (by
      have : (10 : Nat) ^ 64 ≤ 2 ^ 256 := by decide
      exact Nat.le_trans this (Nat.pow_le_pow_right (by decide) (by decide))))
theorem lenOK {n : Nat} (h : n ≤ 1000) : n ≤ sizeLine := small4 h
section
variable {P : Program} {w : World} {K : PySem.W.Frag} {mg : Str → Option Value} {base : Heap}
theorem ok_figures_of (T : Nm mg) (D : DefB K mg "figures_of" s_figures_of ["number"]) : FnB P w K mg base 1 "figures_of" ["number"] spFig := by
  refine D.ok sc_figures_of (fun vs H Q E h => ?_) (fun f cdv A outer s H vs Q E hr h => ?_)
  · obtain ⟨n, rfl, _⟩ := h
    rfl
  obtain ⟨n, rfl, hn, q⟩ := h
  refine ⟨_, (pss_cons (ps_if (pt_cmpR op_lt (pv 0) (pe_op op_pow pe_int pe_int) (nomark _)) (pss_one (ps_ret (pe_callTy call_str_int rfl T.n_str boot_str (pa_cons (pv 0) pa_nil)))) pss_nil) pss_never), ?_⟩
  walk_at "sf"
  refine r_i ⟨by decide, by decide, by decide⟩ ?_
  have e64 : ((10 : Int) ^ (64 : Int).toNat) = ((10 ^ 64 : Nat) : Int) := rfl
  rw [e64]
  generalize hM : (10 : Nat) ^ 64 = M at hn
  walk_at "sf"
  rw [if_pos (decide_eq_true (by lia))]
  walk_at "sf"
  refine ⟨_, rfl, by rw [Int.natAbs_natCast]; exact log_small (by rw [hM]; exact hn), ?_⟩
  walk_at "sf"
  rw [← fig_str] at q
  exact q
theorem ok_whole_text (T : Nm mg) (g_figures_of : FnB P w K mg base 1 "figures_of" ["number"] spFig) (D : DefB K mg "whole_text" s_whole_text ["number"]) : FnB P w K mg base 2 "whole_text" ["number"] spWhole := by
  refine D.ok sc_whole_text (fun vs H Q E h => ?_) (fun f cdv A outer s H vs Q E hr h => ?_)
  · obtain ⟨a, rfl, _⟩ := h
    rfl
  obtain ⟨a, rfl, ha, q⟩ := h
  have eab : (if a < 0 then -a else a) = ((a.natAbs : Nat) : Int) := by split <;> lia
  have hl := fig_le ha
  refine ⟨_, (pss_one (ps_ret (pe_op op_add_str (pe_ifExp (pt_cmpR op_lt (pv 0) pe_int (nomark _)) pe_str pe_str) (pe_fn g_figures_of hr (pa_cons (pe_callB call_abs rfl T.n_abs boot_abs (pa_cons (pv 0) pa_nil)) pa_nil))))), ?_⟩
  walk_at "sf"
  unfold wholeL at q
  refine ite2 (fun c => ?_) (fun c => ?_)
  · have h1 : a < 0 := by simpa using c
    rw [if_pos h1, ← S_app, ← lit_m] at q
    walk_at "sf"
    refine ⟨_, rfl, ?_⟩
    rw [eab]
    walk_at "sf"
    refine ⟨a.natAbs, rfl, ha, ?_⟩
    walk_at "sf"
    refine ⟨_, _, rfl, rfl, ?_, q⟩
    rw [lit_m, S_len, S_len]
    exact lenOK (by simp; lia)
  · have h1 : ¬ a < 0 := by simpa using c
    rw [if_neg h1, ← S_app, ← lit_e] at q
    walk_at "sf"
    refine ⟨_, rfl, ?_⟩
    rw [eab]
    walk_at "sf"
    refine ⟨a.natAbs, rfl, ha, ?_⟩
    walk_at "sf"
    refine ⟨_, _, rfl, rfl, ?_, q⟩
    rw [lit_e, S_len, S_len]
    exact lenOK (by simp; lia)
theorem ok_part_text (T : Nm mg) (g_figures_of : FnB P w K mg base 1 "figures_of" ["number"] spFig) (D : DefB K mg "part_text" s_part_text ["size", "place"]) : FnB P w K mg base 2 "part_text" ["size", "place"] spPartT := by
  refine D.ok sc_part_text (fun vs H Q E h => ?_) (fun f cdv A outer s H vs Q E hr h => ?_)
  · obtain ⟨a, b, rfl, _⟩ := h
    rfl
  obtain ⟨size, place, rfl, hs, hp, q⟩ := h
  have h64 : ∀ {n : Nat}, n < 10 ^ 12 → n < 10 ^ 64 := fun h => Nat.lt_of_lt_of_le h (Nat.pow_le_pow_right (by decide) (by decide))
  have l1 := fig_le12 hs
  have l2 : (fig place).length ≤ 12 := fig_le12 (by lia)
  refine ⟨_, (pss_cons (ps_if (pt_cmpR op_eq (pv 1) pe_int (nomark _))
    (pss_one (ps_ret (pe_fn g_figures_of hr (pa_cons (pv 0) pa_nil))))
    pss_nil)
    (pss_cons (ps_set (i := 2) sc_part_text.nd rfl (Or.inl rfl) (pe_ifExp (pt_cmpR op_eq (pv 0) pe_int (nomark _)) pe_str (pe_fn g_figures_of hr (pa_cons (pv 0) pa_nil))))
    (pss_one (ps_ret (pe_op op_add_str (pv 2) (pe_ifExp (pt_cmpR op_eq (pv 1) pe_int (nomark _)) pe_str (pe_op op_add_str pe_str (pe_callTy call_str_int rfl T.n_str boot_str (pa_cons (pv 1) pa_nil))))))))), ?_⟩
  walk_at "sf"
  unfold partL at q
  refine ite2 (fun c => ?_) (fun c => ?_)
  · have h1 : place = 0 := by
      have : (place : Int) = 0 := by simpa using c
      lia
    rw [if_pos h1] at q
    walk_at "sf"
    refine ⟨size, rfl, h64 hs, ?_⟩
    walk_at "sf"
    exact q
  · have h1 : ¬ place = 0 := fun z => by rw [z] at c; simp at c
    rw [if_neg h1, ← S_app] at q
    walk_at "sf"
    refine ite2 (fun c1 => ?_) (fun c1 => ?_)
    case' refine_1 =>
      have h2 : size = 1 := by
        have : (size : Int) = 1 := by simpa using c1
        lia
      rw [if_pos h2, ← lit_e] at q
      have lf : (Str.ofString "").length ≤ 12 := by rw [lit_e, S_len]; exact Nat.zero_le _
      generalize Str.ofString "" = fz at q lf ⊢
      walk_at "sf"
    case' refine_2 =>
      have h2 : ¬ size = 1 := fun z => by rw [z] at c1; simp at c1
      rw [if_neg h2] at q
      have lf : (S (fig size)).length ≤ 12 := by rw [S_len]; exact l1
      walk_at "sf"
      refine ⟨size, rfl, h64 hs, ?_⟩
      generalize S (fig size) = fz at q lf ⊢
      walk_at "sf"
    all_goals
      refine ite2 (fun c3 => ?_) (fun c3 => ?_)
      · have h3 : place = 1 := by
          have : (place : Int) = 1 := by simpa using c3
          lia
        rw [if_pos h3, ← lit_x] at q
        walk_at "sf"
        refine ⟨_, _, rfl, rfl, ?_, q⟩
        rw [lit_x, S_len [120]]
        exact lenOK (by show _ + 1 ≤ _; lia)
      · have h3 : ¬ place = 1 := fun z => by rw [z] at c3; simp at c3
        rw [if_neg h3, ← S_app, ← lit_xh] at q
        walk_at "sf"
        refine ⟨_, rfl, by rw [Int.natAbs_natCast]; exact log_small (by lia), ?_⟩
        walk_at "sf"
        refine ⟨_, _, rfl, rfl, ?_, ?_⟩
        · rw [fig_str, lit_xh, S_len, S_len]
          exact lenOK (by show 2 + _ ≤ _; lia)
        refine ⟨_, _, rfl, rfl, ?_, ?_⟩
        · rw [fig_str, lit_xh, S_app, S_len ([120, 94] ++ fig place), List.length_append]
          exact lenOK (by show _ + (2 + _) ≤ _; lia)
        rw [fig_str]
        exact q
theorem ok_ratio_text (T : Nm mg) (g_figures_of : FnB P w K mg base 2 "figures_of" ["number"] spFig) (g_whole_text : FnB P w K mg base 2 "whole_text" ["number"] spWhole) (D : DefB K mg "ratio_text" s_ratio_text ["given"]) : FnB P w K mg base 3 "ratio_text" ["given"] spRatT := by
  refine D.ok sc_ratio_text (fun vs H Q E h => ?_) (fun f cdv A outer s H vs Q E hr h => ?_)
  · obtain ⟨g, t, u, rfl, _⟩ := h
    rfl
  obtain ⟨g, t, u, rfl, hg, ht, hu, hu2, q⟩ := h
  have h64 : ∀ {n : Nat}, n < 10 ^ 12 → n < 10 ^ 64 := fun h => Nat.lt_of_lt_of_le h (Nat.pow_le_pow_right (by decide) (by decide))
  have eu : u = ((u.natAbs : Nat) : Int) := by lia
  have lw : (wholeL t).length ≤ 13 := by
    have := fig_le12 ht
    unfold wholeL
    rw [List.length_append]
    have : (if t < 0 then [45] else []).length ≤ 1 := by split <;> simp
    lia
  have lu := fig_le12 hu2
  refine ⟨_, (pss_cons (ps_set (i := 1) sc_ratio_text.nd rfl (Or.inl rfl) (pe_fn g_whole_text hr (pa_cons (pe_ix ix_tup (pv 0) pe_int (fun _ _ => rfl)) pa_nil)))
    (pss_one (ps_ret (pe_ifExp (pt_cmpR op_eq (pe_ix ix_tup (pv 0) pe_int (fun _ _ => rfl)) pe_int (nomark _)) (pv 1) (pe_op op_add_str (pe_op op_add_str (pv 1) pe_str) (pe_fn g_figures_of hr (pa_cons (pe_ix ix_tup (pv 0) pe_int (fun _ _ => rfl)) pa_nil))))))), ?_⟩
  walk_at "sf"
  refine r_ixT (SqT.of hg) rfl ?_
  walk_at "sf"
  refine ⟨t, rfl, h64 ht, ?_⟩
  walk_at "sf"
  refine r_ixT (SqT.of hg) rfl ?_
  walk_at "sf"
  unfold ratL at q
  refine ite2 (fun c => ?_) (fun c => ?_)
  · have h1 : u = 1 := by simpa using c
    rw [if_pos h1] at q
    walk_at "sf"
    exact q
  · have h1 : ¬ u = 1 := by simpa using c
    rw [if_neg h1, ← S_app, ← S_app, ← lit_s] at q
    walk_at "sf"
    refine ⟨_, _, rfl, rfl, ?_, ?_⟩
    · rw [lit_s, S_len (wholeL t), S_len [47]]
      exact lenOK (by show _ + 1 ≤ _; lia)
    walk_at "sf"
    refine r_ixT (SqT.of hg) rfl ?_
    walk_at "sf"
    refine ⟨u.natAbs, by rw [← eu]; rfl, h64 hu2, ?_⟩
    walk_at "sf"
    refine ⟨_, _, rfl, rfl, ?_, q⟩
    rw [lit_s, S_app, S_len (wholeL t ++ [47]), S_len (fig u.natAbs), List.length_append]
    exact lenOK (by show _ + 1 + _ ≤ _; lia)
theorem smDn {d : Nat} (h : d ≤ 60) : Builtin.Range.small (d : Int) (-1) (-1) = true := by
  revert d
  decide
theorem rszDn {d : Nat} : Builtin.Range.rangeSize (d : Int) (-1) (-1) = ((d + 1 : Nat) : Int) := by
  unfold Builtin.Range.rangeSize
  rw [if_neg (by decide), if_pos (by lia)]
  have : ((d : Int) - -1 - 1) = (d : Int) := by lia
  rw [this]; simp
theorem ok_written (T : Nm mg) (g_part_text : FnB P w K mg base 2 "part_text" ["size", "place"] spPartT) (D : DefB K mg "written" s_written ["poly"]) : FnB P w K mg base 3 "written" ["poly"] spWrit := by
  refine D.ok sc_written (fun vs H Q E h => ?_) (fun f cdv A outer s H vs Q E hr h => ?_)
  · obtain ⟨a, xs, rfl, _⟩ := h
    rfl
  obtain ⟨a, xs, rfl, ha, ⟨tx, lx, bx⟩, q⟩ := h
  have ex : (xs.map V.int).length = xs.length := List.length_map _
  refine ⟨_, (pss_cons (ps_if (pt_not (pt_truth (pv 0) (fun _ => rfl)))
    (pss_one (ps_ret pe_str))
    pss_nil)
    (pss_cons (ps_set (i := 1) sc_written.nd rfl (Or.inl rfl) (pe_ifExp (pt_cmpR op_lt (pe_ix ix_list (pv 0) (pe_un un_neg pe_int) (fun _ _ => rfl)) pe_int (nomark _)) pe_str pe_str))
    (pss_cons (ps_for PassesOwn.never rfl (pi_range3 rfl T.n_range (pa_cons (pe_op op_sub (pe_callB call_len_seq rfl T.n_len boot_len (pa_cons (pv 0) pa_nil)) pe_int) (pa_cons (pe_un un_neg pe_int) (pa_cons (pe_un un_neg pe_int) pa_nil)))) (pg_name (i := 2) sc_written.nd rfl (Or.inl rfl))
    (pss_cons (ps_set (i := 3) sc_written.nd rfl (Or.inl rfl) (pe_ix ix_list (pv 0) (pv 2) (fun _ _ => rfl)))
    (pss_one (ps_if (pt_cmpR op_ne (pv 3) pe_int (nomark _))
    (pss_cons (ps_if (pt_cmpR op_lt (pv 2) (pe_op op_sub (pe_callB call_len_seq rfl T.n_len boot_len (pa_cons (pv 0) pa_nil)) pe_int) (nomark _))
    (pss_one (ps_set (i := 1) sc_written.nd rfl (Or.inl rfl) (pe_op op_add_str (pv 1) (pe_ifExp (pt_cmpR op_lt (pv 3) pe_int (nomark _)) pe_str pe_str))))
    pss_nil)
    (pss_one (ps_set (i := 1) sc_written.nd rfl (Or.inl rfl) (pe_op op_add_str (pv 1) (pe_fn g_part_text hr (pa_cons (pe_callB call_abs rfl T.n_abs boot_abs (pa_cons (pv 3) pa_nil)) (pa_cons (pv 2) pa_nil)))))))
    pss_nil))))
    (pss_one (ps_ret (pv 1)))))), ?_⟩
  walk_at "sf"
  refine ⟨_, .inl ⟨_, SqL.of ha, rfl⟩, ?_⟩
  by_cases hxn : xs = []
  · subst hxn
    show (if (!(!(([] : List Int).map V.int).isEmpty)) = true then _ else _)
    rw [if_pos (by rfl)]
    walk_at "sf"
    have e : writL [] = [48] := rfl
    rw [e, ← lit_0] at q
    exact q
  have hpos := List.length_pos_iff.mpr hxn
  have hlead := tx.last hxn
  have hcb : ∀ k, (co xs k).natAbs < 10 ^ 12 := fun k => by
    by_cases hi : k < xs.length
    · rw [co_lt hi]; exact bx _ (List.getElem_mem hi)
    · rw [co_ge (by lia)]; decide
  have lw : (writL xs).length ≤ 500 := by
    unfold writL
    rw [if_neg hxn, List.length_append, List.length_append]
    have h1 := partL_len (hcb (xs.length - 1)) (show xs.length - 1 ≤ 13 by lia)
    have h2 := tailL_len bx (xs.length - 1) (by lia)
    have h3 : (if co xs (xs.length - 1) < 0 then [45] else []).length ≤ 1 := by split <;> simp
    lia
  show (if (!(!(xs.map V.int).isEmpty)) = true then _ else _)
  rw [if_neg (by
    cases xs with
    | nil => exact absurd rfl hxn
    | cons x r => simp)]
  walk_at "sf"
  refine r_ixL (SqL.of ha) (il_last hxn) ?_
  walk_at "sf"
  refine if_tC fun xv hxv => ?_
  obtain ⟨l0, rfl, el0⟩ : ∃ l0 : List Nat, xv = .str (S l0) ∧ l0 ++ (partL (co xs (xs.length - 1)).natAbs (xs.length - 1) ++ tailL xs (xs.length - 1)) = writL xs := by
    unfold writL
    rw [if_neg hxn]
    rcases hxv with ⟨c, rfl⟩ | ⟨c, rfl⟩
    · have c' : co xs (xs.length - 1) < 0 := by simpa using c
      rw [if_pos c']
      exact ⟨[45], by rw [lit_m], by rw [List.append_assoc]⟩
    · have c' : ¬ co xs (xs.length - 1) < 0 := by simpa using c
      rw [if_neg c']
      exact ⟨[], by rw [lit_e], by rw [List.append_assoc]⟩
  clear hxv
  walk_at "sf"
  refine ⟨a, _, rfl, .inl (SqL.of ha), ?_⟩
  walk_at "sf"
  rw [ex]
  obtain ⟨n, hn⟩ : ∃ n, xs.length = n + 1 := ⟨xs.length - 1, by lia⟩
  have en : xs.length - 1 = n := by lia
  have en2 : (xs.length : Int) - 1 = (n : Int) := by lia
  rw [en] at el0 hlead
  rw [en2]
  refine ⟨_, _, _, n + 1, rfl, by decide, by decide, smDn (by lia), rszDn, ?_⟩
  refine for_range3 (fun i σ H' => (∃ (l : List Nat) (r2 r3 : Option V), σ = [some (.ref a), some (.str (S l)), r2, r3] ∧ l ++ (if i = 0 then partL (co xs n).natAbs n ++ tailL xs n else tailL xs (n + 1 - i)) = writL xs) ∧ H' = H) ⟨⟨l0, _, _, rfl, by rw [if_pos rfl]; exact el0⟩, rfl⟩ ?_ ?_
  · rintro i σ H' hi ⟨⟨l, r2, r3, rfl, el⟩, rfl⟩
    have ll : l.length ≤ 500 := by
      rw [← el, List.length_append] at lw
      lia
    obtain ⟨k, hk⟩ : ∃ k, n - i = k := ⟨_, rfl⟩
    have ek : (n : Int) + (i : Int) * -1 = (k : Int) := by lia
    rw [ek]
    have hkx : k < xs.length := by lia
    walk_at "sf"
    refine r_ixL (SqL.of ha) (il_at hkx) ?_
    walk_at "sf"
    by_cases hz : co xs k = 0
    · rw [if_neg (by rw [hz]; simp)]
      walk_at "sf"
      have hi0 : i ≠ 0 := fun z => hlead (by rw [← hz]; congr 1; lia)
      refine ⟨⟨l, _, _, rfl, ?_⟩, rfl⟩
      rw [if_neg hi0] at el
      rw [if_neg (by lia)]
      have e1 : n + 1 - i = k + 1 := by lia
      have e2 : n + 1 - (i + 1) = k := by lia
      rw [e1] at el
      rw [e2, ← el]
      show l ++ tailL xs k = l ++ ((if co xs k = 0 then [] else _) ++ tailL xs k)
      rw [if_pos hz]; rfl
    · rw [if_pos (by simpa using hz)]
      walk_at "sf"
      refine ⟨a, _, rfl, .inl (SqL.of ha), ?_⟩
      walk_at "sf"
      rw [ex, en2]
      have eab : (if co xs k < 0 then -co xs k else co xs k) = (((co xs k).natAbs : Nat) : Int) := by split <;> lia
      have lp := partL_len (hcb k) (show k ≤ 13 by lia)
      refine ite2 (fun c => ?_) (fun c => ?_)
      case' refine_1 =>
        have hkn : k < n := by
          have : (k : Int) < (n : Int) := by simpa using c
          lia
        walk_at "sf"
        refine if_tC fun xv hxv => ?_
        obtain ⟨rfl⟩ : xv = .str (S (sgn3 (co xs k))) := by
          unfold sgn3
          rcases hxv with ⟨c1, rfl⟩ | ⟨c1, rfl⟩
          · rw [if_pos (show co xs k < 0 by simpa using c1), lit_bm]
          · rw [if_neg (show ¬ co xs k < 0 by simpa using c1), lit_bp]
        have l3 : (sgn3 (co xs k)).length = 3 := by unfold sgn3; split <;> rfl
        refine ⟨_, _, rfl, rfl, by rw [S_len l, S_len (sgn3 (co xs k))]; exact lenOK (by lia), ?_⟩
        rw [S_app]
        have el1 : (l ++ sgn3 (co xs k)) ++ (partL (co xs k).natAbs k ++ tailL xs k) = writL xs := by
          rw [if_neg (show ¬ i = 0 by lia)] at el
          have e1 : n + 1 - i = k + 1 := by lia
          rw [e1] at el
          rw [← el]
          show _ = l ++ ((if co xs k = 0 then [] else sgn3 (co xs k) ++ partL (co xs k).natAbs k) ++ tailL xs k)
          rw [if_neg hz]
          simp [List.append_assoc]
        have ll1 : (l ++ sgn3 (co xs k)).length ≤ 503 := by rw [List.length_append]; lia
        generalize l ++ sgn3 (co xs k) = l1 at el1 ll1 ⊢
        clear hxv l3
      case' refine_2 =>
        have hkn : ¬ k < n := fun z => c (by simpa using z)
        have el1 : l ++ (partL (co xs k).natAbs k ++ tailL xs k) = writL xs := by
          rw [if_pos (show i = 0 by lia)] at el
          have e1 : k = n := by lia
          rw [e1]; exact el
        have ll1 : l.length ≤ 503 := by lia
        generalize l = l1 at el1 ll1 ⊢
      all_goals
        walk_at "sf"
        refine ⟨_, rfl, ?_⟩
        rw [eab]
        walk_at "sf"
        refine ⟨(co xs k).natAbs, k, rfl, hcb k, by lia, ?_⟩
        refine ⟨_, _, rfl, rfl, by rw [S_len l1, S_len (partL (co xs k).natAbs k)]; exact lenOK (by lia), ?_⟩
        rw [S_app]
        walk_at "sf"
        refine ⟨⟨_, _, _, rfl, ?_⟩, rfl⟩
        rw [if_neg (by lia), ← el1]
        have e2 : n + 1 - (i + 1) = k := by lia
        rw [e2]
        simp [List.append_assoc]
  · rintro σ H' ⟨⟨l, r2, r3, rfl, el⟩, rfl⟩
    walk_at "sf"
    rw [if_neg (by lia), Nat.sub_self] at el
    have : l = writL xs := by rw [← el]; show l = l ++ []; simp
    rw [this]
    exact q
end
end K23
namespace K23
open PySem PyProof.Rows L2 SF
noncomputable def Asc (l : List Nat) : Prop := (∀ c ∈ l, c < 128) ∧ l.length ≤ 900
noncomputable def tw (l : List Nat) : Nat := (l.takeWhile isd).length
theorem tw_nil : tw [] = 0 := rfl
theorem tw_cons (c : Nat) (r : List Nat) : tw (c :: r) = if isd c = true then tw r + 1 else 0 := by
  unfold tw
  rw [List.takeWhile_cons]
  split <;> rfl
theorem tw_app {ds r : List Nat} (h : ∀ c ∈ ds, isd c = true) : tw (ds ++ r) = ds.length + tw r := by
  induction ds with
  | nil => simp
  | cons c ds ih =>
    rw [List.cons_append, tw_cons, if_pos (h c List.mem_cons_self), ih fun x hx => h x (List.mem_cons_of_mem _ hx), List.length_cons]
    lia
theorem drop_at {l : List Nat} {e : Nat} (h : e < l.length) : l.drop e = l[e] :: l.drop (e + 1) := List.drop_eq_getElem_cons h
noncomputable def spEnd : Sp := fun vs H Q _ => ∃ (l : List Nat) (s : Nat), vs = [.str (S l), .int (s : Int)] ∧ Asc l ∧ s ≤ l.length ∧ Q (.int ((s + tw (l.drop s) : Nat) : Int)) H
noncomputable def spNum : Sp := fun vs H Q _ => ∃ (l : List Nat) (s e n : Nat), vs = [.str (S l), .int (s : Int), .int (e : Int)] ∧ Asc l ∧ s ≤ e ∧ e ≤ l.length ∧ (l.drop s).take (e - s) = fig n ∧ n < 10 ^ 12 ∧ Q (.int (n : Int)) H
noncomputable def spSize : Sp := fun vs H Q _ => ∃ (l : List Nat) (s e n : Nat), vs = [.str (S l), .int (s : Int), .int (e : Int)] ∧ Asc l ∧ s ≤ e ∧ e ≤ l.length ∧ n < 10 ^ 12 ∧
  ((((l.drop e).head? == some 120) = true ∧ s = e ∧ n = 1) ∨ ((l.drop s).take (e - s) = fig n ∧ s ≠ e ∧ n ≠ 0 ∧ (((l.drop e).head? == some 120) = true → n ≠ 1))) ∧ Q (.int (n : Int)) H
noncomputable def pwL (p : Nat) : List Nat := if p = 0 then [] else if p = 1 then [120] else [120, 94] ++ fig p
noncomputable def End (r : List Nat) : Prop := r = [] ∨ r.head? = some 32
noncomputable def spPow : Sp := fun vs H Q _ => ∃ (l : List Nat) (s p : Nat) (r : List Nat), vs = [.str (S l), .int (s : Int)] ∧ Asc l ∧ s ≤ l.length ∧ p ≤ 12 ∧ l.drop s = pwL p ++ r ∧ End r ∧ ∀ g, H g = none → Q (.ref g) (upd H g (.tup [.int (p : Int), .int ((s + (pwL p).length : Nat) : Int)]))
theorem End.tw0 {r : List Nat} (h : End r) : tw r = 0 := by
  rcases h with rfl | h
  · rfl
  · cases r with
    | nil => rfl
    | cons c r =>
      have : c = 32 := Option.some.inj h
      rw [tw_cons, this]; rfl
theorem End.no {r : List Nat} (h : End r) {c : Nat} (hc : c ≠ 32) : (r.take 1 == [c]) = false := by
  rcases h with rfl | h
  · rfl
  · cases r with
    | nil => rfl
    | cons d r =>
      have : d = 32 := Option.some.inj h
      rw [this]
      show ([32] == [c]) = false
      simpa using fun z => hc z.symm
theorem atI_str {l : List Nat} {e : Nat} (h : e < l.length) : atI (S l).cps.toList (e : Int) = some l[e] := by
  have : (S l).cps.toList = l := by simp
  rw [this]
  exact atI_nat (List.getElem?_eq_getElem h)
theorem ty_str {K : PySem.W.Frag} {z : Str} {H : Hp} : tyV K "str" (.str z) H := rfl
theorem ite_keep {c : Bool} {A B : Prop} (h1 : c = true → B → A) (h : B) : if c = true then A else B := by
  cases c with
  | true => rw [if_pos rfl]; exact h1 rfl h
  | false => rw [if_neg (by decide)]; exact h
theorem r_eqS {a b : Str} {H : Hp} {G : VK} (h : G (.bl (decide (a = b))) H) : rEq (.str a) (.str b) H G := by
  refine ⟨rfl, ?_⟩
  have e : decide (V.str a = V.str b) = decide (a = b) := by simp
  rw [e]; exact h
theorem r_neS {a b : Str} {H : Hp} {G : VK} (h : G (.bl (!decide (a = b))) H) : rNe (.str a) (.str b) H G := by
  refine ⟨rfl, ?_⟩
  have e : decide (V.str a = V.str b) = decide (a = b) := by simp
  rw [e]; exact h
theorem fig_zero : fig 0 = [48] := fig_small (by decide)
theorem fig_take1 (n : Nat) : ((fig n).take 1 == [48]) = decide (n = 0) := by
  by_cases h : n = 0
  · subst h; rw [fig_zero]; rfl
  · have hh := fig_head n h
    rw [decide_eq_false h]
    cases hf : fig n with
    | nil => exact absurd hf (fig_ne n)
    | cons c r =>
      rw [hf] at hh
      show ([c] == [48]) = false
      have : c ≠ 48 := fun z => hh (by rw [z]; rfl)
      simpa using this
theorem noughts {σ : L2.St} {H : Hp} {G : VK} {n i : Nat} (hσ : σ[i]? = some (some (.str (S (fig n))))) (h : G (.bl false) H) :
    ∃ c, V.bl (Txt.startswith (S (fig n)) (Str.ofString "0")) = V.bl c ∧ if c = true then tOp rNe (tVar i) (tC (.str (Str.ofString "0"))) σ H G else G (.bl false) H := by
  refine ⟨_, rfl, ?_⟩
  rw [lit_0, starts1]
  show if ((fig n).take 1 == [48]) = true then _ else _
  rw [fig_take1]
  by_cases h0 : n = 0
  · rw [if_pos (by simpa using h0)]
    subst h0
    refine ⟨_, hσ, ?_⟩
    refine (show _ ∧ _ from ⟨rfl, ?_⟩)
    have e : (!decide (V.str (S (fig 0)) = V.str (S [48]))) = false := by rw [fig_zero]; simp
    rw [e]
    exact h
  · rw [if_neg (by simpa using h0)]
    exact h
section
variable {P : Program} {w : World} {K : PySem.W.Frag} {mg : Str → Option Value} {base : Heap}
theorem ok_end_of_figures (T : Nm mg) (D : DefB K mg "end_of_figures" s_end_of_figures ["text", "start"]) : FnB P w K mg base 1 "end_of_figures" ["text", "start"] spEnd := by
  refine D.ok sc_end_of_figures (fun vs H Q E h => ?_) (fun f cdv A outer s H vs Q E hr h => ?_)
  · obtain ⟨l, s, rfl, _⟩ := h
    rfl
  obtain ⟨l, st, rfl, ⟨asc, ll⟩, hs, q⟩ := h
  refine ⟨_, (pss_cons (ps_set (i := 2) sc_end_of_figures.nd rfl (Or.inl rfl) (pv 1))
    (pss_cons (ps_while PassesOwn.never (PW.pt (pw_and (pt_cmpR op_lt (pv 2) (pe_callB call_len_str rfl T.n_len boot_len (pa_cons (pv 0) pa_nil)) (nomark _)) (pw_and1 (pt_val (pe_bm0 PySem.F.plainAttrs_str PySem.F.slot_str_isdigit PySem.F.type_str_isdigit mt_isdigit (pe_ix ix_str (pv 0) (pv 2) (fun _ _ => rfl)))))))
    (pss_one (ps_set (i := 2) sc_end_of_figures.nd rfl (Or.inl rfl) (pe_op op_add (pv 2) pe_int))))
    (pss_one (ps_ret (pv 2))))), ?_⟩
  walk_at "sf"
  refine while_go (fun m σ H' => ∃ e : Nat, m = l.length - e ∧ st ≤ e ∧ e ≤ l.length ∧ e + tw (l.drop e) = st + tw (l.drop st) ∧ σ = [some (.str (S l)), some (.int (st : Int)), some (.int (e : Int))] ∧ H' = H) ⟨_, st, rfl, Nat.le_refl _, hs, rfl, rfl, rfl⟩ ?_
  rintro m σ H' ⟨e, rfl, h1, h2, h3, rfl, rfl⟩
  walk_at "sf"
  refine ⟨_, rfl, by rw [S_len l]; exact lenOK (by lia), ?_⟩
  rw [S_len l]
  walk_at "sf"
  by_cases hlt : e < l.length
  · rw [if_pos (by simpa using hlt)]
    walk_at "sf"
    refine ⟨_, rfl, _, rfl, S l, _, _, rfl, rfl, by rw [S_len l]; exact lenOK (by lia), atI_str hlt, ty_str, _, rfl, rfl, ?_⟩
    have hc : l[e] < 128 := asc _ (List.getElem_mem hlt)
    rw [digit1 hc]
    rw [drop_at hlt, tw_cons] at h3
    walk_at "sf"
    refine ite2 (fun c => ?_) (fun c => ?_)
    · rw [if_pos c] at h3
      refine ⟨_, fun σ' H' h => h, ?_⟩
      walk_at "sf"
      exact ⟨_, by lia, e + 1, rfl, by lia, by lia, by lia, rfl, rfl⟩
    · rw [if_neg c] at h3
      walk_at "sf"
      rw [← h3] at q
      exact q
  · rw [if_neg (by simpa using hlt)]
    have he : e = l.length := by lia
    rw [he, List.drop_length, tw_nil] at h3
    walk_at "sf"
    rw [if_neg (by decide)]
    walk_at "sf"
    rw [← h3] at q
    rw [he]
    exact q
theorem ok_number_between (T : Nm mg) {uM : Value} (hG_MOST_FIGURES : mg "MOST_FIGURES" = some uM ∧ RelV (.int 12) uM) (D : DefB K mg "number_between" s_number_between ["text", "start", "end"]) : FnB P w K mg base 1 "number_between" ["text", "start", "end"] spNum := by
  refine D.ok sc_number_between (fun vs H Q E h => ?_) (fun f cdv A outer s H vs Q E hr h => ?_)
  · obtain ⟨l, s, e, n, rfl, _⟩ := h
    rfl
  obtain ⟨l, st, e, n, rfl, ⟨asc, ll⟩, hse, hel, ef, hn, q⟩ := h
  have lf := fig_le12 hn
  refine ⟨_, (pss_cons (ps_set (i := 3) sc_number_between.nd rfl (Or.inl rfl) (pe_slice sl_str (pv 0) (po_some (pv 1)) (po_some (pv 2))))
    (pss_cons (ps_set (i := 4) sc_number_between.nd rfl (Or.inl rfl) (pe_and (pe_bm PySem.F.plainAttrs_str PySem.F.slot_str_startswith PySem.F.type_str_startswith mt_starts (pv 3) (pa_cons pe_str pa_nil)) (pe_one (pe_cmpR op_ne (pv 3) pe_str (nomark _)))))
    (pss_cons (ps_if (PW.pt (pw_or (pt_cmpR op_eq (pv 3) pe_str (nomark _)) (pw_or (pt_cmpR op_gt (pe_callB call_len_str rfl T.n_len boot_len (pa_cons (pv 3) pa_nil)) (pe_glob rfl hG_MOST_FIGURES.1 hG_MOST_FIGURES.2) (nomark _)) (pw_or1 (pt_truth (pv 4) (fun _ => rfl))))))
    (pss_one ps_never)
    pss_nil)
    (pss_one (ps_ret (pe_callTy call_int_str rfl T.n_int boot_int (pa_cons (pv 3) pa_nil))))))), ?_⟩
  walk_at "sf"
  refine ⟨_, rfl, ?_⟩
  refine ⟨_, rfl, _, rfl, S l, rfl, by rw [S_len l]; exact lenOK (by lia), ?_⟩
  rw [slice_S hse hel, ef]
  walk_at "sf"
  refine ⟨_, rfl, ty_str, ?_⟩
  walk_at "sf"
  refine .inl ⟨_, _, rfl, rfl, ?_⟩
  refine noughts rfl ?_
  walk_at "sf"
  have e1 : ¬ S (fig n) = Str.ofString "" := fun z => fig_ne n (S_inj (by rw [z, lit_e]))
  refine r_eqS ?_
  walk_at "sf"
  rw [if_neg (by simpa using e1)]
  walk_at "sf"
  refine ⟨_, rfl, by rw [S_len (fig n)]; exact lenOK (by lia), ?_⟩
  rw [S_len (fig n)]
  walk_at "sf"
  rw [if_neg (by simp; lia)]
  walk_at "sf"
  refine ⟨_, rfl, ?_⟩
  show (if false = true then _ else _)
  rw [if_neg (by decide)]
  walk_at "sf"
  refine ⟨_, _, rfl, fig_val (by lia), by rw [S_len (fig n)]; lia, ?_⟩
  walk_at "sf"
  exact q
theorem ok_size_between (g_number_between : FnB P w K mg base 1 "number_between" ["text", "start", "end"] spNum) (D : DefB K mg "size_between" s_size_between ["text", "start", "end"]) : FnB P w K mg base 2 "size_between" ["text", "start", "end"] spSize := by
  refine D.ok sc_size_between (fun vs H Q E h => ?_) (fun f cdv A outer s H vs Q E hr h => ?_)
  · obtain ⟨l, s, e, n, rfl, _⟩ := h
    rfl
  obtain ⟨l, st, e, n, rfl, asc, hse, hel, hn, hcase, q⟩ := h
  refine ⟨_, (pss_cons (ps_set (i := 3) sc_size_between.nd rfl (Or.inl rfl) (pe_bm PySem.F.plainAttrs_str PySem.F.slot_str_startswith PySem.F.type_str_startswith mt_starts (pv 0) (pa_cons pe_str (pa_cons (pv 2) pa_nil))))
    (pss_cons (ps_if (PW.pt (pw_and (pt_truth (pv 3) (fun _ => rfl)) (pw_and1 (pt_cmpR op_eq (pv 1) (pv 2) (nomark _)))))
    (pss_one (ps_ret pe_int))
    pss_nil)
    (pss_cons (ps_set (i := 4) sc_size_between.nd rfl (Or.inl rfl) (pe_fn g_number_between hr (pa_cons (pv 0) (pa_cons (pv 1) (pa_cons (pv 2) pa_nil)))))
    (pss_cons (ps_if (PW.pt (pw_or (pt_cmpR op_eq (pv 4) pe_int (nomark _)) (pw_or1 (PW.pt (pw_and (pt_truth (pv 3) (fun _ => rfl)) (pw_and1 (pt_cmpR op_eq (pv 4) pe_int (nomark _))))))))
    (pss_one ps_never)
    pss_nil)
    (pss_one (ps_ret (pv 4))))))), ?_⟩
  walk_at "sf"
  refine ⟨_, rfl, ty_str, ?_⟩
  walk_at "sf"
  refine .inr ⟨_, _, _, rfl, rfl, ?_⟩
  rw [lit_x, starts3 hel]
  have el : ((l.drop e).take [120].length == [120]) = ((l.drop e).head? == some 120) := by
    cases l.drop e <;> simp
  rw [el]
  generalize ((l.drop e).head? == some 120) = ah at hcase ⊢
  walk_at "sf"
  refine ⟨_, rfl, ?_⟩
  show (if ah = true then _ else _)
  rcases hcase with ⟨h1, h2, h3⟩ | ⟨h1, h2, h3, h4⟩
  · rw [if_pos h1]
    walk_at "sf"
    rw [if_pos (by simp; lia)]
    walk_at "sf"
    rw [h3] at q
    exact q
  · refine ite_keep (fun c hB => ?_) ?_
    · walk_at "sf"
      rw [if_neg (by simp; lia)]
      exact hB
    show (if false = true then _ else _)
    rw [if_neg (by decide)]
    walk_at "sf"
    refine ⟨l, st, e, n, rfl, asc, hse, hel, h1, hn, ?_⟩
    walk_at "sf"
    rw [if_neg (by simpa using h3)]
    walk_at "sf"
    refine ⟨_, rfl, ?_⟩
    show (if ah = true then _ else _)
    refine ite_keep (fun c hB => ?_) ?_
    · walk_at "sf"
      have := h4 c
      rw [if_neg (by simp; lia)]
      exact hB
    show (if false = true then _ else _)
    rw [if_neg (by decide)]
    walk_at "sf"
    exact q
theorem ok_power_at (T : Nm mg) {uP : Value} (hG_GREATEST_POWER : mg "GREATEST_POWER" = some uP ∧ RelV (.int 12) uP) (g_end_of_figures : FnB P w K mg base 2 "end_of_figures" ["text", "start"] spEnd) (g_number_between : FnB P w K mg base 2 "number_between" ["text", "start", "end"] spNum) (D : DefB K mg "power_at" s_power_at ["text", "start"]) : FnB P w K mg base 3 "power_at" ["text", "start"] spPow := by
  refine D.ok sc_power_at (fun vs H Q E h => ?_) (fun f cdv A outer s H vs Q E hr h => ?_)
  · obtain ⟨l, s, p, r, rfl, _⟩ := h
    rfl
  obtain ⟨l, st, p, r, rfl, asc, hsl, hp, er, hr0, q⟩ := h
  refine ⟨_, (pss_cons (ps_if (pt_not (pt_val (pe_bm PySem.F.plainAttrs_str PySem.F.slot_str_startswith PySem.F.type_str_startswith mt_starts (pv 0) (pa_cons pe_str (pa_cons (pv 1) pa_nil)))))
    (pss_one (ps_ret (pe_tup (pa_cons pe_int (pa_cons (pv 1) pa_nil)))))
    pss_nil)
    (pss_cons (ps_if (pt_not (pt_val (pe_bm PySem.F.plainAttrs_str PySem.F.slot_str_startswith PySem.F.type_str_startswith mt_starts (pv 0) (pa_cons pe_str (pa_cons (pe_op op_add (pv 1) pe_int) pa_nil)))))
    (pss_one (ps_ret (pe_tup (pa_cons pe_int (pa_cons (pe_op op_add (pv 1) pe_int) pa_nil)))))
    pss_nil)
    (pss_cons (ps_set (i := 2) sc_power_at.nd rfl (Or.inl rfl) (pe_op op_add (pv 1) pe_int))
    (pss_cons (ps_set (i := 3) sc_power_at.nd rfl (Or.inl rfl) (pe_fn g_end_of_figures hr (pa_cons (pv 0) (pa_cons (pv 2) pa_nil))))
    (pss_cons (ps_set (i := 4) sc_power_at.nd rfl (Or.inl rfl) (pe_fn g_number_between hr (pa_cons (pv 0) (pa_cons (pv 2) (pa_cons (pv 3) pa_nil)))))
    (pss_cons (ps_if (PW.pt (pw_or (pt_cmpR op_lt (pv 4) pe_int (nomark _)) (pw_or1 (pt_cmpR op_gt (pv 4) (pe_glob rfl hG_GREATEST_POWER.1 hG_GREATEST_POWER.2) (nomark _)))))
    (pss_one ps_never)
    pss_nil)
    (pss_one (ps_ret (pe_tup (pa_cons (pv 4) (pa_cons (pv 3) pa_nil))))))))))), ?_⟩
  walk_at "sf"
  refine ⟨_, rfl, ty_str, ?_⟩
  walk_at "sf"
  refine .inr ⟨_, _, _, rfl, rfl, ?_⟩
  rw [lit_x, starts3 hsl, er]
  walk_at "sf"
  have c1 : (st : Int) + 1 = ((st + 1 : Nat) : Int) := by lia
  have c2 : (st : Int) + 2 = ((st + 2 : Nat) : Int) := by lia
  by_cases p0 : p = 0
  · subst p0
    have e1 : ((pwL 0 ++ r).take [120].length == [120]) = false := hr0.no (by decide)
    rw [e1, if_pos (by decide)]
    walk_at "sf"
    exact q
  have ll := congrArg List.length er
  rw [List.length_drop, List.length_append] at ll
  by_cases p1 : p = 1
  · subst p1
    have e1 : ((pwL 1 ++ r).take [120].length == [120]) = true := rfl
    have lp : (pwL 1).length = 1 := rfl
    have ed : l.drop (st + 1) = r := by
      rw [← List.drop_drop, er]; rfl
    rw [e1, if_neg (by decide)]
    walk_at "sf"
    refine ⟨_, rfl, ty_str, ?_⟩
    walk_at "sf"
    refine .inr ⟨_, _, _, rfl, rfl, ?_⟩
    rw [c1, lit_h, starts3 (by lia), ed]
    walk_at "sf"
    have e2 : (r.take [94].length == [94]) = false := hr0.no (by decide)
    rw [e2, if_pos (by decide)]
    walk_at "sf"
    rw [c1]
    exact q
  have epw : pwL p = [120, 94] ++ fig p := by unfold pwL; rw [if_neg p0, if_neg p1]
  rw [epw] at er ll
  have e1 : (([120, 94] ++ fig p ++ r).take [120].length == [120]) = true := rfl
  rw [epw, e1, if_neg (by decide)]
  have lf : (fig p).length ≤ 12 := fig_le12 (by lia)
  have ed : l.drop (st + 1) = 94 :: (fig p ++ r) := by rw [← List.drop_drop, er]; rfl
  have ed2 : l.drop (st + 2) = fig p ++ r := by rw [← List.drop_drop, er]; rfl
  have lll : st + 2 + (fig p).length ≤ l.length := by
    rw [List.length_append] at ll
    have : [120, 94].length = 2 := rfl
    lia
  walk_at "sf"
  refine ⟨_, rfl, ty_str, ?_⟩
  walk_at "sf"
  refine .inr ⟨_, _, _, rfl, rfl, ?_⟩
  rw [c1, lit_h, starts3 (by lia), ed]
  walk_at "sf"
  have e2 : ((94 :: (fig p ++ r)).take [94].length == [94]) = true := rfl
  rw [e2, if_neg (by decide)]
  walk_at "sf"
  rw [c2]
  walk_at "sf"
  refine ⟨l, st + 2, rfl, asc, by lia, ?_⟩
  rw [ed2, tw_app (fig_isd p), hr0.tw0, Nat.add_zero]
  walk_at "sf"
  refine ⟨l, st + 2, st + 2 + (fig p).length, p, rfl, asc, by lia, lll, ?_, by lia, ?_⟩
  · rw [ed2, Nat.add_sub_cancel_left, List.take_left]
  walk_at "sf"
  rw [if_neg (by simp; lia)]
  walk_at "sf"
  rw [if_neg (by simp; lia)]
  walk_at "sf"
  have el : st + (pwL p).length = st + 2 + (fig p).length := by
    rw [epw, List.length_append]
    show st + (2 + _) = _
    lia
  rw [el] at q
  exact q
end
end K23
namespace K23
open PySem PyProof.Rows L2 SF
noncomputable def dsL (size p : Nat) : List Nat := if p ≠ 0 ∧ size = 1 then [] else fig size
theorem partL_eq (size p : Nat) : partL size p = dsL size p ++ pwL p := by
  unfold partL dsL pwL
  by_cases h0 : p = 0
  · subst h0; simp
  · by_cases h1 : size = 1
    · subst h1
      rw [if_neg h0, if_neg h0, if_pos (c := (1 : Nat) = 1) rfl, if_pos (show p ≠ 0 ∧ (1 : Nat) = 1 from ⟨h0, rfl⟩)]
    · rw [if_neg h0, if_neg h0, if_neg h1, if_neg (show ¬ (p ≠ 0 ∧ size = 1) from fun z => h1 z.2)]
theorem dsL_isd (size p : Nat) : ∀ c ∈ dsL size p, isd c = true := by
  unfold dsL
  split
  · intro c hc; exact nomatch hc
  · exact fig_isd size
theorem pw_tw {p : Nat} {r : List Nat} (h : End r) : tw (pwL p ++ r) = 0 := by
  unfold pwL
  split
  · exact h.tw0
  · split <;> rfl
theorem pw_head {p : Nat} {r : List Nat} (h : End r) : ((pwL p ++ r).head? == some 120) = decide (p ≠ 0) := by
  unfold pwL
  split
  · rename_i h0
    subst h0
    rcases h with rfl | h
    · rfl
    · rw [List.nil_append, h]; rfl
  · rename_i h0
    have : decide (p ≠ 0) = true := by simpa using h0
    rw [this]
    split <;> rfl
theorem head_take {l : List Nat} {c : Nat} : (l.take [c].length == [c]) = (l.head? == some c) := by
  cases l with
  | nil => rfl
  | cons x r =>
    show ([x] == [c]) = (some x == some c)
    rw [Bool.eq_iff_iff]; simp
noncomputable def spPartAt : Sp := fun vs H Q _ => ∃ (l : List Nat) (s size p : Nat) (above : Int) (r : List Nat), vs = [.str (S l), .int (s : Int), .int above] ∧ Asc l ∧ s ≤ l.length ∧ (1 ≤ size ∧ size < 10 ^ 12) ∧ (p ≤ 12 ∧ (p : Int) < above) ∧ l.drop s = partL size p ++ r ∧ End r ∧
  ∀ g H', Same H H' → H' g = some (.tup [.int (size : Int), .int (p : Int), .int ((s + (partL size p).length : Nat) : Int)]) → Q (.ref g) H'
noncomputable def spTurn : Sp := fun vs H Q _ => ∃ (l : List Nat) (s : Nat) (c : Int) (r : List Nat), vs = [.str (S l), .int (s : Int)] ∧ Asc l ∧ s ≤ l.length ∧ l.drop s = sgn3 c ++ r ∧ ∀ H', Same H H' → Q (.bl (decide (c < 0))) H'
theorem tail_next (xs : List Int) : ∀ k : Nat, (tailL xs k = [] ∧ ∀ j, j < k → co xs j = 0) ∨ ∃ k', k' < k ∧ co xs k' ≠ 0 ∧ (∀ j, k' < j → j < k → co xs j = 0) ∧ tailL xs k = sgn3 (co xs k') ++ (partL (co xs k').natAbs k' ++ tailL xs k')
  | 0 => .inl ⟨rfl, fun j h => absurd h (Nat.not_lt_zero _)⟩
  | k + 1 => by
    by_cases h : co xs k = 0
    · have e : tailL xs (k + 1) = tailL xs k := by
        show (if co xs k = 0 then [] else _) ++ tailL xs k = _
        rw [if_pos h]; rfl
      rw [e]
      rcases tail_next xs k with ⟨h1, h2⟩ | ⟨k', h1, h2, h3, h4⟩
      · refine .inl ⟨h1, fun j hj => ?_⟩
        by_cases z : j < k
        · exact h2 j z
        · have : j = k := by lia
          rw [this]; exact h
      · refine .inr ⟨k', by lia, h2, fun j a b => ?_, h4⟩
        by_cases z : j < k
        · exact h3 j a z
        · have : j = k := by lia
          rw [this]; exact h
    · refine .inr ⟨k, by lia, h, fun j a b => by lia, ?_⟩
      show (if co xs k = 0 then [] else sgn3 (co xs k) ++ partL (co xs k).natAbs k) ++ tailL xs k = _
      rw [if_neg h, List.append_assoc]
theorem tail_end (xs : List Int) (k : Nat) : End (tailL xs k) := by
  rcases tail_next xs k with ⟨h1, _⟩ | ⟨k', _, _, _, h4⟩
  · exact .inl h1
  · right
    rw [h4]
    unfold sgn3
    split <;> rfl
theorem part_head {size p : Nat} (h : size ≠ 0) (r : List Nat) : (partL size p ++ r).head? ≠ some 48 ∧ (partL size p ++ r).head? ≠ some 45 := by
  rw [partL_eq]
  unfold dsL
  by_cases hc : p ≠ 0 ∧ size = 1
  · rw [if_pos hc]
    unfold pwL
    rw [if_neg hc.1]
    split <;> exact ⟨by simp, by simp⟩
  · rw [if_neg hc]
    have hh := fig_head size h
    have ha := fig_all size
    cases hf : fig size with
    | nil => exact absurd hf (fig_ne size)
    | cons c r' =>
      rw [hf] at hh ha
      have := ha c List.mem_cons_self
      refine ⟨hh, fun z => ?_⟩
      have : c = 45 := Option.some.inj z
      lia
theorem writ_eq {xs : List Int} (hx : xs ≠ []) : writL xs = (if co xs (xs.length - 1) < 0 then [45] else []) ++ (partL (co xs (xs.length - 1)).natAbs (xs.length - 1) ++ tailL xs (xs.length - 1)) := by
  unfold writL
  rw [if_neg hx, List.append_assoc]
theorem writ_zero {xs : List Int} (tx : Tr xs) (hx : xs ≠ []) : writL xs ≠ [48] := fun z => by
  have hl := tx.last hx
  rw [writ_eq hx] at z
  by_cases h : co xs (xs.length - 1) < 0
  · rw [if_pos h] at z
    have := congrArg List.head? z
    have e : (45 : Nat) = 48 := Option.some.inj this
    lia
  · rw [if_neg h, List.nil_append] at z
    exact (part_head (p := xs.length - 1) (show (co xs (xs.length - 1)).natAbs ≠ 0 by lia) (tailL xs (xs.length - 1))).1 (by rw [z]; rfl)
theorem writ_sign {xs : List Int} (tx : Tr xs) (hx : xs ≠ []) : ((writL xs).head? == some 45) = decide (co xs (xs.length - 1) < 0) := by
  have hl := tx.last hx
  rw [writ_eq hx]
  by_cases h : co xs (xs.length - 1) < 0
  · rw [if_pos h, decide_eq_true h]; rfl
  · rw [if_neg h, decide_eq_false h, List.nil_append]
    have := (part_head (p := xs.length - 1) (show (co xs (xs.length - 1)).natAbs ≠ 0 by lia) (tailL xs (xs.length - 1))).2
    simpa using this
theorem fig_asc (n : Nat) : ∀ c ∈ fig n, c < 128 := fun c hc => by have := fig_all n c hc; lia
theorem part_asc (size p : Nat) : ∀ c ∈ partL size p, c < 128 := by
  rw [partL_eq]
  intro c hc
  rcases List.mem_append.mp hc with h | h
  · unfold dsL at h
    split at h
    · exact nomatch h
    · exact fig_asc _ c h
  · unfold pwL at h
    split at h
    · exact nomatch h
    · split at h
      · rw [List.mem_singleton.mp h]; decide
      · rcases List.mem_append.mp h with h | h
        · have : ∀ c ∈ [120, 94], c < 128 := by decide
          exact this c h
        · exact fig_asc _ c h
theorem tail_asc (xs : List Int) : ∀ n, ∀ c ∈ tailL xs n, c < 128
  | 0 => fun c hc => nomatch hc
  | n + 1 => fun c hc => by
    rcases List.mem_append.mp hc with h | h
    · split at h
      · exact nomatch h
      · rcases List.mem_append.mp h with h | h
        · unfold sgn3 at h
          have a1 : ∀ c ∈ [32, 45, 32], c < 128 := by decide
          have a2 : ∀ c ∈ [32, 43, 32], c < 128 := by decide
          split at h
          · exact a1 c h
          · exact a2 c h
        · exact part_asc _ _ c h
    · exact tail_asc xs n c h
theorem writ_asc {xs : List Int} (_ : ∀ x ∈ xs, x.natAbs < 10 ^ 12) (_ : xs.length ≤ 13) : ∀ c ∈ writL xs, c < 128 := by
  intro c hc
  unfold writL at hc
  split at hc
  · rw [List.mem_singleton.mp hc]; decide
  · rcases List.mem_append.mp hc with h | h
    · rcases List.mem_append.mp h with h | h
      · split at h
        · rw [List.mem_singleton.mp h]; decide
        · exact nomatch h
      · exact part_asc _ _ c h
    · exact tail_asc _ _ c h
noncomputable def spRead : Sp := fun vs H Q _ => ∃ xs : List Int, vs = [.str (S (writL xs))] ∧ Pol xs ∧ ∀ p H', Same H H' → IL H' p xs → Q (.ref p) H'
section
variable {P : Program} {w : World} {K : PySem.W.Frag} {mg : Str → Option Value} {base : Heap}
theorem ok_part_at (T : Nm mg) (g_end_of_figures : FnB P w K mg base 3 "end_of_figures" ["text", "start"] spEnd) (g_size_between : FnB P w K mg base 3 "size_between" ["text", "start", "end"] spSize) (g_power_at : FnB P w K mg base 3 "power_at" ["text", "start"] spPow) (D : DefB K mg "part_at" s_part_at ["text", "start", "above"]) : FnB P w K mg base 4 "part_at" ["text", "start", "above"] spPartAt := by
  refine D.ok sc_part_at (fun vs H Q E h => ?_) (fun f cdv A outer s H vs Q E hr h => ?_)
  · obtain ⟨l, s, size, p, above, r, rfl, _⟩ := h
    rfl
  obtain ⟨l, st, size, p, above, r, rfl, asc, hsl, ⟨hs1, hs2⟩, ⟨hp1, hp2⟩, er, hr0, q⟩ := h
  rw [partL_eq, List.append_assoc] at er
  have ll := congrArg List.length er
  rw [List.length_drop, List.length_append] at ll
  refine ⟨_, (pss_cons (ps_set (i := 3) sc_part_at.nd rfl (Or.inl rfl) (pe_fn g_end_of_figures hr (pa_cons (pv 0) (pa_cons (pv 1) pa_nil))))
    (pss_cons (ps_set (i := 4) sc_part_at.nd rfl (Or.inl rfl) (pe_fn g_size_between hr (pa_cons (pv 0) (pa_cons (pv 1) (pa_cons (pv 3) pa_nil)))))
    (pss_cons (ps_set (i := 5) sc_part_at.nd rfl (Or.inl rfl) (pe_fn g_power_at hr (pa_cons (pv 0) (pa_cons (pv 3) pa_nil))))
    (pss_cons (ps_if (pt_cmpR op_ge (pe_ix ix_tup (pv 5) pe_int (fun _ _ => rfl)) (pv 2) (nomark _))
    (pss_one ps_never)
    pss_nil)
    (pss_one (ps_ret (pe_tup (pa_cons (pv 4) (pa_cons (pe_ix ix_tup (pv 5) pe_int (fun _ _ => rfl)) (pa_cons (pe_ix ix_tup (pv 5) pe_int (fun _ _ => rfl)) pa_nil)))))))))), ?_⟩
  walk_at "sf"
  refine ⟨l, st, rfl, asc, hsl, ?_⟩
  rw [er, tw_app (dsL_isd size p), pw_tw hr0, Nat.add_zero]
  have ed : l.drop (st + (dsL size p).length) = pwL p ++ r := by rw [← List.drop_drop, er, List.drop_left]
  walk_at "sf"
  refine ⟨l, st, st + (dsL size p).length, size, rfl, asc, by lia, by lia, hs2, ?_, ?_⟩
  · rw [ed, pw_head hr0]
    unfold dsL
    by_cases hc : p ≠ 0 ∧ size = 1
    · left
      rw [if_pos hc]
      exact ⟨by simpa using hc.1, rfl, hc.2⟩
    · right
      rw [if_neg hc]
      have hf := List.length_pos_iff.mpr (fig_ne size)
      refine ⟨?_, by lia, by lia, fun z => fun z1 => hc ⟨by simpa using z, z1⟩⟩
      have e2 : dsL size p = fig size := if_neg hc
      rw [er, e2, Nat.add_sub_cancel_left, List.take_left]
  walk_at "sf"
  refine ⟨l, st + (dsL size p).length, p, r, rfl, asc, by lia, hp1, ed, hr0, fun g hg => ?_⟩
  have sg := Same.new hg (.tup [.int (p : Int), .int ((st + (dsL size p).length + (pwL p).length : Nat) : Int)])
  have hg1 : upd H g (.tup [.int (p : Int), .int ((st + (dsL size p).length + (pwL p).length : Nat) : Int)]) g = some (.tup [.int (p : Int), .int ((st + (dsL size p).length + (pwL p).length : Nat) : Int)]) := upd_same
  generalize upd H g (.tup [.int (p : Int), .int ((st + (dsL size p).length + (pwL p).length : Nat) : Int)]) = H1 at sg hg1 ⊢
  walk_at "sf"
  refine r_ixT (SqT.of hg1) rfl ?_
  walk_at "sf"
  rw [if_neg (by simp; lia)]
  walk_at "sf"
  refine r_ixT (SqT.of hg1) rfl ?_
  walk_at "sf"
  refine r_ixT (SqT.of hg1) rfl ?_
  walk_at "sf"
  intro g2 hg2
  have el : st + (partL size p).length = st + (dsL size p).length + (pwL p).length := by rw [partL_eq, List.length_append]; lia
  rw [el] at q
  exact q g2 _ (sg.trans (Same.new hg2 _)) upd_same
theorem ok_turn_at (D : DefB K mg "turn_at" s_turn_at ["text", "start"]) : FnB P w K mg base 1 "turn_at" ["text", "start"] spTurn := by
  refine D.ok sc_turn_at (fun vs H Q E h => ?_) (fun f cdv A outer s H vs Q E hr h => ?_)
  · obtain ⟨l, s, c, r, rfl, _⟩ := h
    rfl
  obtain ⟨l, st, c, r, rfl, ⟨asc, la⟩, hsl, er, q⟩ := h
  have l3 : (sgn3 c).length = 3 := by unfold sgn3; split <;> rfl
  have ll := congrArg List.length er
  rw [List.length_drop, List.length_append] at ll
  have c3 : (st : Int) + 3 = ((st + 3 : Nat) : Int) := by lia
  refine ⟨_, (pss_cons (ps_set (i := 2) sc_turn_at.nd rfl (Or.inl rfl) (pe_slice sl_str (pv 0) (po_some (pv 1)) (po_some (pe_op op_add (pv 1) pe_int))))
    (pss_cons (ps_if (pt_cmpR op_notIn_seq (pv 2) (pe_tup (pa_cons pe_str (pa_cons pe_str pa_nil))) rfl)
    (pss_one ps_never)
    pss_nil)
    (pss_one (ps_ret (pe_cmpR op_eq (pv 2) pe_str (nomark _)))))), ?_⟩
  walk_at "sf"
  refine ⟨_, rfl, ?_⟩
  walk_at "sf"
  refine ⟨_, rfl, S l, rfl, by rw [S_len l]; exact lenOK (by lia), ?_⟩
  have e3 : (l.drop st).take (st + 3 - st) = sgn3 c := by
    rw [er, Nat.add_sub_cancel_left, ← l3, List.take_left]
  rw [c3, slice_S (by lia) (by lia), e3]
  walk_at "sf"
  intro tp htp
  have stp := Same.new htp (.tup [.str (Str.ofString " + "), .str (Str.ofString " - ")])
  have htp1 : upd H tp (.tup [.str (Str.ofString " + "), .str (Str.ofString " - ")]) tp = some (.tup [.str (Str.ofString " + "), .str (Str.ofString " - ")]) := upd_same
  generalize upd H tp (.tup [.str (Str.ofString " + "), .str (Str.ofString " - ")]) = H1 at stp htp1 ⊢
  walk_at "sf"
  refine ⟨tp, _, rfl, .inr (SqT.of htp1), rfl, rfl, ?_⟩
  have ein : inV (.str (S (sgn3 c))) [.str (Str.ofString " + "), .str (Str.ofString " - ")] = true := by
    unfold sgn3
    rw [lit_bp, lit_bm]
    split <;> rfl
  rw [ein]
  walk_at "sf"
  rw [if_neg (by decide)]
  walk_at "sf"
  refine r_eqS ?_
  have ed : decide (S (sgn3 c) = Str.ofString " - ") = decide (c < 0) := by
    rw [lit_bm]
    unfold sgn3
    by_cases h : c < 0
    · rw [if_pos h, decide_eq_true h]; simp
    · rw [if_neg h, decide_eq_false h]
      exact decide_eq_false fun z => absurd (S_inj z) (by decide)
  rw [ed]
  walk_at "sf"
  exact q _ stp
theorem ok_read (T : Nm mg) {uP : Value} (hG_GREATEST_POWER : mg "GREATEST_POWER" = some uP ∧ RelV (.int 12) uP) (g_part_at : FnB P w K mg base 4 "part_at" ["text", "start", "above"] spPartAt) (g_turn_at : FnB P w K mg base 4 "turn_at" ["text", "start"] spTurn) (g_trimmed : FnB P w K mg base 4 "trimmed" ["row"] (spL trimL Few))
    (D : DefB K mg "read" s_read ["text"]) : FnB P w K mg base 5 "read" ["text"] spRead := by
  refine D.ok sc_read (fun vs H Q E h => ?_) (fun f cdv A outer s H vs Q E hr h => ?_)
  · obtain ⟨xs, rfl, _⟩ := h
    rfl
  obtain ⟨xs, rfl, ⟨tx, lx, bx⟩, q⟩ := h
  refine ⟨_, (pss_cons (ps_if (pt_cmpR op_eq (pv 0) pe_str (nomark _))
    (pss_one (ps_ret (pe_lst pa_nil)))
    pss_nil)
    (pss_cons (ps_set (i := 1) sc_read.nd rfl (Or.inl rfl) (pe_op op_rep (pe_lst (pa_cons pe_int pa_nil)) (pe_op op_add (pe_glob rfl hG_GREATEST_POWER.1 hG_GREATEST_POWER.2) pe_int)))
    (pss_cons (ps_set (i := 2) sc_read.nd rfl (Or.inl rfl) (pe_bm PySem.F.plainAttrs_str PySem.F.slot_str_startswith PySem.F.type_str_startswith mt_starts (pv 0) (pa_cons pe_str pa_nil)))
    (pss_cons (ps_set (i := 3) sc_read.nd rfl (Or.inl rfl) (pe_ifExp (pt_truth (pv 2) (fun _ => rfl)) pe_int pe_int))
    (pss_cons (ps_set (i := 4) sc_read.nd rfl (Or.inl rfl) (pe_op op_add (pe_glob rfl hG_GREATEST_POWER.1 hG_GREATEST_POWER.2) pe_int))
    (pss_one (ps_while PassesOwn.never (pt_truth pe_bl (fun _ => rfl))
    (pss_cons (ps_set (i := 5) sc_read.nd rfl (Or.inl rfl) (pe_fn g_part_at hr (pa_cons (pv 0) (pa_cons (pv 3) (pa_cons (pv 4) pa_nil)))))
    (pss_cons (ps_set (i := 4) sc_read.nd rfl (Or.inl rfl) (pe_ix ix_tup (pv 5) pe_int (fun _ _ => rfl)))
    (pss_cons (ps_asg (pe_ifExp (pt_truth (pv 2) (fun _ => rfl)) (pe_un un_neg (pe_ix ix_tup (pv 5) pe_int (fun _ _ => rfl))) (pe_ix ix_tup (pv 5) pe_int (fun _ _ => rfl))) (pg_sub (pv 1) (pv 4) set_list))
    (pss_cons (ps_if (pt_cmpR op_eq (pe_ix ix_tup (pv 5) pe_int (fun _ _ => rfl)) (pe_callB call_len_str rfl T.n_len boot_len (pa_cons (pv 0) pa_nil)) (nomark _))
    (pss_one (ps_ret (pe_fn g_trimmed hr (pa_cons (pv 1) pa_nil))))
    pss_nil)
    (pss_cons (ps_set (i := 2) sc_read.nd rfl (Or.inl rfl) (pe_fn g_turn_at hr (pa_cons (pv 0) (pa_cons (pe_ix ix_tup (pv 5) pe_int (fun _ _ => rfl)) pa_nil))))
    (pss_one (ps_set (i := 3) sc_read.nd rfl (Or.inl rfl) (pe_op op_add (pe_ix ix_tup (pv 5) pe_int (fun _ _ => rfl)) pe_int))))))))))))))), ?_⟩
  walk_at "sf"
  refine r_eqS ?_
  walk_at "sf"
  by_cases hxn : xs = []
  · subst hxn
    have e : writL [] = [48] := rfl
    rw [e, lit_0, if_pos (by simp)]
    walk_at "sf"
    intro p hp
    exact q p _ (Same.new hp _) upd_same
  have hpos := List.length_pos_iff.mpr hxn
  have hlead := tx.last hxn
  have hcb : ∀ k, (co xs k).natAbs < 10 ^ 12 := fun k => by
    by_cases hi : k < xs.length
    · rw [co_lt hi]; exact bx _ (List.getElem_mem hi)
    · rw [co_ge (by lia)]; decide
  rw [if_neg (by
    rw [lit_0]
    simp only [decide_eq_true_eq]
    exact fun z => writ_zero tx hxn (S_inj z))]
  walk_at "sf"
  intro p0 hp0
  walk_at "sf"
  refine ⟨p0, _, _, rfl, rfl, upd_same, by decide, by decide, by show 1 * 13 ≤ sizeLine; exact small4 (by decide), fun p2 hp2 => ?_⟩
  have s2 := (Same.new hp0 (.lst [V.int 0])).trans (Same.new hp2 (.lst (List.replicate ((12 : Int) + 1).toNat [V.int 0]).flatten))
  have h2 : upd (upd H p0 (.lst [V.int 0])) p2 (.lst (List.replicate ((12 : Int) + 1).toNat [V.int 0]).flatten) p2 = some (.lst ((List.replicate 13 (0 : Int)).map V.int)) := by
    rw [upd_same]; rfl
  have n2 : H p2 = none := (Same.new hp0 _).free hp2
  generalize upd (upd H p0 (.lst [V.int 0])) p2 (.lst (List.replicate ((12 : Int) + 1).toNat [V.int 0]).flatten) = H1 at s2 h2 ⊢
  walk_at "sf"
  refine ⟨_, rfl, ty_str, ?_⟩
  walk_at "sf"
  refine .inl ⟨_, _, rfl, rfl, ?_⟩
  rw [lit_m, starts1, head_take, writ_sign tx hxn]
  walk_at "sf"
  refine ⟨_, rfl, ?_⟩
  refine (show (if decide (co xs (xs.length - 1) < 0) = true then _ else _) from if_tC fun xv hxv => ?_)
  obtain ⟨n, hn⟩ : ∃ n, xs.length = n + 1 := ⟨xs.length - 1, by lia⟩
  have en : xs.length - 1 = n := by lia
  have ew := writ_eq hxn
  rw [en] at hlead hxv ew ⊢
  have lw : (writL xs).length ≤ 500 := by
    rw [ew, List.length_append, List.length_append]
    have h1 := partL_len (hcb n) (show n ≤ 13 by lia)
    have h2 := tailL_len bx n (by lia)
    have h3 : (if co xs n < 0 then [45] else []).length ≤ 1 := by split <;> simp
    lia
  have asc : Asc (writL xs) := ⟨writ_asc bx lx, by lia⟩
  obtain ⟨st0, rfl, hst0, est⟩ : ∃ st0 : Nat, xv = .int (st0 : Int) ∧ st0 ≤ (writL xs).length ∧ (writL xs).drop st0 = partL (co xs n).natAbs n ++ tailL xs n := by
    rcases hxv with ⟨c, rfl⟩ | ⟨c, rfl⟩
    · have c' : co xs n < 0 := by simpa using c
      rw [ew, if_pos c']
      exact ⟨1, rfl, by rw [List.length_append]; show 1 ≤ 1 + _; lia, rfl⟩
    · have c' : ¬ co xs n < 0 := by simpa using c
      rw [ew, if_neg c']
      exact ⟨0, rfl, Nat.zero_le _, rfl⟩
  clear hxv
  walk_at "sf"
  dsimp only
  refine while_go (fun m σ H' => ∃ (st k : Nat) (above : Int) (rs : List Int) (z : Option V), m = k ∧ σ = [some (.str (S (writL xs))), some (.ref p2), some (.bl (decide (co xs k < 0))), some (.int (st : Int)), some (.int above), z] ∧ Same H H' ∧ IL H' p2 rs ∧ rs.length = 13 ∧
      k < xs.length ∧ co xs k ≠ 0 ∧ (k : Int) < above ∧ st ≤ (writL xs).length ∧ (writL xs).drop st = partL (co xs k).natAbs k ++ tailL xs k ∧ ∀ j, co rs j = if k < j then co xs j else 0)
    ⟨_, st0, n, 13, List.replicate 13 0, _, rfl, rfl, s2, h2, rfl, by lia, hlead, by lia, hst0, est, fun j => ?_⟩ ?_
  · have e1 : co (List.replicate 13 (0 : Int)) j = 0 := by
      by_cases hj : j < 13
      · rw [co_lt (by rw [List.length_replicate]; exact hj)]; exact List.getElem_replicate ..
      · exact co_ge (by rw [List.length_replicate]; lia)
    rw [e1]
    split
    · exact (co_ge (by lia)).symm
    · rfl
  rintro k σ H2 ⟨st, k', above, rs, z, rfl, rfl, s3, h3, lrs, hk, hck, hab, hst, ed, hrs⟩
  walk_at "sf"
  refine ⟨_, rfl, ?_⟩
  show (if true = true then _ else _)
  rw [if_pos rfl]
  refine ⟨_, fun σ' H' h => h, ?_⟩
  walk_at "sf"
  refine ⟨writL xs, st, (co xs k).natAbs, k, above, tailL xs k, rfl, asc, hst, ⟨by lia, hcb k⟩, ⟨by lia, hab⟩, ed, tail_end xs k, fun g H3 s34 hg => ?_⟩
  have s4 := s3.trans s34
  have h4 := s34 _ _ h3
  walk_at "sf"
  refine r_ixT (SqT.of hg) rfl ?_
  walk_at "sf"
  refine ⟨_, rfl, ?_⟩
  show (if decide (co xs k < 0) = true then _ else _)
  refine ite2 (fun c => ?_) (fun c => ?_)
  case' refine_1 =>
    have hc : co xs k < 0 := by simpa using c
    have ev : -(((co xs k).natAbs : Nat) : Int) = co xs k := by lia
    walk_at "sf"
    refine r_ixT (SqT.of hg) rfl ?_
    walk_at "sf"
    rw [ev]
    clear ev
  case' refine_2 =>
    have hc : ¬ co xs k < 0 := by simpa using c
    have ev : (((co xs k).natAbs : Nat) : Int) = co xs k := by lia
    walk_at "sf"
    refine r_ixT (SqT.of hg) rfl ?_
    rw [ev]
    clear ev
  all_goals
    walk_at "sf"
    refine ⟨p2, _, _, k, rfl, rfl, h4, ix_nat (by rw [List.length_map]; lia), ?_⟩
    have hgp : g ≠ p2 := fun z => by rw [z, h4] at hg; cases hg
    have s5 : Same H (upd H3 p2 (.lst ((rs.map V.int).set k (.int (co xs k))))) := fun c o zz => by
      rw [upd_ne (ne_of_none zz n2)]
      exact s4 _ _ zz
    have h5 : IL (upd H3 p2 (.lst ((rs.map V.int).set k (.int (co xs k))))) p2 (rs.set k (co xs k)) := by
      show upd _ p2 _ p2 = _
      rw [upd_same, List.map_set]
    have hg5 : upd H3 p2 (.lst ((rs.map V.int).set k (.int (co xs k)))) g = some (.tup [.int (((co xs k).natAbs : Nat) : Int), .int (k : Int), .int ((st + (partL (co xs k).natAbs k).length : Nat) : Int)]) := by
      rw [upd_ne hgp]; exact hg
    generalize upd H3 p2 (.lst ((rs.map V.int).set k (.int (co xs k)))) = H5 at s5 h5 hg5 ⊢
    have lr5 : (rs.set k (co xs k)).length = 13 := by rw [List.length_set]; exact lrs
    have hr5 : ∀ j, co (rs.set k (co xs k)) j = if k ≤ j then co xs j else 0 := fun j => by
      by_cases hj : j < 13
      · rw [co_lt (by lia), List.getElem_set]
        by_cases e : k = j
        · subst e
          rw [if_pos rfl, if_pos (Nat.le_refl _)]
        · rw [if_neg e, ← co_lt, hrs j]
          by_cases e2 : k < j
          · rw [if_pos e2, if_pos (by lia)]
          · rw [if_neg e2, if_neg (by lia)]
      · rw [co_ge (by lia)]
        split
        · exact (co_ge (by lia)).symm
        · rfl
    generalize rs.set k (co xs k) = rs' at h5 lr5 hr5 ⊢
    have ll := congrArg List.length ed
    rw [List.length_drop, List.length_append] at ll
    walk_at "sf"
    refine r_ixT (SqT.of hg5) rfl ?_
    walk_at "sf"
    refine ⟨_, rfl, by rw [S_len (writL xs)]; exact lenOK (by lia), ?_⟩
    rw [S_len (writL xs)]
    walk_at "sf"
    have ed2 : (writL xs).drop (st + (partL (co xs k).natAbs k).length) = tailL xs k := by rw [← List.drop_drop, ed, List.drop_left]
    rcases tail_next xs k with ⟨t1, t2⟩ | ⟨k', t1, t2, t3, t4⟩
    · rw [t1] at ll
      rw [if_pos (by simp; have : ([] : List Nat).length = 0 := rfl; lia)]
      walk_at "sf"
      refine ⟨p2, rs', rfl, h5, by show rs'.length ≤ 1000; lia, fun p H6 s6 h6 => ?_⟩
      have ex : trimL rs' = xs := (trimL_tr rs').inj tx fun j => by
        rw [trimL_co, hr5 j]
        by_cases e : k ≤ j
        · rw [if_pos e]
        · rw [if_neg e]; exact (t2 j (by lia)).symm
      rw [ex] at h6
      walk_at "sf"
      exact q p H6 (s5.trans s6) h6
    · have l3 : (sgn3 (co xs k')).length = 3 := by unfold sgn3; split <;> rfl
      have lt4 : 3 ≤ (tailL xs k).length := by rw [t4, List.length_append]; lia
      rw [if_neg (by simp; lia)]
      walk_at "sf"
      refine r_ixT (SqT.of hg5) rfl ?_
      walk_at "sf"
      refine ⟨writL xs, st + (partL (co xs k).natAbs k).length, co xs k', _, rfl, asc, by lia, by rw [ed2, t4], fun H6 s6 => ?_⟩
      walk_at "sf"
      refine r_ixT (SqT.of (s6 _ _ hg5)) rfl ?_
      walk_at "sf"
      have c3 : ((st + (partL (co xs k).natAbs k).length : Nat) : Int) + 3 = ((st + (partL (co xs k).natAbs k).length + 3 : Nat) : Int) := by lia
      rw [c3]
      refine ⟨k', t1, st + (partL (co xs k).natAbs k).length + 3, k', (k : Int), rs', _, rfl, rfl, s5.trans s6, s6 _ _ h5, lr5, by lia, t2, by lia, by lia, ?_, fun j => ?_⟩
      · rw [← List.drop_drop, ed2, t4, ← l3, List.drop_left]
      · rw [hr5 j]
        by_cases e : k ≤ j
        · rw [if_pos e, if_pos (by lia)]
        · rw [if_neg e]
          by_cases e2 : k' < j
          · rw [if_pos e2]; exact (t3 j e2 (by lia)).symm
          · rw [if_neg e2]
end
end K23
namespace K23
open PySem PyProof.Rows L2 SF
noncomputable def unL (u : Nat) : List Nat := if u = 1 then [] else 47 :: fig u
noncomputable def spUnder : Sp := fun vs H Q _ => ∃ (l : List Nat) (s : Nat) (top : Int) (u : Nat), vs = [.str (S l), .int (s : Int), .int top] ∧ Asc l ∧ s ≤ l.length ∧ l.drop s = unL u ∧ 1 ≤ u ∧ u < 10 ^ 12 ∧ Int.gcd top (u : Int) = 1 ∧
  ∀ g, H g = none → Q (.ref g) (upd H g (.tup [.int (u : Int), .int ((l.length : Nat) : Int)]))
noncomputable def spReadR : Sp := fun vs H Q _ => ∃ (t u : Int), vs = [.str (S (ratL t u))] ∧ t.natAbs < 10 ^ 12 ∧ 0 < u ∧ u.natAbs < 10 ^ 12 ∧ Int.gcd t u = 1 ∧ ∀ p H', Same H H' → H' p = some (.tup [.int t, .int u]) → Q (.ref p) H'
section
variable {P : Program} {w : World} {K : PySem.W.Frag} {mg : Str → Option Value} {base : Heap}
theorem ok_under_at (T : Nm mg) (g_end_of_figures : FnB P w K mg base 2 "end_of_figures" ["text", "start"] spEnd) (g_number_between : FnB P w K mg base 2 "number_between" ["text", "start", "end"] spNum) (g_common_divisor : FnB P w K mg base 2 "common_divisor" ["one", "other"] spGcd) (D : DefB K mg "under_at" s_under_at ["text", "start", "top"]) : FnB P w K mg base 3 "under_at" ["text", "start", "top"] spUnder := by
  refine D.ok sc_under_at (fun vs H Q E h => ?_) (fun f cdv A outer s H vs Q E hr h => ?_)
  · obtain ⟨l, s, top, u, rfl, _⟩ := h
    rfl
  obtain ⟨l, st, top, u, rfl, asc, hsl, er, hu1, hu2, hg, q⟩ := h
  have c1 : (st : Int) + 1 = ((st + 1 : Nat) : Int) := by lia
  have ll := congrArg List.length er
  rw [List.length_drop] at ll
  refine ⟨_, (pss_cons (ps_if (pt_not (pt_val (pe_bm PySem.F.plainAttrs_str PySem.F.slot_str_startswith PySem.F.type_str_startswith mt_starts (pv 0) (pa_cons pe_str (pa_cons (pv 1) pa_nil)))))
    (pss_one (ps_ret (pe_tup (pa_cons pe_int (pa_cons (pv 1) pa_nil)))))
    pss_nil)
    (pss_cons (ps_set (i := 3) sc_under_at.nd rfl (Or.inl rfl) (pe_op op_add (pv 1) pe_int))
    (pss_cons (ps_set (i := 4) sc_under_at.nd rfl (Or.inl rfl) (pe_fn g_end_of_figures hr (pa_cons (pv 0) (pa_cons (pv 3) pa_nil))))
    (pss_cons (ps_set (i := 5) sc_under_at.nd rfl (Or.inl rfl) (pe_fn g_number_between hr (pa_cons (pv 0) (pa_cons (pv 3) (pa_cons (pv 4) pa_nil)))))
    (pss_cons (ps_if (PW.pt (pw_or (pt_cmpR op_lt (pv 5) pe_int (nomark _)) (pw_or1 (pt_cmpR op_ne (pe_fn g_common_divisor hr (pa_cons (pv 2) (pa_cons (pv 5) pa_nil))) pe_int (nomark _)))))
    (pss_one ps_never)
    pss_nil)
    (pss_one (ps_ret (pe_tup (pa_cons (pv 5) (pa_cons (pv 4) pa_nil)))))))))), ?_⟩
  walk_at "sf"
  refine ⟨_, rfl, ty_str, ?_⟩
  walk_at "sf"
  refine .inr ⟨_, _, _, rfl, rfl, ?_⟩
  rw [lit_s, starts3 hsl, er, head_take]
  walk_at "sf"
  by_cases h1 : u = 1
  · subst h1
    have e0 : unL 1 = [] := rfl
    rw [e0] at ll ⊢
    rw [if_pos (by decide)]
    have el : st = l.length := by have : ([] : List Nat).length = 0 := rfl; lia
    walk_at "sf"
    rw [← el] at q
    exact q
  · have e0 : unL u = 47 :: fig u := if_neg h1
    rw [e0] at er ll ⊢
    have eh : ((47 :: fig u).head? == some 47) = true := rfl
    rw [eh, if_neg (by decide)]
    have ed : l.drop (st + 1) = fig u := by rw [← List.drop_drop, er]; rfl
    rw [List.length_cons] at ll
    walk_at "sf"
    rw [c1]
    walk_at "sf"
    refine ⟨l, st + 1, rfl, asc, by lia, ?_⟩
    have et : tw (fig u) = (fig u).length := by
      have := tw_app (r := []) (fig_isd u)
      rw [List.append_nil, tw_nil, Nat.add_zero] at this
      exact this
    have el : st + 1 + (fig u).length = l.length := by lia
    rw [ed, et, el]
    walk_at "sf"
    refine ⟨l, st + 1, l.length, u, rfl, asc, by lia, Nat.le_refl _, ?_, hu2, ?_⟩
    · rw [ed]
      exact List.take_of_length_le (by lia)
    walk_at "sf"
    rw [if_neg (by simp; lia)]
    walk_at "sf"
    refine ⟨_, _, rfl, ?_⟩
    rw [hg]
    walk_at "sf"
    rw [if_neg (by decide)]
    walk_at "sf"
    exact q
theorem ok_read_ratio (T : Nm mg) (g_end_of_figures : FnB P w K mg base 3 "end_of_figures" ["text", "start"] spEnd) (g_number_between : FnB P w K mg base 3 "number_between" ["text", "start", "end"] spNum) (g_under_at : FnB P w K mg base 3 "under_at" ["text", "start", "top"] spUnder) (D : DefB K mg "read_ratio" s_read_ratio ["text"]) : FnB P w K mg base 4 "read_ratio" ["text"] spReadR := by
  refine D.ok sc_read_ratio (fun vs H Q E h => ?_) (fun f cdv A outer s H vs Q E hr h => ?_)
  · obtain ⟨t, u, rfl, _⟩ := h
    rfl
  obtain ⟨t, u, rfl, ht, hu, hu2, hg, q⟩ := h
  obtain ⟨un, rfl⟩ := Int.eq_ofNat_of_zero_le (Int.le_of_lt hu)
  have hu3 : un < 10 ^ 12 := hu2
  have hu1 : 1 ≤ un := by lia
  have lf := fig_le12 ht
  have lu := fig_le12 hu3
  have hun : (unL un).length ≤ 13 := by
    unfold unL
    split
    · exact Nat.zero_le _
    · rw [List.length_cons]; lia
  have er : ratL t (un : Int) = (if t < 0 then [45] else []) ++ (fig t.natAbs ++ unL un) := by
    unfold ratL wholeL unL
    by_cases h1 : un = 1
    · subst h1
      rw [if_pos (show ((1 : Nat) : Int) = 1 from rfl), if_pos (c := (1 : Nat) = 1) rfl, List.append_nil]
    · rw [if_neg (by lia), if_neg h1]
      simp [List.append_assoc]
  have lr : (ratL t (un : Int)).length ≤ 30 := by
    rw [er, List.length_append, List.length_append]
    have : (if t < 0 then [45] else []).length ≤ 1 := by split <;> simp
    lia
  have hh : ((ratL t (un : Int)).head? == some 45) = decide (t < 0) := by
    rw [er]
    by_cases h : t < 0
    · rw [if_pos h, decide_eq_true h]; rfl
    · rw [if_neg h, decide_eq_false h, List.nil_append]
      have ha := fig_all t.natAbs
      cases hf : fig t.natAbs with
      | nil => exact absurd hf (fig_ne _)
      | cons c r =>
        rw [hf] at ha
        have := ha c List.mem_cons_self
        show (some c == some 45) = false
        have : c ≠ 45 := by lia
        simpa using this
  have asc : Asc (ratL t (un : Int)) := by
    refine ⟨fun c hc => ?_, by lia⟩
    rw [er] at hc
    rcases List.mem_append.mp hc with h | h
    · split at h
      · rw [List.mem_singleton.mp h]; decide
      · exact nomatch h
    · rcases List.mem_append.mp h with h | h
      · exact fig_asc _ c h
      · unfold unL at h
        split at h
        · exact nomatch h
        · rcases List.mem_cons.mp h with h | h
          · rw [h]; decide
          · exact fig_asc _ c h
  refine ⟨_, (pss_cons (ps_set (i := 1) sc_read_ratio.nd rfl (Or.inl rfl) (pe_bm PySem.F.plainAttrs_str PySem.F.slot_str_startswith PySem.F.type_str_startswith mt_starts (pv 0) (pa_cons pe_str pa_nil)))
    (pss_cons (ps_set (i := 2) sc_read_ratio.nd rfl (Or.inl rfl) (pe_ifExp (pt_truth (pv 1) (fun _ => rfl)) pe_int pe_int))
    (pss_cons (ps_set (i := 3) sc_read_ratio.nd rfl (Or.inl rfl) (pe_fn g_end_of_figures hr (pa_cons (pv 0) (pa_cons (pv 2) pa_nil))))
    (pss_cons (ps_set (i := 4) sc_read_ratio.nd rfl (Or.inl rfl) (pe_fn g_number_between hr (pa_cons (pv 0) (pa_cons (pv 2) (pa_cons (pv 3) pa_nil)))))
    (pss_cons (ps_if (PW.pt (pw_and (pt_truth (pv 1) (fun _ => rfl)) (pw_and1 (pt_cmpR op_eq (pv 4) pe_int (nomark _)))))
    (pss_one ps_never)
    pss_nil)
    (pss_cons (ps_set (i := 5) sc_read_ratio.nd rfl (Or.inl rfl) (pe_fn g_under_at hr (pa_cons (pv 0) (pa_cons (pv 3) (pa_cons (pv 4) pa_nil)))))
    (pss_cons (ps_if (pt_cmpR op_ne (pe_ix ix_tup (pv 5) pe_int (fun _ _ => rfl)) (pe_callB call_len_str rfl T.n_len boot_len (pa_cons (pv 0) pa_nil)) (nomark _))
    (pss_one ps_never)
    pss_nil)
    (pss_one (ps_ret (pe_tup (pa_cons (pe_ifExp (pt_truth (pv 1) (fun _ => rfl)) (pe_un un_neg (pv 4)) (pv 4)) (pa_cons (pe_ix ix_tup (pv 5) pe_int (fun _ _ => rfl)) pa_nil)))))))))))), ?_⟩
  walk_at "sf"
  refine ⟨_, rfl, ty_str, ?_⟩
  walk_at "sf"
  refine .inl ⟨_, _, rfl, rfl, ?_⟩
  rw [lit_m, starts1, head_take, hh]
  walk_at "sf"
  refine ⟨_, rfl, ?_⟩
  refine (show (if decide (t < 0) = true then _ else _) from if_tC fun xv hxv => ?_)
  obtain ⟨st, rfl, hst, ed⟩ : ∃ st : Nat, xv = .int (st : Int) ∧ st ≤ (ratL t (un : Int)).length ∧ (ratL t (un : Int)).drop st = fig t.natAbs ++ unL un := by
    rw [er]
    rcases hxv with ⟨c, rfl⟩ | ⟨c, rfl⟩
    · rw [if_pos (show t < 0 by simpa using c)]
      exact ⟨1, rfl, by rw [List.length_append]; show 1 ≤ 1 + _; lia, rfl⟩
    · rw [if_neg (show ¬ t < 0 by simpa using c)]
      exact ⟨0, rfl, Nat.zero_le _, rfl⟩
  clear hxv
  generalize hL : ratL t (un : Int) = L at asc hst ed lr ⊢
  have ll := congrArg List.length ed
  rw [List.length_drop, List.length_append] at ll
  walk_at "sf"
  refine ⟨L, st, rfl, asc, hst, ?_⟩
  have e0 : tw (unL un) = 0 := by
    unfold unL
    split
    · rfl
    · rfl
  rw [ed, tw_app (fig_isd _), e0, Nat.add_zero]
  walk_at "sf"
  refine ⟨L, st, st + (fig t.natAbs).length, t.natAbs, rfl, asc, by lia, by lia, ?_, ht, ?_⟩
  · rw [ed, Nat.add_sub_cancel_left, List.take_left]
  walk_at "sf"
  refine ⟨_, rfl, ?_⟩
  show (if decide (t < 0) = true then _ else _)
  refine ite_keep (fun c hB => ?_) ?_
  · walk_at "sf"
    have : t < 0 := by simpa using c
    rw [if_neg (by simp; lia)]
    exact hB
  show (if false = true then _ else _)
  rw [if_neg (by decide)]
  walk_at "sf"
  refine ⟨L, st + (fig t.natAbs).length, _, un, rfl, asc, by lia, by rw [← List.drop_drop, ed, List.drop_left], hu1, hu3, ?_, fun g hgn => ?_⟩
  · rw [← hg]
    show Nat.gcd _ _ = Nat.gcd _ _
    simp
  have sg := Same.new hgn (.tup [.int (un : Int), .int ((L.length : Nat) : Int)])
  have hg1 : upd H g (.tup [.int (un : Int), .int ((L.length : Nat) : Int)]) g = some (.tup [.int (un : Int), .int ((L.length : Nat) : Int)]) := upd_same
  generalize upd H g (.tup [.int (un : Int), .int ((L.length : Nat) : Int)]) = H1 at sg hg1 ⊢
  walk_at "sf"
  refine r_ixT (SqT.of hg1) rfl ?_
  walk_at "sf"
  refine ⟨_, rfl, by rw [S_len L]; exact lenOK (by lia), ?_⟩
  rw [S_len L]
  walk_at "sf"
  rw [if_neg (by simp)]
  walk_at "sf"
  refine ⟨_, rfl, ?_⟩
  show (if decide (t < 0) = true then _ else _)
  refine ite2 (fun c => ?_) (fun c => ?_)
  case' refine_1 =>
    have hc : t < 0 := by simpa using c
    have ev : -((t.natAbs : Nat) : Int) = t := by lia
    walk_at "sf"
    rw [ev]
    clear ev
  case' refine_2 =>
    have hc : ¬ t < 0 := by simpa using c
    have ev : ((t.natAbs : Nat) : Int) = t := by lia
    walk_at "sf"
    rw [ev]
    clear ev
  all_goals
    walk_at "sf"
    refine r_ixT (SqT.of hg1) rfl ?_
    walk_at "sf"
    intro p hp
    exact q p _ (sg.trans (Same.new hp _)) upd_same
end
end K23
namespace K23
open PySem PyProof.Rows L2 SF
noncomputable def spText : Sp := fun vs H Q _ => ∃ (a : Addr) (xs : List Int), vs = [.ref a] ∧ IL H a xs ∧ Pol xs ∧ ∀ H', Same H H' → Q (.str (S (writL xs))) H'
theorem flat_snoc (ls : List (List Nat)) (x : List Nat) : (ls ++ [x]).flatten = ls.flatten ++ x := by simp
theorem flat_sum (ls : List (List Nat)) : ((ls.map S).map (fun z : Str => z.length)).sum = ls.flatten.length := by
  induction ls with
  | nil => rfl
  | cons x r ih =>
    rw [List.map_cons, List.map_cons, List.sum_cons, ih, List.flatten_cons, List.length_append, S_len x]
theorem asgC {v v' : V} {g : TG} {D : L2.Ends} {σ : L2.St} {H : Hp} (e : v' = v) (h : tAsg (tC v) g D σ H) : tAsg (tC v') g D σ H := by rw [e]; exact h
theorem lit_b : (Str.ofString " " : Str) = S [32] := PySem.W.Fast.ofString_ofList [' ']
theorem lit_p : (Str.ofString "+" : Str) = S [43] := PySem.W.Fast.ofString_ofList ['+']
theorem strip_mark (c : Int) : Txt.stripChars (Txt.stripChars (S (sgn3 c)) (Str.ofString " ")) (Str.ofString "+") = S (if c < 0 then [45] else []) ∧ (Txt.stripChars (S (sgn3 c)) (Str.ofString " ")).length ≤ 1000 := by
  rw [lit_b, lit_p]
  unfold sgn3
  split
  · rw [strip1, strip2]; exact ⟨rfl, by decide⟩
  · rw [strip4, strip3]; exact ⟨rfl, by decide⟩
theorem pick_pow {k : Nat} {x y : Str} (hx : x = S []) (hy : y = S [120]) : atI [V.str x, V.str y, V.str (S ([120, 94] ++ fig k))] (if (2 : Int) < (k : Int) then 2 else (k : Int)) = some (.str (S (pwL k))) := by
  subst hx; subst hy
  unfold pwL
  by_cases h0 : k = 0
  · subst h0; rfl
  · by_cases h1 : k = 1
    · subst h1; rfl
    · rw [if_neg h0, if_neg h1]
      have e : (if (2 : Int) < (k : Int) then 2 else (k : Int)) = 2 := by split <;> lia
      rw [e]; rfl
theorem smE : ∀ n : Nat, n ≤ 13 → Builtin.Range.small ((n : Int) - 1) (-1) (-1) = true := by decide
theorem rzE : ∀ n : Nat, n ≤ 13 → Builtin.Range.rangeSize ((n : Int) - 1) (-1) (-1) = (n : Int) := by decide
theorem fig_one {n : Nat} (h : n < 10 ^ 12) : (S (fig n) = Str.ofString "1") ↔ n = 1 := by
  have l1 : (Str.ofString "1" : Str) = S (fig 1) := by
    rw [fig_small (by decide)]
    exact PySem.W.Fast.ofString_ofList ['1']
  rw [l1]
  constructor
  · intro e
    have h1 := fig_val (n := n) (by have := fig_le12 h; lia)
    have h2 := fig_val (n := 1) (by rw [fig_small (by decide)]; decide)
    rw [e, h2] at h1
    have := Option.some.inj h1
    lia
  · rintro rfl; rfl
section
variable {P : Program} {w : World} {K : PySem.W.Frag} {mg : Str → Option Value} {base : Heap}
theorem ok_law_text (T : Nm mg) (D : DefB K mg "_law_text" s_law_text ["_law_poly"]) : FnB P w K mg base 1 "_law_text" ["_law_poly"] spText := by
  refine D.ok sc_law_text (fun vs H Q E h => ?_) (fun f cdv A outer s H vs Q E hr h => ?_)
  · obtain ⟨a, xs, rfl, _⟩ := h
    rfl
  obtain ⟨a, xs, rfl, ha, ⟨tx, lx, bx⟩, q⟩ := h
  have ex : (xs.map V.int).length = xs.length := List.length_map _
  have hcb : ∀ k, (co xs k).natAbs < 10 ^ 12 := fun k => by
    by_cases hi : k < xs.length
    · rw [co_lt hi]; exact bx _ (List.getElem_mem hi)
    · rw [co_ge (by lia)]; decide
  refine ⟨_, (pss_cons (ps_set (i := 1) sc_law_text.nd rfl (Or.inl rfl) (pe_lst pa_nil))
    (pss_cons (ps_for PassesOwn.never rfl (pi_range3 rfl T.n_range (pa_cons (pe_op op_sub (pe_callB call_len_seq rfl T.n_len boot_len (pa_cons (pv 0) pa_nil)) pe_int) (pa_cons (pe_un un_neg pe_int) (pa_cons (pe_un un_neg pe_int) pa_nil)))) (pg_name (i := 2) sc_law_text.nd rfl (Or.inl rfl))
    (pss_cons (ps_if (pt_cmpR op_eq (pe_ix ix_list (pv 0) (pv 2) (fun _ _ => rfl)) pe_int (nomark _))
    (pss_one ps_continue)
    pss_nil)
    (pss_cons (ps_set (i := 3) sc_law_text.nd rfl (Or.inl rfl) (pe_callTy call_str_int rfl T.n_str boot_str (pa_cons (pe_callB call_abs rfl T.n_abs boot_abs (pa_cons (pe_ix ix_list (pv 0) (pv 2) (fun _ _ => rfl)) pa_nil)) pa_nil)))
    (pss_cons (ps_if (PW.pt (pw_and (pt_cmpR op_gt (pv 2) pe_int (nomark _)) (pw_and1 (pt_cmpR op_eq (pv 3) pe_str (nomark _)))))
    (pss_one (ps_set (i := 3) sc_law_text.nd rfl (Or.inl rfl) pe_str))
    pss_nil)
    (pss_cons (ps_set (i := 4) sc_law_text.nd rfl (Or.inl rfl) (pe_ix ix_list (pe_lst (pa_cons pe_str (pa_cons pe_str pa_nil))) (pe_callTy call_int1 rfl T.n_int boot_int (pa_cons (pe_cmpR op_lt (pe_ix ix_list (pv 0) (pv 2) (fun _ _ => rfl)) pe_int (nomark _)) pa_nil)) (fun _ _ => rfl)))
    (pss_cons (ps_if (pt_cmpR (op_eqE hr.units0) (pv 1) (pe_lst pa_nil) (nomark _))
    (pss_one (ps_set (i := 4) sc_law_text.nd rfl (Or.inl rfl) (pe_bm PySem.F.plainAttrs_str PySem.F.slot_str_strip PySem.F.type_str_strip mt_strip (pe_bm PySem.F.plainAttrs_str PySem.F.slot_str_strip PySem.F.type_str_strip mt_strip (pv 4) (pa_cons pe_str pa_nil)) (pa_cons pe_str pa_nil))))
    pss_nil)
    (pss_one (ps_expr (pe_bm PySem.F.plainAttrs_list PySem.F.slot_list_append PySem.F.type_list_append mt_append (pv 1) (pa_cons (pe_op op_add_str (pe_op op_add_str (pv 4) (pv 3)) (pe_ix ix_list (pe_lst (pa_cons pe_str (pa_cons pe_str (pa_cons (pe_op op_add_str pe_str (pe_callTy call_str_int rfl T.n_str boot_str (pa_cons (pv 2) pa_nil))) pa_nil)))) (pe_callB (call_min2 rfl) rfl T.n_min boot_min (pa_cons (pv 2) (pa_cons pe_int pa_nil))) (fun _ _ => rfl))) pa_nil))))))))))
    (pss_cons (ps_if (pt_cmpR (op_eqE hr.units0) (pv 1) (pe_lst pa_nil) (nomark _))
    (pss_one (ps_ret pe_str))
    pss_nil)
    (pss_one (ps_ret (pe_bm PySem.F.plainAttrs_str PySem.F.slot_str_join PySem.F.type_str_join mt_join pe_str (pa_cons (pv 1) pa_nil))))))), ?_⟩
  walk_at "sf"
  intro pp hpp
  have s1 := Same.new hpp (.lst [])
  have h1 : upd H pp (.lst []) pp = some (.lst ((([] : List (List Nat)).map S).map V.str)) := upd_same
  generalize upd H pp (.lst []) = H1 at s1 h1 ⊢
  walk_at "sf"
  refine ⟨a, _, rfl, .inl (SqL.of (s1 _ _ ha)), ?_⟩
  walk_at "sf"
  rw [ex]
  refine ⟨_, _, _, xs.length, rfl, by decide, by decide, smE _ lx, rzE _ lx, ?_⟩
  generalize hfull : (if xs = [] then [] else writL xs) = full
  have lfull : full.length ≤ 500 := by
    rw [← hfull]
    by_cases hxn : xs = []
    · rw [if_pos hxn]; exact Nat.zero_le _
    · rw [if_neg hxn, writ_eq hxn, List.length_append, List.length_append]
      have h1 := partL_len (hcb (xs.length - 1)) (show xs.length - 1 ≤ 13 by lia)
      have h2 := tailL_len bx (xs.length - 1) (by lia)
      have h3 : (if co xs (xs.length - 1) < 0 then [45] else []).length ≤ 1 := by split <;> simp
      lia
  refine for_range3 (fun i σ H' => ∃ (ls : List (List Nat)) (r2 r3 r4 : Option V), σ = [some (.ref a), some (.ref pp), r2, r3, r4] ∧ Same H H' ∧ H' pp = some (.lst ((ls.map S).map V.str)) ∧ ls.length ≤ i ∧ (ls = [] ↔ i = 0) ∧ ls.flatten ++ (if i = 0 then full else tailL xs (xs.length - i)) = full)
    ⟨[], _, _, _, rfl, s1, h1, Nat.le_refl _, ⟨fun _ => rfl, fun _ => rfl⟩, by rw [if_pos rfl]; rfl⟩ ?_ ?_
  · rintro i σ H2 hi ⟨ls, r2, r3, r4, rfl, s2, h2, l2, hn2, el⟩
    obtain ⟨k, hk⟩ : ∃ k, xs.length - 1 - i = k := ⟨_, rfl⟩
    have ek : (xs.length : Int) - 1 + (i : Int) * -1 = (k : Int) := by lia
    rw [ek]
    have hkx : k < xs.length := by lia
    have hxn : xs ≠ [] := by rintro rfl; simp at hkx
    have ha2 := s2 _ _ ha
    have lls : ls.flatten.length ≤ 500 := by
      have := congrArg List.length el
      rw [List.length_append] at this
      lia
    have lp := partL_len (hcb k) (show k ≤ 13 by lia)
    rw [partL_eq, List.length_append] at lp
    walk_at "sf"
    refine r_ixL (SqL.of ha2) (il_at hkx) ?_
    walk_at "sf"
    by_cases hz : co xs k = 0
    · rw [if_pos (by rw [hz]; simp)]
      walk_at "sf"
      have hi0 : i ≠ 0 := fun z => tx.last hxn (by rw [← hz]; congr 1; lia)
      refine ⟨ls, _, _, _, rfl, s2, h2, by lia, ⟨fun z => absurd (hn2.mp z) hi0, fun z => by lia⟩, ?_⟩
      rw [if_neg hi0] at el
      rw [if_neg (by lia)]
      have e1 : xs.length - i = k + 1 := by lia
      have e2 : xs.length - (i + 1) = k := by lia
      rw [e1] at el
      rw [e2]
      refine Eq.trans ?_ el
      show ls.flatten ++ tailL xs k = ls.flatten ++ ((if co xs k = 0 then [] else _) ++ tailL xs k)
      rw [if_pos hz]; rfl
    · rw [if_neg (by simpa using hz)]
      have eab : (if co xs k < 0 then -co xs k else co xs k) = (((co xs k).natAbs : Nat) : Int) := by split <;> lia
      walk_at "sf"
      refine r_ixL (SqL.of ha2) (il_at hkx) ?_
      walk_at "sf"
      refine ⟨_, rfl, ?_⟩
      rw [eab]
      walk_at "sf"
      refine ⟨_, rfl, by rw [Int.natAbs_natCast]; exact log_small (Nat.lt_of_lt_of_le (hcb k) (Nat.pow_le_pow_right (by decide) (by decide))), ?_⟩
      rw [fig_str]
      walk_at "sf"
      by_cases hone : k ≠ 0 ∧ (co xs k).natAbs = 1
      case' pos =>
        have eds : dsL (co xs k).natAbs k = [] := if_pos hone
        rw [if_pos (by simp; lia)]
        walk_at "sf"
        refine r_eqS ?_
        walk_at "sf"
        rw [if_pos (by simpa using (fig_one (hcb k)).mpr hone.2)]
        refine asgC (v := V.str (S (dsL (co xs k).natAbs k))) (by rw [eds, lit_e]) ?_
        walk_at "sf"
        clear eds
      case' neg =>
        have eds : dsL (co xs k).natAbs k = fig (co xs k).natAbs := if_neg hone
        refine ite_keep (fun c hB => ?_) ?_
        · have hk0 : k ≠ 0 := by
            have : (0 : Int) < (k : Int) := by simpa using c
            lia
          walk_at "sf"
          refine r_eqS ?_
          walk_at "sf"
          rw [if_neg (by simpa using fun z => hone ⟨hk0, (fig_one (hcb k)).mp z⟩)]
          exact hB
        rw [← eds]
        show (if false = true then _ else _)
        rw [if_neg (by decide)]
        clear eds
      all_goals
        clear hone
        walk_at "sf"
        intro pm hpm
        have sm := Same.new hpm (.lst [.str (Str.ofString " + "), .str (Str.ofString " - ")])
        have hm1 : upd H2 pm (.lst [.str (Str.ofString " + "), .str (Str.ofString " - ")]) pm = some (.lst [.str (Str.ofString " + "), .str (Str.ofString " - ")]) := upd_same
        generalize upd H2 pm (.lst [.str (Str.ofString " + "), .str (Str.ofString " - ")]) = H3 at sm hm1 ⊢
        have ha3 := sm _ _ ha2
        have h3 := sm _ _ h2
        have s3 := s2.trans sm
        walk_at "sf"
        refine r_ixL (SqL.of ha3) (il_at hkx) ?_
        walk_at "sf"
        refine .inr ⟨_, rfl, ?_⟩
        refine r_ixL (SqL.of hm1) pick2 ?_
        have ev : (if decide (co xs k < 0) = true then V.str (Str.ofString " - ") else V.str (Str.ofString " + ")) = V.str (S (sgn3 (co xs k))) := by
          unfold sgn3
          by_cases h : co xs k < 0
          · rw [if_pos (by simpa using h), if_pos h, lit_bm]
          · rw [if_neg (by simpa using h), if_neg h, lit_bp]
        rw [ev]
        clear ev
        walk_at "sf"
        intro pe hpe
        have se := Same.new hpe (.lst [])
        have he1 : upd H3 pe (.lst []) pe = some (.lst []) := upd_same
        generalize upd H3 pe (.lst []) = H4 at se he1 ⊢
        have ha4 := se _ _ ha3
        have h4 := se _ _ h3
        have s4 := s3.trans se
        walk_at "sf"
        refine ⟨pp, pe, _, rfl, rfl, SqL.of h4, SqL.of he1, ?_⟩
        walk_at "sf"
        have l3 : (sgn3 (co xs k)).length = 3 := by unfold sgn3; split <;> rfl
        by_cases hi0 : i = 0
        case' pos =>
          have hls : ls = [] := hn2.mpr hi0
          have el1 : ls.flatten ++ ((if co xs k < 0 then [45] else []) ++ (partL (co xs k).natAbs k ++ tailL xs k)) = full := by
            rw [hls, ← hfull, if_neg hxn, writ_eq hxn]
            have : xs.length - 1 = k := by lia
            rw [this]; rfl
          have lm : (if co xs k < 0 then [45] else []).length ≤ 3 := by split <;> simp
          rw [if_pos (by rw [hls]; rfl)]
          obtain ⟨sm1, sm2⟩ := strip_mark (co xs k)
          walk_at "sf"
          refine ⟨_, rfl, ty_str, ?_⟩
          walk_at "sf"
          refine ⟨_, _, rfl, rfl, by rw [S_len (sgn3 (co xs k))]; exact lenOK (by lia), ?_⟩
          refine ⟨ty_str, ?_⟩
          walk_at "sf"
          refine ⟨_, _, rfl, rfl, lenOK sm2, ?_⟩
          rw [sm1]
          clear sm1 sm2 hls
          generalize (if co xs k < 0 then [45] else []) = mk at el1 lm ⊢
        case' neg =>
          have hls : ls ≠ [] := fun z => hi0 (hn2.mp z)
          have el1 : ls.flatten ++ (sgn3 (co xs k) ++ (partL (co xs k).natAbs k ++ tailL xs k)) = full := by
            rw [if_neg hi0] at el
            have e1 : xs.length - i = k + 1 := by lia
            rw [e1] at el
            refine Eq.trans ?_ el
            show _ = ls.flatten ++ ((if co xs k = 0 then [] else sgn3 (co xs k) ++ partL (co xs k).natAbs k) ++ tailL xs k)
            rw [if_neg hz]
            simp [List.append_assoc]
          have lm : (sgn3 (co xs k)).length ≤ 3 := by lia
          rw [if_neg (by
            cases ls with
            | nil => exact absurd rfl hls
            | cons x r => simp)]
          clear hls
          generalize sgn3 (co xs k) = mk at el1 lm ⊢
        all_goals
          walk_at "sf"
          refine ⟨_, rfl, .inl ⟨rfl, _, SqL.of h4⟩, ?_⟩
          walk_at "sf"
          refine ⟨_, _, rfl, rfl, by rw [S_len mk, S_len (dsL (co xs k).natAbs k)]; exact lenOK (by lia), ?_⟩
          rw [S_app]
          walk_at "sf"
          refine ⟨_, rfl, by rw [Int.natAbs_natCast]; exact log_small (by lia), ?_⟩
          walk_at "sf"
          have lk : (fig k).length ≤ 12 := fig_le12 (by lia)
          refine ⟨_, _, rfl, rfl, by rw [fig_str, lit_xh, S_len [120, 94], S_len (fig k)]; exact lenOK (by show 2 + _ ≤ _; lia), ?_⟩
          rw [fig_str, lit_xh, S_app]
          walk_at "sf"
          intro pl hpl
          have sl := Same.new hpl (.lst [.str (Str.ofString ""), .str (Str.ofString "x"), .str (S ([120, 94] ++ fig k))])
          have hl1 : upd H4 pl (.lst [.str (Str.ofString ""), .str (Str.ofString "x"), .str (S ([120, 94] ++ fig k))]) pl = some (.lst [.str (Str.ofString ""), .str (Str.ofString "x"), .str (S ([120, 94] ++ fig k))]) := upd_same
          generalize upd H4 pl (.lst [.str (Str.ofString ""), .str (Str.ofString "x"), .str (S ([120, 94] ++ fig k))]) = H5 at sl hl1 ⊢
          walk_at "sf"
          refine ⟨_, _, rfl, ?_⟩
          refine r_ixL (SqL.of hl1) (pick_pow lit_e lit_x) ?_
          refine ⟨_, _, rfl, rfl, by rw [S_len (mk ++ dsL (co xs k).natAbs k), S_len (pwL k), List.length_append]; exact lenOK (by lia), ?_⟩
          rw [S_app]
          have h5 := sl _ _ h4
          have s5 := s4.trans sl
          walk_at "sf"
          refine ⟨pp, _, _, rfl, rfl, h5, by rw [List.length_map, List.length_map]; exact Nat.lt_of_le_of_lt (show ls.length ≤ 13 by lia) (by unfold sizeLine; decide), ?_⟩
          have e6 : (ls.map S).map V.str ++ [V.str (S (mk ++ dsL (co xs k).natAbs k ++ pwL k))] = ((ls ++ [mk ++ dsL (co xs k).natAbs k ++ pwL k]).map S).map V.str := by simp
          have n6 : Same H (upd H5 pp (.lst ((ls.map S).map V.str ++ [V.str (S (mk ++ dsL (co xs k).natAbs k ++ pwL k))]))) := fun c o zz => by
            rw [upd_ne (ne_of_none zz hpp)]
            exact s5 _ _ zz
          have h6 : upd H5 pp (.lst ((ls.map S).map V.str ++ [V.str (S (mk ++ dsL (co xs k).natAbs k ++ pwL k))])) pp = some (.lst (((ls ++ [mk ++ dsL (co xs k).natAbs k ++ pwL k]).map S).map V.str)) := by rw [upd_same, e6]
          generalize upd H5 pp (.lst ((ls.map S).map V.str ++ [V.str (S (mk ++ dsL (co xs k).natAbs k ++ pwL k))])) = H6 at n6 h6 ⊢
          walk_at "sf"
          refine ⟨ls ++ [mk ++ dsL (co xs k).natAbs k ++ pwL k], _, _, _, rfl, n6, h6, by rw [List.length_append]; show ls.length + 1 ≤ _; lia, ⟨fun z => by simp at z, fun z => by lia⟩, ?_⟩
          rw [if_neg (by lia), flat_snoc]
          have e2 : xs.length - (i + 1) = k := by lia
          rw [e2]
          refine Eq.trans ?_ el1
          rw [partL_eq]
          simp [List.append_assoc]
  · rintro σ H2 ⟨ls, r2, r3, r4, rfl, s2, h2, l2, hn2, el⟩
    walk_at "sf"
    intro pe hpe
    have se := Same.new hpe (.lst [])
    have he1 : upd H2 pe (.lst []) pe = some (.lst []) := upd_same
    generalize upd H2 pe (.lst []) = H4 at se he1 ⊢
    have h4 := se _ _ h2
    have s4 := s2.trans se
    walk_at "sf"
    refine ⟨pp, pe, _, rfl, rfl, SqL.of h4, SqL.of he1, ?_⟩
    walk_at "sf"
    by_cases hx : xs = []
    · have hls : ls = [] := hn2.mpr (by rw [hx]; rfl)
      rw [if_pos (by rw [hls]; rfl)]
      walk_at "sf"
      have e : writL xs = [48] := by rw [hx]; rfl
      rw [e, ← lit_0] at q
      exact q H4 s4
    · have hpos := List.length_pos_iff.mpr hx
      have hls : ls ≠ [] := fun z => by have := hn2.mp z; lia
      rw [if_neg (by
        cases ls with
        | nil => exact absurd rfl hls
        | cons x r => simp)]
      rw [if_neg (by lia), Nat.sub_self] at el
      have e0 : tailL xs 0 = [] := rfl
      rw [e0, List.append_nil, ← hfull, if_neg hx] at el
      walk_at "sf"
      refine ⟨ty_str, ?_⟩
      walk_at "sf"
      refine ⟨_, pp, ls.map S, rfl, rfl, SqL.of h4, ?_, ?_⟩
      · rw [flat_sum, lit_e, S_len [], el, List.length_nil, Nat.mul_zero, ← el]
        have := congrArg List.length el
        rw [if_neg hx] at hfull
        rw [← hfull] at lfull
        lia
      · rw [lit_e, glue_nil, el]
        walk_at "sf"
        exact q H4 s4
end
end K23
namespace K23
open PySem PyProof.Rows L2 SF
noncomputable def spDP : Sp := fun vs H Q _ => ∃ c k : Int, vs = [.int c, .int k] ∧ ∀ (p : Addr) (xs : List Int) (H' : Hp), Same H H' → IL H' p xs → Pol xs → Q (.ref p) H'
theorem pick4 {a b c d : V} {i : Int} (h0 : 0 ≤ i) (h4 : i < 4) : ∃ x, atI [a, b, c, d] i = some x ∧ (x = a ∨ x = b ∨ x = c ∨ x = d) := by
  have : i = 0 ∨ i = 1 ∨ i = 2 ∨ i = 3 := by lia
  rcases this with rfl | rfl | rfl | rfl
  · exact ⟨a, rfl, .inl rfl⟩
  · exact ⟨b, rfl, .inr (.inl rfl)⟩
  · exact ⟨c, rfl, .inr (.inr (.inl rfl))⟩
  · exact ⟨d, rfl, .inr (.inr (.inr rfl))⟩
theorem il_lastW {xs : List Int} (h : xs ≠ []) : (xs.map V.int)[(xs.map V.int).length - 1]? = some (V.int (co xs (xs.length - 1))) := by
  have hp := List.length_pos_iff.mpr h
  rw [List.length_map, List.getElem?_map, List.getElem?_eq_getElem (by lia), co_lt (by lia)]; rfl
theorem tr_of {xs : List Int} (hx : xs ≠ []) (h : co xs (xs.length - 1) ≠ 0) : Tr xs := fun x e => by
  have hp := List.length_pos_iff.mpr hx
  rw [List.getLast?_eq_getElem?, List.getElem?_eq_getElem (by lia), ← co_lt] at e
  rw [← Option.some.inj e]; exact h
section
variable {P : Program} {w : World} {K : PySem.W.Frag} {mg : Str → Option Value} {base : Heap}
theorem ok_law_drawn_poly (T : Nm mg) (g_law_drawn : FnB P w K mg base 1 "_law_drawn" ["_law_cell_here", "_law_k"] spDrawn) (D : DefB K mg "_law_drawn_poly" s_law_drawn_poly ["_law_cell_here", "_law_k"]) : FnB P w K mg base 2 "_law_drawn_poly" ["_law_cell_here", "_law_k"] spDP := by
  refine D.ok sc_law_drawn_poly (fun vs H Q E h => ?_) (fun f cdv A outer s H vs Q E hr h => ?_)
  · obtain ⟨c, k, rfl, _⟩ := h
    rfl
  obtain ⟨c, k, rfl, q⟩ := h
  refine ⟨_, (pss_cons (ps_set (i := 2) sc_law_drawn_poly.nd rfl (Or.inl rfl) (pe_fn g_law_drawn hr (pa_cons (pv 0) (pa_cons (pv 1) pa_nil))))
    (pss_cons (ps_set (i := 3) sc_law_drawn_poly.nd rfl (Or.inl rfl) (pe_lst pa_nil))
    (pss_cons (ps_for PassesOwn.never rfl (pi_range1 rfl T.n_range (pa_cons (pe_op op_modN (pv 2) pe_int) pa_nil)) (pg_name (i := 4) sc_law_drawn_poly.nd rfl (Or.inl rfl))
    (pss_cons (ps_set (i := 5) sc_law_drawn_poly.nd rfl (Or.inl rfl) (pe_fn g_law_drawn hr (pa_cons (pv 0) (pa_cons (pe_op op_add (pe_op op_add (pv 1) pe_int) (pv 4)) pa_nil))))
    (pss_cons (ps_set (i := 6) sc_law_drawn_poly.nd rfl (Or.inl rfl) (pe_ix ix_list (pe_lst (pa_cons pe_int (pa_cons pe_int (pa_cons (pe_op op_modN (pe_op op_fdivL (pv 5) pe_int) pe_int) (pa_cons (pe_op op_modN (pe_op op_fdivL (pv 5) pe_int) (pe_op op_pow pe_int pe_int)) pa_nil))))) (pe_op op_modN (pv 5) pe_int) (fun _ _ => rfl)))
    (pss_one (ps_expr (pe_bm PySem.F.plainAttrs_list PySem.F.slot_list_append PySem.F.type_list_append mt_append (pv 3) (pa_cons (pe_op op_mulL (pv 6) (pe_op op_sub pe_int (pe_op op_mulL pe_int (pe_op op_modN (pe_op op_fdivL (pv 5) pe_int) pe_int)))) pa_nil)))))))
    (pss_cons (ps_while PassesOwn.never (PW.pt (pw_and (pt_cmpR (op_neI hr.units) (pv 3) (pe_lst pa_nil) (nomark _)) (pw_and1 (pt_cmpR op_eq (pe_ix ix_list (pv 3) (pe_un un_neg pe_int) (fun _ _ => rfl)) pe_int (nomark _)))))
    (pss_one (ps_expr (pe_bm0 PySem.F.plainAttrs_list PySem.F.slot_list_pop PySem.F.type_list_pop mt_pop (pv 3)))))
    (pss_one (ps_ret (pv 3))))))), ?_⟩
  walk_at "sf"
  refine ⟨_, _, rfl, fun m m0 mz => ?_⟩
  walk_at "sf"
  intro pr hpr
  have s1 := Same.new hpr (.lst [])
  have h1 : upd H pr (.lst []) pr = some (.lst (([] : List Int).map V.int)) := upd_same
  generalize upd H pr (.lst []) = H1 at s1 h1 ⊢
  walk_at "sf"
  refine r_i (by decide) ?_
  obtain ⟨a1, a2, a3⟩ := fm (x := m) (m := 14) (by decide)
  rw [a1]
  walk_at "sf"
  refine ⟨_, rfl, by lia, by lia, ?_⟩
  obtain ⟨N, hN⟩ := Int.eq_ofNat_of_zero_le a2
  rw [hN, Int.toNat_natCast]
  refine for_range (fun i σ H' => ∃ (xs : List Int) (r5 r6 r7 : Option V), σ = [some (.int c), some (.int k), some (.int m), some (.ref pr), r5, r6, r7] ∧ Same H H' ∧ IL H' pr xs ∧ xs.length ≤ i ∧ ∀ x ∈ xs, x.natAbs < 10 ^ 12) ⟨[], _, _, _, rfl, s1, h1, Nat.le_refl _, fun x hx => (nomatch hx)⟩ ?_ ?_
  · rintro i σ H2 hi ⟨xs, r5, r6, r7, rfl, s2, h2, l2, b2⟩
    walk_at "sf"
    refine ⟨_, _, rfl, fun o o0 oz => ?_⟩
    walk_at "sf"
    refine r_i (d64 64 (by decide) (by decide)) ?_
    walk_at "sf"
    refine r_i (by decide) ?_
    obtain ⟨c1, c2, c3⟩ := fm (x := o.fdiv 64) (m := 10) (by decide)
    rw [c1]
    walk_at "sf"
    refine r_i (d64 64 (by decide) (by decide)) ?_
    walk_at "sf"
    refine r_i ⟨by decide, by decide, by decide⟩ ?_
    have e12 : ((10 : Int) ^ (12 : Int).toNat) = 1000000000000 := rfl
    rw [e12]
    refine r_i (by decide) ?_
    obtain ⟨d1, d2, d3⟩ := fm (x := o.fdiv 64) (m := 1000000000000) (by decide)
    rw [d1]
    walk_at "sf"
    intro pq hpq
    have sq := Same.new hpq (.lst [V.int 0, V.int 1, V.int (o.fdiv 64 % 10), V.int (o.fdiv 64 % 1000000000000)])
    have hq1 : upd H2 pq (.lst [V.int 0, V.int 1, V.int (o.fdiv 64 % 10), V.int (o.fdiv 64 % 1000000000000)]) pq = some (.lst [V.int 0, V.int 1, V.int (o.fdiv 64 % 10), V.int (o.fdiv 64 % 1000000000000)]) := upd_same
    generalize upd H2 pq (.lst [V.int 0, V.int 1, V.int (o.fdiv 64 % 10), V.int (o.fdiv 64 % 1000000000000)]) = H3 at sq hq1 ⊢
    walk_at "sf"
    refine r_i (by decide) ?_
    obtain ⟨f1, f2, f3⟩ := fm (x := o) (m := 4) (by decide)
    rw [f1]
    obtain ⟨x, hx, hxs⟩ := pick4 (a := V.int 0) (b := V.int 1) (c := V.int (o.fdiv 64 % 10)) (d := V.int (o.fdiv 64 % 1000000000000)) f2 f3
    obtain ⟨v, rfl, v0, v1⟩ : ∃ v : Int, x = .int v ∧ 0 ≤ v ∧ v < 1000000000000 := by
      rcases hxs with rfl | rfl | rfl | rfl
      · exact ⟨0, rfl, by decide, by decide⟩
      · exact ⟨1, rfl, by decide, by decide⟩
      · exact ⟨_, rfl, c2, by lia⟩
      · exact ⟨_, rfl, d2, d3⟩
    refine r_ixL (SqL.of hq1) hx ?_
    have h3 := sq _ _ h2
    walk_at "sf"
    refine ⟨_, rfl, .inl ⟨rfl, _, SqL.of h3⟩, ?_⟩
    walk_at "sf"
    refine r_i (d64 8 (by decide) (by decide)) ?_
    walk_at "sf"
    refine r_i (by decide) ?_
    obtain ⟨g1, g2, g3⟩ := fm (x := o.fdiv 8) (m := 2) (by decide)
    rw [g1]
    generalize o.fdiv 8 % 2 = w2 at g2 g3 ⊢
    refine r_i (mulOk (m := 4) (n := 4) (Bd.of_two (by decide) (by decide)) (Bd.of_two (by lia) (by lia)) (by decide)) ?_
    walk_at "sf"
    refine r_i (mulOk (m := 60) (n := 4) (Bd.of_two (by lia) (by lia)) (Bd.of_two (by lia) (by lia)) (by decide)) ?_
    walk_at "sf"
    refine ⟨pr, _, _, rfl, rfl, h3, by rw [List.length_map]; exact Nat.lt_of_le_of_lt (show xs.length ≤ 14 by lia) (by unfold sizeLine; decide), ?_⟩
    have bv : (v * (1 - 2 * w2)).natAbs < 10 ^ 12 := by
      have : w2 = 0 ∨ w2 = 1 := by lia
      rcases this with rfl | rfl
      · lia
      · have e : v * (1 - 2 * 1) = -v := by lia
        rw [e]; lia
    generalize v * (1 - 2 * w2) = vv at bv ⊢
    refine ⟨xs ++ [vv], _, _, _, rfl, fun c' o' zz => ?_, ?_, by rw [List.length_append]; show xs.length + 1 ≤ _; lia, fun x hx => ?_⟩
    · rw [upd_ne (ne_of_none zz hpr)]
      exact (s2.trans sq) _ _ zz
    · show upd _ pr _ pr = _
      rw [upd_same, List.map_append]; rfl
    · rcases List.mem_append.mp hx with z | z
      · exact b2 x z
      · rw [List.mem_singleton.mp z]; exact bv
  · rintro σ H2 ⟨xs, r5, r6, r7, rfl, s2, h2, l2, b2⟩
    walk_at "sf"
    refine while_go (fun mm σ H' => ∃ xs : List Int, mm = xs.length ∧ σ = [some (.int c), some (.int k), some (.int m), some (.ref pr), r5, r6, r7] ∧ Same H H' ∧ IL H' pr xs ∧ xs.length ≤ N ∧ ∀ x ∈ xs, x.natAbs < 10 ^ 12) ⟨_, xs, rfl, rfl, s2, h2, l2, b2⟩ ?_
    clear s2 h2 l2 b2
    rintro mm σ H3 ⟨xs, rfl, rfl, s3, h3, l3, b3⟩
    walk_at "sf"
    intro pe hpe
    have se := Same.new hpe (.lst [])
    have he1 : upd H3 pe (.lst []) pe = some (.lst (([] : List Int).map V.int)) := upd_same
    generalize upd H3 pe (.lst []) = H4 at se he1 ⊢
    have h4 := se _ _ h3
    have s4 := s3.trans se
    walk_at "sf"
    refine ⟨pr, pe, xs, [], rfl, rfl, SqL.of h4, SqL.of he1, ?_⟩
    walk_at "sf"
    by_cases hx : xs = []
    · subst hx
      rw [if_neg (by decide)]
      walk_at "sf"
      rw [if_neg (by decide)]
      walk_at "sf"
      exact q pr [] H4 s4 h4 ⟨Tr.nil, by decide, fun x hx => (nomatch hx)⟩
    · have hpos := List.length_pos_iff.mpr hx
      rw [if_pos (by simpa using hx)]
      walk_at "sf"
      refine r_ixL (SqL.of h4) (il_last hx) ?_
      walk_at "sf"
      by_cases hz : co xs (xs.length - 1) = 0
      · rw [if_pos (by rw [hz]; simp)]
        refine ⟨_, fun σ' H' h => h, ?_⟩
        walk_at "sf"
        refine ⟨_, rfl, .inl ⟨rfl, _, SqL.of h4⟩, pr, _, _, rfl, rfl, h4, il_lastW hx, ?_⟩
        walk_at "sf"
        refine ⟨_, ?_, xs.dropLast, rfl, rfl, fun c' o' zz => ?_, ?_, by rw [List.length_dropLast]; lia, fun x hx2 => b3 x (List.dropLast_subset _ hx2)⟩
        · rw [List.length_dropLast]; lia
        · rw [upd_ne (ne_of_none zz hpr)]
          exact s4 _ _ zz
        · show upd _ pr _ pr = _
          rw [upd_same, List.map_dropLast]
      · rw [if_neg (by simpa using hz)]
        walk_at "sf"
        exact q pr xs H4 s4 h4 ⟨tr_of hx hz, by lia, b3⟩
end
end K23
namespace K23
open PySem PyProof.Rows L2 SF
noncomputable def spLaw (K : PySem.W.Frag) : Sp := fun vs H Q _ => ∃ (a : Addr) (ns : List Int), vs = [.ref a] ∧ SqL K H a (ns.map V.int) ∧ ns.length ≤ 63 ∧ ∀ H', Q (.bl true) H'
theorem whole_str (t : Int) : (Str.ofString (toString t) : Str) = S (wholeL t) := by
  unfold wholeL
  by_cases h : t < 0
  · rw [if_pos h]
    have e : t = -((t.natAbs : Nat) : Int) := by lia
    have := neg_str t.natAbs (by lia)
    rw [← e] at this
    rw [this]; rfl
  · rw [if_neg h]
    have e : t = ((t.natAbs : Nat) : Int) := by lia
    have := fig_str t.natAbs
    rw [← e] at this
    rw [this]; rfl
theorem ratio_small {a b t u : Int} (hb : 0 < b) (hu : 0 < u) (hg : Int.gcd t u = 1) (e : t * b = a * u) {M : Nat} (ha : a.natAbs < M) (hbM : b.natAbs < M) : t.natAbs < M ∧ u.natAbs < M := by
  have d : u ∣ t * b := ⟨a, by rw [e]; grind⟩
  have d1 : u.natAbs ∣ t.natAbs * b.natAbs := by rw [← Int.natAbs_mul]; exact Int.natAbs_dvd_natAbs.mpr d
  have hc : Nat.Coprime u.natAbs t.natAbs := by
    have : Nat.gcd t.natAbs u.natAbs = 1 := hg
    rw [Nat.Coprime, Nat.gcd_comm]; exact this
  have d2 := hc.dvd_of_dvd_mul_left d1
  have hle := Nat.le_of_dvd (by lia) d2
  refine ⟨?_, by lia⟩
  have e2 : t.natAbs * b.natAbs = a.natAbs * u.natAbs := by rw [← Int.natAbs_mul, ← Int.natAbs_mul, e]
  have h3 : a.natAbs * u.natAbs ≤ a.natAbs * b.natAbs := Nat.mul_le_mul_left _ hle
  rw [← e2] at h3
  have := Nat.le_of_mul_le_mul_right h3 (by lia)
  lia
theorem mul_one_zero (z : Str) (hz : z.length ≤ 1000) (b : Bool) : MulOk z (if b = true then 1 else 0) ∧ Txt.mul z (if b = true then 1 else 0) = if b = true then z else Str.ofString "" := by
  cases b with
  | true =>
    refine ⟨⟨by decide, fun _ h => ?_, fun _ h => ?_⟩, ?_⟩
    · simp at h
    · simp at h
    · unfold Txt.mul; simp
  | false =>
    refine ⟨⟨by decide, fun h => absurd (by decide) h, fun h => absurd (by decide) h⟩, ?_⟩
    unfold Txt.mul
    rw [lit_e]; simp; rfl
section
variable {P : Program} {w : World} {K : PySem.W.Frag} {mg : Str → Option Value} {base : Heap}
theorem ok_law {f : Addr} {fd : FuncData} (T : Nm mg) (F : Fun K "law" "law" s_law f fd)
    (g_law_cell : FnB P w K mg base 37 "_law_cell" ["_law_script", "_law_k"] (spCell K)) (g_law_drawn : FnB P w K mg base 37 "_law_drawn" ["_law_cell_here", "_law_k"] spDrawn) (g_law_drawn_poly : FnB P w K mg base 37 "_law_drawn_poly" ["_law_cell_here", "_law_k"] spDP)
    (g_written : FnB P w K mg base 37 "written" ["poly"] spWrit) (g_law_text : FnB P w K mg base 37 "_law_text" ["_law_poly"] spText) (g_read : FnB P w K mg base 37 "read" ["text"] spRead) (g_law_ratio : FnB P w K mg base 37 "_law_ratio" ["_law_top", "_law_under"] spRatL)
    (g_ratio_text : FnB P w K mg base 37 "ratio_text" ["given"] spRatT) (g_read_ratio : FnB P w K mg base 37 "read_ratio" ["text"] spReadR) :
    FnOk P w K mg base CX0 38 f fd ["_law_script"] (spLaw K) := by
  refine F.ok sc_law (fun vs H Q E h => ?_) (fun cdv A outer s H vs Q E hr h => ?_)
  · obtain ⟨a, ns, rfl, _⟩ := h
    rfl
  obtain ⟨sa, ns, rfl, hS, hl, q⟩ := h
  refine ⟨_, (pss_cons (ps_for PassesOwn.never rfl (pi_range1 rfl T.n_range (pa_cons (pe_callB (call_max2 rfl) rfl T.n_max boot_max (pa_cons pe_int (pa_cons (pe_callB (call_min2 rfl) rfl T.n_min boot_min (pa_cons pe_int (pa_cons (pe_callB call_len_seq rfl T.n_len boot_len (pa_cons (pv 0) pa_nil)) pa_nil))) pa_nil))) pa_nil)) (pg_name (i := 1) sc_law.nd rfl (Or.inl rfl))
    (pss_cons (ps_set (i := 2) sc_law.nd rfl (Or.inl rfl) (pe_fn g_law_cell hr (pa_cons (pv 0) (pa_cons (pv 1) pa_nil))))
    (pss_cons (ps_set (i := 3) sc_law.nd rfl (Or.inl rfl) (pe_fn g_law_drawn_poly hr (pa_cons (pv 2) (pa_cons (pv 1) pa_nil))))
    (pss_cons (ps_set (i := 4) sc_law.nd rfl (Or.inl rfl) (pe_fn g_written hr (pa_cons (pv 3) pa_nil)))
    (pss_cons (ps_if (PW.pt (pw_or (pt_cmpR op_ne (pv 4) (pe_fn g_law_text hr (pa_cons (pv 3) pa_nil)) (nomark _)) (pw_or1 (pt_cmpR (op_neI hr.units) (pe_fn g_read hr (pa_cons (pv 4) pa_nil)) (pv 3) (nomark _)))))
    (pss_one (ps_ret pe_bl))
    pss_nil)
    (pss_cons (ps_set (i := 5) sc_law.nd rfl (Or.inl rfl) (pe_fn g_law_drawn hr (pa_cons (pv 2) (pa_cons (pe_op op_add (pv 1) pe_int) pa_nil))))
    (pss_cons (ps_set (i := 6) sc_law.nd rfl (Or.inl rfl) (pe_fn g_law_ratio hr (pa_cons (pe_op op_sub (pe_op op_modN (pv 5) pe_int) pe_int) (pa_cons (pe_op op_add pe_int (pe_op op_modN (pe_op op_fdivL (pv 5) pe_int) (pe_ix ix_list (pe_lst (pa_cons pe_int (pa_cons pe_int (pa_cons pe_int pa_nil)))) (pe_op op_modN (pv 5) pe_int) (fun _ _ => rfl)))) pa_nil))))
    (pss_cons (ps_if (pt_cmpR op_eq (pe_op op_modN (pv 5) pe_int) pe_int (nomark _))
    (pss_one (ps_set (i := 6) sc_law.nd rfl (Or.inl rfl) (pe_fn g_law_ratio hr (pa_cons (pe_op op_modN (pv 2) (pe_op op_pow pe_int pe_int)) (pa_cons (pe_op op_add pe_int (pe_op op_modN (pe_op op_fdivL (pv 5) pe_int) (pe_op op_sub (pe_op op_pow pe_int pe_int) pe_int))) pa_nil)))))
    pss_nil)
    (pss_cons (ps_set (i := 7) sc_law.nd rfl (Or.inl rfl) (pe_op op_add_str (pe_callTy call_str_int rfl T.n_str boot_str (pa_cons (pe_ix ix_tup (pv 6) pe_int (fun _ _ => rfl)) pa_nil)) (pe_op op_mulS (pe_op op_add_str pe_str (pe_callTy call_str_int rfl T.n_str boot_str (pa_cons (pe_ix ix_tup (pv 6) pe_int (fun _ _ => rfl)) pa_nil))) (pe_callTy call_int1 rfl T.n_int boot_int (pa_cons (pe_cmpR op_ne (pe_ix ix_tup (pv 6) pe_int (fun _ _ => rfl)) pe_int (nomark _)) pa_nil)))))
    (pss_one (ps_if (PW.pt (pw_or (pt_cmpR op_ne (pe_fn g_ratio_text hr (pa_cons (pv 6) pa_nil)) (pv 7) (nomark _)) (pw_or1 (pt_cmpR (op_ne2 hr.units0) (pe_fn g_read_ratio hr (pa_cons (pv 7) pa_nil)) (pv 6) (nomark _)))))
    (pss_one (ps_ret pe_bl))
    pss_nil)))))))))))
    (pss_one (ps_ret (pe_and (pe_cmpR (op_eqI hr.units0) (pe_fn g_read hr (pa_cons pe_str pa_nil)) (pe_lst pa_nil) (nomark _)) (pe_one (pe_cmpR op_eq (pe_fn g_written hr (pa_cons (pe_lst pa_nil) pa_nil)) pe_str (nomark _))))))), ?_⟩
  walk_at "sf"
  refine ⟨sa, _, rfl, .inl hS, ?_⟩
  walk_at "sf"
  refine ⟨_, _, rfl, ?_⟩
  walk_at "sf"
  refine ⟨_, _, rfl, ?_⟩
  walk_at "sf"
  generalize hln : (((ns.map V.int).length : Nat) : Int) = ln
  have ln0 : 0 ≤ ln := by lia
  generalize hm : (if (if ln < 8 then ln else 8) > 1 then (if ln < 8 then ln else 8) else 1) = mm
  have m2 : 0 ≤ mm := by rw [← hm]; split <;> lia
  have m64 : mm ≤ 64 := by rw [← hm]; split <;> (try split) <;> lia
  refine ⟨mm, rfl, by lia, by lia, ?_⟩
  refine for_range (fun k σ H' => ∃ (r1 r2 r3 r4 r5 r6 r7 : Option V), σ = [some (.ref sa), r1, r2, r3, r4, r5, r6, r7] ∧ Same H H') ⟨_, _, _, _, _, _, _, rfl, Same.refl _⟩ ?_ ?_
  · rintro k σ H1 hk ⟨r1, r2, r3, r4, r5, r6, r7, rfl, s1⟩
    have e0 : (0 : Int) + (k : Int) = (k : Int) := by lia
    rw [e0]
    walk_at "sf"
    refine ⟨sa, ns, _, rfl, s1.seq hS, hl, by lia, fun c H2 s2 => ?_⟩
    walk_at "sf"
    refine ⟨_, _, rfl, fun p xs H3 s3 h3 pol => ?_⟩
    walk_at "sf"
    refine ⟨p, xs, rfl, h3, pol, ?_⟩
    walk_at "sf"
    refine ⟨p, xs, rfl, h3, pol, fun H4 s4 => ?_⟩
    have h4 := s4 _ _ h3
    walk_at "sf"
    refine r_neS ?_
    walk_at "sf"
    rw [if_neg (by simp)]
    walk_at "sf"
    refine ⟨xs, rfl, pol, fun p' H5 s5 h5 => ?_⟩
    have h5' := s5 _ _ h4
    walk_at "sf"
    refine ⟨p', p, xs, xs, rfl, rfl, SqL.of h5, SqL.of h5', ?_⟩
    refine ⟨_, rfl, ?_⟩
    rw [if_neg (by simp)]
    have s6 := s1.trans (s2.trans (s3.trans (s4.trans s5)))
    clear s1 s2 s3 s4 s5 h3 h4 h5 h5' pol
    walk_at "sf"
    refine ⟨_, _, rfl, fun m m0 mz => ?_⟩
    walk_at "sf"
    refine r_i (by decide) ?_
    obtain ⟨a1, a2, a3⟩ := fm (x := m) (m := 2001) (by decide)
    rw [a1]
    walk_at "sf"
    refine r_i (d64 4096 (by decide) (by decide)) ?_
    walk_at "sf"
    intro pq hpq
    have sq := Same.new hpq (.lst [V.int 1, V.int 9, V.int 1000])
    have hq1 : upd H5 pq (.lst [V.int 1, V.int 9, V.int 1000]) pq = some (.lst [V.int 1, V.int 9, V.int 1000]) := upd_same
    generalize upd H5 pq (.lst [V.int 1, V.int 9, V.int 1000]) = H6 at sq hq1 ⊢
    have s7 := s6.trans sq
    clear s6 sq
    walk_at "sf"
    refine r_i (by decide) ?_
    obtain ⟨b1, b2, b3⟩ := fm (x := m) (m := 3) (by decide)
    rw [b1]
    obtain ⟨v, hv, v0, v1⟩ : ∃ v : Int, atI [V.int 1, V.int 9, V.int 1000] (m % 3) = some (.int v) ∧ 0 < v ∧ v ≤ 1000 := by
      have : m % 3 = 0 ∨ m % 3 = 1 ∨ m % 3 = 2 := by lia
      rcases this with h | h | h <;> rw [h]
      · exact ⟨1, rfl, by decide, by decide⟩
      · exact ⟨9, rfl, by decide, by decide⟩
      · exact ⟨1000, rfl, by decide, by decide⟩
    refine r_ixL (SqL.of hq1) hv ?_
    clear hv hq1
    walk_at "sf"
    refine r_i (by lia) ?_
    obtain ⟨c1, c2, c3⟩ := fm (x := m.fdiv 4096) (m := v) v0
    rw [c1]
    walk_at "sf"
    refine ⟨_, _, 12, rfl, Bd.of_two (by lia) (by lia), Bd.of_two (by lia) (by lia), by decide, by lia, fun g t u hg bt bu hu g1 et => ?_⟩
    obtain ⟨tM, uM⟩ := ratio_small (M := 10 ^ 12) (by lia) hu g1 et (by lia) (by lia)
    clear et bt bu
    have sg := s7.trans (Same.new hg (.tup [.int t, .int u]))
    have hg2 : upd H6 g (.tup [.int t, .int u]) g = some (.tup [.int t, .int u]) := upd_same
    generalize upd H6 g (.tup [.int t, .int u]) = H7 at sg hg2 ⊢
    clear hg s7
    walk_at "sf"
    refine r_i (by decide) ?_
    walk_at "sf"
    refine ite2 (fun cc => ?_) (fun cc => ?_)
    case' refine_1 =>
      clear cc
      walk_at "sf"
      refine r_i ⟨by decide, by decide, by decide⟩ ?_
      have e12 : ((10 : Int) ^ (12 : Int).toNat) = 1000000000000 := rfl
      rw [e12]
      refine r_i (by decide) ?_
      obtain ⟨d1, d2, d3⟩ := fm (x := c) (m := 1000000000000) (by decide)
      rw [d1]
      walk_at "sf"
      refine r_i (d64 64 (by decide) (by decide)) ?_
      walk_at "sf"
      refine r_i ⟨by decide, by decide, by decide⟩ ?_
      rw [e12]
      walk_at "sf"
      refine r_i (by decide) ?_
      obtain ⟨f1, f2, f3⟩ := fm (x := m.fdiv 64) (m := 1000000000000 - 1) (by decide)
      rw [f1]
      walk_at "sf"
      clear hu g1 tM uM hg2
      refine ⟨_, _, 64, rfl, Bd.of_two (by lia) (by lia), Bd.of_two (by lia) (by lia), by decide, by lia, fun g t u hg bt bu hu g1 et => ?_⟩
      obtain ⟨tM, uM⟩ := ratio_small (M := 10 ^ 12) (by lia) hu g1 et (by lia) (by lia)
      clear et bt bu
      have sg2 := sg.trans (Same.new hg (.tup [.int t, .int u]))
      have hg2 : upd H7 g (.tup [.int t, .int u]) g = some (.tup [.int t, .int u]) := upd_same
      generalize upd H7 g (.tup [.int t, .int u]) = H8 at sg2 hg2 ⊢
      clear hg sg
    case' refine_2 =>
      clear cc
      have sg2 := sg
      clear sg
      generalize H7 = H8 at sg2 hg2 ⊢
    all_goals
      have eu : u = ((u.natAbs : Nat) : Int) := by lia
      have h64 : ∀ {n : Nat}, n < 10 ^ 12 → n < 10 ^ 64 := fun h => Nat.lt_of_lt_of_le h (Nat.pow_le_pow_right (by decide) (by decide))
      have lw : (wholeL t).length ≤ 13 := by
        have := fig_le12 tM
        unfold wholeL
        rw [List.length_append]
        have : (if t < 0 then [45] else []).length ≤ 1 := by split <;> simp
        lia
      have lu := fig_le12 uM
      have su : (Str.ofString (toString u) : Str) = S (fig u.natAbs) := by
        have := fig_str u.natAbs
        rw [← eu] at this
        exact this
      walk_at "sf"
      refine r_ixT (SqT.of hg2) rfl ?_
      walk_at "sf"
      refine ⟨_, rfl, log_small (h64 tM), ?_⟩
      rw [whole_str]
      walk_at "sf"
      refine r_ixT (SqT.of hg2) rfl ?_
      walk_at "sf"
      refine ⟨_, rfl, log_small (h64 uM), ?_⟩
      rw [su]
      walk_at "sf"
      refine ⟨_, _, rfl, rfl, by rw [lit_s, S_len [47], S_len (fig u.natAbs)]; exact lenOK (by show 1 + _ ≤ _; lia), ?_⟩
      rw [lit_s, S_app]
      walk_at "sf"
      refine r_ixT (SqT.of hg2) rfl ?_
      walk_at "sf"
      refine .inr ⟨_, rfl, ?_⟩
      obtain ⟨mo1, mo2⟩ := mul_one_zero (S ([47] ++ fig u.natAbs)) (by rw [S_len ([47] ++ fig u.natAbs), List.length_append]; show 1 + _ ≤ _; lia) (!decide (u = 1))
      refine ⟨_, _, rfl, rfl, mo1, ?_⟩
      rw [mo2]
      clear mo1 mo2
      have edue : S (wholeL t) ++ (if (!decide (u = 1)) = true then S ([47] ++ fig u.natAbs) else Str.ofString "") = S (ratL t u) := by
        unfold ratL
        by_cases h1 : u = 1
        · rw [if_neg (by simpa using h1), if_pos h1, lit_e, S_app, List.append_nil]
        · rw [if_pos (by simpa using h1), if_neg h1, S_app, List.append_assoc]
      refine ⟨_, _, rfl, rfl, ?_, ?_⟩
      · rw [S_len (wholeL t)]
        split
        · rw [S_len ([47] ++ fig u.natAbs), List.length_append]; exact lenOK (by show _ + (1 + _) ≤ _; lia)
        · rw [lit_e, S_len []]; exact lenOK (by show _ + 0 ≤ _; lia)
      rw [edue]
      clear edue
      walk_at "sf"
      refine ⟨g, t, u, rfl, hg2, tM, hu, uM, ?_⟩
      walk_at "sf"
      refine r_neS ?_
      walk_at "sf"
      rw [if_neg (by simp)]
      walk_at "sf"
      refine ⟨t, u, rfl, tM, hu, uM, g1, fun p2 H9 s9 h9 => ?_⟩
      walk_at "sf"
      refine ⟨p2, g, t, u, t, u, rfl, rfl, SqT.of h9, SqT.of (s9 _ _ hg2), ?_⟩
      refine ⟨_, rfl, ?_⟩
      rw [if_neg (by simp)]
      walk_at "sf"
      exact ⟨_, _, _, _, _, _, _, rfl, sg2.trans s9⟩
  · rintro σ H1 ⟨r1, r2, r3, r4, r5, r6, r7, rfl, s1⟩
    have hw : (Str.ofString "0" : Str) = S (writL []) := lit_0
    have pol : Pol [] := ⟨Tr.nil, by decide, fun x hx => (nomatch hx)⟩
    rw [hw]
    walk_at "sf"
    refine ⟨[], rfl, pol, fun p2 H2 s2 h2 => ?_⟩
    walk_at "sf"
    intro pe hpe
    have se := Same.new hpe (.lst [])
    have he1 : upd H2 pe (.lst []) pe = some (.lst (([] : List Int).map V.int)) := upd_same
    generalize upd H2 pe (.lst []) = H3 at se he1 ⊢
    walk_at "sf"
    refine ⟨p2, pe, [], [], rfl, rfl, SqL.of (se _ _ h2), SqL.of he1, ?_⟩
    walk_at "sf"
    rw [if_pos (by decide)]
    walk_at "sf"
    intro pf hpf
    have hf1 : upd H3 pf (.lst []) pf = some (.lst (([] : List Int).map V.int)) := upd_same
    generalize upd H3 pf (.lst []) = H4 at hf1 ⊢
    walk_at "sf"
    refine ⟨pf, [], rfl, hf1, pol, ?_⟩
    walk_at "sf"
    refine r_eqS ?_
    have e : decide ((S (writL []) : Str) = S (writL [])) = true := decide_eq_true rfl
    rw [e]
    exact q H4
end
end K23
namespace K23
open PySem PyProof.Rows L2 SF
theorem all_law {P : Program} {w : World} {K : PySem.W.Frag} {mg : Str → Option Value} {base : Heap} {f : Addr} {fd : FuncData} {uM uP : Value} (T : Nm mg) (hM : mg "MOST_FIGURES" = some uM ∧ RelV (.int 12) uM) (hP : mg "GREATEST_POWER" = some uP ∧ RelV (.int 12) uP) (F : Fun K "law" "law" s_law f fd)
    (d_common_divisor : DefB K mg "common_divisor" s_common_divisor ["one", "other"])
    (d_trimmed : DefB K mg "trimmed" s_trimmed ["row"])
    (d_figures_of : DefB K mg "figures_of" s_figures_of ["number"])
    (d_whole_text : DefB K mg "whole_text" s_whole_text ["number"])
    (d_part_text : DefB K mg "part_text" s_part_text ["size", "place"])
    (d_written : DefB K mg "written" s_written ["poly"])
    (d_ratio_text : DefB K mg "ratio_text" s_ratio_text ["given"])
    (d_end_of_figures : DefB K mg "end_of_figures" s_end_of_figures ["text", "start"])
    (d_number_between : DefB K mg "number_between" s_number_between ["text", "start", "end"])
    (d_size_between : DefB K mg "size_between" s_size_between ["text", "start", "end"])
    (d_power_at : DefB K mg "power_at" s_power_at ["text", "start"])
    (d_part_at : DefB K mg "part_at" s_part_at ["text", "start", "above"])
    (d_turn_at : DefB K mg "turn_at" s_turn_at ["text", "start"])
    (d_read : DefB K mg "read" s_read ["text"])
    (d_under_at : DefB K mg "under_at" s_under_at ["text", "start", "top"])
    (d_read_ratio : DefB K mg "read_ratio" s_read_ratio ["text"])
    (d_law_cell : DefB K mg "_law_cell" s_law_cell ["_law_script", "_law_k"])
    (d_law_drawn : DefB K mg "_law_drawn" s_law_drawn ["_law_cell_here", "_law_k"])
    (d_law_common : DefB K mg "_law_common" s_law_common ["_law_one", "_law_other"])
    (d_law_ratio : DefB K mg "_law_ratio" s_law_ratio ["_law_top", "_law_under"])
    (d_law_text : DefB K mg "_law_text" s_law_text ["_law_poly"])
    (d_law_drawn_poly : DefB K mg "_law_drawn_poly" s_law_drawn_poly ["_law_cell_here", "_law_k"]) : FnOk P w K mg base CX0 38 f fd ["_law_script"] (spLaw K) := by
  have c_gcd := ok_common_divisor (P := P) (w := w) (base := base) T d_common_divisor
  have c_trimmed := ok_trimmed (P := P) (w := w) (base := base) T d_trimmed
  have c_fig := ok_figures_of (P := P) (w := w) (base := base) T d_figures_of
  have c_whole := ok_whole_text T c_fig d_whole_text
  have c_partT := ok_part_text T c_fig d_part_text
  have c_written := ok_written T c_partT d_written
  have c_ratT := ok_ratio_text T (c_fig.mono (by decide)) c_whole d_ratio_text
  have c_end := ok_end_of_figures (P := P) (w := w) (base := base) T d_end_of_figures
  have c_num := ok_number_between (P := P) (w := w) (base := base) T hM d_number_between
  have c_size := ok_size_between c_num d_size_between
  have c_pow := ok_power_at T hP (c_end.mono (by decide)) (c_num.mono (by decide)) d_power_at
  have c_part := ok_part_at T (c_end.mono (by decide)) (c_size.mono (by decide)) c_pow d_part_at
  have c_turn := ok_turn_at (P := P) (w := w) (base := base) d_turn_at
  have c_read := ok_read T hP c_part (c_turn.mono (by decide)) (c_trimmed.mono (by decide)) d_read
  have c_under := ok_under_at T (c_end.mono (by decide)) (c_num.mono (by decide)) (c_gcd.mono (by decide)) d_under_at
  have c_readR := ok_read_ratio T (c_end.mono (by decide)) (c_num.mono (by decide)) c_under d_read_ratio
  have c_cell := ok_law_cell (P := P) (w := w) (base := base) T d_law_cell
  have c_drawn := ok_law_drawn (P := P) (w := w) (base := base) d_law_drawn
  have c_common := ok_law_common (P := P) (w := w) (base := base) T d_law_common
  have c_ratio := ok_law_ratio c_common d_law_ratio
  have c_text := ok_law_text (P := P) (w := w) (base := base) T d_law_text
  have c_dp := ok_law_drawn_poly T c_drawn d_law_drawn_poly
  exact ok_law T F (c_cell.mono (by decide)) (c_drawn.mono (by decide)) (c_dp.mono (by decide)) (c_written.mono (by decide)) (c_text.mono (by decide)) (c_read.mono (by decide)) (c_ratio.mono (by decide)) (c_ratT.mono (by decide)) (c_readR.mono (by decide))
end K23
namespace K23
open PySem PyProof.Rows L2 SF
theorem walk {l : PySem.W.OpenLaw} {q : Program} {loose : List Str} {XP : (Str → Option Value) → Heap → Prop} {YP : World → Heap → Prop} {d : DefRec} {K : Params → PySem.W.Frag} (hn : l.most = some 63) (hdf : d.params.defaults = [])
    (hY : ∀ (w : World) (h : Heap), YP w h → (K w.params).In h)
    (F : ∀ (w : World) (mg : Str → Option Value) (fa : Addr) (h : Heap), (K w.params).In h → h.Ns mainGlobals mg → mg d.name = some (.ref fa) →
      ∃ fd : FuncData, (∀ (s : Shared) (u : Value), BindsTo s fd ⟨[u], []⟩ [("_law_script", u)]) ∧ ∀ base : Heap, (K w.params).In base → base.Ns mainGlobals mg → FnOk l.prog w (K w.params) mg base CX0 38 fa fd ["_law_script"] (spLaw (K w.params))) (hi : importsNone q = true) :
    PySem.W.WalkO q loose XP YP l.row.toRowW d [] (fun f vs => PySem.call f vs) :=
  L2.walk_of (n := 63) (k := 38) (x := "_law_script") (CX := fun _ => CX0) (sp := fun w => spLaw (K w.params)) hn (by decide) hdf ⟨rfl, by decide, by decide⟩ hY F (fun _ _ a ns hl _ hS => ⟨a, ns, rfl, hS, hl, fun _ => rfl⟩) (fun _ _ _ _ _ z => z) hi
theorem law_mk {K : PySem.W.Frag} {h : Heap} {mg : Str → Option Value} {fa f : Addr} {od an : Option Addr} {sl : Array (Option Value)} {oc kV doc pm cd ct : Value} (X : K.In h) (G : h.Ns mainGlobals mg) (hfa : mg "law" = some (.ref fa))
    (a : PySem.W.nsIn K mainGlobals "law" = some (some (.ref f))) (l : K.lookup f = some ⟨oc, od, .func (PySem.W.fnOf "law" "law" (defArgs s_law) (defBody s_law) (defScope s_law) .none kV doc pm an cd ct), sl⟩)
    (c : PySem.W.codeIn K cd "law" = true) (k : PySem.W.keepIn K (.ref f) = true) : ∃ fd : FuncData, (∀ (s : Shared) (v : Value), BindsTo s fd ⟨[v], []⟩ [("_law_script", v)]) ∧ Fun K "law" "law" s_law fa fd := by
  have e := hfa.symm.trans (PySem.W.mg_of X G a)
  cases e
  exact ⟨_, fun s v => .of_eq rfl, fun_mk (st := s_law) l c k⟩
end K23
open PySem PySem.W PyProof.Rows
set_option maxRecDepth 100000 in
set_option maxHeartbeats 0 in
theorem PySem.Challenge.cw_surefoot_k23_whole_texts_there_and_back_holds : PySem.Challenge.rw_surefoot_k23_whole_texts_there_and_back.Holds := by
  w_on; o_law; k_head; (case hw => w_witness2)
  k_fill
  refine K23.walk (l := PySem.Challenge.rw_surefoot_k23_whole_texts_there_and_back) rfl rfl (fun w h Y => PySem.W.kIn_of Y) ?F ?I
  case I => decide +kernel
  case F =>
    intro w mg fa h KX G hmg
    have T : K23.Nm mg := by
      refine' ⟨PySem.W.mg_none_of KX G ?t1, PySem.W.mg_none_of KX G ?t2, PySem.W.mg_none_of KX G ?t3, PySem.W.mg_none_of KX G ?t4, PySem.W.mg_none_of KX G ?t5, PySem.W.mg_none_of KX G ?t6, PySem.W.mg_none_of KX G ?t7, PySem.W.mg_none_of KX G ?t8, PySem.W.mg_none_of KX G ?t9, PySem.W.mg_none_of KX G ?t10, PySem.W.mg_none_of KX G ?t11, PySem.W.mg_none_of KX G ?t12, PySem.W.mg_none_of KX G ?t13⟩
      all_goals k_is
    have L := by
      refine' K23.law_mk KX G hmg ?a ?l ?c ?k
      (case a => k_is); (case l => k_is); (case c => k_is); (case k => k_is)
    obtain ⟨fd, hb, F⟩ := L
    refine ⟨fd, hb, fun base _ _ => ?_⟩
    refine' K23.all_law T ⟨PySem.W.mg_of KX G ?g1, ?h1⟩ ⟨PySem.W.mg_of KX G ?g2, ?h2⟩ F (L2.def_of KX G ?a1 ?l1 ?c1 ?k1 ?b1) (L2.def_of KX G ?a2 ?l2 ?c2 ?k2 ?b2) (L2.def_of KX G ?a3 ?l3 ?c3 ?k3 ?b3) (L2.def_of KX G ?a4 ?l4 ?c4 ?k4 ?b4) (L2.def_of KX G ?a5 ?l5 ?c5 ?k5 ?b5) (L2.def_of KX G ?a6 ?l6 ?c6 ?k6 ?b6) (L2.def_of KX G ?a7 ?l7 ?c7 ?k7 ?b7) (L2.def_of KX G ?a8 ?l8 ?c8 ?k8 ?b8) (L2.def_of KX G ?a9 ?l9 ?c9 ?k9 ?b9) (L2.def_of KX G ?a10 ?l10 ?c10 ?k10 ?b10) (L2.def_of KX G ?a11 ?l11 ?c11 ?k11 ?b11) (L2.def_of KX G ?a12 ?l12 ?c12 ?k12 ?b12) (L2.def_of KX G ?a13 ?l13 ?c13 ?k13 ?b13) (L2.def_of KX G ?a14 ?l14 ?c14 ?k14 ?b14) (L2.def_of KX G ?a15 ?l15 ?c15 ?k15 ?b15) (L2.def_of KX G ?a16 ?l16 ?c16 ?k16 ?b16) (L2.def_of KX G ?a17 ?l17 ?c17 ?k17 ?b17) (L2.def_of KX G ?a18 ?l18 ?c18 ?k18 ?b18) (L2.def_of KX G ?a19 ?l19 ?c19 ?k19 ?b19) (L2.def_of KX G ?a20 ?l20 ?c20 ?k20 ?b20) (L2.def_of KX G ?a21 ?l21 ?c21 ?k21 ?b21) (L2.def_of KX G ?a22 ?l22 ?c22 ?k22 ?b22)
    (case a1 => k_is); (case l1 => k_is); (case c1 => k_is); (case k1 => k_is); (case b1 => exact fun _ _ _ _ _ _ us hl => match us, hl with | [_, _], _ => rfl)
    (case a2 => k_is); (case l2 => k_is); (case c2 => k_is); (case k2 => k_is); (case b2 => exact fun _ _ _ _ _ _ us hl => match us, hl with | [_], _ => rfl)
    (case a3 => k_is); (case l3 => k_is); (case c3 => k_is); (case k3 => k_is); (case b3 => exact fun _ _ _ _ _ _ us hl => match us, hl with | [_], _ => rfl)
    (case a4 => k_is); (case l4 => k_is); (case c4 => k_is); (case k4 => k_is); (case b4 => exact fun _ _ _ _ _ _ us hl => match us, hl with | [_], _ => rfl)
    (case a5 => k_is); (case l5 => k_is); (case c5 => k_is); (case k5 => k_is); (case b5 => exact fun _ _ _ _ _ _ us hl => match us, hl with | [_, _], _ => rfl)
    (case a6 => k_is); (case l6 => k_is); (case c6 => k_is); (case k6 => k_is); (case b6 => exact fun _ _ _ _ _ _ us hl => match us, hl with | [_], _ => rfl)
    (case a7 => k_is); (case l7 => k_is); (case c7 => k_is); (case k7 => k_is); (case b7 => exact fun _ _ _ _ _ _ us hl => match us, hl with | [_], _ => rfl)
    (case a8 => k_is); (case l8 => k_is); (case c8 => k_is); (case k8 => k_is); (case b8 => exact fun _ _ _ _ _ _ us hl => match us, hl with | [_, _], _ => rfl)
    (case a9 => k_is); (case l9 => k_is); (case c9 => k_is); (case k9 => k_is); (case b9 => exact fun _ _ _ _ _ _ us hl => match us, hl with | [_, _, _], _ => rfl)
    (case a10 => k_is); (case l10 => k_is); (case c10 => k_is); (case k10 => k_is); (case b10 => exact fun _ _ _ _ _ _ us hl => match us, hl with | [_, _, _], _ => rfl)
    (case a11 => k_is); (case l11 => k_is); (case c11 => k_is); (case k11 => k_is); (case b11 => exact fun _ _ _ _ _ _ us hl => match us, hl with | [_, _], _ => rfl)
    (case a12 => k_is); (case l12 => k_is); (case c12 => k_is); (case k12 => k_is); (case b12 => exact fun _ _ _ _ _ _ us hl => match us, hl with | [_, _, _], _ => rfl)
    (case a13 => k_is); (case l13 => k_is); (case c13 => k_is); (case k13 => k_is); (case b13 => exact fun _ _ _ _ _ _ us hl => match us, hl with | [_, _], _ => rfl)
    (case a14 => k_is); (case l14 => k_is); (case c14 => k_is); (case k14 => k_is); (case b14 => exact fun _ _ _ _ _ _ us hl => match us, hl with | [_], _ => rfl)
    (case a15 => k_is); (case l15 => k_is); (case c15 => k_is); (case k15 => k_is); (case b15 => exact fun _ _ _ _ _ _ us hl => match us, hl with | [_, _, _], _ => rfl)
    (case a16 => k_is); (case l16 => k_is); (case c16 => k_is); (case k16 => k_is); (case b16 => exact fun _ _ _ _ _ _ us hl => match us, hl with | [_], _ => rfl)
    (case a17 => k_is); (case l17 => k_is); (case c17 => k_is); (case k17 => k_is); (case b17 => exact fun _ _ _ _ _ _ us hl => match us, hl with | [_, _], _ => rfl)
    (case a18 => k_is); (case l18 => k_is); (case c18 => k_is); (case k18 => k_is); (case b18 => exact fun _ _ _ _ _ _ us hl => match us, hl with | [_, _], _ => rfl)
    (case a19 => k_is); (case l19 => k_is); (case c19 => k_is); (case k19 => k_is); (case b19 => exact fun _ _ _ _ _ _ us hl => match us, hl with | [_, _], _ => rfl)
    (case a20 => k_is); (case l20 => k_is); (case c20 => k_is); (case k20 => k_is); (case b20 => exact fun _ _ _ _ _ _ us hl => match us, hl with | [_, _], _ => rfl)
    (case a21 => k_is); (case l21 => k_is); (case c21 => k_is); (case k21 => k_is); (case b21 => exact fun _ _ _ _ _ _ us hl => match us, hl with | [_], _ => rfl)
    (case a22 => k_is); (case l22 => k_is); (case c22 => k_is); (case k22 => k_is); (case b22 => exact fun _ _ _ _ _ _ us hl => match us, hl with | [_, _], _ => rfl)
    (case g1 => k_is)
    (case h1 => exact ⟨_, rfl⟩)
    (case g2 => k_is)
    (case h2 => exact ⟨_, rfl⟩)
#print axioms PySem.Challenge.cw_surefoot_k23_whole_texts_there_and_back_holds
